import PyProof.Rows.All
import Wide.All
import OpenK.AllK
import Wide.FinOn
import Lean
import PyProof.EqAt
import PyProof.EqKinds
import PyProof.TupleCall
import PyProof.FactsAll.NoneType
import PyProof.ZipIter
import PyProof.EnumMake
import KE.KUnpack
import KE.KTryMore
import PyProof.NsDelKeeps
import PyProof.TupleKey
import PyProof.FactsAll.bool_1
import PyProof.DictDisplay
import KE.KLam
import KE.KNestM
import PyProof.NeKinds
import PyProof.ListRange
import PyProof.FactsAll.tuple_0
import PyProof.FactsAll.tuple_2
import KE.RegKIsAll
import KE.RegKTryMore
import PySem.Challenge.RW_tipwell_k18_whole_soonest_by_trying
set_option Elab.async false
set_option linter.all false
set_option maxRecDepth 100000
namespace L2
open PySem PySem.Spec PyProof.Rows
noncomputable abbrev Key:=Sum Int (Option Str)
noncomputable def isNon:Value→Bool
 | .none=>true
 | _=>false
theorem isNon_shape {v:Value} (h:isNon v=true):v=Value.none:=by
 cases v <;> simp_all [isNon]
noncomputable def keyIs:Key→Value→Bool
 | .inl k,v=>Value.isInt k v
 | .inr (some x),v=>Value.isStrOf x v
 | .inr none,v=>isNon v
noncomputable def hashNon:Int:=0xFCA86420
noncomputable def keyH (w:World):Key→Int
 | .inl k=>hashInt k
 | .inr (some x)=>hashStr w x
 | .inr none=>hashNon
theorem cA:∀ {k:Key}{v:Value},keyIs k v=true→(∃ i t,k=Sum.inl i∧v=Value.int i t)∨(∃ x t,k=Sum.inr (some x)∧v=Value.str x t)∨(k=Sum.inr none∧v=Value.none)
 | .inl i,v,h=>by
  obtain⟨t,e⟩:=Value.isInt_shape (k:=i) (v:=v) h
  exact .inl ⟨i,t,rfl,e⟩
 | .inr (some x),v,h=>by
  obtain⟨t,e⟩:=Value.isStrOf_shape (x:=x) (v:=v) h
  exact .inr (.inl ⟨x,t,rfl,e⟩)
 | .inr none,v,h=>.inr (.inr ⟨rfl,isNon_shape h⟩)
theorem keyIs_int (i:Int) (t:Tok):keyIs (.inl i) (.int i t)=true:=by simp [keyIs,Value.isInt]
theorem keyIs_str (x:Str) (t:Tok):keyIs (.inr (some x)) (.str x t)=true:=by simp [keyIs,Value.isStrOf]
theorem key_ll (a b:Int):decide ((Sum.inl a:Key)=Sum.inl b)=(a == b):=by
 by_cases e:a=b
 ·subst e;simp
 ·have h:¬ (Sum.inl a:Key)=Sum.inl b:=fun q=>e (Sum.inl.inj q)
  rw[decide_eq_false h]
  exact (beq_eq_false_iff_ne.mpr e).symm
theorem key_rr (a b:Str):decide ((Sum.inr (some a):Key)=Sum.inr (some b))=decide (a=b):=by
 by_cases e:a=b
 ·subst e;simp
 ·have h:¬ (Sum.inr (some a):Key)=Sum.inr (some b):=fun q=>e (Option.some.inj (Sum.inr.inj q))
  rw[decide_eq_false h,decide_eq_false e]
theorem key_li (i:Int) (o:Option Str):decide ((Sum.inl i:Key)=Sum.inr o)=false:=decide_eq_false (fun q=>nomatch q)
theorem key_il (i:Int) (o:Option Str):decide ((Sum.inr o:Key)=Sum.inl i)=false:=decide_eq_false (fun q=>nomatch q)
theorem key_sn (x:Str):decide ((Sum.inr (some x):Key)=Sum.inr none)=false:=decide_eq_false (fun q=>nomatch (Sum.inr.inj q))
theorem key_ns (x:Str):decide ((Sum.inr none:Key)=Sum.inr (some x))=false:=decide_eq_false (fun q=>nomatch (Sum.inr.inj q))
theorem hash_non {prog:Program}{w:World}{A:Around}{E:Value→Shared→Prop}{s:Shared}{Q:Int→Shared→Prop} (h:Q hashNon { s with toks:=s.toks+1 }) :
  wpAny (model prog w) A (pyHash .none) Q E s:=by
 have hT:s.TypeIs .none "NoneType" := rfl
 unfold pyHash
 have hv:[Value.none].any Value.onHeap=false:=rfl
 refine wpAny_bind ?_
 rw[cRoomFor,if_neg (by rw[hv];exact Bool.false_ne_true)];refine wpAny_pure ?_
 refine wpAny_bind (wpAny_specialOf hT F.slot_NoneType_hash.lookup ?_)
 show wpAny _ _ (if (some (Value.builtin "NoneType.__hash__") == some Value.none)=true then _ else _) Q E s
 rw[if_neg (by rw[beq_builtin_none];exact Bool.false_ne_true)]
 refine wpAny_bind (wpAny_specialOf hT F.slot_NoneType_hash.lookup ?_)
 show wpAny _ _ (callSpecialIfBoundUnlessNone? .none "__hash__" _ >>= _) Q E s
 refine wpAny_bind (wpAny_callSpecialIfBoundUnlessNone?_slot hT F.slot_NoneType_hash
  (wpAny_call_entry F.slot_NoneType_hash hT F.entry_NoneType_hash
   (show wpAny _ _ (do ret (← mkInt hashNon)) _ _ s from wpAny_ret_mkInt ?_) (F.args_NoneType_hash_1 _)))
 show wpAny _ _ (if (decide (-(2:Int) ^ 63≤hashNon) && decide (hashNon < 2 ^ 63))=true then _ else _) Q E _
 rw[if_pos (by decide)]
 exact wpAny_pure h
noncomputable def cZ (prog:Program) (w:World):PySem.KeyKind prog w Key where
 is:=keyIs
 hash:=keyH w
 inj:=fun v a b ha hb=>by
  rcases cA ha with ⟨i,t,rfl,rfl⟩ | ⟨x,t,rfl,rfl⟩ | ⟨rfl,rfl⟩
  ·rcases cA hb with ⟨j,u,rfl,e⟩ | ⟨y,u,rfl,e⟩ | ⟨rfl,e⟩
   ·injection e with e1 _;rw[e1]
   ·exact nomatch e
   ·exact nomatch e
  ·rcases cA hb with ⟨j,u,rfl,e⟩ | ⟨y,u,rfl,e⟩ | ⟨rfl,e⟩
   ·exact nomatch e
   ·injection e with e1 _;rw[e1]
   ·exact nomatch e
  ·rcases cA hb with ⟨j,u,rfl,e⟩ | ⟨y,u,rfl,e⟩ | ⟨rfl,e⟩
   ·exact nomatch e
   ·exact nomatch e
   ·rfl
 byValue:=fun k v h=>by
  rcases cA h with ⟨i,t,rfl,rfl⟩ | ⟨x,t,rfl,rfl⟩ | ⟨rfl,rfl⟩ <;> rfl
 pyHash:=fun hv h=>by
  rcases cA hv with ⟨i,t,rfl,rfl⟩ | ⟨x,t,rfl,rfl⟩ | ⟨rfl,rfl⟩
  ·exact wpAny_pyHash_int h
  ·exact wpAny_pyHash_str h
  ·exact hash_non h
 eqBool:=fun hu hv h=>by
  rcases cA hu with ⟨i,t,rfl,rfl⟩ | ⟨x,t,rfl,rfl⟩ | ⟨rfl,rfl⟩
  ·rcases cA hv with ⟨j,u,rfl,rfl⟩ | ⟨y,u,rfl,rfl⟩ | ⟨rfl,rfl⟩
   ·rw[key_ll] at h;exact wpAny_eqBool_int h
   ·rw[key_li] at h;exact SeqAt.EqAt.int_str i t y u _ _ _ _ h
   ·rw[key_li] at h;exact SeqAt.EqAt.int_none i t _ _ _ _ h
  ·rcases cA hv with ⟨j,u,rfl,rfl⟩ | ⟨y,u,rfl,rfl⟩ | ⟨rfl,rfl⟩
   ·rw[key_il] at h;exact SeqAt.EqAt.str_int x t j u _ _ _ _ h
   ·rw[key_rr] at h;exact wpAny_eqBool_str h
   ·rw[key_sn] at h;exact SeqAt.EqAt.str_none x t _ _ _ _ h
  ·rcases cA hv with ⟨j,u,rfl,rfl⟩ | ⟨y,u,rfl,rfl⟩ | ⟨rfl,rfl⟩
   ·rw[key_il] at h;exact SeqAt.EqAt.none_int j u _ _ _ _ h
   ·rw[key_ns] at h;exact SeqAt.EqAt.none_str y u _ _ _ _ h
   ·rw[decide_eq_true rfl] at h;exact SeqAt.EqAt.same Value.none _ _ _ _ h
 «strs»:=fun k x t v h=>by
  rcases cA h with ⟨i,u,rfl,e⟩ | ⟨y,u,rfl,e⟩ | ⟨rfl,e⟩
  ·exact nomatch e
  ·injection e with e1 _
   subst e1
   cases v <;> rfl
  ·exact nomatch e
theorem mixKind_int (prog:Program) (w:World) (i:Int) (t:Tok):(cZ prog w).is (.inl i) (.int i t)=true:=keyIs_int i t
theorem mixKind_str (prog:Program) (w:World) (x:Str) (t:Tok):(cZ prog w).is (.inr (some x)) (.str x t)=true:=keyIs_str x t
end L2
namespace L2
open PySem PySem.Spec PyProof.Rows
inductive V where
 | non | bl (b:Bool) | int (i:Int) | str (x:Str) | byt (b:Array UInt8) | flt (b:UInt64) | ref (a:Addr) | ty (n:String)
 deriving DecidableEq
noncomputable def aY:V→Value→Prop
 | .non,u=>u=Value.none
 | .bl b,u=>u=Value.bool b
 | .int i,u=>∃ t,u=Value.int i t
 | .str x,u=>∃ t,u=Value.str x t
 | .byt b,u=>∃ t,u=Value.bytes b t
 | .flt b,u=>∃ t,u=Value.float b t
 | .ref a,u=>u=Value.ref a
 | .ty n,u=>u=Value.type n
noncomputable abbrev bK:List V→List Value→Prop:=Paired aY
theorem bK.length {xs:List V}{us:List Value} (r:bK xs us):xs.length=us.length:=Paired.length r
theorem bK.get:∀ {xs:List V}{us:List Value}{i:Nat}{x:V},bK xs us→xs[i]? = some x→∃ u,us[i]? = some u∧aY x u
 | _,_,_,_,.nil,e=>by simp at e
 | _,_,0,_,.cons r _,e=>by simp at e;subst e;exact⟨_,rfl,r⟩
 | _,_,i+1,x,.cons _ t,e=>by
  obtain⟨u,h1,h2⟩:=bK.get (i:=i) (x:=x) t (by simpa using e)
  exact⟨u,by simpa using h1,h2⟩
theorem bK.set {x:V}{u:Value} (r:aY x u):∀ {xs:List V}{us:List Value} (i:Nat),bK xs us→bK (xs.set i x) (us.set i u)
 | _,_,_,.nil=>.nil
 | _,_,0,.cons _ t=>.cons r t
 | _,_,i+1,.cons q t=>.cons q (bK.set r i t)
theorem bK.append:∀ {xs ys:List V}{us ws:List Value},bK xs us→bK ys ws→bK (xs++ys) (us++ws)
 | _,_,_,_,.nil,s=>s
 | _,_,_,_,.cons r t,s=>.cons r (bK.append t s)
noncomputable def RelO:Option V→Option Value→Prop
 | some v,some u=>aY v u
 | none,none=>True
 | _,_=>False
noncomputable def KV {κ:Type}:List (κ×V)→List (κ×Value)→Prop:=Paired fun (p:κ×V) (q:κ×Value)=>p.1=q.1∧aY p.2 q.2
noncomputable def kV:Key→V
 | .inl i=>.int i
 | .inr (some x)=>.str x
 | .inr none=>.non
inductive HO where
 | lst (xs:List V)
 | tup (xs:List V)
 | dK (kvs:List (Key×V)) | dT (kvs:List (List Key×V))
 | set (S:Int→Bool) (n:Nat)
 | ins (C dx:Addr) (fs:List (Str×V))
 | own (x:Addr)
 | xd (fs:List (Str×V))
 | met (f x:Addr)
 | rng (lo hi:Int)
 | frz (o:Obj) (u:HO)
 | tbl (ps:Array Value)
 | ext (φ:Heap→Prop)
noncomputable abbrev Hp:=Addr→Option HO
noncomputable def upd (H:Hp) (a:Addr) (o:HO):Hp:=fun b=>if b=a then some o else H b
theorem aB {H:Hp}{a:Addr}{o:HO}:upd H a o a=some o:=by unfold upd;rw[if_pos rfl]
theorem aI {H:Hp}{a b:Addr}{o:HO} (h:b≠a):upd H a o b=H b:=by unfold upd;rw[if_neg h]
theorem ne_of {H:Hp}{a b:Addr}{o u:HO} (h:H a=some o) (h':H b=some u) (d:o≠u):a≠b:=by
 intro e;subst e;rw[h] at h';exact d (Option.some.inj h')
theorem aJ {H:Hp}{a b:Addr}{o:HO} (h:H a=some o) (h':H b=none):a≠b:=by
 intro e;subst e;rw[h] at h';cases h'
section
variable (P:Program) (w:World)
noncomputable def bU (H:Hp) (h:Heap) (a:Addr):HO→Prop
 | .lst xs=>xs.length≤sizeLine∧∃ (its:List Value) (n:Nat),bK xs its∧h.get? a=some { cls:=.type "list",data:=.seq its.toArray n }
 | .tup xs=>xs.length≤sizeLine∧∃ its:List Value,bK xs its∧IsTup h a its.toArray
 | .dK kvs=>kvs.length≤sizeLine∧(a == sysModules)=false∧∃ vs,KV kvs vs∧h.DictOf (cZ P w) a vs
 | .dT kvs=>kvs.length≤sizeLine∧(a == sysModules)=false∧∃ xs:List (List Key×Addr×Value),
   Paired (fun (p:List Key×V) (q:List Key×Addr×Value)=>p.1=q.1∧H q.2.1=some (.tup (p.1.map kV))∧aY p.2 q.2.2) kvs xs∧
   ∃ o es ep,h.get? a=some o∧o.ExactDict∧o.data=.dict es ep∧es.toList=xs.map (entryOfKey (tupleKind (cZ P w)))∧(xs.map (·.1)).Nodup
 | .set S n=>h.SetOf (intKind P w) a S n
 | .ins C dx fs=>H dx=some (.own a)∧fs.length≤1000∧dx≠a∧h.get? a=some (PySem.W.instObj C dx)∧
   ∃ mA,h.Ns1 dx mA∧(∀ f,RelO (fs.lookup f) (mA f))∧PySem.Within mA (fs.map (·.1))
 | .own _=>∃ o,h.get? a=some o
 | .xd fs=>∃ mA,h.Ns1 a mA∧∀ f,RelO (fs.lookup f) (mA f)
 | .rng lo hi=>∃ t u v,h.get? a=some { cls:=.type "range",data:=.fields #[.int lo t,.int hi u,.int 1 v] }
 | .frz o u=>h.get? a=some o∧bU H h a u
 | .tbl ps=>h.get? a=some { cls:=.none,data:=.fields ps }
 | .met f x=>h.get? a=some (PySem.W.methodObj (.ref f) (.ref x))
 | .ext φ=>φ h∧(∃ o,h.get? a=some o)∧∀ h1 h2:Heap,φ h1→(∀ o,h1.get? a=some o→h2.get? a=some o)→φ h2
noncomputable def HOk (H:Hp) (h:Heap):Prop:=∀ a o,H a=some o→bU P w H h a o
end
section
variable {P:Program}{w:World}{H H':Hp}{h h':Heap}{a:Addr}{o:HO}
theorem bU.lt (x:bU P w H h a o):a < h.objs.size:=by
 cases o with
 | lst xs=>obtain⟨_,_,_,_,e⟩:=x;exact Heap.lt_size e
 | tup xs=>obtain⟨_,_,_,p⟩:=x;exact p.lt
 | dK kvs=>obtain⟨_,_,_,_,o,_,_,e,_⟩:=x;exact Heap.lt_size e
 | dT kvs=>obtain⟨_,_,_,_,o,_,_,e,_⟩:=x;exact Heap.lt_size e
 | set S n=>obtain⟨o,_,_,_,e,_⟩:=x;exact Heap.lt_size e
 | ins C dx fs=>obtain⟨_,_,_,e,_⟩:=x;exact Heap.lt_size e
 | own y=>obtain⟨_,e⟩:=x;exact Heap.lt_size e
 | xd fs=>obtain⟨_,⟨_,_,_,e,_⟩,_⟩:=x;exact Heap.lt_size e
 | rng lo hi=>obtain⟨_,_,_,e⟩:=x;exact Heap.lt_size e
 | frz ob u=>obtain⟨e,_⟩:=x;exact Heap.lt_size e
 | tbl ps=>exact Heap.lt_size (show h.get? a=some _ from x)
 | met f y=>exact Heap.lt_size (show h.get? a=some _ from x)
 | ext φ=>obtain⟨_,⟨_,e⟩,_⟩:=x;exact Heap.lt_size e
theorem Paired.mapP {α β:Type}{F G:α→β→Prop}:∀ {l₁:List α}{l₂:List β},Paired F l₁ l₂→(∀ a b,F a b→G a b)→Paired G l₁ l₂
 | _,_,.nil,_=>.nil
 | _,_,.cons r t,f=>.cons (f _ _ r) (Paired.mapP t f)
theorem bU.stay (x:bU P w H h a o) (k:∀ b u,(b=a∨H b=some (.own a))→h.get? b=some u→h'.get? b=some u)
  (ho:∀ b,H b=some (.own a)→H' b=some (.own a)) (ht:∀ b xs,H b=some (.tup xs)→H' b=some (.tup xs)):bU P w H' h' a o:=by
 induction o with
 | lst xs=>obtain⟨z,its,n,r,e⟩:=x;exact⟨z,its,n,r,k _ _ (.inl rfl) e⟩
 | tup xs=>obtain⟨z,its,r,ob,e,c⟩:=x;exact⟨z,its,r,ob,k _ _ (.inl rfl) e,c⟩
 | dK kvs=>obtain⟨z,y,vs,r,ob,es,ep,e,c⟩:=x;exact⟨z,y,vs,r,ob,es,ep,k _ _ (.inl rfl) e,c⟩
 | dT kvs=>
  obtain⟨z,y,xs,r,ob,es,ep,e,c⟩:=x
  exact⟨z,y,xs,Paired.mapP r fun p q z=>⟨z.1,ht _ _ z.2.1,z.2.2⟩,ob,es,ep,k _ _ (.inl rfl) e,c⟩
 | set S n=>obtain⟨ob,es,ep,t,e,c⟩:=x;exact⟨ob,es,ep,t,k _ _ (.inl rfl) e,c⟩
 | ins C dx fs=>
  obtain⟨d,z,ne,e,mA,⟨od,es,ep,e2,c⟩,r⟩:=x
  exact⟨ho _ d,z,ne,k _ _ (.inl rfl) e,mA,⟨od,es,ep,k _ _ (.inr d) e2,c⟩,r⟩
 | own y=>obtain⟨ob,e⟩:=x;exact⟨ob,k _ _ (.inl rfl) e⟩
 | xd fs=>obtain⟨mA,⟨od,es,ep,e,c⟩,r⟩:=x;exact⟨mA,⟨od,es,ep,k _ _ (.inl rfl) e,c⟩,r⟩
 | rng lo hi=>obtain⟨t,u,v,e⟩:=x;exact⟨t,u,v,k _ _ (.inl rfl) e⟩
 | frz ob u ih=>obtain⟨e,q⟩:=x;exact⟨k _ _ (.inl rfl) e,ih q⟩
 | tbl ps=>
  have e:h.get? a=some { cls:=.none,data:=.fields ps }:=x
  show h'.get? a=some { cls:=.none,data:=.fields ps }
  exact k a _ (.inl rfl) e
 | met f y=>
  have e:h.get? a=some (PySem.W.methodObj (.ref f) (.ref y)):=x
  show h'.get? a=some (PySem.W.methodObj (.ref f) (.ref y))
  exact k a _ (.inl rfl) e
 | ext φ=>obtain⟨p,⟨o,e⟩,st⟩:=x;exact⟨st _ _ p fun o q=>k _ _ (.inl rfl) q,⟨o,k _ _ (.inl rfl) e⟩,st⟩
theorem HOk.lt (x:HOk P w H h) (e:H a=some o):a < h.objs.size:=(x a o e).lt
theorem HOk.fresh (x:HOk P w H h) (e:h.objs.size≤a):H a=none:=by
 cases q:H a with
 | none=>rfl
 | some u=>exact absurd (Nat.lt_of_lt_of_le (x.lt q) e) (Nat.lt_irrefl _)
theorem HOk.kept (x:HOk P w H h) (k:∀ b u,h.get? b=some u→h'.get? b=some u):HOk P w H h':=fun a o e=>
 (x a o e).stay (fun b u _ q=>k b u q) (fun _ q=>q) fun _ _ q=>q
theorem HOk.laid (x:HOk P w H h) (k:∀ b u,h.get? b=some u→h'.get? b=some u) (hp:h.objs.size≤a) (new:bU P w (upd H a o) h' a o):HOk P w (upd H a o) h':=fun b u e=>by
 have hn:=x.fresh hp
 by_cases hb:b=a
 ·subst hb;rw[aB] at e;cases e;exact new
 ·rw[aI hb] at e
  exact (x b u e).stay (fun c v _ q=>k c v q) (fun c q=>by rw[aI (aJ q hn)];exact q) fun c xs q=>by rw[aI (aJ q hn)];exact q
end
noncomputable def Rd (H:Hp) (a:Addr) (u:HO):Prop:=H a=some u∨∃ o,H a=some (.frz o u)
theorem Rd.ok {P:Program}{w:World}{H:Hp}{h:Heap}{a:Addr}{u:HO} (r:Rd H a u) (x:HOk P w H h):bU P w H h a u:=by
 rcases r with r | ⟨o,r⟩
 ·exact x a u r
 ·obtain⟨_,q⟩:=x a _ r
  exact q
noncomputable def Mut:Option HO→Prop
 | some (.lst _)=>True
 | some (.dK _)=>True
 | some (.dT _)=>True
 | some (.set _ _)=>True
 | some (.ins _ _ _)=>True
 | some (.ext _)=>True
 | _=>False
section
variable {P:Program}{w:World}{H:Hp}{h h':Heap}{x e:Addr}{o':HO}
theorem HOk.write (ok:HOk P w H h) (mu:Mut (H x)) (he:e=x∨H e=some (.own x)) (k:∀ b u,b≠e→h.get? b=some u→h'.get? b=some u) (heo:∃ u,h'.get? e=some u)
  (new:bU P w (upd H x o') h' x o'):HOk P w (upd H x o') h':=fun b u q=>by
 have nown:∀ c y,H c=some (.own y)→c≠x:=fun c y r z=>by subst z;rw[r] at mu;exact mu
 have ntup:∀ c xs,H c=some (.tup xs)→c≠x:=fun c xs r z=>by subst z;rw[r] at mu;exact mu
 by_cases hb:b=x
 ·subst hb;rw[aB] at q;cases q;exact new
 ·rw[aI hb] at q
  by_cases hbe:b=e
  ·have q':H b=some (.own x):=by
    rcases he with z | z
    ·exact absurd (hbe.trans z) hb
    ·rw[hbe];exact z
   rw[q] at q';cases q'
   obtain⟨v,hv⟩:=heo
   exact⟨v,by rw[hbe];exact hv⟩
  ·refine (ok b u q).stay (fun c v hc r=>k c v ?_ r) (fun c r=>by rw[aI (nown c b r)];exact r) fun c xs r=>by rw[aI (ntup c xs r)];exact r
   rcases hc with rfl | hc
   ·exact hbe
   ·rintro rfl
    rcases he with z | z
    ·exact nown c b hc z
    ·rw[hc] at z;cases z;exact hb rfl
end
structure Un (fs ex:List Addr) (H H':Hp) (h h':Heap):Prop where
 keep:∀ b o,h.get? b=some o→H b=none→b∉fs→b∉ex→h'.get? b=some o
 slot:∀ b o,h.get? b=some o→H b=none→b∈fs→b∉ex→∃ sl,h'.get? b=some { o with slots:=sl }
 free:∀ b o,h.get? b=some o→H b=none→b∉ex→H' b=none
 there:∀ b o,h.get? b=some o→b∉ex→∃ o',h'.get? b=some o'
 tups:∀ b xs,H b=some (.tup xs)→H' b=some (.tup xs)
 frzs:∀ b o u,H b=some (.frz o u)→H' b=some (.frz o u)
 tbls:∀ b ps,H b=some (.tbl ps)→∃ more,H' b=some (.tbl (ps++more))
section
variable {fs fs' ex ex':List Addr}{H H1 H2:Hp}{h h1 h2 h':Heap}{a x e:Addr}{o:HO}
theorem Un.any (u:Un fs ex H H1 h h1) {b:Addr}{ob:Obj} (q:h.get? b=some ob) (n:H b=none) (hx:b∉ex):∃ sl,h1.get? b=some { ob with slots:=sl }:=by
 by_cases hb:b∈fs
 ·exact u.slot b ob q n hb hx
 ·exact⟨ob.slots,u.keep b ob q n hb hx⟩
theorem Un.kept (k:∀ b u,h.get? b=some u→h'.get? b=some u):Un fs ex H H h h':=
 ⟨fun b ob q _ _ _=>k b ob q,fun b ob q _ _ _=>⟨ob.slots,k b ob q⟩,fun _ _ _ n _=>n,fun b ob q _=>⟨ob,k b ob q⟩,fun _ _ q=>q,fun _ _ _ q=>q,fun _ ps q=>⟨#[],by rw[q];simp⟩⟩
theorem Un.refl:Un fs ex H H h h:=Un.kept fun _ _ q=>q
theorem Un.laid (k:∀ b u,h.get? b=some u→h'.get? b=some u) (hp:h.objs.size≤a) (hn:H a=none):Un fs ex H (upd H a o) h h' where
 keep:=fun b u q _ _ _=>k b u q
 slot:=fun b u q _ _ _=>⟨u.slots,k b u q⟩
 free:=fun b u q n _=>by rw[aI (Nat.ne_of_lt (Nat.lt_of_lt_of_le (Heap.lt_size q) hp))];exact n
 there:=fun b u q _=>⟨u,k b u q⟩
 tups:=fun b xs q=>by rw[aI (aJ q hn)];exact q
 frzs:=fun b u xs q=>by rw[aI (aJ q hn)];exact q
 tbls:=fun b ps q=>⟨#[],by rw[aI (aJ q hn),q];simp⟩
theorem Un.write (mu:Mut (H x)) (he:e=x∨H e=some (.own x)) (k:∀ b u,b≠e→h.get? b=some u→h'.get? b=some u) (heo:∃ u,h'.get? e=some u):Un fs ex H (upd H x o) h h':=by
 have hx:∀ b,H b=none→b≠x:=fun b n z=>by subst z;rw[n] at mu;exact mu
 have hb:∀ b,H b=none→b≠e:=fun b n z=>by
  subst z
  rcases he with r | r
  ·exact hx b n r
  ·rw[n] at r;cases r
 have hm:∀ b u,H b=some u→¬ Mut (some u)→b≠x:=fun b u q nm z=>by subst z;rw[q] at mu;exact nm mu
 refine⟨fun b u q n _ _=>k b u (hb b n) q,fun b u q n _ _=>⟨u.slots,k b u (hb b n) q⟩,fun b u q n _=>by rw[aI (hx b n)];exact n,fun b u q _=>?_,
  fun b xs q=>by rw[aI (hm b _ q fun z=>z)];exact q,fun b u xs q=>by rw[aI (hm b _ q fun z=>z)];exact q,fun b ps q=>⟨#[],by rw[aI (hm b _ q fun z=>z),q];simp⟩⟩
 by_cases hbe:b=e
 ·subst hbe;exact heo
 ·exact⟨u,k b u hbe q⟩
end
noncomputable def trk (h:Heap) (H:Hp):List Addr:=(List.range h.objs.size).filter fun a=>(H a).isSome
noncomputable def hidT (h:Heap) (H:Hp):Heap:=PySem.W.hideAll h (trk h H)
theorem hidT_size (h:Heap) (H:Hp):(hidT h H).objs.size=h.objs.size:=PySem.W.hideAll_size _ _
theorem hidT_get {h:Heap}{H:Hp}{b:Addr}{o:Obj} (e:h.get? b=some o) (n:H b=none):(hidT h H).get? b=some o:=
 PySem.W.hideAll_get _ e fun hm=>by
  have q:(H b).isSome=true:=(List.mem_filter.mp hm).2
  rw[n] at q;simp at q
theorem of_hidT {h:Heap}{H:Hp}{b:Addr}{o:Obj} (e:(hidT h H).get? b=some o):h.get? b=some o∧H b=none:=by
 have e':h.get? b=some o:=PySem.W.of_hideAll (trk h H) e
 refine⟨e',?_⟩
 cases q:H b with
 | none=>rfl
 | some x=>
  have hm:b∈trk h H:=List.mem_filter.mpr ⟨List.mem_range.mpr (Heap.lt_size e'),by simp [q]⟩
  have z:(hidT h H).get? b=none:=PySem.W.hideAll_none (trk h H) hm
  rw[z] at e;cases e
end L2
namespace L2
open PySem PySem.Spec PyProof.Rows
structure Mod (K:PySem.W.Frag) (mg:Str→Option Value) (base:Heap):Prop where
 kin:K.In base
 glob:base.Ns mainGlobals mg
 blt:∃ mb,base.Ns builtinsNs mb∧∀ x:Str,x ≠ "__name__" → mb x=bootBuiltins x
 nolimit:base.NoLimit
structure Cx where
 prog:Program
 w:World
 K:PySem.W.Frag
 mg:Str→Option Value
 base:Heap
 A:Around
 N:List Str
 s₀:Shared
 H₀:Hp
 env:Env
 outer:List Env
 stack:List Env
 ex:List Addr
 fn:Str→Bool
 calm:Bool
 pn:List (Addr×Obj)
 xe:Value→Shared→Prop
noncomputable def frs (l:List Env):List Addr:=l.filterMap (·.frame)
noncomputable abbrev Cx.fs (X:Cx):List Addr:=frs X.outer
noncomputable def Vis (sc:Scope) (x:Str):Prop:=sc.names.lookup x=some .local∨sc.names.lookup x=some .cell∨sc.names.lookup x=some .free
noncomputable def Loc (sc:Scope) (x:Str):Prop:=sc.names.lookup x=some .local∨sc.names.lookup x=some .cell
noncomputable def Look (env:Env) (h:Heap) (m:Str→Option Value) (x:Str) (u:Value):Prop:=
 (env.kindOf x=some .local∧m x=some u)∨((env.kindOf x=some .cell∨env.kindOf x=some .free)∧∃ c,env.cells.lookup x=some c∧h.IsCell c (some u))
structure Cx.Ok (X:Cx):Prop where
 mod:Mod X.K X.mg X.base
 kind:X.env.scope.kind=.function
 glob:X.env.globals=mainGlobals
 blt:X.env.builtins=builtinsNs
 above:X.s₀.heap.objs.size≤X.env.locals
 inj:∀ x y c,X.env.cells.lookup x=some c→X.env.cells.lookup y=some c→x=y
 has:∀ x,(X.env.kindOf x=some .cell∨X.env.kindOf x=some .free)→∃ c,X.env.cells.lookup x=some c
 cab:∀ x c,X.fn x=true→X.env.cells.lookup x=some c→X.s₀.heap.objs.size≤c
 hd:X.calm=true→X.A.handled=none
 frames:X.A.frames=some X.stack
 stk:X.stack=X.outer∨(X.stack=X.env::X.outer∧X.env.frame=some X.env.locals)
 exf:∀ b∈X.ex,b≠X.env.locals∧∀ x c,X.env.cells.lookup x=some c→c≠b
 bs:∀ b o,X.base.get? b=some o→X.s₀.heap.get? b=some o∧X.H₀ b=none
 bsz:X.base.objs.size≤X.s₀.heap.objs.size
 noex:∀ b o,X.base.get? b=some o→b∉X.ex
 exfs:∀ b∈X.ex,b∉X.fs
 funs:X.s₀.heap.FunFrames X.base X.outer
 frf:∀ b∈X.fs,X.H₀ b=none
structure Inv (X:Cx) (pins:List (Addr×Obj)) (σ:List (Option V)) (H:Hp) (s:Shared):Prop where
 ok:X.Ok
 os:s.os=X.s₀.os
 bare:AllBare s.gens
 base:Un X.fs X.ex X.H₀ H X.s₀.heap s.heap
 loc:∃ m,s.heap.Ns X.env.locals m∧∀ (i:Nat) (x:Str) (v:V),X.N[i]? = some x→σ[i]? = some (some v)→Vis X.env.scope x→∃ u,aY v u∧Look X.env s.heap m x u
 cell:∀ x c,X.env.cells.lookup x=some c→∃ v,s.heap.IsCell c v
 free:H X.env.locals=none
 freeC:∀ x c,X.env.cells.lookup x=some c→H c=none
 pin:∀ p∈X.pn++pins,s.heap.get? p.1=some p.2∧H p.1=none∧p.1≠X.env.locals∧p.1∉X.fs∧∀ v,p.2.data≠.cell v
 hok:HOk X.prog X.w H s.heap
 len:σ.length=X.N.length
section
variable {X:Cx}{pins:List (Addr×Obj)}{σ:List (Option V)}{H H':Hp}{s:Shared}{h':Heap}
theorem Cx.Ok.nofr (ok:X.Ok) {b:Addr}{o:Obj} (e:X.base.get? b=some o):b∉X.fs:=fun hb=>by
 have:=(ok.funs.mem hb).1
 rw[e] at this;cases this
theorem Inv.bs (I:Inv X pins σ H s):∀ b o,X.base.get? b=some o→s.heap.get? b=some o∧H b=none:=fun b o e=>
 ⟨I.base.keep b o (I.ok.bs b o e).1 (I.ok.bs b o e).2 (I.ok.nofr e) (I.ok.noex b o e),I.base.free b o (I.ok.bs b o e).1 (I.ok.bs b o e).2 (I.ok.noex b o e)⟩
theorem Inv.bk (I:Inv X pins σ H s):∀ b o,X.base.get? b=some o→s.heap.get? b=some o:=fun b o e=>(I.bs b o e).1
theorem Inv.mod (I:Inv X pins σ H s):Mod X.K X.mg X.base:=I.ok.mod
theorem Inv.kIn (I:Inv X pins σ H s):X.K.In s.heap:=I.ok.mod.kin.keeps I.bk
theorem Inv.lt (I:Inv X pins σ H s):X.env.locals < s.heap.objs.size:=let ⟨_,hn,_⟩:=I.loc;hn.lt
theorem Inv.sz (I:Inv X pins σ H s):X.s₀.heap.objs.size≤s.heap.objs.size:=Nat.le_trans I.ok.above (Nat.le_of_lt I.lt)
theorem Inv.nofs (I:Inv X pins σ H s) {a:Addr} (h:s.heap.objs.size≤a):a∉X.fs:=fun hb=>by
 obtain⟨_,o,ho,_⟩:=I.ok.funs.mem hb
 exact absurd (Nat.lt_of_lt_of_le (Heap.lt_size ho) (Nat.le_trans I.sz h)) (Nat.lt_irrefl _)
theorem Inv.cne (I:Inv X pins σ H s):∀ x c,X.env.cells.lookup x=some c→c≠X.env.locals:=fun x c e z=>by
 obtain⟨v,o,ho,hd⟩:=I.cell x c e
 obtain⟨m,⟨o',es,ep,ho',hd',_⟩,_⟩:=I.loc
 rw[z,ho'] at ho;cases ho;rw[hd'] at hd;cases hd
theorem Inv.funs (I:Inv X pins σ H s):s.heap.FunFrames X.base X.outer:=by
 have all:∀ (l:List Env),(∀ b∈frs l,b∈X.fs)→X.s₀.heap.FunFrames X.base l→s.heap.FunFrames X.base l:=by
  intro l
  induction l with
  | nil=>intro _ _;trivial
  | cons env r ih=>
   intro hs hl
   obtain⟨hk,⟨L,o,hf,hn,ho,hd⟩,hr⟩:=hl
   have hL:L∈X.fs:=hs L (by unfold frs;rw[List.filterMap_cons,hf];exact List.mem_cons_self)
   obtain⟨sl,e⟩:=I.base.slot L o ho (I.ok.frf L hL) hL fun z=>I.ok.exfs L z hL
   exact⟨hk,⟨L,_,hf,hn,e,hd⟩,ih (fun b hb=>hs b (by unfold frs;rw[List.filterMap_cons,hf];exact List.mem_cons_of_mem _ hb)) hr⟩
 exact all X.outer (fun _ hb=>hb) I.ok.funs
theorem Inv.stack (I:Inv X pins σ H s):s.heap.FunFrames X.base X.stack:=by
 rcases I.ok.stk with e | ⟨e,hf⟩
 ·rw[e];exact I.funs
 ·rw[e]
  obtain⟨m,hn,_⟩:=I.loc
  refine .cons (by rw[I.ok.kind];decide) hf hn ?_ I.funs
  exact Heap.get?_none_of_le (Nat.le_trans I.ok.bsz I.ok.above)
theorem Inv.stkSub (I:Inv X pins σ H s):∀ b∈frs X.stack,b∈X.env.locals::X.fs:=fun b hb=>by
 rcases I.ok.stk with e | ⟨e,hf⟩
 ·rw[e] at hb;exact List.mem_cons_of_mem _ hb
 ·rw[e] at hb
  unfold frs at hb
  rw[List.filterMap_cons,hf] at hb
  exact hb
theorem Inv.stkFree (I:Inv X pins σ H s):∀ b∈frs X.stack,H b=none:=fun b hb=>by
 rcases List.mem_cons.mp (I.stkSub b hb) with e | hb
 ·rw[e];exact I.free
 ·obtain⟨_,o,ho,_⟩:=I.ok.funs.mem hb
  exact I.base.free b o ho (I.ok.frf b hb) fun z=>I.ok.exfs b z hb
theorem Inv.step {g':Array GenState}{t':Nat}{d':Drawn}{ch:List Addr} (I:Inv X pins σ H s)
  (hch:∀ b∈ch,(b∈X.ex∨X.s₀.heap.objs.size≤b)∧b≠X.env.locals∧(∀ x c,X.env.cells.lookup x=some c→c≠b)∧∀ p∈X.pn++pins,p.1≠b)
  (keep:∀ b o,b≠X.env.locals→b∉X.fs→b∉ch→s.heap.get? b=some o→H b=none→h'.get? b=some o)
  (slot:∀ b o,b≠X.env.locals→b∈X.fs→b∉ch→s.heap.get? b=some o→H b=none→∃ sl,h'.get? b=some { o with slots:=sl }) (free:∀ b o,b∉ch→s.heap.get? b=some o→H b=none→H' b=none)
  (there:∀ b o,b∉ch→s.heap.get? b=some o→∃ o',h'.get? b=some o')
  (tups:∀ b xs,H b=some (.tup xs)→H' b=some (.tup xs)) (frzs:∀ b o u,H b=some (.frz o u)→H' b=some (.frz o u)) (tbls:∀ b ps,H b=some (.tbl ps)→∃ more,H' b=some (.tbl (ps++more)))
  (ns:∀ m,s.heap.Ns X.env.locals m→h'.Ns X.env.locals m) (hok:HOk X.prog X.w H' h') (hg:AllBare g') :
  Inv X pins σ H' { s with heap:=h',gens:=g',drawn:=d',toks:=t' }:=by
 have neL:∀ b o,X.s₀.heap.get? b=some o→b≠X.env.locals:=fun b o e=>Nat.ne_of_lt (Nat.lt_of_lt_of_le (Heap.lt_size e) I.ok.above)
 have neC:∀ b o,X.s₀.heap.get? b=some o→b∉X.ex→b∉ch:=fun b o e hx hb=>by
  rcases (hch b hb).1 with z | z
  ·exact hx z
  ·exact absurd (Nat.lt_of_lt_of_le (Heap.lt_size e) z) (Nat.lt_irrefl _)
 have cellK:∀ x c,X.env.cells.lookup x=some c→∀ v,s.heap.IsCell c v→h'.IsCell c v:=fun x c e v ⟨o,ho,hd⟩=>by
  have nch:c∉ch:=fun z=>(hch c z).2.2.1 x c e rfl
  by_cases hc:c∈X.fs
  ·obtain⟨sl,q⟩:=slot c o (I.cne x c e) hc nch ho (I.freeC x c e)
   exact⟨_,q,hd⟩
  ·exact⟨o,keep c o (I.cne x c e) hc nch ho (I.freeC x c e),hd⟩
 refine⟨I.ok,I.os,hg,⟨fun b o e n hb hx=>?_,fun b o e n hb hx=>?_,fun b o e n hx=>?_,fun b o e hx=>?_,fun b xs e=>tups b xs (I.base.tups b xs e),fun b o xs e=>frzs b o xs (I.base.frzs b o xs e),fun b ps e=>?_⟩,?_,fun x c e=>?_,?_,fun x c e=>?_,fun p hp=>?_,hok,I.len⟩
 ·exact keep b o (neL b o e) hb (neC b o e hx) (I.base.keep b o e n hb hx) (I.base.free b o e n hx)
 ·obtain⟨sl,e1⟩:=I.base.slot b o e n hb hx
  obtain⟨sl',e2⟩:=slot b _ (neL b o e) hb (neC b o e hx) e1 (I.base.free b o e n hx)
  exact⟨sl',e2⟩
 ·obtain⟨o',e1⟩:=I.base.there b o e hx
  exact free b o' (neC b o e hx) e1 (I.base.free b o e n hx)
 ·obtain⟨o',e1⟩:=I.base.there b o e hx
  exact there b o' (neC b o e hx) e1
 ·obtain⟨m1,e1⟩:=I.base.tbls b ps e
  obtain⟨m2,e2⟩:=tbls b _ e1
  exact⟨m1++m2,by rw[e2,Array.append_assoc]⟩
 ·obtain⟨m,hn,hl⟩:=I.loc
  refine⟨m,ns m hn,fun i x v e1 e2 e3=>?_⟩
  obtain⟨u,r,l⟩:=hl i x v e1 e2 e3
  refine⟨u,r,?_⟩
  rcases l with l | ⟨k,c,e,z⟩
  ·exact .inl l
  ·exact .inr ⟨k,c,e,cellK x c e _ z⟩
 ·obtain⟨v,z⟩:=I.cell x c e
  exact⟨v,cellK x c e v z⟩
 ·obtain⟨m,⟨o,_,_,ho,_⟩,_⟩:=I.loc
  exact free _ o (fun z=>(hch _ z).2.1 rfl) ho I.free
 ·obtain⟨v,o,ho,hd⟩:=I.cell x c e
  exact free c o (fun z=>(hch c z).2.2.1 x c e rfl) ho (I.freeC x c e)
 ·obtain⟨e,n,ne,nf,d⟩:=I.pin p hp
  have nch:p.1∉ch:=fun z=>(hch p.1 z).2.2.2 p hp rfl
  exact⟨keep p.1 p.2 ne nf nch e n,free p.1 p.2 nch e n,ne,nf,d⟩
theorem Inv.un {t':Nat} (I:Inv X pins σ H s) (u:Un X.fs [] H H' s.heap h') (hok:HOk X.prog X.w H' h'):Inv X pins σ H' { s with heap:=h',toks:=t' }:=by
 obtain⟨m,⟨o,es,ep,ho,r⟩,_⟩:=id I.loc
 obtain⟨sl,hL⟩:=u.any ho I.free (by simp)
 exact I.step (g':=s.gens) (d':=s.drawn) (ch:=[]) (fun _ z=>nomatch z) (fun b o _ hb _ e n=>u.keep b o e n hb (by simp)) (fun b o _ hb _ e n=>u.slot b o e n hb (by simp)) (fun b o _ e n=>u.free b o e n (by simp)) (fun b o _ e=>u.there b o e (by simp)) u.tups u.frzs u.tbls (fun m' hm=>by
  obtain⟨o',es',ep',ho',r'⟩:=hm
  rw[ho] at ho';cases ho'
  exact⟨_,es',ep',hL,r'⟩) hok I.bare
theorem Inv.call {g':Array GenState}{t':Nat}{d':Drawn}{ch:List Addr} (I:Inv X pins σ H s) (u:Un (frs X.stack) ch H H' s.heap h') (hok:HOk X.prog X.w H' h') (hg:AllBare g')
  (hch:∀ b∈ch,(b∈X.ex∨X.s₀.heap.objs.size≤b)∧b≠X.env.locals∧(∀ x c,X.env.cells.lookup x=some c→c≠b)∧∀ p∈X.pn++pins,p.1≠b) :
  Inv X pins σ H' { s with heap:=h',gens:=g',drawn:=d',toks:=t' }:=by
 obtain⟨m,⟨o,es,ep,ho,r⟩,_⟩:=id I.loc
 obtain⟨sl,hL⟩:=u.any ho I.free fun z=>(hch _ z).2.1 rfl
 exact I.step (ch:=ch) hch (fun b o hL hb hc e n=>u.keep b o e n (fun z=>(List.mem_cons.mp (I.stkSub b z)).elim hL hb) hc) (fun b o _ _ hc e n=>u.any e n hc) (fun b o hc e n=>u.free b o e n hc) (fun b o hc e=>u.there b o e hc) u.tups u.frzs u.tbls (fun m' hm=>by
  obtain⟨o',es',ep',ho',r'⟩:=hm
  rw[ho] at ho';cases ho'
  exact⟨_,es',ep',hL,r'⟩) hok hg
theorem Inv.turned {t':Nat}{it:Addr} (I:Inv X pins σ H s) (k:∀ b o,b≠it→s.heap.get? b=some o→h'.get? b=some o) (hn:H it=none) (hL:it≠X.env.locals)
  (h1:it∈X.ex∨X.s₀.heap.objs.size≤it) (h2:∀ x c,X.env.cells.lookup x=some c→c≠it) (h3:∀ p∈X.pn++pins,p.1≠it):Inv X pins σ H { s with heap:=h',toks:=t' }:=by
 have nit:∀ b u,H b=some u→b≠it:=fun b u e z=>by rw[z,hn] at e;cases e
 refine I.step (g':=s.gens) (d':=s.drawn) (ch:=[it]) (fun b hb=>?_) (fun b o _ _ hc e _=>k b o (fun z=>hc (by simp [z])) e) (fun b o _ _ hc e _=>⟨o.slots,k b o (fun z=>hc (by simp [z])) e⟩) (fun _ _ _ _ n=>n)
  (fun b o hc e=>⟨o,k b o (fun z=>hc (by simp [z])) e⟩) (fun _ _ e=>e) (fun _ _ _ e=>e) (fun b ps e=>⟨#[],by rw[e];simp⟩) (fun m hm=>?_) (fun b u e=>?_) I.bare
 ·have e:b=it:=by simpa using hb
  subst e
  exact⟨h1,hL,h2,h3⟩
 ·obtain⟨o,es,ep,ho,r⟩:=hm
  exact⟨o,es,ep,k _ o (Ne.symm hL) ho,r⟩
 ·refine (I.hok b u e).stay (fun c v hc q=>k c v ?_ q) (fun _ q=>q) fun _ _ q=>q
  rcases hc with z | z
  ·rw[z];exact nit b u e
  ·exact nit c _ z
theorem Inv.tok (I:Inv X pins σ H s) (t:Nat):Inv X pins σ H { s with toks:=t }:=I.un (h':=s.heap) (t':=t) Un.refl I.hok
theorem Inv.kept {t':Nat} (I:Inv X pins σ H s) (k:∀ b u,s.heap.get? b=some u→h'.get? b=some u):Inv X pins σ H { s with heap:=h',toks:=t' }:=I.un (Un.kept k) (I.hok.kept k)
theorem Inv.laid {a:Addr}{o:HO}{t':Nat} (I:Inv X pins σ H s) (k:∀ b u,s.heap.get? b=some u→h'.get? b=some u) (hp:s.heap.objs.size≤a) (new:bU X.prog X.w (upd H a o) h' a o) :
  Inv X pins σ (upd H a o) { s with heap:=h',toks:=t' }:=I.un (Un.laid k hp (I.hok.fresh hp)) (I.hok.laid k hp new)
theorem Inv.write {x e:Addr}{o:HO}{t':Nat} (I:Inv X pins σ H s) (mu:Mut (H x)) (he:e=x∨H e=some (.own x)) (k:∀ b u,b≠e→s.heap.get? b=some u→h'.get? b=some u) (heo:∃ u,h'.get? e=some u)
  (new:bU X.prog X.w (upd H x o) h' x o):Inv X pins σ (upd H x o) { s with heap:=h',toks:=t' }:=I.un (Un.write mu he k heo) (I.hok.write mu he k heo new)
theorem Inv.pins_of {pins':List (Addr×Obj)} (I:Inv X pins σ H s) (h:∀ p∈pins',s.heap.get? p.1=some p.2∧H p.1=none∧p.1≠X.env.locals∧p.1∉X.fs∧∀ v,p.2.data≠.cell v):Inv X pins' σ H s:=
 ⟨I.ok,I.os,I.bare,I.base,I.loc,I.cell,I.free,I.freeC,fun p hp=>(List.mem_append.mp hp).elim (fun z=>I.pin p (List.mem_append_left _ z)) (h p),I.hok,I.len⟩
theorem nodup_ix {N:List Str} (hN:N.Nodup) {i j:Nat}{x:Str} (a:N[i]? = some x) (b:N[j]? = some x):i=j:=by
 obtain⟨h1,e1⟩:=List.getElem?_eq_some_iff.mp a
 obtain⟨h2,e2⟩:=List.getElem?_eq_some_iff.mp b
 exact (List.getElem_inj hN).mp (e1.trans e2.symm)
theorem store_ok2 {M:Model}{A:Around}{E:Value→Shared→Prop}{i:Nat}{x:Str}{v:V}{u:Value}{Q:Unit→Shared→Prop} (I:Inv X pins σ H s) (hN:X.N.Nodup) (hi:X.N[i]? = some x) (hx:Loc X.env.scope x) (r:aY v u)
  (h:∀ s',Inv X pins (σ.set i (some v)) H s'→(∃ a,Heap.SameBut a s.heap s'.heap∧(a=X.env.locals∨X.env.cells.lookup x=some a))→Q () s') (hf:X.fn x=true∨X.env.scope.names.lookup x=some .local:=by first | exact .inl rfl | exact .inr rfl | assumption):wpAny M A (storeName X.env x u) Q E s:=by
 obtain⟨m,hn,hl⟩:=id I.loc
 have hcls:(X.env.scope.kind == .class || (X.env.scope.kind == .module && X.env.locals != X.env.globals))=false:=by rw[I.ok.kind];rfl
 have hiσ:i < σ.length:=by rw[I.len];exact (List.getElem?_eq_some_iff.mp hi).1
 have cne:=I.cne
 have tracked:∀ {a:Addr}{h':Heap},(∃ o,s.heap.get? a=some o∧H a=none)→Heap.SameBut a s.heap h'→HOk X.prog X.w H h':=fun {a h'} ha hs b ob e=>by
  obtain⟨_,_,hfree⟩:=ha
  refine (I.hok b ob e).stay (fun c w' hc q=>(hs.2 c ?_).trans q) (fun _ q=>q) fun _ _ q=>q
  rintro rfl
  rcases hc with rfl | hc
  ·rw[hfree] at e;cases e
  ·rw[hfree] at hc;cases hc
 rcases hx with hk | hk
 ·refine wpAny_storeName_local hk hn (fun h' hn' hs=>?_) hcls
  obtain⟨oL,_,_,hoL,_⟩:=id hn
  refine h _ ⟨I.ok,I.os,I.bare,⟨fun b o e n hb hx=>?_,fun b o e n hb hx=>?_,I.base.free,fun b o e hx=>?_,I.base.tups,I.base.frzs,I.base.tbls⟩,⟨_,hn',fun j y v' e1 e2 e3=>?_⟩,fun y c e=>?_,I.free,I.freeC,fun p hp=>?_,tracked ⟨oL,hoL,I.free⟩ hs,by simpa using I.len⟩ ⟨_,hs,.inl rfl⟩
  ·exact (hs.2 b (Nat.ne_of_lt (Nat.lt_of_lt_of_le (Heap.lt_size e) I.ok.above))).trans (I.base.keep b o e n hb hx)
  ·obtain⟨sl,e1⟩:=I.base.slot b o e n hb hx
   exact⟨sl,(hs.2 b (Nat.ne_of_lt (Nat.lt_of_lt_of_le (Heap.lt_size e) I.ok.above))).trans e1⟩
  ·obtain⟨o',e1⟩:=I.base.there b o e hx
   exact⟨o',(hs.2 b (Nat.ne_of_lt (Nat.lt_of_lt_of_le (Heap.lt_size e) I.ok.above))).trans e1⟩
  ·by_cases hj:j=i
   ·subst hj
    rw[hi] at e1;cases e1
    rw[List.getElem?_set_self hiσ] at e2
    cases e2
    exact⟨u,r,.inl ⟨hk,by simp⟩⟩
   ·rw[List.getElem?_set_ne (Ne.symm hj)] at e2
    obtain⟨u',r',q⟩:=hl j y v' e1 e2 e3
    refine⟨u',r',?_⟩
    rcases q with ⟨k,e⟩ | ⟨k,c,e,z⟩
    ·refine .inl ⟨k,?_⟩
     have:y≠x:=fun e=>hj (nodup_ix hN e1 (e ▸ hi))
     simp [this,e]
    ·exact .inr ⟨k,c,e,z.sameBut hs (cne y c e)⟩
  ·obtain⟨w',z⟩:=I.cell y c e
   exact⟨w',z.sameBut hs (cne y c e)⟩
  ·obtain⟨e,n,ne,nf,d⟩:=I.pin p hp
   exact⟨(hs.2 p.1 ne).trans e,n,ne,nf,d⟩
 ·have hfn:X.fn x=true:=by
   rcases hf with z | z
   ·exact z
   ·rw[z] at hk;cases hk
  obtain⟨c,hc⟩:=I.ok.has x (.inl hk)
  obtain⟨w',z⟩:=I.cell x c hc
  refine wpAny_storeName_cell I.ok.kind hk hc z (fun h' hc' hs=>?_)
  obtain⟨oc,hoc,hocd⟩:=id z
  refine h { s with heap:=h' } ⟨I.ok,I.os,I.bare,⟨fun b o e n hb hx=>?_,fun b o e n hb hx=>?_,I.base.free,fun b o e hx=>?_,I.base.tups,I.base.frzs,I.base.tbls⟩,⟨m,hn.sameBut hs (Ne.symm (cne x c hc)),fun j y v' e1 e2 e3=>?_⟩,fun y c' e=>?_,I.free,I.freeC,fun p hp=>?_,tracked ⟨oc,hoc,I.freeC x c hc⟩ hs,by simpa using I.len⟩ ⟨c,hs,.inr hc⟩
  ·exact (hs.2 b (Nat.ne_of_lt (Nat.lt_of_lt_of_le (Heap.lt_size e) (I.ok.cab x c hfn hc)))).trans (I.base.keep b o e n hb hx)
  ·obtain⟨sl,e1⟩:=I.base.slot b o e n hb hx
   exact⟨sl,(hs.2 b (Nat.ne_of_lt (Nat.lt_of_lt_of_le (Heap.lt_size e) (I.ok.cab x c hfn hc)))).trans e1⟩
  ·obtain⟨o',e1⟩:=I.base.there b o e hx
   exact⟨o',(hs.2 b (Nat.ne_of_lt (Nat.lt_of_lt_of_le (Heap.lt_size e) (I.ok.cab x c hfn hc)))).trans e1⟩
  ·by_cases hj:j=i
   ·subst hj
    rw[hi] at e1;cases e1
    rw[List.getElem?_set_self hiσ] at e2
    cases e2
    exact⟨u,r,.inr ⟨.inl hk,c,hc,hc'⟩⟩
   ·rw[List.getElem?_set_ne (Ne.symm hj)] at e2
    obtain⟨u',r',q⟩:=hl j y v' e1 e2 e3
    refine⟨u',r',?_⟩
    rcases q with q | ⟨k,c',e,z'⟩
    ·exact .inl q
    ·refine .inr ⟨k,c',e,z'.sameBut hs ?_⟩
     rintro rfl
     exact hj (nodup_ix hN e1 (I.ok.inj _ _ _ e hc ▸ hi))
  ·by_cases hcc:c'=c
   ·subst hcc;exact⟨_,hc'⟩
   ·obtain⟨w2,z2⟩:=I.cell y c' e
    exact⟨w2,z2.sameBut hs hcc⟩
  ·obtain⟨e,n,ne,nf,d⟩:=I.pin p hp
   refine⟨(hs.2 p.1 ?_).trans e,n,ne,nf,d⟩
   intro q
   rw[q,hoc] at e
   have q':oc=p.2:=Option.some.inj e
   exact d w' (by rw[← q'];exact hocd)
theorem store_ok {M:Model}{A:Around}{E:Value→Shared→Prop}{i:Nat}{x:Str}{v:V}{u:Value}{Q:Unit→Shared→Prop} (I:Inv X pins σ H s) (hN:X.N.Nodup) (hi:X.N[i]? = some x) (hx:Loc X.env.scope x) (r:aY v u)
  (h:∀ s',Inv X pins (σ.set i (some v)) H s'→Q () s') (hf:X.fn x=true∨X.env.scope.names.lookup x=some .local:=by first | exact .inl rfl | exact .inr rfl | assumption):wpAny M A (storeName X.env x u) Q E s:=
 store_ok2 I hN hi hx r (fun s' I' _=>h s' I') hf
theorem Inv.call' {s':Shared}{ch:List Addr} (I:Inv X pins σ H s) (ho:s'.os=s.os) (u:Un (frs X.stack) ch H H' s.heap s'.heap) (hok:HOk X.prog X.w H' s'.heap) (hg:AllBare s'.gens)
  (hch:∀ b∈ch,(b∈X.ex∨X.s₀.heap.objs.size≤b)∧b≠X.env.locals∧(∀ x c,X.env.cells.lookup x=some c→c≠b)∧∀ p∈X.pn++pins,p.1≠b):Inv X pins σ H' s':=by
 obtain⟨h',g',d',t',o'⟩:=s'
 have e:o'=s.os:=ho
 subst e
 exact I.call (g':=g') (t':=t') (d':=d') u hok hg hch
end
noncomputable abbrev XK:=Value→Option Addr→Hp→Prop
noncomputable abbrev St:=List (Option V)
noncomputable abbrev VK:=V→Hp→Prop
noncomputable abbrev TE:=St→Hp→VK→Prop
noncomputable abbrev TT:=St→Hp→(Bool→Hp→Prop)→Prop
noncomputable abbrev TA:=St→Hp→(List V→Hp→Prop)→Prop
structure Ends where
 nx:St→Hp→Prop
 rt:VK
 bk:St→Hp→Prop:=fun _ _=>False
 ct:St→Hp→Prop:=fun _ _=>False
noncomputable abbrev TS:=Ends→St→Hp→Prop
noncomputable def EP (X:Cx) (pins:List (Addr×Obj)) (σ:St) (Q:VK) (u:Value) (s':Shared):Prop:=∃ v H',Inv X pins σ H' s'∧aY v u∧Q v H'
noncomputable def TP (X:Cx) (pins:List (Addr×Obj)) (σ:St) (Q:Bool→Hp→Prop) (b:Bool) (s':Shared):Prop:=∃ H',Inv X pins σ H' s'∧Q b H'
noncomputable def AP (X:Cx) (pins:List (Addr×Obj)) (σ:St) (Q:List V→Hp→Prop) (us:List Value) (s':Shared):Prop:=∃ vs H',Inv X pins σ H' s'∧bK vs us∧Q vs H'
noncomputable def SP (X:Cx) (pins:List (Addr×Obj)) (D:Ends) (f:Flow) (s':Shared):Prop:=
 match f with
 | .next=>∃ σ' H',Inv X pins σ' H' s'∧D.nx σ' H'
 | .brk=>∃ σ' H',Inv X pins σ' H' s'∧D.bk σ' H'
 | .cont=>∃ σ' H',Inv X pins σ' H' s'∧D.ct σ' H'
 | .ret u=>∃ v σ' H',Inv X pins σ' H' s'∧aY v u∧D.rt v H'
noncomputable def PE (X:Cx) (e:Expr) (t:TE):Prop:=
 ∀ (pins:List (Addr×Obj)) (s:Shared) (σ:St) (H:Hp) (Q:VK),Inv X pins σ H s→t σ H Q→wpAny (model X.prog X.w) X.A (eval e X.env) (EP X pins σ Q) X.xe s
noncomputable def PT (X:Cx) (e:Expr) (t:TT):Prop:=
 ∀ (pins:List (Addr×Obj)) (s:Shared) (σ:St) (H:Hp) (Q:Bool→Hp→Prop),Inv X pins σ H s→t σ H Q→wpAny (model X.prog X.w) X.A (isTrue e X.env (eval e X.env)) (TP X pins σ Q) X.xe s
noncomputable def PW (X:Cx) (e:Expr) (t:TT):Prop:=
 ∀ (whole:Sem Value) (pins:List (Addr×Obj)) (s:Shared) (σ:St) (H:Hp) (Q:Bool→Hp→Prop),Inv X pins σ H s→t σ H Q→wpAny (model X.prog X.w) X.A (isTrue e X.env whole) (TP X pins σ Q) X.xe s
theorem PW.pt {X:Cx}{e:Expr}{t:TT} (h:PW X e t):PT X e t:=h _
noncomputable def PA (X:Cx) (es:List Expr) (t:TA):Prop:=
 ∀ (pos:Pos) (pins:List (Addr×Obj)) (s:Shared) (σ:St) (H:Hp) (Q:List V→Hp→Prop),Inv X pins σ H s→t σ H Q→wpAny (model X.prog X.w) X.A (spliced (backTo pos (starEach es X.env))) (AP X pins σ Q) X.xe s
noncomputable def PS (X:Cx) (st:Stmt) (t:TS):Prop:=
 ∀ (pins:List (Addr×Obj)) (s:Shared) (σ:St) (H:Hp) (D:Ends),Inv X pins σ H s→t D σ H→wpAny (model X.prog X.w) X.A (exec st X.env) (SP X pins D) X.xe s
noncomputable def PSs (X:Cx) (st:List Stmt) (t:TS):Prop:=
 ∀ (pins:List (Addr×Obj)) (s:Shared) (σ:St) (H:Hp) (D:Ends),Inv X pins σ H s→t D σ H→wpAny (model X.prog X.w) X.A (execs st X.env) (SP X pins D) X.xe s
theorem cI {α:Type}{t:Sem α}{Q Q':α→Shared→Prop}{M:Model}{A:Around}{E:Value→Shared→Prop}{s:Shared} (h:wpAny M A t Q E s) (hQ:∀ a s,Q a s→Q' a s):wpAny M A t Q' E s:=wpAny_mono h hQ fun _ _ x=>x
end L2
namespace L2
open PySem PySem.Spec PyProof.Rows
section
variable {X:Cx}
noncomputable def d5 (i:Nat):TE:=fun σ H Q=>∃ v,σ[i]? = some (some v)∧Q v H
noncomputable def tC (v:V):TE:=fun _ H Q=>Q v H
theorem pe_var {i:Nat}{x:Str}{pos:Pos} (hN:X.N[i]? = some x) (hv:Vis X.env.scope x) (hd:(x == ("__debug__" : Str))=false:=by decide) (hcd:(x == ("__classdict__" : Str))=false:=by decide):PE X (.Name x pos) (d5 i):=by
 intro pins s σ H Q I h
 obtain⟨v,e,h⟩:=h
 obtain⟨m,hn,hl⟩:=I.loc
 obtain⟨u,r,l⟩:=hl i x v hN e hv
 have fin:EP X pins σ Q u s:=⟨v,H,I,r,h⟩
 rcases l with ⟨hk,hm⟩ | ⟨hk,c,hc,hcell⟩
 ·exact wpAny_Name (wpAny_loadName_local I.ok.kind hk hn hm fin) hd
 ·rcases hk with hk | hk
  ·exact wpAny_Name (wpAny_loadName_cell I.ok.kind hk hc hcell fin) hd
  ·exact wpAny_Name (wpAny_loadName_free I.ok.kind hk hc hcell fin hcd) hd
theorem aG {i j pos}:PE X (.Constant (.int i) j pos) (tC (.int i)):=fun _ _ _ H _ I h=>wpAny_Constant_int ⟨.int i,H,I.tok _,⟨_,rfl⟩,h⟩
theorem pe_bl {b j pos}:PE X (.Constant (.bool b) j pos) (tC (.bl b)):=fun _ _ _ H _ I h=>Constant_bool ⟨.bl b,H,I,rfl,h⟩
theorem pe_non {j pos}:PE X (.Constant .none j pos) (tC .non):=fun _ _ _ H _ I h=>Constant_none ⟨.non,H,I,rfl,h⟩
theorem dI {x j pos}:PE X (.Constant (.str x) j pos) (tC (.str x)):=fun _ _ _ H _ I h=>Calls.Constant_str ⟨.str x,H,I.tok _,⟨_,rfl⟩,h⟩
noncomputable def Gl (X:Cx) (x:Str):Prop:=X.env.kindOf x=some .globalImplicit
theorem ld_glob {E:Value→Shared→Prop}{pins:List (Addr×Obj)}{s:Shared}{σ:St}{H:Hp}{x:Str}{u:Value}{pos:Pos}{Q:Value→Shared→Prop} (I:Inv X pins σ H s) (hg:Gl X x) (hm:X.mg x=some u) (h:Q u s)
  (hd:(x == ("__debug__" : Str))=false:=by decide):wpAny (model X.prog X.w) X.A (eval (.Name x pos) X.env) Q E s:=
 Calls.Name_function_global I.ok.kind hg (Calls.loadGlobal_global (by rw[I.ok.glob];exact I.mod.glob.keeps I.bk) hm h) hd
theorem ld_blt {E:Value→Shared→Prop}{pins:List (Addr×Obj)}{s:Shared}{σ:St}{H:Hp}{x:Str}{u:Value}{pos:Pos}{Q:Value→Shared→Prop} (I:Inv X pins σ H s) (hg:Gl X x) (hm:X.mg x=none) (hv:bootBuiltins x=some u) (h:Q u s)
  (hn:x ≠ "__name__" := by decide) (hd:(x == ("__debug__" : Str))=false:=by decide):wpAny (model X.prog X.w) X.A (eval (.Name x pos) X.env) Q E s:=by
 obtain⟨mb,h1,h2⟩:=I.mod.blt
 exact Calls.Name_function_global I.ok.kind hg (Calls.loadGlobal_builtin (by rw[I.ok.glob];exact I.mod.glob.keeps I.bk) hm (by rw[I.ok.blt];exact h1.keeps I.bk) ((h2 x hn).trans hv) h) hd
theorem pe_glob {x:Str}{v:V}{u:Value}{pos:Pos} (hg:Gl X x) (hm:X.mg x=some u) (r:aY v u) (hd:(x == ("__debug__" : Str))=false:=by decide):PE X (.Name x pos) (tC v):=
 fun _ _ _ H _ I h=>ld_glob I hg hm ⟨v,H,I,r,h⟩ hd
theorem pe_bltn {x:Str}{v:V}{u:Value}{pos:Pos} (hg:Gl X x) (hm:X.mg x=none) (hv:bootBuiltins x=some u) (r:aY v u) (hn:x ≠ "__name__" := by decide) (hd:(x == ("__debug__" : Str))=false:=by decide):PE X (.Name x pos) (tC v):=
 fun _ _ _ H _ I h=>ld_blt I hg hm hv ⟨v,H,I,r,h⟩ hn hd
variable {a b:Expr}{ta tb:TE}{pos:Pos}
noncomputable def tB (t:TE):TT:=fun σ H Q=>t σ H fun x H1=>∃ c,x=.bl c∧Q c H1
theorem pt_val {e:Expr}{t:TE} (h:PE X e t) (he:∀ whole,isTrue e X.env whole=(do let v ← whole;standAt e.pos;holding [v] (truthy v)):=by intro _;rfl):PT X e (tB t):=by
 intro pins s σ H Q I hw
 refine isTrue_plain (cI (h pins s σ H _ I hw) fun v s1 ⟨x,H1,I1,r1,q1⟩=>?_) (he _)
 obtain⟨d,rfl,q⟩:=q1
 cases r1
 exact wpAny_truthy_bool ⟨H1,I1,q⟩
variable {tA tB':TT}{rest:List Expr}
noncomputable def tAnd (t u:TT):TT:=fun σ H Q=>t σ H fun c H1=>if c=true then u σ H1 Q else Q false H1
noncomputable def tOr (t u:TT):TT:=fun σ H Q=>t σ H fun c H1=>if c=true then Q true H1 else u σ H1 Q
noncomputable def tNot (t:TT):TT:=fun σ H Q=>t σ H fun c H1=>Q (!c) H1
theorem pw_and1 (ha:PT X a tA):PW X (.BoolOp .And [a] pos) tA:=by
 intro wh pins s σ H Q I h
 refine isTrue_and (cI (ha pins s σ H Q I h) fun c s1 e=>?_)
 cases c with
 | true=>exact isTrue_and_nil e
 | false=>exact e
theorem pw_or1 (ha:PT X a tA):PW X (.BoolOp .Or [a] pos) tA:=by
 intro wh pins s σ H Q I h
 refine isTrue_or (cI (ha pins s σ H Q I h) fun c s1 e=>?_)
 cases c with
 | false=>exact isTrue_or_nil e
 | true=>exact e
theorem pw_and (ha:PT X a tA) (hb:PW X (.BoolOp .And (b::rest) pos) tB'):PW X (.BoolOp .And (a::b::rest) pos) (tAnd tA tB'):=by
 intro wh pins s σ H Q I h
 refine isTrue_and (cI (ha pins s σ H _ I h) fun c s1 ⟨H1,I1,q1⟩=>?_)
 cases c with
 | true=>exact hb wh pins s1 σ H1 Q I1 q1
 | false=>exact⟨H1,I1,q1⟩
theorem pw_or (ha:PT X a tA) (hb:PW X (.BoolOp .Or (b::rest) pos) tB'):PW X (.BoolOp .Or (a::b::rest) pos) (tOr tA tB'):=by
 intro wh pins s σ H Q I h
 refine isTrue_or (cI (ha pins s σ H _ I h) fun c s1 ⟨H1,I1,q1⟩=>?_)
 cases c with
 | true=>exact⟨H1,I1,q1⟩
 | false=>exact hb wh pins s1 σ H1 Q I1 q1
theorem pt_not (ha:PT X a tA):PT X (.UnaryOp .Not a pos) (tNot tA):=by
 intro pins s σ H Q I h
 exact isTrue_not (ha pins s σ H (fun c H1=>Q (!c) H1) I h)
noncomputable def tAndV (ta tb:TE):TE:=fun σ H Q=>ta σ H fun x H1=>∃ c,x=.bl c∧if c=true then tb σ H1 Q else Q (.bl false) H1
noncomputable def tOrV (ta tb:TE):TE:=fun σ H Q=>ta σ H fun x H1=>∃ c,x=.bl c∧if c=true then Q (.bl true) H1 else tb σ H1 Q
noncomputable def tNotV (ta:TE):TE:=fun σ H Q=>ta σ H fun x H1=>∃ c,x=.bl c∧Q (.bl (!c)) H1
theorem pe_one {op}{t:TE} (h:PE X a t):PE X (.BoolOp op [a] pos) t:=fun pins s σ H Q I hw=>BoolOp_one (h pins s σ H Q I hw)
theorem pe_and (ha:PE X a ta) (hb:PE X (.BoolOp .And (b::rest) pos) tb):PE X (.BoolOp .And (a::b::rest) pos) (tAndV ta tb):=by
 intro pins s σ H Q I h
 refine BoolOp_and (cI (ha pins s σ H _ I h) fun v s1 ⟨x,H1,I1,r1,q1⟩=>?_)
 obtain⟨c,rfl,q1⟩:=q1
 cases r1
 refine wpAny_truthy_bool ?_
 cases c with
 | true=>exact hb pins s1 σ H1 Q I1 q1
 | false=>exact⟨.bl false,H1,I1,rfl,q1⟩
theorem pe_or (ha:PE X a ta) (hb:PE X (.BoolOp .Or (b::rest) pos) tb):PE X (.BoolOp .Or (a::b::rest) pos) (tOrV ta tb):=by
 intro pins s σ H Q I h
 refine BoolOp_or (cI (ha pins s σ H _ I h) fun v s1 ⟨x,H1,I1,r1,q1⟩=>?_)
 obtain⟨c,rfl,q1⟩:=q1
 cases r1
 refine wpAny_truthy_bool ?_
 cases c with
 | false=>exact hb pins s1 σ H1 Q I1 q1
 | true=>exact⟨.bl true,H1,I1,rfl,q1⟩
theorem pe_not (ha:PE X a ta):PE X (.UnaryOp .Not a pos) (tNotV ta):=by
 intro pins s σ H Q I h
 refine UnaryOp_ (cI (ha pins s σ H _ I h) fun v s1 ⟨x,H1,I1,r1,q1⟩=>?_)
 obtain⟨c,rfl,q1⟩:=q1
 cases r1
 exact not_of (wpAny_truthy_bool ⟨.bl (!c),H1,I1,rfl,q1⟩)
end
end L2
namespace L2
open PySem PySem.Spec PyProof.Rows
noncomputable def bZ (K:PySem.W.Frag) (H:Hp) (a:Addr) (xs:List V):Prop:=
 Rd H a (.lst xs)∨
  ∃ (o:Obj) (its:Array Value) (n:Nat),K.lookup a=some o∧o.cls=.type "list" ∧ o.dict=none∧o.data=.seq its n∧its.size≤sizeLine∧bK xs its.toList
noncomputable def bT (K:PySem.W.Frag) (H:Hp) (a:Addr) (xs:List V):Prop:=
 Rd H a (.tup xs)∨
  ∃ (o:Obj) (its:Array Value) (n:Nat),K.lookup a=some o∧o.cls=.type "tuple" ∧ o.data=.seq its n∧its.size≤sizeLine∧bK xs its.toList
noncomputable def absV:Value→Option V
 | .none=>some .non
 | .bool b=>some (.bl b)
 | .int i _=>some (.int i)
 | .str x _=>some (.str x)
 | .bytes b _=>some (.byt b)
 | .float b _=>some (.flt b)
 | .ref a=>some (.ref a)
 | .type n=>some (.ty n)
 | _=>none
theorem aY.abs {x:V}{u:Value} (r:aY x u):absV u=some x:=by
 cases x with
 | non=>cases r;rfl
 | bl _=>cases r;rfl
 | int _=>obtain⟨t,rfl⟩:=r;rfl
 | str _=>obtain⟨t,rfl⟩:=r;rfl
 | byt _=>obtain⟨t,rfl⟩:=r;rfl
 | flt _=>obtain⟨t,rfl⟩:=r;rfl
 | ref _=>cases r;rfl
 | ty _=>cases r;rfl
theorem aY.inj {x y:V}{u:Value} (r:aY x u) (q:aY y u):x=y:=Option.some.inj (r.abs.symm.trans q.abs)
theorem bK.inj:∀ {xs ys:List V}{us:List Value},bK xs us→bK ys us→xs=ys
 | _,_,_,.nil,.nil=>rfl
 | _,_,_,.cons r t,.cons r' t'=>by rw[r.inj r',bK.inj t t']
section
variable {X:Cx}{pins:List (Addr×Obj)}{σ:St}{H:Hp}{s:Shared}{a:Addr}{xs ys:List V}
theorem bZ.of {K:PySem.W.Frag} (h:H a=some (.lst xs)):bZ K H a xs:=.inl (.inl h)
theorem bT.of {K:PySem.W.Frag} (h:H a=some (.tup xs)):bT K H a xs:=.inl (.inl h)
theorem Inv.list (I:Inv X pins σ H s) (h:bZ X.K H a xs):∃ its:List Value,bK xs its∧PlainL s.heap a its.toArray∧xs.length≤sizeLine:=by
 rcases h with h | ⟨o,its,n,hk,hc,hd,hs,hz,r⟩
 ·obtain⟨z,its,n,r,e⟩:=h.ok I.hok
  exact⟨its,r,⟨_,n,e,rfl,rfl,rfl⟩,z⟩
 ·refine⟨its.toList,r,⟨o,n,I.kIn a o hk,hc,hd,by simpa using hs⟩,?_⟩
  have e:=r.length
  simp only [Array.length_toList] at e
  omega
theorem Inv.tuple (I:Inv X pins σ H s) (h:bT X.K H a xs):∃ its:List Value,bK xs its∧IsTup s.heap a its.toArray∧xs.length≤sizeLine:=by
 rcases h with h | ⟨o,its,n,hk,hc,hs,hz,r⟩
 ·obtain⟨z,its,r,p⟩:=h.ok I.hok
  exact⟨its,r,p,z⟩
 ·refine⟨its.toList,r,⟨o,I.kIn a o hk,hc,n,by simpa using hs⟩,?_⟩
  have e:=r.length
  simp only [Array.length_toList] at e
  omega
theorem Inv.list_inj (I:Inv X pins σ H s) (h:bZ X.K H a xs) (h':bZ X.K H a ys):xs=ys:=by
 obtain⟨its,r,⟨o,n,e,_,_,d⟩,_⟩:=I.list h
 obtain⟨its',r',⟨o',n',e',_,_,d'⟩,_⟩:=I.list h'
 rw[e] at e';cases e'
 rw[d] at d'
 injection d' with d1 _
 have:its=its':=by simpa using congrArg Array.toList d1
 subst this
 exact r.inj r'
theorem Inv.tuple_inj (I:Inv X pins σ H s) (h:bT X.K H a xs) (h':bT X.K H a ys):xs=ys:=by
 obtain⟨its,r,⟨o,e,_,n,d⟩,_⟩:=I.tuple h
 obtain⟨its',r',⟨o',e',_,n',d'⟩,_⟩:=I.tuple h'
 rw[e] at e';cases e'
 rw[d] at d'
 injection d' with d1 _
 have:its=its':=by simpa using congrArg Array.toList d1
 subst this
 exact r.inj r'
end
noncomputable abbrev Cx.wish (X:Cx) (E:Value→Shared→Prop):Cx:={ X with xe:=E }
noncomputable abbrev Cx.nox (X:Cx):Cx:=X.wish fun _ _=>False
theorem Cx.Ok.wish {X:Cx} (ok:X.Ok) (E:Value→Shared→Prop):(X.wish E).Ok:=
 ⟨ok.mod,ok.kind,ok.glob,ok.blt,ok.above,ok.inj,ok.has,ok.cab,ok.hd,ok.frames,ok.stk,ok.exf,ok.bs,ok.bsz,ok.noex,ok.exfs,ok.funs,ok.frf⟩
theorem Cx.Ok.unwish {X:Cx}{E:Value→Shared→Prop} (ok:(X.wish E).Ok):X.Ok:=
 ⟨ok.mod,ok.kind,ok.glob,ok.blt,ok.above,ok.inj,ok.has,ok.cab,ok.hd,ok.frames,ok.stk,ok.exf,ok.bs,ok.bsz,ok.noex,ok.exfs,ok.funs,ok.frf⟩
section
variable {X:Cx}{pins:List (Addr×Obj)}{σ:St}{H:Hp}{s:Shared}{E:Value→Shared→Prop}
theorem Inv.wish (I:Inv X pins σ H s) (E:Value→Shared→Prop):Inv (X.wish E) pins σ H s:=⟨I.ok.wish E,I.os,I.bare,I.base,I.loc,I.cell,I.free,I.freeC,I.pin,I.hok,I.len⟩
theorem Inv.unwish (I:Inv (X.wish E) pins σ H s):Inv X pins σ H s:=⟨I.ok.unwish,I.os,I.bare,I.base,I.loc,I.cell,I.free,I.freeC,I.pin,I.hok,I.len⟩
theorem SP.unwish {D:Ends}{f:Flow}{s':Shared} (h:SP (X.wish E) pins D f s'):SP X pins D f s':=by
 cases f with
 | next=>obtain⟨σ',H',I,q⟩:=h;exact⟨σ',H',I.unwish,q⟩
 | brk=>obtain⟨σ',H',I,q⟩:=h;exact⟨σ',H',I.unwish,q⟩
 | cont=>obtain⟨σ',H',I,q⟩:=h;exact⟨σ',H',I.unwish,q⟩
 | ret u=>obtain⟨v,σ',H',I,r,q⟩:=h;exact⟨v,σ',H',I.unwish,r,q⟩
theorem PSs.nox {st:List Stmt}{t:TS} (h:PSs X.nox st t):PSs X st t:=fun pins s σ H D I hw=>
 wpAny_mono (h pins s σ H D (I.wish _) hw) (fun _ _ q=>q.unwish) fun _ _ z=>False.elim z
end
section
variable {X:Cx}{st:Stmt}{rest:List Stmt}{t u:TS}{e:Expr}{te:TE}{pos:Pos}
noncomputable def tNext:TS:=fun D σ H=>D.nx σ H
noncomputable def tSeq (t u:TS):TS:=fun D σ H=>t { D with nx:=u D } σ H
theorem bX:PSs X [] tNext:=fun _ _ σ H _ I h=>wpAny_execs_nil ⟨σ,H,I,h⟩
theorem aD (h1:PS X st t) (h2:PSs X rest u):PSs X (st::rest) (tSeq t u):=by
 intro pins s σ H D I h
 refine wpAny_execs_cons (cI (h1 pins s σ H { D with nx:=u D } I h) fun f s1 q=>?_)
 cases f with
 | next=>
  obtain⟨σ',H',I',q⟩:=q
  exact h2 pins s1 σ' H' D I' q
 | ret v=>exact q
 | brk=>exact q
 | cont=>exact q
theorem aO (h1:PS X st t):PSs X [st] t:=by
 intro pins s σ H D I h
 refine wpAny_execs_cons (cI (h1 pins s σ H D I h) fun f s1 q=>?_)
 cases f with
 | next=>exact wpAny_execs_nil q
 | ret v=>exact q
 | brk=>exact q
 | cont=>exact q
theorem Inv.quiet {pins:List (Addr×Obj)}{σ:St}{H:Hp}{s:Shared} (I:Inv X pins σ H s):interactive X.env=false:=by simp [interactive,I.ok.kind]
noncomputable def tDrop (te:TE):TS:=fun D σ H=>te σ H fun _ H1=>D.nx σ H1
theorem cY (he:PE X e te) (hs:swapsWith e none pos.line X.env=pure false:=by rfl):PS X (.Expr e pos) (tDrop te):=by
 intro pins s σ H D I h
 exact wpAny_Expr_any (cI (he pins s σ H _ I h) fun v s1 ⟨x,H1,I1,r1,q1⟩=>⟨σ,H1,I1,q1⟩) I.quiet hs
noncomputable def tRet (te:TE):TS:=fun D σ H=>te σ H D.rt
theorem bV (he:PE X e te):PS X (.Return (some e) pos) (tRet te):=by
 intro pins s σ H D I h
 exact wpAny_Return_some (cI (he pins s σ H _ I h) fun v s1 ⟨x,H1,I1,r1,q1⟩=>⟨x,σ,H1,I1,r1,q1⟩)
noncomputable def tIfS (c:TT) (t u:TS):TS:=fun D σ H=>c σ H fun b H1=>if b=true then t D σ H1 else u D σ H1
theorem dP {c:Expr}{a b:List Stmt}{tc:TT} (hc:PT X c tc) (ha:PSs X a t) (hb:PSs X b u):PS X (.If c a b pos) (tIfS tc t u):=by
 intro pins s σ H D I h
 refine wpAny_If (cI (hc pins s σ H _ I h) fun d s1 ⟨H1,I1,q1⟩=>?_)
 cases d with
 | true=>exact ha pins s1 σ H1 D I1 q1
 | false=>exact hb pins s1 σ H1 D I1 q1
end
noncomputable abbrev TG:=V→St→Hp→(St→Hp→Prop)→Prop
noncomputable abbrev TGs:=List V→St→Hp→(St→Hp→Prop)→Prop
noncomputable def PG (X:Cx) (target:Expr) (t:TG):Prop:=
 ∀ (pins:List (Addr×Obj)) (s:Shared) (σ:St) (H:Hp) (v:V) (u:Value) (Q:St→Hp→Prop),Inv X pins σ H s→aY v u→t v σ H Q→
  wpAny (model X.prog X.w) X.A (assign target X.env u) (fun _ s'=>∃ σ' H',Inv X pins σ' H' s'∧Q σ' H') X.xe s
noncomputable def PGs (X:Cx) (ts:List Expr) (t:TGs):Prop:=
 ∀ (pins:List (Addr×Obj)) (s:Shared) (σ:St) (H:Hp) (vs:List V) (us:List Value) (Q:St→Hp→Prop),Inv X pins σ H s→bK vs us→t vs σ H Q→
  wpAny (model X.prog X.w) X.A (assignInOrder ((assignEach ts X.env).map (·.2)) us) (fun _ s'=>∃ σ' H',Inv X pins σ' H' s'∧Q σ' H') X.xe s
noncomputable abbrev TSet:=V→V→V→Hp→(Hp→Prop)→Prop
noncomputable def PSet (X:Cx) (t:TSet):Prop:=
 ∀ (pins:List (Addr×Obj)) (s:Shared) (σ:St) (H:Hp) (o i v:V) (ov iv u:Value) (Q:Hp→Prop),Inv X pins σ H s→aY o ov→aY i iv→aY v u→t o i v H Q→
  wpAny (model X.prog X.w) X.A (setItem ov iv u) (fun _ s'=>∃ H',Inv X pins σ H' s'∧Q H') X.xe s
noncomputable abbrev TIp:=V→V→Hp→VK→Prop
noncomputable def PIp (X:Cx) (op:Operator) (t:TIp):Prop:=
 ∀ (pins:List (Addr×Obj)) (s:Shared) (σ:St) (H:Hp) (x y:V) (v u:Value) (Q:VK),Inv X pins σ H s→aY x v→aY y u→t x y H Q→
  wpAny (model X.prog X.w) X.A (inplaceOp op v u) (EP X pins σ Q) X.xe s
section
variable {X:Cx}{pos:Pos}
noncomputable def gName (i:Nat):TG:=fun v σ H Q=>Q (σ.set i (some v)) H
theorem aH {i:Nat}{x:Str} (hN:X.N.Nodup) (hi:X.N[i]? = some x) (hx:Loc X.env.scope x) (hf:X.fn x=true∨X.env.scope.names.lookup x=some .local:=by first | exact .inl rfl | exact .inr rfl | assumption):PG X (.Name x pos) (gName i):=by
 intro pins s σ H v u Q I r h
 exact wpAny_assign_Name (store_ok I hN hi hx r (fun s' I'=>⟨_,H,I',h⟩) hf)
noncomputable def gNil:TGs:=fun vs σ H Q=>vs=[]∧Q σ H
noncomputable def gCons (t:TG) (u:TGs):TGs:=fun vs σ H Q=>∃ v r,vs=v::r∧t v σ H fun σ' H'=>u r σ' H' Q
theorem bL:PGs X [] gNil:=by
 intro pins s σ H vs us Q I r h
 obtain⟨e,h⟩:=h
 subst e
 cases r
 exact assignInOrder_nil ⟨σ,H,I,h⟩
theorem aK {e:Expr}{es:List Expr}{t:TG}{u:TGs} (h1:PG X e t) (h2:PGs X es u)
  (hs:(assignEach (e::es) X.env).map (·.2)=assign e X.env::(assignEach es X.env).map (·.2):=by rfl):PGs X (e::es) (gCons t u):=by
 intro pins s σ H vs us Q I r h
 obtain⟨v,vr,e1,h⟩:=h
 subst e1
 cases r with
 | cons r rr=>
  rw[hs]
  refine assignInOrder_cons (cI (h1 pins s σ H _ _ _ I r h) fun _ s1 ⟨σ1,H1,I1,q1⟩=>?_)
  exact h2 pins s1 σ1 H1 _ _ Q I1 rr q1
noncomputable def gTup (K:PySem.W.Frag) (n:Nat) (t:TGs):TG:=fun v σ H Q=>∃ a xs,v=.ref a∧bT K H a xs∧xs.length=n∧t xs σ H Q
theorem pg_tup {es:List Expr}{k:Nat}{t:TGs}{n:Nat} (hc:X.calm=true) (h:PGs X es t)
  (hn:(assignEach es X.env).length=n:=by rfl) (hst:(assignEach es X.env).findIdx? (·.1)=none:=by rfl):PG X (.Tuple es k pos) (gTup X.K n t):=by
 intro pins s σ H v u Q I r hw
 obtain⟨a,xs,e1,hq,hl,hw⟩:=hw
 subst e1
 cases r
 obtain⟨its,rv,ht,hz⟩:=I.tuple hq
 refine assign_Tuple_tuple (I.ok.hd hc) ht (by simp [hn,← hl,rv.length]) hst fun h' hx=>?_
 have I1:Inv X pins σ H { s with heap:=h' }:=I.kept (t':=s.toks) fun b o e=>hx b o (Nat.ne_of_lt (Heap.lt_size e)) e
 exact h pins _ σ H xs _ Q I1 (by simpa using rv) hw
noncomputable def gSub (to ti:TE) (t:TSet):TG:=fun v σ H Q=>to σ H fun o H1=>ti σ H1 fun i H2=>t o i v H2 fun H3=>Q σ H3
theorem pg_sub {o i:Expr}{to ti:TE}{t:TSet} (ho:PE X o to) (hi:PE X i ti) (hs:PSet X t)
  (ha:∀ v,assign (.Subscript o i pos) X.env v=(do
   let ov ← holding [v] (eval o X.env)
   let iv ← holding [v,ov] (eval i X.env)
   standAt pos
   holding [v,ov,iv] (setItem ov iv v)
   release [v,ov,iv] []):=by intro _;rfl):PG X (.Subscript o i pos) (gSub to ti t):=by
 intro pins s σ H v u Q I r h
 rw[ha]
 refine wpAny_bind (wpAny_holding (cI (ho pins s σ H _ I h) fun ov s1 ⟨x,H1,I1,r1,q1⟩=>?_))
 refine wpAny_bind (wpAny_holding (cI (hi pins s1 σ H1 _ I1 q1) fun iv s2 ⟨y,H2,I2,r2,q2⟩=>?_))
 refine wpAny_bind (wpAny_standAt (wpAny_bind (wpAny_holding (cI (hs pins s2 σ H2 x y v ov iv u _ I2 r1 r2 r q2) fun _ s3 ⟨H3,I3,q3⟩=>?_))))
 exact wpAny_release ⟨σ,H3,I3,q3⟩
noncomputable def tAsg (te:TE) (g:TG):TS:=fun D σ H=>te σ H fun x H1=>g x σ H1 D.nx
theorem cS {tg e:Expr}{te:TE}{g:TG} (he:PE X e te) (hg:PG X tg g) (hs:swapsWithSole [tg] e pos.line X.env=pure false:=by rfl) (hw:swappedStores [tg] e X.env=pure none:=by rfl)
  (h1:(assignEach [tg] X.env).map (·.2)=[assign tg X.env]:=by rfl):PS X (.Assign [tg] e pos) (tAsg te g):=by
 intro pins s σ H D I h
 refine wpAny_Assign_stores (cI (he pins s σ H _ I h) fun v s1 ⟨x,H1,I1,r1,q1⟩=>?_) hs hw
 rw[h1]
 exact cI (hg pins s1 σ H1 x v _ I1 r1 q1) fun _ s2 q=>q
theorem aS {i:Nat}{x:Str}{e:Expr}{te:TE}{pos':Pos} (hN:X.N.Nodup) (hi:X.N[i]? = some x) (hx:Loc X.env.scope x) (he:PE X e te) (hs:swapsWith e (some (.Name x pos')) pos.line X.env=pure false:=by rfl) (hf:X.fn x=true∨X.env.scope.names.lookup x=some .local:=by first | exact .inl rfl | exact .inr rfl | assumption) :
  PS X (.Assign [.Name x pos'] e pos) (tAsg te (gName i)):=by
 intro pins s σ H D I h
 refine wpAny_Assign_Name (cI (he pins s σ H _ I h) fun v s1 ⟨y,H1,I1,r1,q1⟩=>?_) hs
 exact store_ok I1 hN hi hx r1 (fun s2 I2=>⟨_,H1,I2,q1⟩) hf
noncomputable def tAug (i:Nat) (te:TE) (ti:TIp):TS:=fun D σ H=>∃ x,σ[i]? = some (some x)∧te σ H fun y H1=>ti x y H1 fun z H2=>D.nx (σ.set i (some z)) H2
theorem ps_aug {i:Nat}{x:Str}{e:Expr}{te:TE}{op:Operator}{ti:TIp}{pos':Pos} (hN:X.N.Nodup) (hi:X.N[i]? = some x) (hx:Loc X.env.scope x) (he:PE X e te) (ho:PIp X op ti) (hf:X.fn x=true∨X.env.scope.names.lookup x=some .local:=by first | exact .inl rfl | exact .inr rfl | assumption) :
  PS X (.AugAssign (.Name x pos') op e pos) (tAug i te ti):=by
 intro pins s σ H D I h
 obtain⟨v,e1,h⟩:=h
 obtain⟨m,hn,hl⟩:=I.loc
 have vis:Vis X.env.scope x:=by rcases hx with k | k;exact .inl k;exact .inr (.inl k)
 obtain⟨u,r,l⟩:=hl i x v hi e1 vis
 refine wpAny_AugAssign_Name ?_
 have go:wpAny (model X.prog X.w) X.A (eval e X.env) (fun w s₂=>wpAny (model X.prog X.w) X.A (inplaceOp op u w) (fun r s₃=>wpAny (model X.prog X.w) X.A (storeName X.env x r) (fun _=>SP X pins D .next) X.xe s₃) X.xe s₂) X.xe s:=by
  refine cI (he pins s σ H _ I h) fun w s1 ⟨y,H1,I1,r1,q1⟩=>?_
  refine cI (ho pins s1 σ H1 v y u w _ I1 r r1 q1) fun z s2 ⟨zv,H2,I2,r2,q2⟩=>?_
  exact store_ok I2 hN hi hx r2 (fun s3 I3=>⟨_,H2,I3,q2⟩) hf
 rcases l with ⟨hk,hm⟩ | ⟨hk,c,hc,hcell⟩
 ·exact wpAny_loadName_local I.ok.kind hk hn hm go
 ·rcases hk with hk | hk
  ·exact wpAny_loadName_cell I.ok.kind hk hc hcell go
  ·rcases hx with k | k
   ·have:X.env.scope.names.lookup x=some .free:=hk
    rw[k] at this;cases this
   ·have:X.env.scope.names.lookup x=some .free:=hk
    rw[k] at this;cases this
noncomputable def tAugS (to ti te:TE) (tget:V→V→Hp→VK→Prop) (tip:TIp) (tset:TSet):TS:=fun D σ H=>to σ H fun o H1=>ti σ H1 fun i H2=>tget o i H2 fun x H3=>te σ H3 fun y H4=>tip x y H4 fun z H5=>tset o i z H5 fun H6=>D.nx σ H6
noncomputable def PGet (X:Cx) (t:V→V→Hp→VK→Prop):Prop:=
 ∀ (pins:List (Addr×Obj)) (s:Shared) (σ:St) (H:Hp) (o i:V) (ov iv:Value) (Q:VK),Inv X pins σ H s→aY o ov→aY i iv→t o i H Q→
  wpAny (model X.prog X.w) X.A (getItem ov iv) (EP X pins σ Q) X.xe s
theorem ps_augS {o i e:Expr}{to ti te:TE}{tget:V→V→Hp→VK→Prop}{tip:TIp}{tset:TSet}{op:Operator}{tpos:Pos} (ho:PE X o to) (hi:PE X i ti) (hg:PGet X tget) (he:PE X e te) (hp:PIp X op tip) (hs:PSet X tset)
  (ha:∀ ov iv new,augStore i ov iv new=(do holding [new,ov,iv] (setItem ov iv new);release [new,ov,iv] [];pure .next):=by intros;rfl):PS X (.AugAssign (.Subscript o i tpos) op e pos) (tAugS to ti te tget tip tset):=by
 intro pins s σ H D I h
 refine wpAny_AugAssign_SubscriptAny (cI (ho pins s σ H _ I h) fun ov s1 ⟨x1,H1,I1,r1,q1⟩=>?_) ha
 refine cI (hi pins s1 σ H1 _ I1 q1) fun iv s2 ⟨x2,H2,I2,r2,q2⟩=>?_
 refine cI (hg pins s2 σ H2 x1 x2 ov iv _ I2 r1 r2 q2) fun old s3 ⟨x3,H3,I3,r3,q3⟩=>?_
 refine cI (he pins s3 σ H3 _ I3 q3) fun v s4 ⟨x4,H4,I4,r4,q4⟩=>?_
 refine cI (hp pins s4 σ H4 x3 x4 old v _ I4 r3 r4 q4) fun new s5 ⟨x5,H5,I5,r5,q5⟩=>?_
 exact cI (hs pins s5 σ H5 x1 x2 x5 ov iv new _ I5 r1 r2 r5 q5) fun _ s6 ⟨H6,I6,q6⟩=>⟨σ,H6,I6,q6⟩
noncomputable def ipI (f:Int→Int→Int):TIp:=fun x y H Q=>∃ i j,x=.int i∧y=.int j∧Q (.int (f i j)) H
theorem ip_add:PIp X .Add (ipI fun i j=>i+j):=by
 intro pins s σ H x y v u Q I r1 r2 h
 obtain⟨i,j,e1,e2,q⟩:=h
 subst e1;subst e2
 obtain⟨t,rfl⟩:=r1
 obtain⟨t',rfl⟩:=r2
 exact iadd_int ⟨.int _,H,I.tok _,⟨_,rfl⟩,q⟩
theorem ip_sub:PIp X .Sub (ipI fun i j=>i - j):=by
 intro pins s σ H x y v u Q I r1 r2 h
 obtain⟨i,j,e1,e2,q⟩:=h
 subst e1;subst e2
 obtain⟨t,rfl⟩:=r1
 obtain⟨t',rfl⟩:=r2
 exact isub_int ⟨.int _,H,I.tok _,⟨_,rfl⟩,q⟩
end
section
variable {X:Cx}{pos:Pos}
noncomputable def tWhile (c:TT) (tb:TS):TS:=fun D σ H=>∃ W:Nat→St→Hp→Prop,(∃ m,W m σ H)∧∀ m σ H,W m σ H→
 c σ H fun b H1=>if b=true then ∃ N:St→Hp→Prop,(∀ σ' H',N σ' H'→∃ m',m' < m∧W m' σ' H')∧tb { D with nx:=N,ct:=N,bk:=D.nx } σ H1 else D.nx σ H1
theorem ps_while {c:Expr}{body:List Stmt}{tc:TT}{tb:TS} (hp:PassesOwn (model X.prog X.w) X.A X.env X.xe) (hc:PT X c tc) (hb:PSs X body tb):PS X (.While c body [] pos) (tWhile tc tb):=by
 intro pins s σ H D I h
 obtain⟨W,⟨m0,w0⟩,turn⟩:=h
 refine wpAny_While (codeAny_whileLoop (fun n s'=>∃ σ' H',Inv X pins σ' H' s'∧W n σ' H') ?_ m0 ⟨σ,H,I,w0⟩)
 rintro n s1 ⟨σ1,H1,I1,w1⟩
 refine wpAny_passesOwn hp (cI (hc pins s1 σ1 H1 _ I1 (turn n σ1 H1 w1)) fun b s2 ⟨H2,I2,q2⟩=>?_)
 cases b with
 | true=>
  obtain⟨N,hN,q2⟩:=q2
  rw[if_pos rfl]
  refine wpAny_passesOwn hp (cI (hb pins s2 σ1 H2 _ I2 q2) fun f s3 q3=>?_)
  cases f with
  | next=>
   obtain⟨σ3,H3,I3,n3⟩:=q3
   obtain⟨m',hm,w3⟩:=hN σ3 H3 n3
   exact⟨m',hm,σ3,H3,I3,w3⟩
  | cont=>
   obtain⟨σ3,H3,I3,n3⟩:=q3
   obtain⟨m',hm,w3⟩:=hN σ3 H3 n3
   exact⟨m',hm,σ3,H3,I3,w3⟩
  | brk=>exact q3
  | ret v=>exact q3
 | false=>
  rw[if_neg Bool.false_ne_true]
  exact wpAny_execs_nil ⟨σ1,H2,I2,q2⟩
end
structure It where
 go:Nat→Hp→Prop
 yld:Nat→Hp→V→Hp→Prop
 stop:Nat→Hp→Prop
noncomputable def FpOk (X:Cx) (pins:List (Addr×Obj)) (H:Hp) (b:Addr):Prop:=
 H b=none∧b≠X.env.locals∧b∉X.fs∧(b∈X.ex∨X.s₀.heap.objs.size≤b)∧(∀ x c,X.env.cells.lookup x=some c→c≠b)∧∀ p∈X.pn++pins,p.1≠b
theorem Inv.fpOk {X:Cx}{pins:List (Addr×Obj)}{σ:St}{H H':Hp}{s:Shared}{b:Addr} (I:Inv X pins σ H s) (hb:s.heap.objs.size≤b) (hn:H' b=none):FpOk X pins H' b:=by
 refine⟨hn,Nat.ne_of_gt (Nat.lt_of_lt_of_le I.lt hb),I.nofs hb,.inr (Nat.le_trans I.sz hb),fun x c e z=>?_,fun p hp z=>?_⟩
 ·obtain⟨v,q⟩:=I.cell x c e
  exact absurd (Nat.lt_of_lt_of_le q.lt (by rw[z];exact hb)) (Nat.lt_irrefl _)
 ·exact absurd (Nat.lt_of_lt_of_le (Heap.lt_size (I.pin p hp).1) (by rw[z];exact hb)) (Nat.lt_irrefl _)
structure Turn (P:Program) (w:World) (K:PySem.W.Frag) (tg:Expr) (J:It) (fp:List Addr) (it:Addr) (tn:Nat→Heap→Prop):Prop where
 mem:it∈fp
 obj:∀ i h,tn i h→∀ b∈fp,∃ o,h.get? b=some o∧∀ v,o.data≠.cell v
 keep:∀ i h h',tn i h→(∀ b∈fp,∀ o,h.get? b=some o→h'.get? b=some o)→tn i h'
 item:∀ (X:Cx),X.prog=P→X.w=w→X.K=K→X.calm=true→∀ (i:Nat) (pins:List (Addr×Obj)) (s:Shared) (σ:St) (H:Hp) (E:Value→Shared→Prop),Inv X pins σ H s→(∀ b∈fp,FpOk X pins H b)→tn i s.heap→J.go i H→
  wpAny (model P w) X.A (pyNext (.ref it)) (fun r s1=>∃ u,r=some u∧
   wpAny (model P w) X.A (letOwnedTupleGo tg (.ref it) u) (fun _ s2=>∃ x H',Inv X pins σ H' s2∧aY x u∧J.yld i H x H'∧tn (i+1) s2.heap∧∀ b∈fp,H' b=none) E s1) E s
 done:∀ (X:Cx),X.prog=P→X.w=w→X.K=K→X.calm=true→∀ (i:Nat) (pins:List (Addr×Obj)) (s:Shared) (σ:St) (H:Hp) (E:Value→Shared→Prop),Inv X pins σ H s→(∀ b∈fp,FpOk X pins H b)→tn i s.heap→J.stop i H→
  wpAny (model P w) X.A (pyNext (.ref it)) (fun r s1=>r=none∧Inv X pins σ H s1) E s
 self:∀ (A:Around) (i:Nat) (s:Shared) (Q:Value→Shared→Prop) (E:Value→Shared→Prop),tn i s.heap→Q (.ref it) s→wpAny (model P w) A (pyIter (.ref it)) Q E s
noncomputable abbrev TI:=St→Hp→(It→Hp→Prop)→Prop
noncomputable def PIE (X:Cx) (pins:List (Addr×Obj)) (σ:St) (tg:Expr) (R:It→Hp→Prop) (itv:Value) (s2:Shared):Prop:=
 ∃ (it:Addr) (fp:List Addr) (tn:Nat→Heap→Prop) (J:It) (H':Hp),itv=.ref it∧Inv X pins σ H' s2∧Turn X.prog X.w X.K tg J fp it tn∧tn 0 s2.heap∧(∀ b∈fp,FpOk X pins H' b)∧R J H'
noncomputable def PI (X:Cx) (tg iter:Expr) (wi:TI):Prop:=
 ∀ (pins:List (Addr×Obj)) (s:Shared) (σ:St) (H:Hp) (R:It→Hp→Prop),Inv X pins σ H s→wi σ H R→
  wpAny (model X.prog X.w) X.A (eval iter X.env) (fun v s1=>wpAny (model X.prog X.w) X.A (pyIter v) (PIE X pins σ tg R) X.xe s1) X.xe s
theorem go_of {M:Model}{A:Around}{E:Value→Shared→Prop}{s:Shared}{tg:Expr}{it:Addr}{u:Value}{o:Obj}{n:String}{vs:Array Value}{Q:Unit→Shared→Prop} (ho:s.heap.get? it=some o) (hc:o.cls=.type n) (hd:o.data=.fields vs)
  (hn:["enumerate","zip","dict_itemiterator","dict_reverseitemiterator","odict_iterator","itertools.zip_longest","itertools.pairwise"].contains n=false) (hQ:Q () s):wpAny M A (letOwnedTupleGo tg (.ref it) u) Q E s:=by
 unfold letOwnedTupleGo
 cases tg <;> first
  | exact wpAny_pure hQ
  | (cases u <;> first
    | exact wpAny_pure hQ
    | (refine wpAny_bind (wpAny_load ho ?_)
       rw[hc,hd]
       show wpAny M A (if (["enumerate","zip","dict_itemiterator","dict_reverseitemiterator","odict_iterator","itertools.zip_longest","itertools.pairwise"].contains n && vs[0]? == some (rawInt _))=true then _ else _) Q E s
       rw[if_neg (by intro h;rw[hn,Bool.false_and] at h;cases h)]
       exact wpAny_pure hQ))
noncomputable def Itl (K:PySem.W.Frag) (a:Addr):It:=
 ⟨fun i H=>∃ xs x,bZ K H a xs∧xs[i]? = some x,fun i H x H'=>H'=H∧∀ xs,bZ K H a xs→xs[i]? = some x,fun i H=>∃ xs,bZ K H a xs∧xs.length≤i⟩
noncomputable def Itt (K:PySem.W.Frag) (a:Addr):It:=
 ⟨fun i H=>∃ xs x,bT K H a xs∧xs[i]? = some x,fun i H x H'=>H'=H∧∀ xs,bT K H a xs→xs[i]? = some x,fun i H=>∃ xs,bT K H a xs∧xs.length≤i⟩
noncomputable def Itr (lo:Int) (n:Nat):It:=⟨fun i _=>i < n,fun i H x H'=>H'=H∧x=.int (lo+i),fun i _=>n≤i⟩
theorem turn_list {P:Program}{w:World}{K:PySem.W.Frag}{tg:Expr} (a it:Addr):Turn P w K tg (Itl K a) [it] it (fun i h=>h.IsListIter it a i) where
 mem:=by simp
 obj:=fun i h st b hb=>by
  have e:b=it:=by simpa using hb
  subst e
  obtain⟨o,e,c,d⟩:=st
  exact⟨o,e,fun v z=>by rw[d] at z;cases z⟩
 keep:=fun i h h' st k=>st.at fun o e=>k it (by simp) o e
 item:=by
  intro X hP hw hK hc i pins s σ H E I hf st hg
  subst hP hw hK
  obtain⟨xs,x,hq,hx⟩:=hg
  obtain⟨its,rv,p,hz⟩:=I.list hq
  obtain⟨u,hu,ru⟩:=rv.get hx
  obtain⟨f0,f1,f2,f3,f4,f5⟩:=hf it (by simp)
  refine wpAny_pyNext_list_item st p.isList (x:=u) (by simpa using hu) fun h' st' sb=>?_
  have I1:Inv X pins σ H { s with heap:=h' }:=I.turned (t':=s.toks) (fun b o hb e=>(sb.2 b hb).trans e) f0 f1 f3 f4 f5
  obtain⟨o,e,c,d⟩:=id st'
  exact⟨u,rfl,go_of (s:={ s with heap:=h' }) e c d (by decide) ⟨x,H,I1,ru,⟨rfl,fun ys hy=>by rw[I.list_inj hy hq];exact hx⟩,st',fun b hb=>(hf b hb).1⟩⟩
 done:=by
  intro X hP hw hK hc i pins s σ H E I hf st hg
  subst hP hw hK
  obtain⟨xs,hq,hx⟩:=hg
  obtain⟨its,rv,p,hz⟩:=I.list hq
  obtain⟨f0,f1,f2,f3,f4,f5⟩:=hf it (by simp)
  have hl:=rv.length
  exact wpAny_pyNext_list_end (I.ok.hd hc) st p.isList (by simp;omega) fun h' eb=>⟨rfl,I.turned (t':=s.toks) (fun b o hb e=>eb b o hb e) f0 f1 f3 f4 f5⟩
 self:=fun _ _ _ _ _ st h=>wpAny_pyIter_listiter st h
theorem turn_tuple {P:Program}{w:World}{K:PySem.W.Frag}{tg:Expr} (a it:Addr):Turn P w K tg (Itt K a) [it] it (fun i h=>h.IsTupleIter it a i) where
 mem:=by simp
 obj:=fun i h st b hb=>by
  have e:b=it:=by simpa using hb
  subst e
  obtain⟨o,e,c,d⟩:=st
  exact⟨o,e,fun v z=>by rw[d] at z;cases z⟩
 keep:=fun i h h' st k=>st.at fun o e=>k it (by simp) o e
 item:=by
  intro X hP hw hK hc i pins s σ H E I hf st hg
  subst hP hw hK
  obtain⟨xs,x,hq,hx⟩:=hg
  obtain⟨its,rv,p,hz⟩:=I.tuple hq
  obtain⟨u,hu,ru⟩:=rv.get hx
  obtain⟨f0,f1,f2,f3,f4,f5⟩:=hf it (by simp)
  refine wpAny_pyNext_tuple_item st (show s.heap.IsTuple a its.toArray from p) (x:=u) (by simpa using hu) fun h' st' sb=>?_
  have I1:Inv X pins σ H { s with heap:=h' }:=I.turned (t':=s.toks) (fun b o hb e=>(sb.2 b hb).trans e) f0 f1 f3 f4 f5
  obtain⟨o,e,c,d⟩:=id st'
  exact⟨u,rfl,go_of (s:={ s with heap:=h' }) e c d (by decide) ⟨x,H,I1,ru,⟨rfl,fun ys hy=>by rw[I.tuple_inj hy hq];exact hx⟩,st',fun b hb=>(hf b hb).1⟩⟩
 done:=by
  intro X hP hw hK hc i pins s σ H E I hf st hg
  subst hP hw hK
  obtain⟨xs,hq,hx⟩:=hg
  obtain⟨its,rv,p,hz⟩:=I.tuple hq
  obtain⟨f0,f1,f2,f3,f4,f5⟩:=hf it (by simp)
  have hl:=rv.length
  exact wpAny_pyNext_tuple_end (I.ok.hd hc) st (show s.heap.IsTuple a its.toArray from p) (by simp;omega) fun h' eb=>⟨rfl,I.turned (t':=s.toks) (fun b o hb e=>eb b o hb e) f0 f1 f3 f4 f5⟩
 self:=fun _ _ _ _ _ st h=>wpAny_pyIter_tupleiter st h
theorem turn_range {P:Program}{w:World}{K:PySem.W.Frag}{tg:Expr} (it:Addr) (lo:Int) (n:Nat):Turn P w K tg (Itr lo n) [it] it (fun i h=>IsRangeIter h it (lo+(i:Nat) * 1) ((n:Int) - (i:Nat)) 1) where
 mem:=by simp
 obj:=fun i h st b hb=>by
  have e:b=it:=by simpa using hb
  subst e
  exact⟨_,st,fun v z=>by
   have z':Data.fields _=Data.cell v:=z
   cases z'⟩
 keep:=fun i h h' st k=>k it (by simp) _ st
 item:=by
  intro X hP hw hK hc i pins s σ H E I hf st hg
  subst hP hw hK
  obtain⟨f0,f1,f2,f3,f4,f5⟩:=hf it (by simp)
  have W:=Walks.range (prog:=X.prog) (w:=X.w) (I.ok.hd hc) it lo 1 n
  refine W.item i s _ _ hg st fun v h' tk hv st' kk=>?_
  obtain⟨t,rfl⟩:=hv
  have I1:Inv X pins σ H { s with heap:=h',toks:=tk }:=I.turned (fun b o hb e=>kk b o (by simpa using hb) e) f0 f1 f3 f4 f5
  refine⟨_,rfl,go_of (s:={ s with heap:=h',toks:=tk }) (n := "range_iterator") st' rfl rfl (by decide) ⟨.int (lo+i),H,I1,⟨t,?_⟩,⟨rfl,rfl⟩,st',fun b hb=>(hf b hb).1⟩⟩
  rw[Int.mul_one]
 done:=by
  intro X hP hw hK hc i pins s σ H E I hf st hg
  subst hP hw hK
  obtain⟨f0,f1,f2,f3,f4,f5⟩:=hf it (by simp)
  exact wpAny_pyNext_range_end (I.ok.hd hc) st (by have:n≤i:=hg;omega) fun h' eb=>⟨rfl,I.turned (t':=s.toks) (fun b o hb e=>eb b o hb e) f0 f1 f3 f4 f5⟩
 self:=fun _ _ _ _ _ st h=>wpAny_pyIter_rangeiter st h
end L2
namespace L2
open PySem PySem.Spec PyProof.Rows
section
variable {X:Cx}{tg:Expr}
noncomputable def iList (K:PySem.W.Frag) (tl:TE):TI:=fun σ H R=>tl σ H fun x H1=>∃ a,x=.ref a∧(∃ xs,bZ K H1 a xs)∧R (Itl K a) H1
noncomputable def iTup (K:PySem.W.Frag) (tl:TE):TI:=fun σ H R=>tl σ H fun x H1=>∃ a,x=.ref a∧(∃ xs,bT K H1 a xs)∧R (Itt K a) H1
theorem pi_list {l:Expr}{tl:TE} (hl:PE X l tl):PI X tg l (iList X.K tl):=by
 intro pins s σ H R I h
 refine cI (hl pins s σ H _ I h) fun v s1 ⟨x,H1,I1,r1,q1⟩=>?_
 obtain⟨a,e,⟨xs,hq⟩,q⟩:=q1
 subst e
 cases r1
 obtain⟨its,rv,p,hz⟩:=I1.list hq
 refine wpAny_pyIter_list p.isList ?_
 refine⟨s1.heap.objs.size,[s1.heap.objs.size],_,_,H1,rfl,I1.kept (t':=s1.toks) fun b o e=>Heap.get?_push_of_some _ e,turn_list a _,⟨_,Heap.get?_push_size _ rfl,rfl,rfl⟩,fun b hb=>?_,q⟩
 have e:b=s1.heap.objs.size:=by simpa using hb
 subst e
 exact I1.fpOk (Nat.le_refl _) (I1.hok.fresh (Nat.le_refl _))
theorem pi_tup {l:Expr}{tl:TE} (hl:PE X l tl):PI X tg l (iTup X.K tl):=by
 intro pins s σ H R I h
 refine cI (hl pins s σ H _ I h) fun v s1 ⟨x,H1,I1,r1,q1⟩=>?_
 obtain⟨a,e,⟨xs,hq⟩,q⟩:=q1
 subst e
 cases r1
 obtain⟨its,rv,p,hz⟩:=I1.tuple hq
 refine wpAny_pyIter_tuple (show s1.heap.IsTuple a its.toArray from p) ?_
 refine⟨s1.heap.objs.size,[s1.heap.objs.size],_,_,H1,rfl,I1.kept (t':=s1.toks) fun b o e=>Heap.get?_push_of_some _ e,turn_tuple a _,⟨_,Heap.get?_push_size _ rfl,rfl,rfl⟩,fun b hb=>?_,q⟩
 have e:b=s1.heap.objs.size:=by simpa using hb
 subst e
 exact I1.fpOk (Nat.le_refl _) (I1.hok.fresh (Nat.le_refl _))
theorem range_it {pins:List (Addr×Obj)}{σ:St}{H:Hp}{s:Shared}{R:It→Hp→Prop}{E:Value→Shared→Prop}{lo hi:Int}{t u v:Tok}{tk:Nat} (I:Inv X pins σ H s) (h1 : -(2 ^ 62)≤lo) (h2:lo < 2 ^ 62) (h3 : -(2 ^ 62)≤hi) (h4:hi < 2 ^ 62)
  (q:R (Itr lo (hi - lo).toNat) H):wpAny (model X.prog X.w) X.A (pyIter (.ref s.heap.objs.size)) (PIE X pins σ tg R) E { s with heap:=s.heap.push { cls:=.type "range",data:=.fields #[.int lo t,.int hi u,.int 1 v] },toks:=tk }:=by
 refine wpAny_pyIter_range (IsRange.new ..) (small_one h1 h2 h3 h4) ?_
 have I1:Inv X pins σ H { s with heap:=s.heap.push { cls:=.type "range",data:=.fields #[.int lo t,.int hi u,.int 1 v] },toks:=tk }:=I.kept fun b o e=>Heap.get?_push_of_some _ e
 refine⟨(s.heap.push { cls:=.type "range",data:=.fields #[.int lo t,.int hi u,.int 1 v] }).objs.size,[(s.heap.push { cls:=.type "range",data:=.fields #[.int lo t,.int hi u,.int 1 v] }).objs.size],_,_,H,rfl,
  I1.kept (t':=tk) fun b o e=>Heap.get?_push_of_some _ e,turn_range _ lo (hi - lo).toNat,?_,fun b hb=>?_,q⟩
 ·have e1:lo+((0:Nat):Int) * 1=lo:=by simp
  have e2:(((hi - lo).toNat:Nat):Int) - ((0:Nat):Int)=Builtin.Range.rangeSize lo hi 1:=by rw[rangeSize_one];split <;> omega
  show IsRangeIter _ _ (lo+((0:Nat):Int) * 1) ((((hi - lo).toNat:Nat):Int) - ((0:Nat):Int)) 1
  rw[e1,e2]
  exact Heap.get?_push_size _ rfl
 ·have e:b=(s.heap.push { cls:=.type "range",data:=.fields #[.int lo t,.int hi u,.int 1 v] }).objs.size:=by simpa using hb
  subst e
  exact I1.fpOk (Nat.le_refl _) (I1.hok.fresh (Nat.le_refl _))
noncomputable def iRng1 (ta:TA):TI:=fun σ H R=>ta σ H fun vs H1=>∃ j:Int,vs=[.int j]∧-(2 ^ 62)≤j∧j < 2 ^ 62∧R (Itr 0 j.toNat) H1
theorem cD {a:Expr}{ta:TA}{p pos:Pos} (hg:Gl X "range") (hm:X.mg "range" = none) (ha:PA X [a] ta) (hs:starEach [a] X.env=[(false,eval a X.env)]:=by rfl):PI X tg (.Call (.Name "range" p) [a] [] pos) (iRng1 ta):=by
 intro pins s σ H R I h
 refine Call_ (ld_blt I hg hm boot_range (PyProof.Rows.callWith_type1 (cI (ha pos pins s σ H _ I h) fun us s1 ⟨vs,H1,I1,r1,q1⟩=>?_) hs rfl))
 obtain⟨j,e,q1,q2,q⟩:=q1
 subst e
 cases r1 with
 | cons r rr=>
  cases rr
  obtain⟨t,rfl⟩:=r
  exact call_range_1 (range_it I1 (by omega) (by omega) q1 q2 (by simpa using q))
noncomputable def tFor (wi:TI) (g:TG) (tb:TS):TS:=fun D σ H=>wi σ H fun J H1=>∃ W:Nat→Nat→St→Hp→Prop,(∃ m,W 0 m σ H1)∧∀ i m σ H,W i m σ H→
 (J.stop i H∧D.nx σ H)∨(J.go i H∧∃ N:St→Hp→Prop,(∀ σ' H',N σ' H'→∃ m',m' < m∧W (i+1) m' σ' H')∧∀ x H',J.yld i H x H'→g x σ H' fun σ2 H2=>tb { D with nx:=N,ct:=N,bk:=D.nx } σ2 H2)
noncomputable def pinsAt (fp:List Addr) (h:Heap):List (Addr×Obj):=fp.filterMap fun b=>(h.get? b).map fun o=>(b,o)
theorem mem_pinsAt {fp:List Addr}{h:Heap}{b:Addr}{o:Obj} (hb:b∈fp) (e:h.get? b=some o):(b,o)∈pinsAt fp h:=List.mem_filterMap.mpr ⟨b,hb,by rw[e];rfl⟩
theorem of_pinsAt {fp:List Addr}{h:Heap}{p:Addr×Obj} (hp:p∈pinsAt fp h):p.1∈fp∧h.get? p.1=some p.2:=by
 obtain⟨b,hb,e⟩:=List.mem_filterMap.mp hp
 cases q:h.get? b with
 | none=>rw[q] at e;cases e
 | some o=>
  rw[q] at e
  have e':(b,o)=p:=Option.some.inj e
  subst e'
  exact⟨hb,q⟩
theorem Inv.pinned {pins:List (Addr×Obj)}{σ:St}{H:Hp}{s:Shared}{fp:List Addr} (I:Inv X pins σ H s) (hf:∀ b∈fp,FpOk X pins H b) (ho:∀ b∈fp,∃ o,s.heap.get? b=some o∧∀ v,o.data≠.cell v):Inv X (pins++pinsAt fp s.heap) σ H s:=
 I.pins_of fun p hp=>(List.mem_append.mp hp).elim (fun z=>I.pin p (List.mem_append_right _ z)) fun z=>by
  obtain⟨hb,e⟩:=of_pinsAt z
  obtain⟨f0,f1,f2,_⟩:=hf p.1 hb
  obtain⟨o,e',d⟩:=ho p.1 hb
  rw[e] at e';cases e'
  exact⟨e,f0,f1,f2,d⟩
theorem Inv.unpinned {pins pl:List (Addr×Obj)}{σ:St}{H:Hp}{s:Shared} (I:Inv X (pins++pl) σ H s):Inv X pins σ H s:=I.pins_of fun p hp=>I.pin p (List.mem_append_right _ (List.mem_append_left _ hp))
theorem dH {iter:Expr}{body:List Stmt}{wi:TI}{g:TG}{tb:TS}{pos:Pos} (hp:PassesOwn (model X.prog X.w) X.A X.env X.xe) (hc:X.calm=true) (hi:PI X tg iter wi) (hg:PG X tg g) (hb:PSs X body tb)
  (hs:∀ x,foldedSetIterable iter X.env x=pure x:=by intro _;rfl):PS X (.For tg iter body [] pos) (tFor wi g tb):=by
 intro pins s σ H D I h
 refine wpAny_For (cI (hi pins s σ H _ I h) fun v s1 h1=>cI h1 fun itv s2 h2=>?_) hs
 obtain⟨it,fp,tn,J,H2,e,I2,T,st2,f2,W,⟨m0,w0⟩,turn⟩:=h2
 subst e
 have stat:∀ {H':Hp},(∀ b∈fp,H' b=none)→∀ b∈fp,FpOk X pins H' b:=fun hn b hb=>⟨hn b hb,(f2 b hb).2⟩
 refine codeAny_forLoop_any (fun n s'=>∃ i σ' H',Inv X pins σ' H' s'∧tn i s'.heap∧(∀ b∈fp,H' b=none)∧W i n σ' H') ?_ m0 ⟨0,σ,H2,I2,st2,fun b hb=>(f2 b hb).1,w0⟩
 rintro n s3 ⟨i,σ3,H3,I3,st3,fr3,w3⟩
 rcases turn i n σ3 H3 w3 with ⟨stop,qn⟩ | ⟨go,N,hN,step⟩
 ·refine wpAny_passesOwn hp (cI (T.done X rfl rfl rfl hc i pins s3 σ3 H3 X.xe I3 (stat fr3) st3 stop) fun r s4 ⟨hr,I4⟩=>?_)
  subst hr
  exact wpAny_execs_nil ⟨σ3,H3,I4,qn⟩
 ·refine wpAny_passesOwn hp (cI (T.item X rfl rfl rfl hc i pins s3 σ3 H3 X.xe I3 (stat fr3) st3 go) fun r s4 ⟨u,hr,h4⟩=>?_)
  subst hr
  refine wpAny_passesOwn hp (cI h4 fun _ s5 ⟨x,H5,I5,r5,y5,st5,fr5⟩=>?_)
  have I5':=I5.pinned (stat fr5) (T.obj _ _ st5)
  refine wpAny_passesOwn hp (cI (hg _ s5 σ3 H5 x u _ I5' r5 (step x H5 y5)) fun _ s6 ⟨σ6,H6,I6,q6⟩=>?_)
  refine wpAny_passesOwn hp (cI (hb _ s6 σ6 H6 _ I6 q6) fun f s7 q7=>?_)
  have again:∀ {σ7:St}{H7:Hp},Inv X (pins++pinsAt fp s5.heap) σ7 H7 s7→N σ7 H7→∃ m,m < n∧∃ i σ' H',Inv X pins σ' H' s7∧tn i s7.heap∧(∀ b∈fp,H' b=none)∧W i m σ' H':=fun {σ7 H7} I7 n7=>by
   obtain⟨m',hm,w7⟩:=hN σ7 H7 n7
   refine⟨m',hm,i+1,σ7,H7,I7.unpinned,T.keep _ _ _ st5 fun b hb o e=>(I7.pin (b,o) (List.mem_append_right _ (List.mem_append_right _ (mem_pinsAt hb e)))).1,fun b hb=>?_,w7⟩
   obtain⟨o,e,d⟩:=T.obj _ _ st5 b hb
   exact (I7.pin (b,o) (List.mem_append_right _ (List.mem_append_right _ (mem_pinsAt hb e)))).2.1
  cases f with
  | next=>obtain⟨σ7,H7,I7,n7⟩:=q7;exact again I7 n7
  | cont=>obtain⟨σ7,H7,I7,n7⟩:=q7;exact again I7 n7
  | brk=>obtain⟨σ7,H7,I7,q7⟩:=q7;exact⟨σ7,H7,I7.unpinned,q7⟩
  | ret v=>obtain⟨x7,σ7,H7,I7,r7,q7⟩:=q7;exact⟨x7,σ7,H7,I7.unpinned,r7,q7⟩
end
theorem for_list {K:PySem.W.Frag}{a:Addr}{xs:List V}{g:TG}{tb:TS}{D:Ends}{σ:St}{H:Hp} (Pv:Nat→St→Hp→Prop) (h0:Pv 0 σ H) (hl:∀ i σ H,i≤xs.length→Pv i σ H→bZ K H a xs)
  (hs:∀ i x σ H,xs[i]? = some x→Pv i σ H→g x σ H fun σ2 H2=>tb { D with nx:=Pv (i+1),ct:=Pv (i+1),bk:=D.nx } σ2 H2) (hd:∀ σ H,Pv xs.length σ H→D.nx σ H) :
  ∃ W:Nat→Nat→St→Hp→Prop,(∃ m,W 0 m σ H)∧∀ i m σ H,W i m σ H→
   ((Itl K a).stop i H∧D.nx σ H)∨((Itl K a).go i H∧∃ N:St→Hp→Prop,(∀ σ' H',N σ' H'→∃ m',m' < m∧W (i+1) m' σ' H')∧∀ x H',(Itl K a).yld i H x H'→g x σ H' fun σ2 H2=>tb { D with nx:=N,ct:=N,bk:=D.nx } σ2 H2):=by
 refine⟨fun i m σ H=>m=xs.length - i∧i≤xs.length∧Pv i σ H,⟨xs.length,by simp,Nat.zero_le _,h0⟩,?_⟩
 rintro i m σ H ⟨rfl,hi,p⟩
 have q:=hl i σ H hi p
 by_cases hlt:i < xs.length
 ·refine .inr ⟨⟨xs,xs[i],q,by simp [hlt]⟩,Pv (i+1),fun σ' H' p'=>⟨xs.length - (i+1),by omega,rfl,hlt,p'⟩,fun x H' y=>?_⟩
  obtain⟨e,y⟩:=y
  subst e
  exact hs i x σ _ (y xs q) p
 ·have e:i=xs.length:=by omega
  subst e
  exact .inl ⟨⟨xs,q,Nat.le_refl _⟩,hd σ H p⟩
theorem for_tup {K:PySem.W.Frag}{a:Addr}{xs:List V}{g:TG}{tb:TS}{D:Ends}{σ:St}{H:Hp} (Pv:Nat→St→Hp→Prop) (h0:Pv 0 σ H) (hl:∀ i σ H,i≤xs.length→Pv i σ H→bT K H a xs)
  (hs:∀ i x σ H,xs[i]? = some x→Pv i σ H→g x σ H fun σ2 H2=>tb { D with nx:=Pv (i+1),ct:=Pv (i+1),bk:=D.nx } σ2 H2) (hd:∀ σ H,Pv xs.length σ H→D.nx σ H) :
  ∃ W:Nat→Nat→St→Hp→Prop,(∃ m,W 0 m σ H)∧∀ i m σ H,W i m σ H→
   ((Itt K a).stop i H∧D.nx σ H)∨((Itt K a).go i H∧∃ N:St→Hp→Prop,(∀ σ' H',N σ' H'→∃ m',m' < m∧W (i+1) m' σ' H')∧∀ x H',(Itt K a).yld i H x H'→g x σ H' fun σ2 H2=>tb { D with nx:=N,ct:=N,bk:=D.nx } σ2 H2):=by
 refine⟨fun i m σ H=>m=xs.length - i∧i≤xs.length∧Pv i σ H,⟨xs.length,by simp,Nat.zero_le _,h0⟩,?_⟩
 rintro i m σ H ⟨rfl,hi,p⟩
 have q:=hl i σ H hi p
 by_cases hlt:i < xs.length
 ·refine .inr ⟨⟨xs,xs[i],q,by simp [hlt]⟩,Pv (i+1),fun σ' H' p'=>⟨xs.length - (i+1),by omega,rfl,hlt,p'⟩,fun x H' y=>?_⟩
  obtain⟨e,y⟩:=y
  subst e
  exact hs i x σ _ (y xs q) p
 ·have e:i=xs.length:=by omega
  subst e
  exact .inl ⟨⟨xs,q,Nat.le_refl _⟩,hd σ H p⟩
theorem dZ {lo:Int}{n:Nat}{g:TG}{tb:TS}{D:Ends}{σ:St}{H:Hp} (Pv:Nat→St→Hp→Prop) (h0:Pv 0 σ H)
  (hs:∀ i σ H,i < n→Pv i σ H→g (.int (lo+i)) σ H fun σ2 H2=>tb { D with nx:=Pv (i+1),ct:=Pv (i+1),bk:=D.nx } σ2 H2) (hd:∀ σ H,Pv n σ H→D.nx σ H) :
  ∃ W:Nat→Nat→St→Hp→Prop,(∃ m,W 0 m σ H)∧∀ i m σ H,W i m σ H→
   ((Itr lo n).stop i H∧D.nx σ H)∨((Itr lo n).go i H∧∃ N:St→Hp→Prop,(∀ σ' H',N σ' H'→∃ m',m' < m∧W (i+1) m' σ' H')∧∀ x H',(Itr lo n).yld i H x H'→g x σ H' fun σ2 H2=>tb { D with nx:=N,ct:=N,bk:=D.nx } σ2 H2):=by
 refine⟨fun i m σ H=>m=n - i∧i≤n∧Pv i σ H,⟨n,by simp,Nat.zero_le _,h0⟩,?_⟩
 rintro i m σ H ⟨rfl,hi,p⟩
 by_cases hlt:i < n
 ·refine .inr ⟨hlt,Pv (i+1),fun σ' H' p'=>⟨n - (i+1),by omega,rfl,hlt,p'⟩,fun x H' y=>?_⟩
  obtain⟨e,y⟩:=y
  subst e y
  exact hs i σ _ hlt p
 ·have e:i=n:=by omega
  subst e
  exact .inl ⟨Nat.le_refl _,hd σ H p⟩
end L2
namespace L2
open PySem PySem.Spec PyProof.Rows
noncomputable abbrev R2:=V→V→Hp→VK→Prop
noncomputable def OpR (X:Cx) (f:Value→Value→Sem Value) (r:R2):Prop:=
 ∀ (pins:List (Addr×Obj)) (s:Shared) (σ:St) (H:Hp) (x y:V) (v u:Value) (Q:VK),Inv X pins σ H s→aY x v→aY y u→r x y H Q→
  wpAny (model X.prog X.w) X.A (f v u) (EP X pins σ Q) X.xe s
noncomputable def CallR (X:Cx) (f:Value) (r:List V→Hp→VK→Prop):Prop:=
 ∀ (pins:List (Addr×Obj)) (s:Shared) (σ:St) (H:Hp) (xs:List V) (us:List Value) (Q:VK),Inv X pins σ H s→bK xs us→r xs H Q→
  wpAny (model X.prog X.w) X.A (call f us) (EP X pins σ Q) X.xe s
noncomputable def tOp (r:R2) (ta tb:TE):TE:=fun σ H Q=>ta σ H fun x H1=>tb σ H1 fun y H2=>r x y H2 Q
noncomputable def rI (C:Int→Int→Prop) (g:Int→Int→V):R2:=fun x y H Q=>∃ i j,x=.int i∧y=.int j∧C i j∧Q (g i j) H
noncomputable def rI0 (g:Int→Int→V):R2:=fun x y H Q=>∃ i j,x=.int i∧y=.int j∧Q (g i j) H
section
variable {X:Cx}{a b c:Expr}{ta tb tc:TE}{pos:Pos}
theorem binT (ha:PE X a ta) (hb:PE X b tb) {pins:List (Addr×Obj)}{s:Shared}{σ:St}{H:Hp}{R:V→V→Hp→Prop} (I:Inv X pins σ H s)
  (h:ta σ H fun x H1=>tb σ H1 fun y H2=>R x y H2) {Q:Value→Shared→Prop}{f:Value→Value→Sem Value}
  (hf:∀ v u s2 x y H2,Inv X pins σ H2 s2→aY x v→aY y u→R x y H2→wpAny (model X.prog X.w) X.A (f v u) Q X.xe s2) :
  wpAny (model X.prog X.w) X.A (eval a X.env) (fun v s₁=>wpAny (model X.prog X.w) X.A (eval b X.env) (fun u s₂=>wpAny (model X.prog X.w) X.A (f v u) Q X.xe s₂) X.xe s₁) X.xe s:=by
 refine cI (ha pins s σ H _ I h) fun v s1 ⟨x,H1,I1,r1,q1⟩=>?_
 refine cI (hb pins s1 σ H1 _ I1 q1) fun u s2 ⟨y,H2,I2,r2,q2⟩=>?_
 exact hf v u s2 x y H2 I2 r1 r2 q2
theorem aX {op:Operator}{r:R2} (ho:OpR X (binaryOp op) r) (ha:PE X a ta) (hb:PE X b tb):PE X (.BinOp a op b pos) (tOp r ta tb):=by
 intro pins s σ H Q I h
 exact wpAny_BinOp (binT ha hb I h fun v u s2 x y H2 I2 rx ry q=>ho pins s2 σ H2 x y v u Q I2 rx ry q)
theorem opI {f:Value→Value→Sem Value}{C:Int→Int→Prop}{g:Int→Int→Int}
  (rule:∀ (i j:Int) (t u:Tok) (s:Shared) (Q:Value→Shared→Prop) (E:Value→Shared→Prop),C i j→Q (.int (g i j) s.toks) { s with toks:=s.toks+1 }→wpAny (model X.prog X.w) X.A (f (.int i t) (.int j u)) Q E s) :
  OpR X f (rI C fun i j=>.int (g i j)):=by
 intro pins s σ H x y v u Q I rx ry h
 obtain⟨i,j,rfl,rfl,hc,q⟩:=h
 obtain⟨t,rfl⟩:=rx
 obtain⟨t',rfl⟩:=ry
 exact rule i j t t' s _ _ hc ⟨.int (g i j),H,I.tok _,⟨_,rfl⟩,q⟩
theorem opI0 {f:Value→Value→Sem Value}{g:Int→Int→Int}
  (rule:∀ (i j:Int) (t u:Tok) (s:Shared) (Q:Value→Shared→Prop) (E:Value→Shared→Prop),Q (.int (g i j) s.toks) { s with toks:=s.toks+1 }→wpAny (model X.prog X.w) X.A (f (.int i t) (.int j u)) Q E s) :
  OpR X f (rI0 fun i j=>.int (g i j)):=by
 intro pins s σ H x y v u Q I rx ry h
 obtain⟨i,j,rfl,rfl,q⟩:=h
 obtain⟨t,rfl⟩:=rx
 obtain⟨t',rfl⟩:=ry
 exact rule i j t t' s _ _ ⟨.int (g i j),H,I.tok _,⟨_,rfl⟩,q⟩
theorem opB0 {f:Value→Value→Sem Value}{g:Int→Int→Bool}
  (rule:∀ (i j:Int) (t u:Tok) (s:Shared) (Q:Value→Shared→Prop) (E:Value→Shared→Prop),Q (.bool (g i j)) s→wpAny (model X.prog X.w) X.A (f (.int i t) (.int j u)) Q E s) :
  OpR X f (rI0 fun i j=>.bl (g i j)):=by
 intro pins s σ H x y v u Q I rx ry h
 obtain⟨i,j,rfl,rfl,q⟩:=h
 obtain⟨t,rfl⟩:=rx
 obtain⟨t',rfl⟩:=ry
 exact rule i j t t' s _ _ ⟨.bl (g i j),H,I,rfl,q⟩
noncomputable def CDiv (i j:Int):Prop:=0 < j∧j < 1073741824
noncomputable def CPow (i j:Int):Prop:=0≤j∧j≤1000000∧i.natAbs < 2 ^ 64
noncomputable def CMul (i j:Int):Prop:=(-(2 ^ 64) < i∧i < 2 ^ 64)∨(-(2 ^ 64) < j∧j < 2 ^ 64)
theorem CMul.ok {i j:Int} (h:CMul i j):IntMulOk i j:=by
 rcases h with ⟨h1,h2⟩ | ⟨h1,h2⟩
 ·exact .of_left (intBits_le_64 h1 h2)
 ·exact .of_right (intBits_le_64 h1 h2)
theorem cU:OpR X (binaryOp .Add) (rI0 fun i j=>.int (i+j)):=opI0 fun _ _ _ _ _ _ _ q=>add_int q
theorem op_sub:OpR X (binaryOp .Sub) (rI0 fun i j=>.int (i - j)):=opI0 fun _ _ _ _ _ _ _ q=>sub_int q
theorem op_mul:OpR X (binaryOp .Mult) (rI CMul fun i j=>.int (i * j)):=opI fun _ _ _ _ _ _ _ hc q=>mul_int q hc.ok
theorem op_fdiv:OpR X (binaryOp .FloorDiv) (rI CDiv fun i j=>.int (i / j)):=opI fun i j _ _ _ _ _ hc q=>by
 have h1:(0:Int) < j:=hc.1
 have h2:j < 1073741824:=hc.2
 exact floordiv_int (by omega) (by rw[Int.fdiv_eq_ediv_of_nonneg i (by omega)];exact q) (.inl (PyProof.noPylong_small (by omega)))
theorem op_mod:OpR X (binaryOp .Mod) (rI (fun _ j=>0 < j) fun i j=>.int (i % j)):=opI fun i j _ _ _ _ _ hc q=>by
 have h1:(0:Int) < j:=hc
 exact mod_int' (by omega) (by rw[Int.fmod_eq_emod_of_nonneg i (by omega)];exact q)
theorem op_pow:OpR X (binaryOp .Pow) (rI CPow fun i j=>.int (i ^ j.toNat)):=opI fun _ _ _ _ _ _ _ hc q=>pow_int_small hc.1 hc.2.1 hc.2.2 q
end
noncomputable def scal:V→V→Bool
 | .non,.non=>true | .non,.int _=>true | .int _,.non=>true | .non,.bl _=>true | .bl _,.non=>true | .non,.str _=>true | .str _,.non=>true
 | .int _,.int _=>true | .bl _,.bl _=>true | .str _,.str _=>true | .byt _,.byt _=>true
 | .int _,.str _=>true | .str _,.int _=>true | .bl _,.str _=>true | .str _,.bl _=>true
 | _,_=>false
noncomputable def rEq:R2:=fun x y H Q=>scal x y=true∧Q (.bl (decide (x=y))) H
noncomputable def rNe:R2:=fun x y H Q=>scal x y=true∧Q (.bl (!decide (x=y))) H
theorem dec_int {i j:Int}:decide (V.int i=V.int j)=(i == j):=by
 rw[Bool.eq_iff_iff]
 simp
theorem dec_bl {i j:Bool}:decide (V.bl i=V.bl j)=(i == j):=by
 rw[Bool.eq_iff_iff]
 simp
theorem dec_str {i j:Str}:decide (V.str i=V.str j)=(i == j):=by
 rw[Bool.eq_iff_iff]
 simp
theorem dec_byt {i j:Array UInt8}:decide (V.byt i=V.byt j)=(i.toList == j.toList):=by
 rw[Bool.eq_iff_iff]
 cases i
 cases j
 simp
section
variable {X:Cx}{a b c:Expr}{ta tb tc:TE}{pos:Pos}
theorem bM {pins:List (Addr×Obj)}{σ:St}{H:Hp}{s:Shared}{Q:VK}{k k':Bool} (I:Inv X pins σ H s) (q:Q (.bl k) H) (e:k=k'):EP X pins σ Q (.bool k') s:=by
 subst e
 exact⟨.bl k,H,I,rfl,q⟩
theorem op_eq:OpR X (compareOp .Eq) rEq:=by
 intro pins s σ H x y v u Q I rx ry h
 obtain⟨hs,q⟩:=h
 cases x with
 | non=>
  cases rx
  cases y with
  | non=>cases ry;exact PySem.EqNone.eq_none_none (bM I q (by simp))
  | bl j=>cases ry;exact PySem.EqNone.eq_none_bool (bM I q (by simp))
  | int j=>obtain⟨t',rfl⟩:=ry;exact PySem.EqNone.eq_none_int (bM I q (by simp))
  | str j=>obtain⟨t',rfl⟩:=ry;exact PySem.EqNone.eq_none_str (bM I q (by simp))
  | _=>exact absurd (show false=true from hs) Bool.false_ne_true
 | bl i=>
  cases rx
  cases y with
  | non=>cases ry;exact PySem.EqNone.eq_bool_none (bM I q (by simp))
  | bl j=>cases ry;exact eq_bool (bM I q dec_bl)
  | str j=>obtain⟨t',rfl⟩:=ry;exact PySem.EqMixed.eq_bool_str (bM I q (by simp))
  | _=>exact absurd (show false=true from hs) Bool.false_ne_true
 | int i=>
  obtain⟨t,rfl⟩:=rx
  cases y with
  | non=>cases ry;exact PySem.EqNone.eq_int_none (bM I q (by simp))
  | int j=>obtain⟨t',rfl⟩:=ry;exact eq_int (bM I q dec_int)
  | str j=>obtain⟨t',rfl⟩:=ry;exact PySem.EqMixed.eq_int_str (bM I q (by simp))
  | _=>exact absurd (show false=true from hs) Bool.false_ne_true
 | str i=>
  obtain⟨t,rfl⟩:=rx
  cases y with
  | non=>cases ry;exact PySem.EqNone.eq_str_none (bM I q (by simp))
  | bl j=>cases ry;exact PySem.EqMixed.eq_str_bool (bM I q (by simp))
  | int j=>obtain⟨t',rfl⟩:=ry;exact PySem.EqMixed.eq_str_int (bM I q (by simp))
  | str j=>obtain⟨t',rfl⟩:=ry;exact eq_str (bM I q dec_str)
  | _=>exact absurd (show false=true from hs) Bool.false_ne_true
 | byt i=>
  obtain⟨t,rfl⟩:=rx
  cases y with
  | byt j=>obtain⟨t',rfl⟩:=ry;exact PySem.W.eq_bytes (bM I q dec_byt)
  | _=>exact absurd (show false=true from hs) Bool.false_ne_true
 | _=>cases y <;> exact absurd (show false=true from hs) Bool.false_ne_true
theorem op_ne:OpR X (compareOp .NotEq) rNe:=by
 intro pins s σ H x y v u Q I rx ry h
 obtain⟨hs,q⟩:=h
 cases x with
 | non=>
  cases rx
  cases y with
  | non=>cases ry;exact PySem.EqNone.ne_none_none (bM I q (by simp))
  | bl j=>cases ry;exact PySem.EqNone.ne_none_bool (bM I q (by simp))
  | int j=>obtain⟨t',rfl⟩:=ry;exact PySem.EqNone.ne_none_int (bM I q (by simp))
  | str j=>obtain⟨t',rfl⟩:=ry;exact PySem.EqNone.ne_none_str (bM I q (by simp))
  | _=>exact absurd (show false=true from hs) Bool.false_ne_true
 | bl i=>
  cases rx
  cases y with
  | non=>cases ry;exact PySem.EqNone.ne_bool_none (bM I q (by simp))
  | bl j=>cases ry;exact ne_bool (bM I q (congrArg not dec_bl))
  | str j=>obtain⟨t',rfl⟩:=ry;exact PySem.EqMixed.ne_bool_str (bM I q (by simp))
  | _=>exact absurd (show false=true from hs) Bool.false_ne_true
 | int i=>
  obtain⟨t,rfl⟩:=rx
  cases y with
  | non=>cases ry;exact PySem.EqNone.ne_int_none (bM I q (by simp))
  | int j=>obtain⟨t',rfl⟩:=ry;exact ne_int (bM I q (congrArg not dec_int))
  | str j=>obtain⟨t',rfl⟩:=ry;exact PySem.EqMixed.ne_int_str (bM I q (by simp))
  | _=>exact absurd (show false=true from hs) Bool.false_ne_true
 | str i=>
  obtain⟨t,rfl⟩:=rx
  cases y with
  | non=>cases ry;exact PySem.EqNone.ne_str_none (bM I q (by simp))
  | bl j=>cases ry;exact PySem.EqMixed.ne_str_bool (bM I q (by simp))
  | int j=>obtain⟨t',rfl⟩:=ry;exact PySem.EqMixed.ne_str_int (bM I q (by simp))
  | str j=>obtain⟨t',rfl⟩:=ry;exact ne_str (bM I q (congrArg not dec_str))
  | _=>exact absurd (show false=true from hs) Bool.false_ne_true
 | byt i=>
  obtain⟨t,rfl⟩:=rx
  cases y with
  | byt j=>obtain⟨t',rfl⟩:=ry;exact PySem.W.ne_bytes (bM I q (congrArg not dec_byt))
  | _=>exact absurd (show false=true from hs) Bool.false_ne_true
 | _=>cases y <;> exact absurd (show false=true from hs) Bool.false_ne_true
theorem op_lt:OpR X (compareOp .Lt) (rI0 fun i j=>.bl (decide (i < j))):=opB0 fun _ _ _ _ _ _ _ q=>lt_int q
theorem op_le:OpR X (compareOp .LtE) (rI0 fun i j=>.bl (decide (i≤j))):=opB0 fun _ _ _ _ _ _ _ q=>le_int q
theorem op_gt:OpR X (compareOp .Gt) (rI0 fun i j=>.bl (decide (j < i))):=opB0 fun _ _ _ _ _ _ _ q=>gt_int q
theorem op_ge:OpR X (compareOp .GtE) (rI0 fun i j=>.bl (decide (j≤i))):=opB0 fun _ _ _ _ _ _ _ q=>ge_int q
theorem op_isN:OpR X (compareOp .Is) (fun x y H Q=>y=.non∧Q (.bl (decide (x=.non))) H):=by
 intro pins s σ H x y v u Q I rx ry h
 obtain⟨rfl,q⟩:=h
 cases ry
 refine is_none_gen (bM I q ?_)
 cases x <;> first
  | (cases rx;rfl)
  | (obtain⟨t,rfl⟩:=rx;rfl)
theorem op_notN:OpR X (compareOp .IsNot) (fun x y H Q=>y=.non∧Q (.bl (!decide (x=.non))) H):=by
 intro pins s σ H x y v u Q I rx ry h
 obtain⟨rfl,q⟩:=h
 cases ry
 refine isnot_none_gen (bM I q ?_)
 cases x <;> first
  | (cases rx;rfl)
  | (obtain⟨t,rfl⟩:=rx;rfl)
theorem bW (b:Expr) {op:CmpOp} (h:op≠.In:=by decide) (h2:op≠.NotIn:=by decide):behindInMarks op b=false:=by
 have e1:(op == CmpOp.In)=false:=by cases op <;> first | rfl | exact absurd rfl h
 have e2:(op == CmpOp.NotIn)=false:=by cases op <;> first | rfl | exact absurd rfl h2
 cases b <;> simp [behindInMarks,e1,e2]
theorem pe_cmpR {op:CmpOp}{r:R2} (ho:OpR X (compareOp op) r) (ha:PE X a ta) (hb:PE X b tb) (hm:behindInMarks op b=false):PE X (.Compare a [op] [b] pos) (tOp r ta tb):=by
 intro pins s σ H Q I h
 exact wpAny_Compare1 (binT ha hb I h fun v u s2 x y H2 I2 rx ry q=>ho pins s2 σ H2 x y v u Q I2 rx ry q) hm
noncomputable def tTest (t:TE):TT:=fun σ H Q=>t σ H fun x H'=>∃ k,x=.bl k∧Q k H'
theorem bR {op:CmpOp}{r:R2} (ho:OpR X (compareOp op) r) (ha:PE X a ta) (hb:PE X b tb) (hm:behindInMarks op b=false):PT X (.Compare a [op] [b] pos) (tTest (tOp r ta tb)):=by
 intro pins s σ H Q I h
 refine wpAny_isTrue_Compare1 (cI (ha pins s σ H _ I h) fun v s1 ⟨x,H1,I1,r1,q1⟩=>cI (hb pins s1 σ H1 _ I1 q1) fun u s2 ⟨y,H2,I2,r2,q2⟩=>
  cI (ho pins s2 σ H2 x y v u _ I2 r1 r2 q2) fun c s3 ⟨z,H3,I3,r3,k,e,q3⟩=>?_) hm
 subst e
 cases r3
 exact wpAny_truthy_bool ⟨H3,I3,q3⟩
noncomputable def tChain (r r':R2) (ta tb tc:TE):TE:=fun σ H Q=>ta σ H fun x H1=>tb σ H1 fun y H2=>r x y H2 fun z H3=>∃ k,z=.bl k∧
 (if k=true then tc σ H3 fun w' H4=>r' y w' H4 Q else Q (.bl false) H3)
theorem pe_chain {op op':CmpOp}{r r':R2} (ho:OpR X (compareOp op) r) (ho':OpR X (compareOp op') r') (ha:PE X a ta) (hb:PE X b tb) (hc:PE X c tc)
  (hm:lastMarks [op,op'] [b,c]=false:=by with_unfolding_all rfl):PE X (.Compare a [op,op'] [b,c] pos) (tChain r r' ta tb tc):=by
 intro pins s σ H Q I h
 refine Compare_chain (cI (ha pins s σ H _ I h) fun v s1 ⟨x,H1,I1,r1,q1⟩=>chain_link (cI (hb pins s1 σ H1 _ I1 q1) fun u s2 ⟨y,H2,I2,r2,q2⟩=>
  cI (ho pins s2 σ H2 x y v u _ I2 r1 r2 q2) fun d s3 ⟨z,H3,I3,r3,k,e,q3⟩=>?_)) hm
 subst e
 cases r3
 refine wpAny_truthy_bool ?_
 cases k with
 | false=>exact ite_ff ⟨.bl false,H3,I3,rfl,q3⟩
 | true=>exact ite_tt (chain_last (cI (hc pins s3 σ H3 _ I3 q3) fun w' s4 ⟨z',H4,I4,r4,q4⟩=>ho' pins s4 σ H4 y z' u w' Q I4 r2 r4 q4))
theorem line63:(sizeLine:Nat) < 2 ^ 63:=by rw[sizeLine_eq];decide
theorem vals1 {x:V}{us:List Value} (r:bK [x] us):∃ u,us=[u]∧aY x u:=by
 cases r with
 | cons r1 r2=>cases r2;exact⟨_,rfl,r1⟩
theorem vals2 {x y:V}{us:List Value} (r:bK [x,y] us):∃ u w',us=[u,w']∧aY x u∧aY y w':=by
 cases r with
 | cons r1 r2=>
  cases r2 with
  | cons r3 r4=>cases r4;exact⟨_,_,rfl,r1,r3⟩
theorem call_max2 (hc:X.calm=true):CallR X (.builtin "max") (fun xs H Q=>∃ i j,xs=[.int i,.int j]∧Q (.int (if j > i then j else i)) H):=by
 intro pins s σ H xs us Q I r h
 obtain⟨i,j,rfl,q⟩:=h
 obtain⟨u,w',rfl,⟨t,rfl⟩,⟨t',rfl⟩⟩:=vals2 r
 refine max_two_ints (I.ok.hd hc) fun h' tk k=>⟨_,H,I.kept k,?_,q⟩
 by_cases hj:j > i
 ·rw[if_pos hj,if_pos hj];exact⟨_,rfl⟩
 ·rw[if_neg hj,if_neg hj];exact⟨_,rfl⟩
theorem call_min2 (hc:X.calm=true):CallR X (.builtin "min") (fun xs H Q=>∃ i j,xs=[.int i,.int j]∧Q (.int (if j < i then j else i)) H):=by
 intro pins s σ H xs us Q I r h
 obtain⟨i,j,rfl,q⟩:=h
 obtain⟨u,w',rfl,⟨t,rfl⟩,⟨t',rfl⟩⟩:=vals2 r
 refine min_two_ints (I.ok.hd hc) fun h' tk k=>⟨_,H,I.kept k,?_,q⟩
 by_cases hj:j < i
 ·rw[if_pos hj,if_pos hj];exact⟨_,rfl⟩
 ·rw[if_neg hj,if_neg hj];exact⟨_,rfl⟩
theorem call_int1:CallR X (.type "int") (fun xs H Q=>(∃ i,xs=[.int i]∧Q (.int i) H)∨∃ k,xs=[.bl k]∧Q (.int (if k then 1 else 0)) H):=by
 intro pins s σ H xs us Q I r h
 rcases h with ⟨i,rfl,q⟩ | ⟨k,rfl,q⟩
 ·obtain⟨u,rfl,t,rfl⟩:=vals1 r
  exact call_int_int ⟨.int i,H,I,⟨_,rfl⟩,q⟩
 ·obtain⟨u,rfl,r1⟩:=vals1 r
  cases r1
  exact call_int_bool ⟨.int (if k then 1 else 0),H,I.tok _,⟨_,rfl⟩,q⟩
end
end L2
namespace L2
open PySem PySem.Spec PyProof.Rows
structure ObjM (h:Heap) (x dx C:Addr) (mA:Str→Option Value):Prop where
 obj:h.get? x=some (PySem.W.instObj C dx)
 ns:h.Ns1 dx mA
 ne:dx≠x
theorem lookIn_ns {h:Heap}{dx:Addr}{mA:Str→Option Value} (n:h.Ns1 dx mA):∃ od,h.get? dx=some od∧∀ name,PySem.W.lookIn name od=some (mA name):=by
 obtain⟨o,es,ep,ho,hd,hk,_,hm⟩:=n
 refine⟨o,ho,fun name=>?_⟩
 have e:=hm name
 unfold nsFind findBy at e
 rw[← Array.find?_toList] at e
 unfold PySem.W.lookIn
 rw[hd]
 dsimp only
 split
 ·rename_i y q
  rw[q] at e
  exact congrArg some e
 ·rename_i q
  rw[q] at e
  have a:es.toList.any (·.refKey)=false:=by
   rw[List.any_eq_false]
   intro y hy
   obtain⟨z,t,hkey⟩:=hk y (Array.mem_toList_iff.mp hy)
   simp [DictEntry.refKey,hkey]
  have a':¬ es.toList.any (·.refKey)=true:=by rw[a];exact Bool.false_ne_true
  rw[if_neg a']
  exact congrArg some e
theorem ObjM.look {h:Heap}{x dx C:Addr}{mA:Str→Option Value} (I:ObjM h x dx C mA):∃ od,PySem.W.InstAt h x (PySem.W.instObj C dx) C (some od)∧∀ name,PySem.W.lookIn name od=some (mA name):=
 let ⟨od,ho,hl⟩:=lookIn_ns I.ns
 ⟨od,⟨I.obj,rfl,rfl,ho⟩,hl⟩
section
variable {prog:Program}{w:World}{A:Around}{E:Value→Shared→Prop}{s:Shared}{K:PySem.W.Frag}{x dx C f:Addr}{mA:Str→Option Value}{name:Str}{v:Value}
end
theorem RelO.some_of {v:V}{o:Option Value} (r:RelO (some v) o):∃ u,o=some u∧aY v u:=by
 cases o with
 | none=>exact (show False from r).elim
 | some u=>exact⟨u,rfl,r⟩
section
variable {P:Program}{w:World}{H H':Hp}{h h':Heap}{a C dx:Addr}{fs fs':List (Str×V)}
theorem ins_get (hok:HOk P w H h) (e:H a=some (.ins C dx fs)):∃ mA,ObjM h a dx C mA∧(∀ f,RelO (fs.lookup f) (mA f))∧PySem.Within mA (fs.map (·.1))∧fs.length≤1000∧H dx=some (.own a):=by
 obtain⟨d,z,ne,ob,mA,n,r,q⟩:=(show bU P w H h a (.ins C dx fs) from hok a _ e)
 exact⟨mA,⟨ob,n,ne⟩,r,q,z,d⟩
end
structure Cls (K:PySem.W.Frag) (C:Addr):Prop where
 pg:PySem.W.plainGet K C Str.empty=true
 hd:PySem.W.hasDictIn K C=true
 po:PySem.W.plainOver K C=true
 sa:PySem.W.findIn K (.ref C) "__setattr__" = some (some (.builtin "object.__setattr__"))
theorem Cls.get {K:PySem.W.Frag}{C:Addr} (c:Cls K C) (f:Str):PySem.W.plainGet K C f=true:=c.pg
section
variable {X:Cx}{pins:List (Addr×Obj)}{σ:St}{H:Hp}{s:Shared}{a C dx:Addr}{fs:List (Str×V)}{f:Str}{v:V}{A:Around}{E:Value→Shared→Prop}
end
section
variable {X:Cx}{o e value:Expr}{f:Str}{pos pos' tpos:Pos}{ta tv:TE}
end
section
variable {X:Cx}{pins:List (Addr×Obj)}{σ:St}{H:Hp}{s:Shared}{A:Around}{E:Value→Shared→Prop}{Q:Value→Shared→Prop}{c:Value}{b:Bool}
inductive TyOf (K:PySem.W.Frag) (H:Hp):V→Value→Prop where
 | non:TyOf K H .non (.type "NoneType")
 | bl (x:Bool):TyOf K H (.bl x) (.type "bool")
 | int (i:Int):TyOf K H (.int i) (.type "int")
 | str (x:Str):TyOf K H (.str x) (.type "str")
 | flt (x:UInt64):TyOf K H (.flt x) (.type "float")
 | lst {a:Addr}{xs:List V} (e:H a=some (.lst xs)):TyOf K H (.ref a) (.type "list")
 | frz {a:Addr}{o:Obj}{xs:List V} (e:H a=some (.frz o (.lst xs))):TyOf K H (.ref a) (.type "list")
 | tup {a:Addr}{xs:List V} (e:H a=some (.tup xs)):TyOf K H (.ref a) (.type "tuple")
 | dK {a:Addr}{kvs:List (Key×V)} (e:H a=some (.dK kvs)):TyOf K H (.ref a) (.type "dict")
 | dT {a:Addr}{kvs:List (List Key×V)} (e:H a=some (.dT kvs)):TyOf K H (.ref a) (.type "dict")
 | ins {a C dx:Addr}{fs:List (Str×V)} (e:H a=some (.ins C dx fs)) (cl:Cls K C) (ha:PySem.W.findIn K (.ref C) "__class__" = some (some (.builtin "object.__class__")))
   (hn:PySem.W.specialIn K (.builtin "object.__class__") "__get__" = some (some (.builtin "getset_descriptor.__get__"))) (htk:PySem.W.takesIn K (.builtin "object.__class__")=some true)
   (hm:PySem.W.mroIn K C (.type "object")=some true):TyOf K H (.ref a) (.ref C)
theorem isinst_ok {x:V}{u t:Value} (I:Inv X pins σ H s) (rx:aY x u) (ty:TyOf X.K H x t) (e:PySem.W.kitOne X.K t c=some b) (h:∀ tk,Q (.bool b) { s with toks:=tk }) :
  wpAny (model X.prog X.w) A (call (.builtin "isinstance") [u,c]) Q E s:=by
 cases ty with
 | non=>cases (show u=Value.none from rx);exact PySem.W.kia_one PySem.W.kitx_none I.kIn True.intro e (fun z=>nomatch z) h
 | bl y=>cases (show u=Value.bool y from rx);exact PySem.W.kia_one PySem.W.kitx_bool I.kIn True.intro e (fun z=>nomatch z) h
 | int i=>obtain⟨t,q⟩:=(show ∃ t,u=Value.int i t from rx);cases q;exact PySem.W.kia_one PySem.W.kitx_int I.kIn True.intro e (fun z=>nomatch z) h
 | str y=>obtain⟨t,q⟩:=(show ∃ t,u=Value.str y t from rx);cases q;exact PySem.W.kia_one PySem.W.kitx_str I.kIn True.intro e (fun z=>nomatch z) h
 | flt y=>obtain⟨t,q⟩:=(show ∃ t,u=Value.float y t from rx);cases q;exact PySem.W.kia_one PySem.W.kitx_float I.kIn True.intro e (fun z=>nomatch z) h
 | @lst a xs ea=>
  cases (show u=Value.ref a from rx)
  obtain⟨_,_,n,_,h1⟩:=(show bU X.prog X.w H s.heap a (.lst xs) from I.hok a _ ea)
  exact PySem.W.kia_one PySem.W.kitx_list I.kIn ⟨_,h1,rfl⟩ e (fun z=>nomatch z) h
 | @frz a ob xs ea=>
  cases (show u=Value.ref a from rx)
  obtain⟨_,_,_,n,_,h1⟩:=(show bU X.prog X.w H s.heap a (.frz ob (.lst xs)) from I.hok a _ ea)
  exact PySem.W.kia_one PySem.W.kitx_list I.kIn ⟨_,h1,rfl⟩ e (fun z=>nomatch z) h
 | @tup a xs ea=>
  cases (show u=Value.ref a from rx)
  obtain⟨_,_,_,p⟩:=(show bU X.prog X.w H s.heap a (.tup xs) from I.hok a _ ea)
  obtain⟨o,h1,h2,_⟩:=p
  exact PySem.W.kia_one PySem.W.kitx_tuple I.kIn ⟨o,h1,h2⟩ e (fun z=>nomatch z) h
 | @dK a kvs ea=>
  cases (show u=Value.ref a from rx)
  obtain⟨_,_,vs,_,p⟩:=(show bU X.prog X.w H s.heap a (.dK kvs) from I.hok a _ ea)
  obtain⟨o,es,ep,h1,h2,_⟩:=p
  exact PySem.W.kia_one PySem.W.kitx_dict I.kIn ⟨o,h1,h2.1⟩ e (fun z=>nomatch z) h
 | @dT a kvs ea=>
  cases (show u=Value.ref a from rx)
  obtain⟨_,_,xs,_,o,es,ep,h1,h2,_⟩:=(show bU X.prog X.w H s.heap a (.dT kvs) from I.hok a _ ea)
  exact PySem.W.kia_one PySem.W.kitx_dict I.kIn ⟨o,h1,h2.1⟩ e (fun z=>nomatch z) h
 | @ins a C dx fs ea cl ha hn htk hm=>
  cases (show u=Value.ref a from rx)
  obtain⟨mA,O,_⟩:=ins_get I.hok ea
  obtain⟨od,J,_⟩:=O.look
  exact PySem.W.kia_one (PySem.W.kitx_own (cl.get _) cl.hd ha hn htk hm) I.kIn J e (fun z=>nomatch z) h
end
end L2
namespace L2
open PySem PySem.Spec PyProof.Rows
structure Room (k:Nat) (A:Around):Prop where
 hd:A.handled=none
 dp:A.depth+3 * k+5 < recursionLimit
 un:A.units+16 * k+200 < cLine
theorem Room.mono {j k:Nat}{A:Around} (r:Room k A) (h:j≤k):Room j A:=⟨r.hd,by have:=r.dp;omega,by have:=r.un;omega⟩
theorem Room.deeper {k:Nat}{A:Around} (r:Room (k+1) A) (env:Env):Room k (A.deeper env):=
 ⟨r.hd,by have:=r.dp;show A.depth+1+3 * k+5 < _;omega,by have:=r.un;show A.units+3+16 * k+200 < _;omega⟩
theorem Room.depth {k:Nat}{A:Around} (r:Room k A):A.depth < recursionLimit:=by have:=r.dp;omega
theorem Room.units {k:Nat}{A:Around} (r:Room k A):A.units+64 < cLine:=by have:=r.un;omega
noncomputable def tNil:TA:=fun _ H Q=>Q [] H
noncomputable def dX (ta:TE) (tr:TA):TA:=fun σ H Q=>ta σ H fun x H1=>tr σ H1 fun xs H2=>Q (x::xs) H2
section
variable {X:Cx}{e:Expr}{es:List Expr}{te:TE}{t:TA}{pos:Pos}
theorem aC:PA X [] tNil:=fun _ _ _ _ H Q I h=>Calls.spliced_nil ⟨[],H,I,.nil,h⟩
theorem aA (ha:PE X e te) (hr:PA X es t) (hs:starEach (e::es) X.env=(false,eval e X.env)::starEach es X.env:=by rfl):PA X (e::es) (dX te t):=by
 intro pos pins s σ H Q I h
 rw[hs]
 show wpAny _ _ (spliced ((false,eval e X.env)::backTo pos (starEach es X.env))) _ _ s
 refine Calls.spliced_cons (cI (ha pins s σ H _ I h) fun u s1 ⟨x,H1,I1,r1,q1⟩=>?_)
 exact cI (hr pos pins s1 σ H1 _ I1 q1) fun us s2 ⟨xs,H2,I2,r2,q2⟩=>⟨x::xs,H2,I2,.cons r1 r2,q2⟩
noncomputable def tTup (t:TA):TE:=fun σ H Q=>t σ H fun xs H1=>xs.length≤sizeLine∧∀ p,H1 p=none→Q (.ref p) (upd H1 p (.tup xs))
noncomputable def tLst (t:TA):TE:=fun σ H Q=>t σ H fun xs H1=>xs.length≤sizeLine∧∀ p,H1 p=none→Q (.ref p) (upd H1 p (.lst xs))
theorem bS {x1} (h:PA X es t):PE X (.Tuple es x1 pos) (tTup t):=by
 intro pins s σ H Q I hq
 refine wpAny_Tuple_spliced (cI (h pos pins s σ H _ I hq) fun us s1 ⟨xs,H1,I1,r,z,q⟩=>⟨by rw[← r.length];exact z,?_⟩)
 have hf:H1 s1.heap.objs.size=none:=I1.hok.fresh (Nat.le_refl _)
 refine⟨.ref s1.heap.objs.size,upd H1 s1.heap.objs.size (.tup xs),I1.laid (t':=s1.toks) (fun b u e=>Heap.get?_push_of_some _ e) (Nat.le_refl _) ?_,rfl,q _ hf⟩
 exact⟨z,us,r,⟨_,Heap.get?_push_size _ rfl,rfl,_,rfl⟩⟩
theorem bD (h:PA X es t):PE X (.List es pos) (tLst t):=by
 intro pins s σ H Q I hq
 refine wpAny_List_spliced (cI (h pos pins s σ H _ I hq) fun us s1 ⟨xs,H1,I1,r,z,q⟩=>⟨by rw[← r.length];exact z,?_⟩)
 have hf:H1 s1.heap.objs.size=none:=I1.hok.fresh (Nat.le_refl _)
 refine⟨.ref s1.heap.objs.size,upd H1 s1.heap.objs.size (.lst xs),I1.laid (t':=s1.toks) (fun b u e=>Heap.get?_push_of_some _ e) (Nat.le_refl _) ?_,rfl,q _ hf⟩
 exact⟨z,us,0,r,Heap.get?_push_size _ rfl⟩
end
noncomputable abbrev Sp:=List V→Hp→VK→XK→Prop
noncomputable abbrev CXT:=List Env→Hp→Shared→XK→Value→Shared→Prop
structure Env0 (P:Program) (w:World) (K:PySem.W.Frag) (mg:Str→Option Value) (base:Heap) (A:Around) (outer:List Env) (s:Shared) (H:Hp):Prop where
 frames:A.frames=some outer
 mod:Mod K mg base
 bs:∀ b o,base.get? b=some o→s.heap.get? b=some o∧H b=none
 bsz:base.objs.size≤s.heap.objs.size
 funs:s.heap.FunFrames base outer
 frf:∀ b∈frs outer,H b=none
 hok:HOk P w H s.heap
 bare:AllBare s.gens
noncomputable def CE (outer:List Env) (P:Program) (w:World) (H:Hp) (s:Shared) (Q:VK) (u:Value) (s':Shared):Prop:=
 ∃ v H',s'.os=s.os∧AllBare s'.gens∧Un (frs outer) [] H H' s.heap s'.heap∧HOk P w H' s'.heap∧aY v u∧Q v H'
noncomputable def CR (CX:CXT) (outer:List Env) (P:Program) (w:World) (H:Hp) (s:Shared) (Q:VK) (E:XK) (r:Result) (s':Shared):Prop:=
 match r with
 | .ok (.ret u)=>CE outer P w H s Q u s'
 | .ok _=>False
 | .error e=>CX outer H s E e s'
structure FnOk (P:Program) (w:World) (K:PySem.W.Frag) (mg:Str→Option Value) (base:Heap) (CX:CXT) (k:Nat) (f:Addr) (fd:FuncData) (ps:List Str) (sp:Sp):Prop where
 len:∀ vs H Q E,sp vs H Q E→vs.length=ps.length
 run:∀ (A:Around) (outer:List Env) (s:Shared) (H:Hp) (args:Args) (us:List Value) (vs:List V) (Q:VK) (E:XK),Room k A→Env0 P w K mg base A outer s H→BindsTo s fd args (ps.zip us)→bK vs us→sp vs H Q E→
  codeAny (model P w) A (.call (.ref f) args) (CR CX outer P w H s Q E) s
theorem FnOk.imp {P:Program}{w:World}{K:PySem.W.Frag}{mg:Str→Option Value}{base:Heap}{CX:CXT}{k:Nat}{f:Addr}{fd:FuncData}{ps:List Str}{sp sp':Sp} (F:FnOk P w K mg base CX k f fd ps sp)
  (h:∀ vs H Q E,sp' vs H Q E→sp vs H Q E):FnOk P w K mg base CX k f fd ps sp':=
 ⟨fun vs H Q E q=>F.len vs H Q E (h _ _ _ _ q),fun A outer s H args us vs Q E hr he hb hv hs=>F.run A outer s H args us vs Q E hr he hb hv (h _ _ _ _ hs)⟩
section
variable {X:Cx}{pins:List (Addr×Obj)}{σ:St}{H:Hp}{s s':Shared}
theorem Inv.env0 (I:Inv X pins σ H s):Env0 X.prog X.w X.K X.mg X.base X.A X.stack s H:=
 ⟨I.ok.frames,I.ok.mod,I.bs,Nat.le_trans I.ok.bsz I.sz,I.stack,I.stkFree,I.hok,I.bare⟩
theorem Inv.after {Q:VK}{u:Value} (I:Inv X pins σ H s) (h:CE X.stack X.prog X.w H s Q u s'):EP X pins σ Q u s':=by
 obtain⟨v,H',os,bare,un,hok,r,q⟩:=h
 obtain⟨hh,g,d,t,os'⟩:=s'
 obtain rfl:os'=s.os:=os
 exact⟨v,H',I.call (h':=hh) (g':=g) (d':=d) (t':=t) (ch:=[]) un hok bare (fun b z=>absurd z (by simp)),r,q⟩
end
noncomputable def tCall (sp:Sp) (dvs:List V) (E:XK) (t:TA):TE:=fun σ H Q=>t σ H fun vs H1=>sp (vs++dvs) H1 Q E
noncomputable def Binds (K:PySem.W.Frag) (fd:FuncData) (ps:List Str) (ds:List Value):Prop:=
 ∀ (s:Shared) (us:List Value),K.In s.heap→(us++ds).length=ps.length→BindsTo s fd ⟨us,[]⟩ (ps.zip (us++ds))
theorem Binds.all {K:PySem.W.Frag}{fd:FuncData}{ps:List Str} (h:∀ us:List Value,us.length=ps.length→bindArgs fd ⟨us,[]⟩=pure (ps.zip us)):Binds K fd ps []:=fun s us _ hl=>by
 rw[List.append_nil] at hl ⊢
 exact .of_eq (h us hl)
noncomputable def Passes (CX:CXT) (X:Cx) (E:XK):Prop:=∀ (pins:List (Addr×Obj)) (σ:St) (H:Hp) (s:Shared) (e:Value) (s':Shared),Inv X pins σ H s→CX X.stack H s E e s'→X.xe e s'
section
variable {X:Cx}{CX:CXT}{k:Nat}{f C:Addr}{fd:FuncData}{ps:List Str}{sp:Sp}{dvs:List V}{ds:List Value}{E:XK}{x m:Str}{p pos apos:Pos}{e o:Expr}{es:List Expr}{ta:TE}{t:TA}
theorem run_fn {pins:List (Addr×Obj)}{σ:St}{H:Hp}{s:Shared}{Q:VK}{us:List Value}{vs:List V} (F:FnOk X.prog X.w X.K X.mg X.base CX k f fd ps sp) (hr:Room k X.A) (hb:Binds X.K fd ps ds) (hd:bK dvs ds) (hx:Passes CX X E)
  (I:Inv X pins σ H s) (r:bK vs us) (h:sp (vs++dvs) H Q E):wpAny (model X.prog X.w) X.A (call (.ref f) us) (EP X pins σ Q) X.xe s:=by
 have r2:bK (vs++dvs) (us++ds):=r.append hd
 have hl:(us++ds).length=ps.length:=by rw[← r2.length];exact F.len _ _ _ _ h
 refine wpAny_call (codeAny_mono (F.run X.A X.stack s H ⟨us,[]⟩ (us++ds) (vs++dvs) Q E hr I.env0 (hb s us I.kIn hl) r2 h) fun r s' hq=>?_)
 cases r with
 | error e=>exact hx pins σ H s e s' I hq
 | ok fl=>
  cases fl with
  | ret u=>exact I.after hq
  | next=>exact False.elim hq
  | brk=>exact False.elim hq
  | cont=>exact False.elim hq
theorem pe_call (F:FnOk X.prog X.w X.K X.mg X.base CX k f fd ps sp) (hr:Room k X.A) (hg:Gl X x) (hm:X.mg x=some (.ref f)) (hk:PySem.W.keepIn X.K (.ref f)=true) (hb:Binds X.K fd ps ds) (hd:bK dvs ds) (hx:Passes CX X E)
  (ha:PA X (e::es) t) (hdb:(x == ("__debug__" : Str))=false:=by decide) (he:starEach (e::es) X.env=(false,eval e X.env)::starEach es X.env:=by rfl) (hpl:(backTo pos (starEach es X.env)).any (·.1)=false:=by rfl) :
  PE X (.Call (.Name x p) (e::es) [] pos) (tCall sp dvs E t):=by
 intro pins s σ H Q I h
 refine wpAny_Call_Name_kw (ld_glob I hg hm ?_ hdb)
 refine PySem.W.callWith_K (h₀:=X.base) I.ok.mod.kin hk (cI (ha pos pins s σ H _ I h) fun us s1 ⟨vs,H1,I1,r,q⟩=>⟨I1.kIn,?_⟩) he hpl
 exact run_fn F hr hb hd hx I1 r q
end
section
variable {X:Cx}{CX:CXT}{k:Nat}{f C:Addr}{fd:FuncData}{ps ks:List Str}{sp:Sp}{E:XK}{x m:Str}{p pos apos kpos:Pos}{e o:Expr}{es:List Expr}{kws:List Keyword}{te ta:TE}{t tk:TA}{nm:Option Str}
variable {g:List Value→List Value→List Value}{gV:List V→List V→List V}
end
structure FnScope (N P:List Str) (sc:Scope):Prop where
 kind:sc.kind=.function
 co:sc.isCoroutine=false
 gen:sc.isGenerator=false
 nd:N.Nodup
 pre:N.take P.length=P
 par:∀ x∈P,sc.names.lookup x=some .local∨sc.names.lookup x=some .cell
 nofree:∀ y∈sc.names,y.2≠.free
theorem bindL_out {kindOf:Str→Option NameKind}{x:Str}:∀ {binds:List (Str×Value)}{m:Str→Option Value},(∀ v,(x,v)∉binds)→bindL kindOf binds m x=m x
 | [],_,_=>rfl
 | (n,v)::r,m,h=>by
  unfold bindL
  rw[bindL_out fun w hw=>h w (List.mem_cons_of_mem _ hw)]
  split
  ·have:x≠n:=by rintro rfl;exact h v List.mem_cons_self
   simp [this]
  ·rfl
theorem bindC_out {kindOf:Str→Option NameKind}{x:Str}:∀ {binds:List (Str×Value)}{m:Str→Option Value},(∀ v,(x,v)∉binds)→bindC kindOf binds m x=m x
 | [],_,_=>rfl
 | (n,v)::r,m,h=>by
  unfold bindC
  rw[bindC_out fun w hw=>h w (List.mem_cons_of_mem _ hw)]
  split
  ·rfl
  ·have:x≠n:=by rintro rfl;exact h v List.mem_cons_self
   simp [this]
theorem bindL_get {kindOf:Str→Option NameKind}{x:Str}{v:Value}:∀ {P:List Str}{vs:List Value}{i:Nat}{m:Str→Option Value},P.Nodup→P[i]? = some x→vs[i]? = some v→kindOf x=some .local→
  bindL kindOf (P.zip vs) m x=some v
 | [],_,_,_,_,h,_,_=>by simp at h
 | _::_,[],_,_,_,_,h,_=>by simp at h
 | p::P,w::vs,0,m,nd,h1,h2,hk=>by
  simp at h1 h2;subst h1;subst h2
  show bindL kindOf ((p,w)::P.zip vs) m p=_
  unfold bindL
  rw[bindL_out fun v hv=>(List.nodup_cons.mp nd).1 (List.of_mem_zip hv).1,if_pos hk]
  simp
 | p::P,w::vs,i+1,m,nd,h1,h2,hk=>by
  show bindL kindOf ((p,w)::P.zip vs) m x=_
  unfold bindL
  exact bindL_get (i:=i) (List.nodup_cons.mp nd).2 (by simpa using h1) (by simpa using h2) hk
theorem bindC_get {kindOf:Str→Option NameKind}{x:Str}{v:Value}:∀ {P:List Str}{vs:List Value}{i:Nat}{m:Str→Option Value},P.Nodup→P[i]? = some x→vs[i]? = some v→kindOf x≠some .local→
  bindC kindOf (P.zip vs) m x=some v
 | [],_,_,_,_,h,_,_=>by simp at h
 | _::_,[],_,_,_,_,h,_=>by simp at h
 | p::P,w::vs,0,m,nd,h1,h2,hk=>by
  simp at h1 h2;subst h1;subst h2
  show bindC kindOf ((p,w)::P.zip vs) m p=_
  unfold bindC
  rw[bindC_out fun v hv=>(List.nodup_cons.mp nd).1 (List.of_mem_zip hv).1,if_neg hk]
  simp
 | p::P,w::vs,i+1,m,nd,h1,h2,hk=>by
  show bindC kindOf ((p,w)::P.zip vs) m x=_
  unfold bindC
  exact bindC_get (i:=i) (List.nodup_cons.mp nd).2 (by simpa using h1) (by simpa using h2) hk
noncomputable def start (N:List Str) (vs:List V):St:=vs.map some++List.replicate (N.length - vs.length) none
noncomputable def cxOf (CX:CXT) (P:Program) (w:World) (K:PySem.W.Frag) (mg:Str→Option Value) (base:Heap) (N:List Str) (qual:Str) (scope:Scope) (f:Addr) (cd:Value) (A:Around) (outer:List Env) (s:Shared) (H:Hp) (E:XK):Cx where
 prog:=P
 w:=w
 K:=K
 mg:=mg
 base:=base
 A:=A.deeper (envOfC qual scope s.heap.objs.size f cd)
 N:=N
 s₀:=s
 H₀:=H
 env:=envOfC qual scope s.heap.objs.size f cd
 outer:=outer
 stack:=envOfC qual scope s.heap.objs.size f cd::outer
 ex:=[]
 calm:=true
 fn:=fun _=>true
 pn:=[]
 xe:=fun e s'=>wpAny (model P w) (A.deeper (envOfC qual scope s.heap.objs.size f cd)) (leaving (envOfC qual scope s.heap.objs.size f cd) e) (fun _ s''=>CX outer H s E e s'') (fun e' s''=>CX outer H s E e' s'') s'
theorem cell_has {sc:Scope}{n:Nat}{x:Str} (h:sc.names.lookup x=some .cell):∃ c,(cellsFrom n sc.names []).lookup x=some c:=by
 have q:=PySem.W.cellsFrom_some sc.names n [] (.inl h)
 exact Option.isSome_iff_exists.mp q
theorem inv_start {CX:CXT}{P:Program}{w:World}{K:PySem.W.Frag}{mg:Str→Option Value}{base:Heap}{N ps:List Str}{qual:Str}{scope:Scope}{f:Addr}{cd:Value}{A:Around}{outer:List Env}{s s1:Shared}{H:Hp}{E:XK}{us:List Value}{vs:List V}
  (S:FnScope N ps scope) (hd:A.handled=none) (e0:Env0 P w K mg base A outer s H) (hl:vs.length=ps.length) (r:bK vs us)
  (x:InCallC s s.heap.objs.size (bindL (envOfC qual scope s.heap.objs.size f cd).kindOf (ps.zip us) fun _=>none) (cellsFrom (s.heap.objs.size+1) scope.names []) (bindC (envOfC qual scope s.heap.objs.size f cd).kindOf (ps.zip us) fun _=>none) s1) :
  Inv (cxOf CX P w K mg base N qual scope f cd A outer s H E) [] (start N vs) H s1:=by
 have hpl:ps.length≤N.length:=by have:=congrArg List.length S.pre;rw[List.length_take] at this;omega
 obtain⟨h1,tk,rfl,hk⟩:=x.done
 have noA:∀ b:Addr,b∉(cxOf CX P w K mg base N qual scope f cd A outer s H E).ex:=fun b z=>absurd (show b∈([]:List Addr) from z) (by simp)
 refine⟨⟨e0.mod,S.kind,rfl,rfl,Nat.le_refl _,fun y z c h1 h2=>?_,fun y hy=>?_,fun y c _ h=>?_,fun _=>hd,Around.frames_deeper e0.frames,.inr ⟨rfl,rfl⟩,fun b z=>absurd z (noA b),e0.bs,e0.bsz,fun b _ _=>noA b,fun b z=>absurd z (noA b),e0.funs,e0.frf⟩,
  rfl,e0.bare,Un.kept hk,⟨_,x.toInCall.ns,fun i y v h1 h2 h3=>?_⟩,fun y c h=>⟨_,x.cell y c h⟩,e0.hok.fresh (Nat.le_refl _),fun y c h=>?_,fun p hp=>absurd (show p∈([]:List (Addr×Obj)) from hp) (by simp),e0.hok.kept hk,?_⟩
 ·exact name_of_addr x.apart (PySem.mem_of_lookup h1) (PySem.mem_of_lookup h2)
 ·have hy:scope.names.lookup y=some .cell∨scope.names.lookup y=some .free:=hy
  rcases hy with hy | hy
  ·exact cell_has hy
  ·exact absurd rfl (S.nofree _ (PySem.mem_of_lookup hy))
 ·exact Nat.le_of_lt (x.above y c (PySem.mem_of_lookup h))
 ·have hi:i < vs.length:=by
   unfold start at h2
   by_cases hi:i < vs.length
   ·exact hi
   ·rw[List.getElem?_append_right (by simpa using hi)] at h2
    rw[List.getElem?_replicate] at h2
    split at h2 <;> cases h2
  have ha:vs[i]? = some v:=by
   unfold start at h2
   rw[List.getElem?_append_left (by simpa using hi),List.getElem?_map] at h2
   cases e:vs[i]? with
   | none=>rw[e] at h2;cases h2
   | some a=>rw[e] at h2;cases h2;rfl
  obtain⟨u,hu,rv⟩:=r.get ha
  have hp:ps[i]? = some y:=by
   rw[← S.pre,List.getElem?_take_of_lt (by omega)];exact h1
  have ndP:ps.Nodup:=by rw[← S.pre];exact S.nd.sublist (List.take_sublist _ _)
  refine⟨u,rv,?_⟩
  rcases S.par y (List.mem_of_getElem? hp) with k | k
  ·exact .inl ⟨k,bindL_get ndP hp hu k⟩
  ·obtain⟨c,e⟩:=cell_has (n:=s.heap.objs.size+1) k
   refine .inr ⟨.inl k,c,e,?_⟩
   have q:=x.cell y c e
   rw[bindC_get ndP hp hu (by show scope.names.lookup y≠_;rw[k];decide)] at q
   exact q
 ·exact e0.hok.fresh (Nat.le_of_lt (x.above y c (PySem.mem_of_lookup h)))
 ·unfold start
  show _=N.length
  rw[List.length_append,List.length_map,List.length_replicate]
  omega
theorem fn_of {CX:CXT}{P:Program}{w:World}{K:PySem.W.Frag}{mg:Str→Option Value}{base:Heap}{k:Nat}{f:Addr}{name qual:Str}{params:Arguments}{body:List Stmt}{scope:Scope}{dV kV doc pm cdv ct oc:Value}{an od:Option Addr}
  {osl:Array (Option Value)}{N ps:List Str}{sp:Sp} (lk:K.lookup f=some ⟨oc,od,.func (PySem.W.fnOf name qual params body scope dV kV doc pm an cdv ct),osl⟩) (hcd:PySem.W.codeIn K cdv qual=true) (S:FnScope N ps scope)
  (len:∀ vs H Q E,sp vs H Q E→vs.length=ps.length)
  (hbody:∀ (A:Around) (outer:List Env) (s:Shared) (H:Hp) (vs:List V) (Q:VK) (E:XK),Room k (A.deeper (envOfC qual scope s.heap.objs.size f cdv))→sp vs H Q E→
   ∃ t,PSs (cxOf CX P w K mg base N qual scope f cdv A outer s H E) body t∧t { nx:=fun _ H'=>Q .non H',rt:=Q } (start N vs) H) :
  FnOk P w K mg base CX (k+1) f (PySem.W.fnOf name qual params body scope dV kV doc pm an cdv ct) ps sp:=by
 refine⟨len,fun A outer s H args us vs Q E hr e0 hb r hsp=>?_⟩
 have hl:=len _ _ _ _ hsp
 have KX:K.In s.heap:=e0.mod.kin.keeps fun b o e=>(e0.bs b o e).1
 have lim:s.heap.NoLimit:=e0.mod.nolimit.keeps fun b o e=>(e0.bs b o e).1
 have hkind:∀ y∈ps.zip us,scope.names.lookup y.1=some .local∨(scope.names.lookup y.1=some .cell∧((cellsFrom (s.heap.objs.size+1) scope.names []).lookup y.1).isSome=true):=fun ⟨n,v⟩ hy=>by
  rcases S.par n (List.of_mem_zip hy).1 with q | q
  ·exact .inl q
  ·exact .inr ⟨q,PySem.W.cellsFrom_some _ _ _ (.inl q)⟩
 refine codeAny_call_function hr.depth (KX _ _ lk) rfl S.co S.gen rfl (PySem.W.codeRec_of KX hcd) (hb _ _ _ _ ?_)
 refine wpAny_newFunctionEnv_cells S.kind hkind fun env he s1 x=>?_
 subst he
 refine⟨lim.keeps x.toInCall.keep,codeAny_func ?_⟩
 obtain⟨t,ht,hq⟩:=hbody A outer s H vs Q E (hr.deeper _) hsp
 have I:Inv (cxOf CX P w K mg base N qual scope f cdv A outer s H E) [] (start N vs) H s1:=inv_start S hr.hd e0 hl r x
 refine wpAny_mono (ht [] s1 (start N vs) H _ I hq) (fun fl s' hs=>?_) fun e s' hs=>hs
 have fin:∀ {σ':St}{H':Hp}{v:V}{u:Value},Inv (cxOf CX P w K mg base N qual scope f cdv A outer s H E) [] σ' H' s'→aY v u→Q v H'→CE outer P w H s Q u s':=
  fun {σ' H' v u} J rv q=>⟨v,H',J.os,J.bare,J.base,J.hok,rv,q⟩
 cases fl with
 | ret u=>
  obtain⟨v,σ',H',J,rv,q⟩:=hs
  exact fin J rv q
 | next=>
  obtain⟨σ',H',J,q⟩:=hs
  exact fin (v:=V.non) (u:=Value.none) J rfl q
 | brk=>
  obtain⟨_,_,_,q⟩:=hs
  exact False.elim q
 | cont=>
  obtain⟨_,_,_,q⟩:=hs
  exact False.elim q
end L2
namespace L2
open PySem PySem.Spec PyProof.Rows
section
variable {X:Cx}{x:Str}{p pos:Pos}{e:Expr}{es:List Expr}{t:TA}{id T:String}{r:List V→Hp→VK→Prop}
noncomputable def tCB (r:List V→Hp→VK→Prop) (t:TA):TE:=fun σ H Q=>t σ H fun vs H1=>r vs H1 Q
theorem bA (hc:CallR X (.builtin id) r) (hg:Gl X x) (hm:X.mg x=none) (hv:bootBuiltins x=some (.builtin id)) (ha:PA X (e::es) t) (hn:x ≠ "__name__" := by decide) (hdb:(x == ("__debug__" : Str))=false:=by decide)
  (he:starEach (e::es) X.env=(false,eval e X.env)::starEach es X.env:=by rfl) (hpl:(backTo pos (starEach es X.env)).any (·.1)=false:=by rfl):PE X (.Call (.Name x p) (e::es) [] pos) (tCB r t):=by
 intro pins s σ H Q I h
 refine wpAny_Call_Name_kw (ld_blt I hg hm hv ?_ hn hdb)
 exact PyProof.Rows.callWith_builtin1 (cI (ha pos pins s σ H _ I h) fun us s1 ⟨vs,H1,I1,r1,q1⟩=>hc pins s1 σ H1 vs us Q I1 r1 q1) he hpl
theorem b9 (hc:CallR X (.type T) r) (hg:Gl X x) (hm:X.mg x=none) (hv:bootBuiltins x=some (.type T)) (ha:PA X (e::es) t) (hn:x ≠ "__name__" := by decide) (hdb:(x == ("__debug__" : Str))=false:=by decide)
  (he:starEach (e::es) X.env=(false,eval e X.env)::starEach es X.env:=by rfl) (hpl:(backTo pos (starEach es X.env)).any (·.1)=false:=by rfl):PE X (.Call (.Name x p) (e::es) [] pos) (tCB r t):=by
 intro pins s σ H Q I h
 refine wpAny_Call_Name_kw (ld_blt I hg hm hv ?_ hn hdb)
 exact PyProof.Rows.callWith_type1 (cI (ha pos pins s σ H _ I h) fun us s1 ⟨vs,H1,I1,r1,q1⟩=>hc pins s1 σ H1 vs us Q I1 r1 q1) he hpl
end
end L2
namespace HT
open PySem PyProof.Rows
section
open PySem.SeqAt
open PySem.AutoSeq1 (wpAny_loadPart')
open PySem.MeetsSeq PySem.MeetsSeq2 PySem.MeetsSeq3
end
section
variable {prog:Program}{w:World}{A:Around}{E:Value→Shared→Prop}{s:Shared}
theorem cat_tup {t b:Addr}{vs ws:List Value}{Q:Value→Shared→Prop} (ht:IsTup s.heap t vs.toArray) (hb:IsTup s.heap b ws.toArray) (hv:vs≠[])
  (h1:ws=[]→Q (.ref t) s) (h2:ws≠[]→Q (.ref s.heap.objs.size) { s with heap:=s.heap.push { cls:=.type "tuple",data:=.seq (vs++ws).toArray } })
  (hsz:vs.length+ws.length≤sizeLine):wpAny (model prog w) A (binaryOp .Add (.ref t) (.ref b)) Q E s:=by
 obtain⟨⟨cls,dd,data,sl⟩,ho,hc,n,hd⟩:=id ht
 obtain⟨⟨cls2,dd2,data2,sl2⟩,ho2,hc2,n2,hd2⟩:=id hb
 simp only at hc hd hc2 hd2
 subst hc hd hc2 hd2
 have e:vs.toArray++ws.toArray=(vs++ws).toArray:=by simp
 by_cases hw:ws=[]
 ·exact concat_meets ⟨_,ho,rfl⟩ ⟨_,ho2,rfl⟩ noFill_tuple_add seq_tuple_add PySem.F.slot_tuple_add PySem.F.entry_tuple_add (PySem.F.args_tuple_add_2 _ _)
   (tuple_addW1 t b vs.toArray ws.toArray n n2 dd dd2 sl sl2 (by simpa using hv) (by simp [hw])) ⟨ho,ho2,h1 hw⟩
 ·refine concat_meets ⟨_,ho,rfl⟩ ⟨_,ho2,rfl⟩ noFill_tuple_add seq_tuple_add PySem.F.slot_tuple_add PySem.F.entry_tuple_add (PySem.F.args_tuple_add_2 _ _)
   (tuple_addW2 t b vs.toArray ws.toArray n n2 dd dd2 sl sl2 (by simpa using hv) (by simpa using hw) (by rw[List.size_toArray,List.size_toArray];exact hsz)) ⟨ho,ho2,?_⟩
  rw[e]
  exact h2 hw
end
end HT
namespace L2
open PySem PySem.Spec PyProof.Rows
theorem intsAre_of {ns:List Int}:∀ {us:List Value},bK (ns.map V.int) us→IntsAre us ns:=by
 induction ns with
 | nil=>intro us r;rw[List.map_nil] at r;cases r;exact .nil
 | cons n ns ih=>
  intro us r
  rw[List.map_cons] at r
  cases r with
  | cons r1 r2=>
   obtain⟨t,e⟩:=r1
   subst e
   exact .cons n t (ih r2)
section
variable {X:Cx}{e:Expr}{te:TE}{lo hi:Option Expr}{tl th:TO}{pos p2:Pos}
noncomputable def rCatT (K:PySem.W.Frag):R2:=fun x y H Q=>∃ a b xs ys,x=.ref a∧y=.ref b∧bT K H a xs∧bT K H b ys∧xs≠[]∧xs.length+ys.length≤sizeLine∧
 (ys=[]→Q (.ref a) H)∧(ys≠[]→∀ p,H p=none→Q (.ref p) (upd H p (.tup (xs++ys))))
theorem bK.nil_iff {xs:List V}{us:List Value} (r:bK xs us):us=[]↔xs=[]:=by
 cases r with
 | nil=>simp
 | cons _ _=>simp
theorem op_catT:OpR X (binaryOp .Add) (rCatT X.K):=by
 intro pins s σ H x y v u Q I rx ry h
 obtain⟨a,b,xs,ys,rfl,rfl,ha,hb,hx,hz,q1,q2⟩:=h
 cases rx
 cases ry
 obtain⟨its,r1,p1,_⟩:=I.tuple ha
 obtain⟨its2,r2,p2,_⟩:=I.tuple hb
 refine HT.cat_tup p1 p2 (fun z=>hx (r1.nil_iff.mp z)) (fun z=>⟨.ref a,H,I,rfl,q1 (r2.nil_iff.mp z)⟩) (fun z=>?_) (by rw[← r1.length,← r2.length];exact hz)
 refine⟨.ref s.heap.objs.size,_,I.laid (t':=s.toks) (o:=.tup (xs++ys)) (fun b ob q=>Heap.get?_push_of_some _ q) (Nat.le_refl _) ?_,rfl,q2 (fun w=>z (r2.nil_iff.mpr w)) _ (I.hok.fresh (Nat.le_refl _))⟩
 exact⟨by rw[List.length_append];exact hz,_,r1.append r2,IsTup.new _ _⟩
end
end L2
namespace L2
open PySem PySem.Spec PyProof.Rows
noncomputable def ixN (n:Nat) (i:Int):Option Nat:=if 0≤i then (if i < n then some i.toNat else none) else if -(n:Int)≤i then some (i+n).toNat else none
noncomputable def atI {α:Type} (xs:List α) (i:Int):Option α:=(ixN xs.length i).bind fun j=>xs[j]?
theorem ixN_seq {n:Nat}{i:Int}{j:Nat} (h:ixN n i=some j):seqIndex? i n=some j∧j < n∧-(n:Int)≤i∧i < n:=by
 unfold ixN at h
 by_cases h0:0≤i
 ·rw[if_pos h0] at h
  by_cases h1:i < n
  ·rw[if_pos h1] at h
   have e:i.toNat=j:=Option.some.inj h
   exact⟨by rw[seqIndex_of h0 h1,e],by omega,by omega,h1⟩
  ·rw[if_neg h1] at h;cases h
 ·rw[if_neg h0] at h
  by_cases h1 : -(n:Int)≤i
  ·rw[if_pos h1] at h
   have e:(i+n).toNat=j:=Option.some.inj h
   exact⟨by rw[seqIndex_neg (by omega) h1,e],by omega,h1,by omega⟩
  ·rw[if_neg h1] at h;cases h
theorem atI_get {α:Type}{xs:List α}{i:Int}{v:α} (h:atI xs i=some v):∃ j,seqIndex? i xs.length=some j∧xs[j]? = some v∧j < xs.length∧-(xs.length:Int)≤i∧i < xs.length:=by
 unfold atI at h
 cases e:ixN xs.length i with
 | none=>rw[e] at h;cases h
 | some j=>
  rw[e] at h
  obtain⟨h1,h2,h3,h4⟩:=ixN_seq e
  exact⟨j,h1,h,h2,h3,h4⟩
theorem cL {α:Type}{xs:List α}{j:Nat}{v:α} (h:xs[j]? = some v):atI xs (j:Int)=some v:=by
 have hj:j < xs.length:=(List.getElem?_eq_some_iff.mp h).1
 have e:ixN xs.length (j:Int)=some j:=by
  unfold ixN
  rw[if_pos (by omega),if_pos (by omega)];simp
 unfold atI;rw[e];exact h
noncomputable def PlainIx (b:Expr):Prop:=∀ o i,subscripted b false o i=operate [o,i] (getItem o i)
noncomputable def IxR (X:Cx) (r:R2):Prop:=
 ∀ (value slice:Expr) (pins:List (Addr×Obj)) (s:Shared) (σ:St) (H:Hp) (x y:V) (v u:Value) (Q:VK),Inv X pins σ H s→aY x v→aY y u→r x y H Q→
  subscripted slice false v u=operate [v,u] (getItem v u)→wpAny (model X.prog X.w) X.A (subscriptTail value slice v u) (EP X pins σ Q) X.xe s
noncomputable def MtR (X:Cx) (id:String) (r:V→List V→Hp→VK→Prop):Prop:=
 ∀ (pins:List (Addr×Obj)) (s:Shared) (σ:St) (H:Hp) (x:V) (xs:List V) (v:Value) (us:List Value) (Q:VK),Inv X pins σ H s→aY x v→bK xs us→r x xs H Q→
  wpAny (model X.prog X.w) X.A (call (.builtin id) (v::us)) (EP X pins σ Q) X.xe s
section
variable {X:Cx}{a b:Expr}{ta tb:TE}{pos:Pos}
theorem IxR.or {r r':R2} (h:IxR X r) (h':IxR X r'):IxR X (fun x y H Q=>r x y H Q∨r' x y H Q):=by
 intro value slice pins s σ H x y v u Q I rx ry q hs
 rcases q with q | q
 ·exact h value slice pins s σ H x y v u Q I rx ry q hs
 ·exact h' value slice pins s σ H x y v u Q I rx ry q hs
theorem aU {r:R2} (hr:IxR X r) (ha:PE X a ta) (hb:PE X b tb) (hs:PlainIx b):PE X (.Subscript a b pos) (tOp r ta tb):=by
 intro pins s σ H Q I h
 exact Subscript_ (binT ha hb I h fun v u s2 x y H2 I2 rx ry q=>hr a b pins s2 σ H2 x y v u Q I2 rx ry q (hs _ _))
noncomputable def rIxL (K:PySem.W.Frag):R2:=fun x y H Q=>∃ p xs i v,x=.ref p∧y=.int i∧bZ K H p xs∧atI xs i=some v∧Q v H
noncomputable def rIxT (K:PySem.W.Frag):R2:=fun x y H Q=>∃ p xs i v,x=.ref p∧y=.int i∧bT K H p xs∧atI xs i=some v∧Q v H
noncomputable def rIxS:R2:=fun x y H Q=>∃ z i c,x=.str z∧y=.int i∧z.length≤sizeLine∧atI z.cps.toList i=some c∧Q (.str ⟨#[c]⟩) H
theorem ix_list:IxR X (rIxL X.K):=by
 intro value slice pins s σ H x y v u Q I rx ry h hs
 obtain⟨p,xs,i,z,rfl,rfl,hq,he,q⟩:=h
 cases rx
 obtain⟨t,rfl⟩:=ry
 obtain⟨its,r,pl,hz⟩:=I.list hq
 obtain⟨j,h1,h2,h3,h4,h5⟩:=atI_get he
 obtain⟨w,ew,rw'⟩:=r.get h2
 have hl:=r.length
 have hn:=line63
 have fin:EP X pins σ Q w s:=⟨z,H,I,rw',q⟩
 by_cases h0:0≤i
 ·have hj:i.toNat=j:=by
   rw[seqIndex_of h0 h5] at h1
   exact Option.some.inj h1
  exact item_listR pl.isList h0 (by omega) (by rw[hj];simpa using ew) fin hs
 ·have hj:(i+(its.toArray.size:Int)).toNat=j:=by
   rw[seqIndex_neg (by omega) h4] at h1
   rw[List.size_toArray,← hl]
   exact Option.some.inj h1
  exact subscriptTail_builtinR (x:=w) pl.isList.typeIs slot_list_getitem.lookup
   (wpAny_getItem_list_neg (Q:=fun r s'=>r=w∧EP X pins σ Q r s') pl.isList (by omega) (by rw[List.size_toArray] <;> omega) (by omega) (by rw[hj];simpa using ew) ⟨rfl,fin⟩) hs
theorem ix_tup:IxR X (rIxT X.K):=by
 intro value slice pins s σ H x y v u Q I rx ry h hs
 obtain⟨p,xs,i,z,rfl,rfl,hq,he,q⟩:=h
 cases rx
 obtain⟨t,rfl⟩:=ry
 obtain⟨its,r,pl,hz⟩:=I.tuple hq
 obtain⟨j,h1,h2,h3,h4,h5⟩:=atI_get he
 obtain⟨w,ew,rw'⟩:=r.get h2
 have hl:=r.length
 have hn:=line63
 have fin:EP X pins σ Q w s:=⟨z,H,I,rw',q⟩
 exact subscriptTail_builtinR (x:=w) pl.typeIs slot_tuple_getitem.lookup
  (getItem_tuple (j:=j) (Q:=fun r s'=>r=w∧EP X pins σ Q r s') pl (by omega) (by omega) (by rw[List.size_toArray,← hl];exact h1) (by simpa using ew) ⟨rfl,fin⟩) hs
theorem ix_str:IxR X rIxS:=by
 intro value slice pins s σ H x y v u Q I rx ry h hs
 obtain⟨z,i,c,rfl,rfl,hz,he,q⟩:=h
 obtain⟨t,rfl⟩:=rx
 obtain⟨t',rfl⟩:=ry
 obtain⟨j,h1,h2,h3,h4,h5⟩:=atI_get he
 have hl:z.cps.toList.length=z.length:=by simp [Str.length]
 rw[hl] at h1 h4 h5
 have hn:=line63
 exact tail_any (typeIs_str s z t) slot_str_getitem.lookup (getItem_str (c:=c) (by
  have e1:decide (i < -(2 ^ 63:Int))=false:=decide_eq_false (by omega)
  have e2:decide (i ≥ 2 ^ 63)=false:=decide_eq_false (by omega)
  rw[e1,e2,Bool.or_false]) (by rw[h1];simpa using h2) ⟨.str ⟨#[c]⟩,H,I.tok _,⟨_,rfl⟩,q⟩) hs
noncomputable def rIx (K:PySem.W.Frag):R2:=fun x y H Q=>rIxL K x y H Q∨rIxT K x y H Q∨rIxS x y H Q
theorem ix_seq:IxR X (rIx X.K):=ix_list.or (ix_tup.or ix_str)
theorem mapSeq_set (its:List Value) (n j:Nat) (u:Value):Obj.mapSeq (·.setIfInBounds j u) { cls:=.type "list",data:=.seq its.toArray n }={ cls:=.type "list",data:=.seq (its.set j u).toArray n }:=by
 simp [Obj.mapSeq]
theorem Inv.lst {pins:List (Addr×Obj)}{σ:St}{H:Hp}{s:Shared}{p:Addr}{xs:List V} (I:Inv X pins σ H s) (h:H p=some (.lst xs)) :
  ∃ (its:List Value) (n:Nat),bK xs its∧s.heap.get? p=some { cls:=.type "list",data:=.seq its.toArray n }∧xs.length≤sizeLine:=by
 obtain⟨z,its,n,r,e⟩:=I.hok p _ h
 exact⟨its,n,r,e,z⟩
theorem Inv.lstUpd {pins:List (Addr×Obj)}{σ:St}{H:Hp}{s:Shared}{p:Addr}{xs ys:List V}{its its':List Value}{n n':Nat}{f:Obj→Obj} (I:Inv X pins σ H s) (h:H p=some (.lst xs))
  (ho:s.heap.get? p=some { cls:=.type "list",data:=.seq its.toArray n }) (hf:f { cls:=.type "list",data:=.seq its.toArray n }={ cls:=.type "list",data:=.seq its'.toArray n' }) (r:bK ys its') (hz:ys.length≤sizeLine) (t:Nat) :
  Inv X pins σ (upd H p (.lst ys)) { s with heap:=s.heap.update p f,toks:=t }:=by
 have e:(s.heap.update p f).get? p=some { cls:=.type "list",data:=.seq its'.toArray n' }:=by
  rw[Heap.get?_update_self f ho (by rw[hf] <;> rfl),hf]
 refine I.write (x:=p) (e:=p) (by rw[h];trivial) (.inl rfl) (fun b u hb q=>(Heap.get?_update_other _ _ (Ne.symm hb)).trans q) ⟨_,e⟩ ?_
 exact⟨hz,its',n',r,e⟩
noncomputable def rSetL:V→V→V→Hp→(Hp→Prop)→Prop:=fun o i v H Q=>∃ p xs k j,o=.ref p∧i=.int k∧H p=some (.lst xs)∧ixN xs.length k=some j∧Q (upd H p (.lst (xs.set j v)))
theorem set_list:PSet X rSetL:=by
 intro pins s σ H o i v ov iv u Q I ro ri rv h
 obtain⟨p,xs,k,j,rfl,rfl,hp,hj,q⟩:=h
 cases ro
 obtain⟨t,rfl⟩:=ri
 obtain⟨its,n,r,ho,hz⟩:=I.lst hp
 obtain⟨h1,h2,h3,h4⟩:=ixN_seq hj
 have hl:=r.length
 have hn:=line63
 have I':Inv X pins σ (upd H p (.lst (xs.set j v))) { s with heap:=s.heap.update p (Obj.mapSeq (·.setIfInBounds j u)) }:=
  I.lstUpd hp ho (mapSeq_set its n j u) (r.set rv j) (by rw[List.length_set];exact hz) s.toks
 by_cases h0:0≤k
 ·have hk:k.toNat=j:=by
   rw[seqIndex_of h0 h4] at h1
   exact Option.some.inj h1
  exact PySem.W.ki_setAt ho h0 (by omega) (by rw[List.size_toArray,← hl];exact h4) (by rw[hk];exact⟨_,I',q⟩)
 ·have hk:(k+(its.toArray.size:Int)).toNat=j:=by
   rw[seqIndex_neg (by omega) h3] at h1
   rw[List.size_toArray,← hl]
   exact Option.some.inj h1
  exact PySem.W.ki_setBack ho (by omega) (by rw[List.size_toArray,← hl];exact h3) (by omega) (by rw[hk];exact⟨_,I',q⟩)
noncomputable def flatV:V→Bool
 | .non=>true
 | .bl _=>true
 | .int _=>true
 | .str _=>true
 | _=>false
noncomputable def eqV:V→V→Bool
 | .non,.non=>true
 | .bl a,.bl b=>a == b
 | .bl a,.int b=>(if a then 1 else 0) == b
 | .int a,.bl b=>a == (if b then 1 else 0)
 | .int a,.int b=>a == b
 | .str a,.str b=>a == b
 | _,_=>false
theorem eqAt_V {A:Around}{s:Shared}{y x:V}{u v:Value} (ry:aY y u) (rx:aY x v) (fy:flatV y=true) (fx:flatV x=true):SeqAt.EqAt A s u v (eqV y x):=by
 cases y with
 | non=>
  cases ry
  cases x with
  | non=>cases rx;exact SeqAt.EqAt.same _
  | bl b=>cases rx;exact SeqAt.EqAt.none_bool b
  | int b=>obtain⟨t,rfl⟩:=rx;exact SeqAt.EqAt.none_int b t
  | str b=>obtain⟨t,rfl⟩:=rx;exact SeqAt.EqAt.none_str b t
  | _=>exact absurd (show false=true from fx) Bool.false_ne_true
 | bl a=>
  cases ry
  cases x with
  | non=>cases rx;exact SeqAt.EqAt.bool_none a
  | bl b=>cases rx;exact SeqAt.EqAt.bool_bool a b
  | int b=>obtain⟨t,rfl⟩:=rx;exact SeqAt.EqAt.bool_int a b t
  | str b=>obtain⟨t,rfl⟩:=rx;exact SeqAt.EqAt.bool_str a b t
  | _=>exact absurd (show false=true from fx) Bool.false_ne_true
 | int a=>
  obtain⟨t',rfl⟩:=ry
  cases x with
  | non=>cases rx;exact SeqAt.EqAt.int_none a t'
  | bl b=>cases rx;exact SeqAt.EqAt.int_bool a t' b
  | int b=>obtain⟨t,rfl⟩:=rx;exact SeqAt.EqAt.int_int a t' b t
  | str b=>obtain⟨t,rfl⟩:=rx;exact SeqAt.EqAt.int_str a t' b t
  | _=>exact absurd (show false=true from fx) Bool.false_ne_true
 | str a=>
  obtain⟨t',rfl⟩:=ry
  cases x with
  | non=>cases rx;exact SeqAt.EqAt.str_none a t'
  | bl b=>cases rx;exact SeqAt.EqAt.str_bool a t' b
  | int b=>obtain⟨t,rfl⟩:=rx;exact SeqAt.EqAt.str_int a t' b t
  | str b=>obtain⟨t,rfl⟩:=rx;exact SeqAt.EqAt.str_str a t' b t
  | _=>exact absurd (show false=true from fx) Bool.false_ne_true
 | _=>exact absurd (show false=true from fy) Bool.false_ne_true
noncomputable def eqU (x:V) (u:Value):Bool:=match u with
 | .none=>eqV .non x
 | .bool b=>eqV (.bl b) x
 | .int i _=>eqV (.int i) x
 | .str z _=>eqV (.str z) x
 | _=>false
theorem eqU_of {x y:V}{u:Value} (r:aY y u) (f:flatV y=true):eqU x u=eqV y x:=by
 cases y with
 | non=>cases r;rfl
 | bl b=>cases r;rfl
 | int i=>obtain⟨t,rfl⟩:=r;rfl
 | str z=>obtain⟨t,rfl⟩:=r;rfl
 | _=>exact absurd (show false=true from f) Bool.false_ne_true
theorem any_eqU {x:V}:∀ {xs:List V}{us:List Value},bK xs us→xs.all flatV=true→us.any (eqU x)=xs.any fun y=>eqV y x
 | _,_,.nil,_=>rfl
 | y::xs,u::us,.cons r t,f=>by
  rw[List.all_cons,Bool.and_eq_true] at f
  rw[List.any_cons,List.any_cons,eqU_of r f.1,any_eqU t f.2]
theorem mem_eqAt {A:Around}{s:Shared}{x:V}{v:Value} (rx:aY x v) (fx:flatV x=true):∀ {xs:List V}{us:List Value},bK xs us→xs.all flatV=true→∀ u∈us,SeqAt.EqAt A s u v (eqU x u)
 | _,_,.nil,_=>fun u hu=>by cases hu
 | y::xs,u::us,.cons r t,f=>fun u' hu=>by
  rw[List.all_cons,Bool.and_eq_true] at f
  rcases List.mem_cons.mp hu with rfl | hu
  ·rw[eqU_of r f.1];exact eqAt_V r rx f.1 fx
  ·exact mem_eqAt rx fx t f.2 u' hu
noncomputable def inV (x:V) (xs:List V):Bool:=xs.any fun y=>eqV y x
noncomputable def rIn (K:PySem.W.Frag) (neg:Bool):R2:=fun x y H Q=>∃ p xs,y=.ref p∧(bZ K H p xs∨bT K H p xs)∧flatV x=true∧xs.all flatV=true∧Q (.bl (if neg then !inV x xs else inV x xs)) H
theorem op_in_seq:OpR X (compareOp .In) (rIn X.K false):=by
 intro pins s σ H x y v u Q I rx ry h
 obtain⟨p,xs,rfl,hq,fx,fs,q⟩:=h
 cases ry
 rcases hq with hq | hq
 ·obtain⟨its,r,pl,hz⟩:=I.list hq
  refine SeqAt.in_listAt (eqU x) pl.isList (fun w hw=>mem_eqAt rx fx r fs w (by simpa using hw)) ⟨.bl _,H,I,rfl,?_⟩
  rw[show its.toArray.any (eqU x)=its.any (eqU x) by simp,any_eqU r fs]
  exact q
 ·obtain⟨its,r,pl,hz⟩:=I.tuple hq
  refine SeqAt.in_tupleAt (eqU x) pl (fun w hw=>mem_eqAt rx fx r fs w (by simpa using hw)) ⟨.bl _,H,I,rfl,?_⟩
  rw[show its.toArray.any (eqU x)=its.any (eqU x) by simp,any_eqU r fs]
  exact q
theorem call_len_seq:CallR X (.builtin "len") (fun xs H Q=>∃ p ys,xs=[.ref p]∧(bZ X.K H p ys∨bT X.K H p ys)∧Q (.int ys.length) H):=by
 intro pins s σ H xs us Q I r h
 obtain⟨p,ys,rfl,hq,q⟩:=h
 obtain⟨u,rfl,rx⟩:=vals1 r
 cases rx
 have hn:=line63
 rcases hq with hq | hq
 ·obtain⟨its,r',pl,hz⟩:=I.list hq
  have hlen:=r'.length
  exact Calls.call_len_list pl.isList (by simp only [List.size_toArray] <;> omega) ⟨.int ys.length,H,I.tok _,⟨s.toks+1,by rw[List.size_toArray,hlen]⟩,q⟩
 ·obtain⟨its,r',pl,hz⟩:=I.tuple hq
  have hlen:=r'.length
  exact len_tuple pl (by simp only [List.size_toArray] <;> omega) ⟨.int ys.length,H,I.tok _,⟨s.toks+1,by rw[List.size_toArray,hlen]⟩,q⟩
theorem call_list_of:CallR X (.type "list") (fun xs H Q=>∃ p ys,xs=[.ref p]∧(bZ X.K H p ys∨bT X.K H p ys)∧∀ l,H l=none→Q (.ref l) (upd H l (.lst ys))):=by
 intro pins s σ H xs us Q I r h
 obtain⟨p,ys,rfl,hq,q⟩:=h
 obtain⟨u,rfl,rx⟩:=vals1 r
 cases rx
 have fin:∀ (its:List Value),bK ys its→ys.length≤sizeLine→∀ (h':Heap) (c':Nat),(∀ b o',s.heap.get? b=some o'→h'.get? b=some o')→
   h'.get? s.heap.objs.size=some { cls:=.type "list",dict:=none,data:=.seq its.toArray c',slots:=#[] }→EP X pins σ Q (.ref s.heap.objs.size) { s with heap:=h' }:=fun its r' hz h' c' kp e=>
  ⟨.ref s.heap.objs.size,_,I.laid (t':=s.toks) kp (Nat.le_refl _) (show bU X.prog X.w _ h' _ (.lst ys) from ⟨hz,its,c',r',e⟩),rfl,q _ (I.hok.fresh (Nat.le_refl _))⟩
 rcases hq with hq | hq
 ·obtain⟨its,r',pl,hz⟩:=I.list hq
  have hlen:=r'.length
  obtain⟨o,ho,hc,n,hd⟩:=pl.isList
  exact call_list_seq p (.inl rfl) ho hc hd (fun h' c' kp e=>fin its r' hz h' c' kp e) (by simp only [List.size_toArray] <;> omega)
 ·obtain⟨its,r',pl,hz⟩:=I.tuple hq
  have hlen:=r'.length
  obtain⟨o,ho,hc,n,hd⟩:=pl
  exact call_list_seq p (.inr rfl) ho hc hd (fun h' c' kp e=>fin its r' hz h' c' kp e) (by simp only [List.size_toArray] <;> omega)
theorem call_tuple_of:CallR X (.type "tuple") (fun xs H Q=>∃ p ys,xs=[.ref p]∧((bZ X.K H p ys∧∀ l,H l=none→Q (.ref l) (upd H l (.tup ys)))∨(bT X.K H p ys∧Q (.ref p) H))):=by
 intro pins s σ H xs us Q I r h
 obtain⟨p,ys,rfl,h⟩:=h
 obtain⟨u,rfl,rx⟩:=vals1 r
 cases rx
 rcases h with ⟨hq,q⟩ | ⟨hq,q⟩
 ·obtain⟨its,r',pl,hz⟩:=I.list hq
  have hlen:=r'.length
  refine call_tuple_list pl.isList (fun h' kp=>?_) (by simp only [List.size_toArray] <;> omega)
  have I1:Inv X pins σ H { s with heap:=h' }:=I.kept (t':=s.toks) kp
  have I2:Inv X pins σ (upd H h'.objs.size (.tup ys)) { s with heap:=h'.push { cls:=.type "tuple",data:=.seq its.toArray } }:=
   I1.laid (t':=s.toks) (fun b o e=>Heap.get?_push_of_some _ e) (Nat.le_refl _) (show bU X.prog X.w _ _ _ (.tup ys) from ⟨hz,its,r',IsTup.new _ _⟩)
  exact⟨.ref h'.objs.size,_,I2,rfl,q _ (I1.hok.fresh (Nat.le_refl _))⟩
 ·obtain⟨its,r',pl,hz⟩:=I.tuple hq
  exact call_tuple_same pl ⟨.ref p,H,I,rfl,q⟩
noncomputable def tyV (K:PySem.W.Frag) (T:String) (x:V) (H:Hp):Prop:=match x with
 | .str _=>T = "str"
 | .int _=>T = "int"
 | .ref p=>(T = "list" ∧ ∃ xs,bZ K H p xs)∨(T = "tuple" ∧ ∃ o,K.lookup p=some o∧o.cls=.type "tuple" ∧ o.dict=none)∨
   (T = "dict" ∧ ((∃ kvs,H p=some (.dK kvs))∨∃ kvs,H p=some (.dT kvs)))∨(T = "set" ∧ ∃ S n,H p=some (.set S n))
 | _=>False
theorem tyV_is {pins:List (Addr×Obj)}{σ:St}{H:Hp}{s:Shared}{T:String}{x:V}{v:Value} (I:Inv X pins σ H s) (r:aY x v) (ty:tyV X.K T x H) :
  s.TypeIs v T∧∀ a,v=.ref a→∃ ob,s.heap.get? a=some ob∧ob.dict=none:=by
 cases x with
 | str z=>
  obtain⟨t,rfl⟩:=r
  cases (show T = "str" from ty)
  exact⟨typeIs_str s z t,fun _ e=>nomatch e⟩
 | int i=>
  obtain⟨t,rfl⟩:=r
  cases (show T = "int" from ty)
  exact⟨typeIs_int s i t,fun _ e=>nomatch e⟩
 | ref p=>
  cases r
  rcases ty with ⟨rfl,xs,hq⟩ | ⟨rfl,o,hk,hc,hd⟩ | ⟨rfl,hk⟩ | ⟨rfl,S,n,hk⟩
  ·obtain⟨its,_,pl,_⟩:=I.list hq
   refine⟨pl.isList.typeIs,fun a e=>?_⟩
   cases e
   obtain⟨o,n,e,c,hd,_⟩:=pl
   exact⟨o,e,hd⟩
  ·refine⟨⟨o,I.kIn p o hk,hc⟩,fun a e=>?_⟩
   cases e
   exact⟨o,I.kIn _ o hk,hd⟩
  ·have z:∃ o,s.heap.get? p=some o∧o.ExactDict:=by
    rcases hk with ⟨kvs,hk⟩ | ⟨kvs,hk⟩
    ·obtain⟨_,_,_,_,o,_,_,e,ex,_⟩:=I.hok p _ hk
     exact⟨o,e,ex⟩
    ·obtain⟨_,_,_,_,o,_,_,e,ex,_⟩:=I.hok p _ hk
     exact⟨o,e,ex⟩
   obtain⟨o,e,ex⟩:=z
   refine⟨⟨o,e,ex.1⟩,fun a e2=>?_⟩
   cases e2
   exact⟨o,e,ex.2.1⟩
  ·obtain⟨o,_,_,_,e,ex,_⟩:=I.hok p _ hk
   refine⟨⟨o,e,ex.1⟩,fun a e2=>?_⟩
   cases e2
   exact⟨o,e,ex.2.1⟩
 | _=>exact False.elim ty
noncomputable def tBM (K:PySem.W.Frag) (T:String) (r:V→List V→Hp→VK→Prop) (to:TE) (t:TA):TE:=fun σ H Q=>to σ H fun x H1=>tyV K T x H1∧t σ H1 fun xs H2=>r x xs H2 Q
variable {o e:Expr}{es:List Expr}{to:TE}{t:TA}{name:Str}{apos cpos:Pos}{T id:String}{r:V→List V→Hp→VK→Prop}
theorem pe_bm (pa:PlainAttrs T) (slot:Slot T name id) (hty:typeOf (.builtin id)=pure (.type "method_descriptor")) (hm:MtR X id r) (ho:PE X o to) (ha:PA X (e::es) t)
  (hbase:attributeBase o name X.env (eval o X.env)=eval o X.env:=by rfl)
  (hfew:((backTo cpos (starEach (e::es) X.env)).all (fun x=>!x.1) && (backToKw cpos (keywordEach [] X.env)).all (fun x=>x.1.isSome)
   && decide ((e::es).length+([]:List Keyword).length+(if ([]:List Keyword).isEmpty then 0 else 1) < 30))=true:=by rfl)
  (hline:(apos.endLine == cpos.line)=true:=by rfl) (hs:starEach (e::es) X.env=(false,eval e X.env)::starEach es X.env:=by rfl) (hplain:(backTo cpos (starEach es X.env)).any (·.1)=false:=by rfl) :
  PE X (.Call (.Attribute o name apos) (e::es) [] cpos) (tBM X.K T r to t):=by
 intro pins s σ H Q I h
 refine wpAny_Call_method_late hbase hfew hline rfl (cI (ho pins s σ H _ I h) fun v s1 ⟨x,H1,I1,r1,ty,q1⟩=>?_)
 obtain⟨h1,h2⟩:=tyV_is I1 r1 ty
 refine⟨T,id,pa,slot,hty,h1,h2,?_⟩
 have hA:=ha cpos pins s1 σ H1 _ I1 q1
 rw[hs] at hA ⊢
 refine Calls.callWith_builtin (by show (false || (backTo cpos (starEach es X.env)).any (·.1))=false;rw[hplain] <;> rfl) (Calls.evalArgs_plain ?_)
 exact cI hA fun us s2 ⟨vs,H2,I2,r2,q2⟩=>hm pins s2 σ H2 x vs v us Q I2 r1 r2 q2
end
end L2
namespace L2
open PySem PySem.Spec PyProof.Rows
noncomputable def MtM (X:Cx) (id:String) (r:V→List V→Hp→VK→Prop):Prop:=
 ∀ (pins:List (Addr×Obj)) (s:Shared) (σ:St) (H:Hp) (x:V) (xs:List V) (v:Value) (us:List Value) (Q:VK),Inv X pins σ H s→aY x v→bK xs us→r x xs H Q→
  wpAny (model X.prog X.w) X.A (call (.builtin id) (v::us)) (EP X pins σ Q) X.xe s
theorem bK.one {x:V}{us:List Value} (h:bK [x] us):∃ u,us=[u]∧aY x u:=vals1 h
theorem bK.two {x y:V}{us:List Value} (h:bK [x,y] us):∃ u v,us=[u,v]∧aY x u∧aY y v:=vals2 h
theorem bK.rep {xs:List V}{us:List Value} (h:bK xs us):∀ k:Nat,bK (List.replicate k xs).flatten (List.replicate k us).flatten
 | 0=>.nil
 | k+1=>by
  rw[List.replicate_succ,List.replicate_succ,List.flatten_cons,List.flatten_cons]
  exact bK.append h (bK.rep h k)
theorem foldl_rep (its:List Value):∀ (k:Nat) (acc:List Value),
  List.foldl (fun x1 x2=>x1++x2) acc.toArray (List.replicate k its.toArray)=(acc++(List.replicate k its).flatten).toArray
 | 0,acc=>by simp
 | k+1,acc=>by
  have e:acc.toArray++its.toArray=(acc++its).toArray:=by simp
  have e2:(acc++its)++(List.replicate k its).flatten=acc++(List.replicate (k+1) its).flatten:=by
   rw[List.replicate_succ,List.flatten_cons,List.append_assoc]
  rw[← e2,← foldl_rep its k (acc++its),← e,List.replicate_succ,List.foldl_cons]
section
variable {X:Cx}{pins:List (Addr×Obj)}{σ:St}{H:Hp}{s:Shared}{l b:Addr}{xs ys zs:List V}
theorem Inv.lset {its its':List Value}{n:Nat}{f:Array Value→Array Value}{t':Nat} (I:Inv X pins σ H s) (hH:H l=some (.lst xs))
  (e:s.heap.get? l=some { cls:=.type "list",data:=.seq its.toArray n }) (hf:f its.toArray=its'.toArray) (hv:bK ys its') (hz:ys.length≤sizeLine) :
  Inv X pins σ (upd H l (.lst ys)) { s with heap:=s.heap.update l (Obj.mapSeq f),toks:=t' }:=by
 have q:=PySem.IsL.update e f
 rw[hf] at q
 refine I.write (x:=l) (e:=l) (by rw[hH];exact trivial) (.inl rfl) (fun b' u hb hu=>(Heap.get?_update_other s.heap (Obj.mapSeq f) (Ne.symm hb)).trans hu) ⟨_,q⟩ ?_
 exact⟨hz,its',_,hv,q⟩
theorem Inv.lnew {its:List Value}{t':Nat} (I:Inv X pins σ H s) (hv:bK ys its) (hz:ys.length≤sizeLine) :
  Inv X pins σ (upd H s.heap.objs.size (.lst ys)) { s with heap:=s.heap.push { cls:=.type "list",data:=.seq its.toArray },toks:=t' }:=
 I.laid (fun _ _ q=>Heap.get?_push_of_some _ q) (Nat.le_refl _) ⟨hz,its,0,hv,Heap.get?_push_size _ rfl⟩
theorem Inv.fresh (I:Inv X pins σ H s):H s.heap.objs.size=none:=I.hok.fresh (Nat.le_refl _)
theorem Inv.lstM (I:Inv X pins σ H s) (hH:H l=some (.lst xs)):xs.length≤sizeLine∧∃ (its:List Value) (n:Nat),bK xs its∧xs.length=its.length∧s.heap.get? l=some { cls:=.type "list",data:=.seq its.toArray n }:=by
 obtain⟨z,its,n,r,e⟩:=I.hok l _ hH
 exact⟨z,its,n,r,r.length,e⟩
theorem notLongL {n:Nat} (h:n≤sizeLine):Builtin.List.listTooLong n=false:=by
 unfold Builtin.List.listTooLong
 exact decide_eq_false (by omega)
end
section
variable {X:Cx}
noncomputable def rAppend:V→List V→Hp→VK→Prop:=fun x vs H Q=>∃ l xs y,x=.ref l∧vs=[y]∧H l=some (.lst xs)∧xs.length < sizeLine∧Q .non (upd H l (.lst (xs++[y])))
theorem cJ:MtM X "list.append" rAppend:=by
 intro pins s σ H x vs v us Q I rx rv h
 obtain⟨l,xs,y,rfl,rfl,hH,hz,q⟩:=h
 cases rx
 obtain⟨u,rfl,ru⟩:=rv.one
 obtain⟨z,its,n,r,hl,e⟩:=I.lstM hH
 refine call_meets F.slot_list_append ⟨_,e,rfl⟩ F.entry_list_append (F.args_list_append_2 _ _) (PySem.list_append l its.toArray n u (by rw[List.size_toArray];omega)) ⟨e,?_⟩
 refine⟨.non,_,I.lset (its':=its++[u]) hH e (by simp) (r.append (.cons ru .nil)) ?_,rfl,q⟩
 rw[List.length_append,List.length_singleton]
 omega
noncomputable def rExtend:V→List V→Hp→VK→Prop:=fun x vs H Q=>∃ l b xs zs,x=.ref l∧vs=[.ref b]∧H l=some (.lst xs)∧H b=some (.lst zs)∧xs.length+zs.length≤sizeLine∧Q .non (upd H l (.lst (xs++zs)))
theorem mt_extend:MtM X "list.extend" rExtend:=by
 intro pins s σ H x vs v us Q I rx rv h
 obtain⟨l,b,xs,zs,rfl,rfl,hH,hB,hz,q⟩:=h
 cases rx
 obtain⟨u,rfl,ru⟩:=rv.one
 cases ru
 obtain⟨z,its,n,r,hl,e⟩:=I.lstM hH
 obtain⟨z2,its2,n2,r2,hl2,e2⟩:=I.lstM hB
 have hsz:its.toArray.size+its2.toArray.size≤sizeLine:=by rw[List.size_toArray,List.size_toArray];omega
 have hlong:¬ (!its.toArray.isEmpty && Builtin.List.listTooLong (its.toArray.size+its2.toArray.size))=true:=by
  rw[notLongL hsz,Bool.and_false]
  exact Bool.false_ne_true
 refine call_meets F.slot_list_extend ⟨_,e,rfl⟩ F.entry_list_extend (F.args_list_extend_2 _ _)
  (AutoSeq1.list_extend_list_list_0 l its.toArray n b its2.toArray n2 hlong (by rw[List.size_toArray];omega) (by omega)) ⟨e,e2,?_⟩
 refine⟨.non,_,I.lset (its':=its++its2) hH e (by simp) (r.append r2) ?_,rfl,q⟩
 rw[List.length_append]
 omega
noncomputable def rCat:R2:=fun x y H Q=>∃ l b xs zs,x=.ref l∧y=.ref b∧H l=some (.lst xs)∧H b=some (.lst zs)∧xs.length+zs.length≤sizeLine∧∀ p,H p=none→Q (.ref p) (upd H p (.lst (xs++zs)))
theorem op_cat:OpR X (binaryOp .Add) rCat:=by
 intro pins s σ H x y v u Q I rx ry h
 obtain⟨l,b,xs,zs,rfl,rfl,hH,hB,hz,q⟩:=h
 cases rx
 cases ry
 obtain⟨z,its,n,r,hl,e⟩:=I.lstM hH
 obtain⟨z2,its2,n2,r2,hl2,e2⟩:=I.lstM hB
 refine PySem.P.add_list e e2 ?_ (by rw[List.size_toArray,List.size_toArray];omega)
 have ea:its.toArray++its2.toArray=(its++its2).toArray:=by simp
 rw[ea]
 exact⟨.ref _,_,I.lnew (t':=s.toks) (r.append r2) (by rw[List.length_append];omega),rfl,q _ I.fresh⟩
noncomputable def rRep:R2:=fun x y H Q=>∃ l k xs,x=.ref l∧y=.int k∧H l=some (.lst xs)∧-(2 ^ 63)≤k∧k < 2 ^ 63∧xs.length * k.toNat≤sizeLine∧
 ∀ p,H p=none→Q (.ref p) (upd H p (.lst (List.replicate k.toNat xs).flatten))
theorem len_rep {α:Type} (xs:List α) (k:Nat):(List.replicate k xs).flatten.length=k * xs.length:=by
 induction k with
 | zero=>simp
 | succ k ih=>rw[List.replicate_succ,List.flatten_cons,List.length_append,ih,Nat.succ_mul,Nat.add_comm]
theorem op_rep:OpR X (binaryOp .Mult) rRep:=by
 intro pins s σ H x y v u Q I rx ry h
 obtain⟨l,k,xs,rfl,rfl,hH,h1,h2,hz,q⟩:=h
 cases rx
 obtain⟨t,rfl⟩:=ry
 obtain⟨z,its,n,r,hl,e⟩:=I.lstM hH
 have hlen:its.toArray.size * k.toNat≤sizeLine:=by rw[List.size_toArray,← hl];exact hz
 have hcap:¬ its.toArray.size * k.toNat > (2 ^ 63 - 1) / 8:=by
  have:(sizeLine:Nat)≤(2 ^ 63 - 1) / 8:=by decide
  omega
 have hfit:¬ (!Builtin.List.listFitsIndex k)=true:=by
  rw[fitsIndex_both h1 h2]
  exact Bool.false_ne_true
 have hlong:¬ Builtin.List.listTooLong (its.toArray.size * k.toNat)=true:=by
  rw[notLongL hlen]
  exact Bool.false_ne_true
 have hnew:List.foldl (fun x1 x2=>x1++x2) #[] (List.replicate (if its.toArray.isEmpty=true then 0 else k.toNat) its.toArray)=(List.replicate k.toNat its).flatten.toArray:=by
  have f0:∀ m:Nat,List.foldl (fun x1 x2=>x1++x2) #[] (List.replicate m its.toArray)=(List.replicate m its).flatten.toArray:=fun m=>by
   have:=foldl_rep its m []
   rw[List.nil_append] at this
   exact this
  rw[f0]
  cases its with
  | nil=>simp
  | cons a r'=>rw[if_neg (by simp)]
 refine wpAny_binaryOp_repeat_ref (T := "list") (U := "int") (by decide) ⟨_,e,rfl⟩ (fun s'=>typeIs_int s' k t) noFill_list_mul F.fills_int_mul F.slot_int_rmul repeat_list F.slot_int_index.lookup
  (call_meets F.slot_int_rmul (typeIs_int s k t) F.entry_int_rmul (F.args_int_rmul_2 _ _) (int___rmul___int_list k t l its.toArray n)
   ⟨e,rfl,⟨_,e,rfl⟩,call_meets F.slot_list_mul ⟨_,e,rfl⟩ F.entry_list_mul (F.args_list_mul_2 _ _) (AutoListH.list___mul___list_int_3 l its.toArray n k t hfit hcap hlong) ⟨e,?_⟩⟩)
 rw[hnew]
 exact⟨.ref _,_,I.lnew (t':=s.toks) (r.rep k.toNat) (by rw[len_rep,Nat.mul_comm];exact hz),rfl,q _ I.fresh⟩
end
section
variable {prog:Program}{w:World}{A:Around}{E:Value→Shared→Prop}{s:Shared}
end
section
variable {X:Cx}
end
end L2
namespace L2
open PySem PySem.Spec PyProof.Rows
section
variable {κ:Type} [DecidableEq κ]
noncomputable def dF (kvs:List (κ×V)) (k:κ):Option V:=(kvs.find? fun kv=>decide (kv.1=k)).map (·.2)
noncomputable def putK (kvs:List (κ×V)) (k:κ) (v:V):List (κ×V):=
 if (kvs.any fun kv=>decide (kv.1=k))=true then kvs.map (fun kv=>if kv.1=k then (kv.1,v) else kv) else kvs++[(k,v)]
theorem d0 {p:κ×V}{r:List (κ×V)}{k:κ} (e:p.1=k):dF (p::r) k=some p.2:=by simp [dF,List.find?_cons,e]
theorem d4 {p:κ×V}{r:List (κ×V)}{k:κ} (e:¬ p.1=k):dF (p::r) k=dF r k:=by simp [dF,List.find?_cons,e]
theorem valV_any (k:κ):∀ kvs:List (κ×V),(kvs.any fun kv=>decide (kv.1=k))=(dF kvs k).isSome
 | []=>rfl
 | p::r=>by
  rw[List.any_cons]
  by_cases e:p.1=k
  ·simp only [d0 e,decide_eq_true e,Bool.true_or,Option.isSome_some]
  ·rw[d4 e,decide_eq_false e,Bool.false_or];exact valV_any k r
theorem valV_map (k j:κ) (y:V):∀ kvs:List (κ×V),dF (kvs.map fun kv=>if kv.1=k then (kv.1,y) else kv) j=(dF kvs j).map fun x=>if j=k then y else x
 | []=>rfl
 | p::r=>by
  have ih:=valV_map k j y r
  rw[List.map_cons]
  by_cases h:p.1=k
  ·rw[if_pos h]
   by_cases e:p.1=j
   ·rw[d0 (p:=(p.1,y)) e,d0 e,Option.map_some,if_pos (e.symm.trans h)]
   ·rw[d4 (p:=(p.1,y)) e,d4 e,ih]
  ·rw[if_neg h]
   by_cases e:p.1=j
   ·rw[d0 (p:=p) e,d0 e,Option.map_some,if_neg (fun z=>h (e.trans z))]
   ·rw[d4 (p:=p) e,d4 e,ih]
theorem valV_snoc (k j:κ) (y:V):∀ kvs:List (κ×V),dF kvs k=none→dF (kvs++[(k,y)]) j=if j=k then some y else dF kvs j
 | [],_=>by
  by_cases e:k=j
  ·rw[if_pos e.symm];exact d0 (p:=(k,y)) e
  ·rw[if_neg (fun z=>e z.symm)];exact d4 (p:=(k,y)) e
 | p::r,hn=>by
  rw[List.cons_append]
  have hk:¬ p.1=k:=fun z=>by rw[d0 z] at hn;cases hn
  rw[d4 hk] at hn
  have ih:=valV_snoc k j y r hn
  by_cases e:p.1=j
  ·rw[d0 e,d0 e,if_neg (fun z=>hk (e.trans z))]
  ·rw[d4 e,d4 e,ih]
theorem valV_put (kvs:List (κ×V)) (k j:κ) (y:V):dF (putK kvs k y) j=if j=k then some y else dF kvs j:=by
 unfold putK
 by_cases a:(kvs.any fun kv=>decide (kv.1=k))=true
 ·rw[if_pos a,valV_map]
  rw[valV_any] at a
  by_cases e:j=k
  ·obtain⟨x,hx⟩:=Option.isSome_iff_exists.mp a
   rw[if_pos e,e,hx,Option.map_some,if_pos rfl]
  ·rw[if_neg e]
   cases dF kvs j with
   | none=>rfl
   | some x=>rw[Option.map_some,if_neg e]
 ·rw[if_neg a]
  refine valV_snoc k j y kvs ?_
  rw[valV_any] at a
  cases q:dF kvs k with
  | none=>rfl
  | some x=>rw[q] at a;exact (a rfl).elim
theorem length_putK (kvs:List (κ×V)) (k:κ) (v:V):(putK kvs k v).length≤kvs.length+1:=by
 unfold putK
 split
 ·rw[List.length_map];omega
 ·rw[List.length_append,List.length_cons,List.length_nil];omega
theorem putK_new {kvs:List (κ×V)}{k:κ} (v:V) (h:dF kvs k=none):putK kvs k v=kvs++[(k,v)]:=by
 unfold putK
 rw[valV_any,h]
 exact if_neg (by decide)
theorem RelO.isSome_eq {o:Option V}{u:Option Value} (r:RelO o u):o.isSome=u.isSome:=by
 cases o with
 | none=>cases u with
  | none=>rfl
  | some _=>exact (show False from r).elim
 | some _=>cases u with
  | none=>exact (show False from r).elim
  | some _=>rfl
theorem RelO.getD {o:Option V}{u:Option Value}{d:V}{d':Value} (r:RelO o u) (rd:aY d d'):aY (o.getD d) (u.getD d'):=by
 cases o with
 | none=>cases u with
  | none=>exact rd
  | some _=>exact (show False from r).elim
 | some _=>cases u with
  | none=>exact (show False from r).elim
  | some _=>exact r
theorem KV.val {kvs:List (κ×V)}{vs:List (κ×Value)} (r:KV kvs vs) (k:κ):RelO (dF kvs k) (valueAt vs k):=by
 unfold KV at r
 induction r with
 | nil=>exact True.intro
 | @cons p q ps qs h t ih=>
  obtain⟨h1,h2⟩:=h
  by_cases e:p.1=k
  ·have e':q.1=k:=h1.symm.trans e
   have b:valueAt (q::qs) k=some q.2:=by simp [valueAt,List.find?_cons,e']
   rw[d0 e,b];exact h2
  ·have e':¬ q.1=k:=fun z=>e (h1.trans z)
   have b:valueAt (q::qs) k=valueAt qs k:=by simp [valueAt,List.find?_cons,e']
   rw[d4 e,b];exact ih
theorem KV.any {kvs:List (κ×V)}{vs:List (κ×Value)} (r:KV kvs vs) (k:κ):(kvs.any fun kv=>decide (kv.1=k))=vs.any fun kv=>decide (kv.1=k):=by
 unfold KV at r
 induction r with
 | nil=>rfl
 | cons h t ih=>rw[List.any_cons,List.any_cons,ih,h.1]
theorem KV.repl {kvs:List (κ×V)}{vs:List (κ×Value)} (r:KV kvs vs) (k:κ) {y:V}{u:Value} (ry:aY y u) :
  KV (kvs.map fun kv=>if kv.1=k then (kv.1,y) else kv) (vs.map fun kv=>if kv.1=k then (kv.1,u) else kv):=by
 unfold KV at r ⊢
 induction r with
 | nil=>exact .nil
 | @cons p q ps qs h t ih=>
  rw[List.map_cons,List.map_cons]
  refine .cons ?_ ih
  obtain⟨h1,h2⟩:=h
  by_cases e:p.1=k
  ·rw[if_pos e,if_pos (h1.symm.trans e)];exact⟨h1,ry⟩
  ·rw[if_neg e,if_neg (fun z=>e (h1.trans z))];exact⟨h1,h2⟩
theorem KV.put {kvs:List (κ×V)}{vs:List (κ×Value)} (r:KV kvs vs) (k:κ) {y:V}{u:Value} (ry:aY y u):KV (putK kvs k y) (stored vs k u):=by
 unfold putK stored
 rw[r.any k]
 by_cases e:(vs.any fun kv=>decide (kv.1=k))=true
 ·rw[if_pos e,if_pos e];exact r.repl k ry
 ·rw[if_neg e,if_neg e];exact Paired.snoc r ⟨rfl,ry⟩
theorem KV.length {kvs:List (κ×V)}{vs:List (κ×Value)} (r:KV kvs vs):kvs.length=vs.length:=Paired.length r
end
theorem kV_is {P:Program}{w:World}{k:Key}{u:Value} (r:aY (kV k) u):(cZ P w).is k u=true:=by
 cases k with
 | inl i=>obtain⟨t,e⟩:=(show ∃ t,u=Value.int i t from r);subst e;exact mixKind_int P w i t
 | inr z=>cases z with
  | some x=>obtain⟨t,e⟩:=(show ∃ t,u=Value.str x t from r);subst e;exact mixKind_str P w x t
  | none=>obtain rfl:=(show u=Value.none from r);rfl
theorem items_are {P:Program}{w:World}:∀ {ks:List Key}{us:List Value},bK (ks.map kV) us→ItemsAre (cZ P w) ks us
 | [],_,r=>by rw[List.map_nil] at r;cases r;exact .nil
 | k::ks,_,r=>by
  rw[List.map_cons] at r
  cases r with
  | cons h t=>exact .cons (kV_is h) (items_are t)
noncomputable abbrev KT (H:Hp):List (List Key×V)→List (List Key×Addr×Value)→Prop:=Paired fun p q=>p.1=q.1∧H q.2.1=some (.tup (p.1.map kV))∧aY p.2 q.2.2
theorem KT.val {H:Hp}{kvs:List (List Key×V)}{xs:List (List Key×Addr×Value)} (r:KT H kvs xs) (k:List Key):RelO (dF kvs k) ((atKey xs k).map (·.2)):=by
 induction r with
 | nil=>exact True.intro
 | @cons p q ps qs h t ih=>
  obtain⟨h1,_,h2⟩:=h
  by_cases e:p.1=k
  ·have e':q.1=k:=h1.symm.trans e
   have b:atKey (q::qs) k=some q.2:=by simp [atKey,List.find?_cons,e']
   rw[d0 e,b];exact h2
  ·have e':¬ q.1=k:=fun z=>e (h1.trans z)
   have b:atKey (q::qs) k=atKey qs k:=by simp [atKey,List.find?_cons,e']
   rw[d4 e,b];exact ih
theorem KT.repl {H:Hp}{kvs:List (List Key×V)}{xs:List (List Key×Addr×Value)} (r:KT H kvs xs) (k:List Key) {y:V}{u:Value} (ry:aY y u) :
  KT H (kvs.map fun kv=>if kv.1=k then (kv.1,y) else kv) (xs.map (putAt k u)):=by
 induction r with
 | nil=>exact .nil
 | @cons p q ps qs h t ih=>
  rw[List.map_cons,List.map_cons]
  refine .cons ?_ ih
  obtain⟨h1,h2,h3⟩:=h
  unfold putAt
  by_cases e:p.1=k
  ·rw[if_pos e,if_pos (h1.symm.trans e)];exact⟨h1,h2,ry⟩
  ·rw[if_neg e,if_neg (fun z=>e (h1.trans z))];exact⟨h1,h2,h3⟩
theorem KT.put {H:Hp}{kvs:List (List Key×V)}{xs:List (List Key×Addr×Value)} (r:KT H kvs xs) (k:List Key) {b:Addr}{y:V}{u:Value} (hb:H b=some (.tup (k.map kV))) (ry:aY y u) :
  KT H (putK kvs k y) (storedH xs k b u):=by
 have e:(kvs.any fun kv=>decide (kv.1=k))=(atKey xs k).isSome:=by
  rw[valV_any,(r.val k).isSome_eq,Option.isSome_map]
 unfold putK storedH
 rw[e]
 by_cases q:(atKey xs k).isSome=true
 ·rw[if_pos q,if_pos q];exact r.repl k ry
 ·rw[if_neg q,if_neg q];exact Paired.snoc r ⟨rfl,hb,ry⟩
theorem KT.keeps {H H':Hp}{kvs:List (List Key×V)}{xs:List (List Key×Addr×Value)} (r:KT H kvs xs) (ht:∀ b ys,H b=some (.tup ys)→H' b=some (.tup ys)):KT H' kvs xs:=
 Paired.mapP r fun _ _ z=>⟨z.1,ht _ _ z.2.1,z.2.2⟩
section
variable {P:Program}{w:World}{H:Hp}{h:Heap}{a:Addr}
theorem rd_of {u:HO} (ok:HOk P w H h) (e:Rd H a u):bU P w H h a u:=e.ok ok
theorem dk_rd {kvs:List (Key×V)} (ok:HOk P w H h) (e:Rd H a (.dK kvs)):kvs.length≤sizeLine∧(a == sysModules)=false∧∃ vs,KV kvs vs∧h.DictOf (cZ P w) a vs:=
 show bU P w H h a (.dK kvs) from rd_of ok e
theorem dk_of {kvs:List (Key×V)} (ok:HOk P w H h) (e:H a=some (.dK kvs)):kvs.length≤sizeLine∧(a == sysModules)=false∧∃ vs,KV kvs vs∧h.DictOf (cZ P w) a vs:=dk_rd ok (.inl e)
theorem key_of {ks:List Key} (ok:HOk P w H h) (e:H a=some (.tup (ks.map kV))):(tupleKind (cZ P w)).is h ks a:=by
 obtain⟨_,its,r,o,h1,h2,n,h3⟩:=(show bU P w H h a (.tup (ks.map kV)) from ok a _ e)
 exact⟨o,its.toArray,n,h1,h2,h3,by simpa using items_are r⟩
theorem dt_rd {kvs:List (List Key×V)} (ok:HOk P w H h) (e:Rd H a (.dT kvs)):kvs.length≤sizeLine∧(a == sysModules)=false∧
  ∃ xs,KT H kvs xs∧h.DictOfH (tupleKind (cZ P w)) a xs:=by
 obtain⟨z,y,xs,r,o,es,ep,h1,h2,h3,h4,h5⟩:=(show bU P w H h a (.dT kvs) from rd_of ok e)
 refine⟨z,y,xs,r,o,es,ep,h1,h2,h3,h4,fun x hx=>?_,h5⟩
 have all:∀ {l:List (List Key×V)}{m:List (List Key×Addr×Value)},KT H l m→∀ x∈m,(tupleKind (cZ P w)).is h x.1 x.2.1:=by
  intro l m q
  induction q with
  | nil=>intro x hx;exact nomatch hx
  | @cons p q ps qs hq t ih=>
   intro x hx
   rcases List.mem_cons.mp hx with e | hx
   ·subst e
    exact key_of ok (by rw[← hq.1];exact hq.2.1)
   ·exact ih x hx
 exact all r x hx
theorem dt_of {kvs:List (List Key×V)} (ok:HOk P w H h) (e:H a=some (.dT kvs)):kvs.length≤sizeLine∧(a == sysModules)=false∧
  ∃ xs,KT H kvs xs∧h.DictOfH (tupleKind (cZ P w)) a xs:=dt_rd ok (.inl e)
end
noncomputable def DGet (H:Hp) (a:Addr) (y:V) (r:Option V):Prop:=
 (∃ kvs k,Rd H a (.dK kvs)∧y=kV k∧r=dF kvs k)∨∃ kvs k b,Rd H a (.dT kvs)∧y=.ref b∧H b=some (.tup (k.map kV))∧r=dF kvs k
noncomputable def DPut (H:Hp) (a:Addr) (y v:V) (H':Hp):Prop:=
 (∃ kvs k,H a=some (.dK kvs)∧y=kV k∧kvs.length < sizeLine∧H'=upd H a (.dK (putK kvs k v)))∨
 ∃ kvs k b,H a=some (.dT kvs)∧y=.ref b∧H b=some (.tup (k.map kV))∧kvs.length < sizeLine∧H'=upd H a (.dT (putK kvs k v))
theorem DGet.k {H:Hp}{a:Addr}{kvs:List (Key×V)}{k:Key} (e:H a=some (.dK kvs)):DGet H a (kV k) (dF kvs k):=.inl ⟨kvs,k,.inl e,rfl,rfl⟩
theorem DPut.k {H:Hp}{a:Addr}{kvs:List (Key×V)}{k:Key}{v:V} (e:H a=some (.dK kvs)) (hl:kvs.length < sizeLine):DPut H a (kV k) v (upd H a (.dK (putK kvs k v))):=.inl ⟨kvs,k,e,rfl,hl,rfl⟩
section
variable {X:Cx}{pins:List (Addr×Obj)}{σ:St}{H:Hp}{s:Shared}{a:Addr}{y v:V}{u r:Value}{o:Option V}{A:Around}{E:Value→Shared→Prop}
theorem Inv.big (I:Inv X pins σ H s):sysModules < s.heap.objs.size:=by
 have h:mainGlobals < s.heap.objs.size:=(I.mod.glob.keeps I.bk).lt
 exact Nat.lt_trans (by decide) h
theorem d_write {h':Heap}{t':Nat}{ob:HO} (I:Inv X pins σ H s) (mu:Mut (H a)) (hs:Heap.SameBut a s.heap h') (he:∃ q,h'.get? a=some q) (new:bU X.prog X.w (upd H a ob) h' a ob) :
  Inv X pins σ (upd H a ob) { s with heap:=h',toks:=t' }:=
 I.write (x:=a) (e:=a) mu (.inl rfl) (fun b q hb z=>(hs.2 b hb).trans z) he new
theorem dk_new {P:Program}{w:World}{H':Hp}{h':Heap}{kvs:List (Key×V)}{vs:List (Key×Value)} (z:kvs.length≤sizeLine) (hd:(a == sysModules)=false) (rel:KV kvs vs) (dd:h'.DictOf (cZ P w) a vs) :
  bU P w H' h' a (.dK kvs):=⟨z,hd,vs,rel,dd⟩
theorem d_setItem {H':Hp}{Q:Unit→Shared→Prop} (hu:A.units+1 < cLine) (I:Inv X pins σ H s) (g:DPut H a y v H') (ry:aY y u) (rv:aY v r) (h:∀ s',Inv X pins σ H' s'→Q () s') :
  wpAny (model X.prog X.w) A (setItem (.ref a) u r) Q E s:=by
 rcases g with ⟨kvs,k,e,ey,l,eH⟩ | ⟨kvs,k,b,e,ey,eb,l,eH⟩
 ·subst ey eH
  obtain⟨z,hd,vs,rel,dd⟩:=dk_of I.hok e
  have hz:vs.length≤sizeLine:=by rw[← rel.length];exact z
  have hl:(putK kvs k v).length≤sizeLine:=by have:=length_putK kvs k v;omega
  refine wpAny_setItem_pairs (hsz:=hz) (kV_is ry) dd fun h' dd' hs=>h _ ?_
  have he:∃ q,h'.get? a=some q:=let ⟨q,_,_,hq,_⟩:=dd';⟨q,hq⟩
  exact d_write I (by rw[e];exact True.intro) hs he (dk_new hl hd (rel.put k rv) dd')
 ·subst ey eH
  cases (show u=Value.ref b from ry)
  obtain⟨z,hd,xs,rel,dd⟩:=dt_of I.hok e
  have hz:xs.length≤sizeLine:=by rw[← Paired.length rel];exact z
  have hl:(putK kvs k v).length≤sizeLine:=by have:=length_putK kvs k v;omega
  refine wpAny_setItem_heap (hsz:=hz) (tupleKind_room_in1 hu) (key_of I.hok eb) dd fun h' dd' hs=>h _ ?_
  obtain⟨q,es,ep,hq,h2,h3,h4,_,h5⟩:=dd'
  refine d_write I (by rw[e];exact True.intro) hs ⟨q,hq⟩ ⟨hl,hd,_,(rel.put k eb rv).keeps fun c ys ec=>?_,q,es,ep,hq,h2,h3,h4,h5⟩
  rw[aI (ne_of ec e (fun z=>nomatch z))]
  exact ec
end
section
variable {X:Cx}{pins:List (Addr×Obj)}{σ:St}{H:Hp}{s:Shared}{a:Addr}{kvs:List (Key×V)}{k:Key}{u:Value}{A:Around}{E:Value→Shared→Prop}
end
noncomputable def sDPut (td ty tv:TE):TS:=fun D σ H=>tv σ H fun v H1=>td σ H1 fun x H2=>ty σ H2 fun y H3=>∃ a H4,x=.ref a∧DPut H3 a y v H4∧D.nx σ H4
section
variable {X:Cx}{o i e value:Expr}{pos pos' tpos:Pos}{td ty tv:TE}
theorem ps_dput (hu:X.A.units+1 < cLine) (ho:PE X o td) (hi:PE X i ty) (hv:PE X value tv) (hs:swapsWith value (some (.Subscript o i pos')) pos.line X.env=pure false) :
  PS X (.Assign [.Subscript o i pos'] value pos) (sDPut td ty tv):=by
 intro pins s σ H D I h
 refine wpAny_Assign_Subscript (cI (hv pins s σ H _ I h) fun r s1 ⟨v,H1,I1,rv,q1⟩=>cI (ho pins s1 σ H1 _ I1 q1) fun u s2 ⟨x,H2,I2,rx,q2⟩=>cI (hi pins s2 σ H2 _ I2 q2) fun iv s3 ⟨y,H3,I3,ry,a,H4,ex,g,q3⟩=>?_) hs
 subst ex
 obtain rfl:u=Value.ref a:=rx
 exact d_setItem hu I3 g ry rv fun s4 I4=>⟨σ,H4,I4,q3⟩
end
theorem dk_empty {P:Program}{w:World}{H:Hp} (h:Heap) (hb:sysModules < h.objs.size):bU P w H (h.push { cls:=.type "dict",data:=.dict #[] }) h.objs.size (.dK []):=
 ⟨Nat.zero_le _,beq_eq_false_iff_ne.mpr (Ne.symm (Nat.ne_of_lt hb)),[],.nil,Heap.DictOf.new h⟩
noncomputable def tDNewK:TE:=fun _ H Q=>∀ p,H p=none→Q (.ref p) (upd H p (.dK []))
section
variable {X:Cx}{pos:Pos}
theorem pe_dnewK:PE X (.Dict [] [] pos) tDNewK:=fun pins s σ H Q I h=>
 wpAny_Dict_empty ⟨.ref s.heap.objs.size,_,I.laid (a:=s.heap.objs.size) (o:=.dK []) (t':=s.toks) (fun _ _ q=>Heap.get?_push_of_some _ q) (Nat.le_refl _) (dk_empty s.heap I.big),rfl,h _ (I.hok.fresh (Nat.le_refl _))⟩
end
noncomputable def tPairs:List (TE×TE)→St→Hp→(List (V×V)→Hp→Prop)→Prop
 | [],_,H,Q=>Q [] H
 | (tk,tv)::r,σ,H,Q=>tk σ H fun x H1=>tv σ H1 fun y H2=>tPairs r σ H2 fun ps H3=>Q ((x,y)::ps) H3
noncomputable abbrev VV:List (V×V)→List (Value×Value)→Prop:=Paired fun p q=>aY p.1 q.1∧aY p.2 q.2
noncomputable def PPs (X:Cx) (pos:Pos) (keys:List (Option Expr)) (values:List Expr) (trs:List (TE×TE)):Prop:=
 ∀ (pins:List (Addr×Obj)) (s:Shared) (σ:St) (H:Hp) (Q:List (V×V)→Hp→Prop),Inv X pins σ H s→tPairs trs σ H Q→
  wpAny (model X.prog X.w) X.A (evalPairs (pairTrees keys values X.env pos)) (fun vs s'=>∃ ps H',Inv X pins σ H' s'∧VV ps vs∧Q ps H') X.xe s
theorem pps_nil {X:Cx}{pos:Pos}:PPs X pos [] [] []:=fun pins s σ H Q I h=>pairTrees_nil_walk ⟨[],H,I,.nil,h⟩
theorem pps_cons {X:Cx}{pos:Pos}{k v:Expr}{ks:List (Option Expr)}{vs:List Expr}{tk tv:TE}{trs:List (TE×TE)} (hk:PE X k tk) (hv:PE X v tv) (hr:PPs X pos ks vs trs) :
  PPs X pos (some k::ks) (v::vs) ((tk,tv)::trs):=fun pins s σ H Q I h=>
 pairTrees_cons_walk (cI (hk pins s σ H _ I h) fun u s1 ⟨x,H1,I1,rx,q1⟩=>cI (hv pins s1 σ H1 _ I1 q1) fun w2 s2 ⟨y,H2,I2,ry,q2⟩=>
  cI (hr pins s2 σ H2 _ I2 q2) fun ws s3 ⟨ps,H3,I3,rel,q3⟩=>⟨(x,y)::ps,H3,I3,.cons ⟨rx,ry⟩ rel,q3⟩)
structure M2 (X:Cx) (o:Expr) (m:Str) (apos:Pos) (e f:Expr) (cpos:Pos):Prop where
 base:attributeBase o m X.env (eval o X.env)=eval o X.env
 few:((backTo cpos (starEach [e,f] X.env)).all (fun x=>!x.1) && (backToKw cpos (keywordEach [] X.env)).all (fun x=>x.1.isSome)
  && decide (([e,f]:List Expr).length+([]:List Keyword).length+(if ([]:List Keyword).isEmpty then 0 else 1) < 30))=true
 line:(apos.endLine == cpos.line)=true
 trees:backTo cpos (starEach [e,f] X.env)=[(false,eval e X.env),(false,eval f X.env)]
noncomputable def IsD (H:Hp) (a:Addr):Prop:=(∃ kvs,Rd H a (.dK kvs))∨∃ kvs,Rd H a (.dT kvs)
theorem isD_at {X:Cx}{pins:List (Addr×Obj)}{σ:St}{H:Hp}{s:Shared}{a:Addr} (I:Inv X pins σ H s) (d:IsD H a) :
  s.TypeIs (.ref a) "dict" ∧ (∀ b,Value.ref a=.ref b→∃ ob,s.heap.get? b=some ob∧ob.dict=none)∧(a == sysModules)=false:=by
 rcases d with ⟨kvs,e⟩ | ⟨kvs,e⟩
 ·obtain⟨_,hd,vs,_,dd⟩:=dk_rd I.hok e
  refine⟨dd.typeIs,fun b q=>?_,hd⟩
  cases q
  obtain⟨ob,_,_,h1,h2,_⟩:=dd
  exact⟨ob,h1,h2.2.1⟩
 ·obtain⟨_,hd,xs,_,dd⟩:=dt_rd I.hok e
  refine⟨dd.typeIs,fun b q=>?_,hd⟩
  cases q
  obtain⟨ob,_,_,h1,h2,_⟩:=dd
  exact⟨ob,h1,h2.2.1⟩
section
variable {X:Cx}{pins:List (Addr×Obj)}{σ:St}{H:Hp}{s:Shared}{a:Addr}{y d:V}{u r:Value}{o:Option V}{A:Around}{E:Value→Shared→Prop}
theorem d_get2 {Q:Value→Shared→Prop} (hu:A.units+1 < cLine) (I:Inv X pins σ H s) (g:DGet H a y o) (ry:aY y u) (rd:aY d r) (h:∀ w' s',Inv X pins σ H s'→aY (o.getD d) w'→Q w' s') :
  wpAny (model X.prog X.w) A (call (.builtin "dict.get") [.ref a,u,r]) Q E s:=by
 rcases g with ⟨kvs,k,e,ey,l⟩ | ⟨kvs,k,b,e,ey,eb,l⟩
 ·subst ey
  obtain⟨z,hd,vs,rel,dd⟩:=dk_rd I.hok e
  refine call_meetsIn PySem.F.slot_dict_get dd.typeIs PySem.F.entry_dict_get (PySem.F.args_dict_get_3 _ _ _) (meets_dict_get_default (cZ X.prog X.w) a (kV_is ry) hd r) ⟨_,dd.mapOf,h _ _ (I.tok _) ?_⟩
  rw[l]
  exact (rel.val k).getD rd
 ·subst ey
  cases (show u=Value.ref b from ry)
  obtain⟨z,hd,xs,rel,dd⟩:=dt_rd I.hok e
  refine call_meetsIn PySem.F.slot_dict_get dd.typeIs PySem.F.entry_dict_get (PySem.F.args_dict_get_3 _ _ _) (meetsH_dict_get_default (tupleKind (cZ X.prog X.w)) a b hd r) ⟨tupleKind_room_in1 hu,k,xs,key_of I.hok eb,dd,h _ _ (I.tok _) ?_⟩
  rw[l]
  exact (rel.val k).getD rd
end
noncomputable def tDGet2 (td ty tx:TE):TE:=fun σ H Q=>td σ H fun x H1=>∃ a,x=.ref a∧IsD H1 a∧ty σ H1 fun y H2=>tx σ H2 fun z H3=>∃ o,DGet H3 a y o∧Q (o.getD z) H3
section
variable {X:Cx}{o e f:Expr}{apos cpos:Pos}{td ty tx:TE}
theorem pe_dget2 (hu:X.A.units+1 < cLine) (ho:PE X o td) (he:PE X e ty) (hf:PE X f tx) (m:M2 X o "get" apos e f cpos):PE X (.Call (.Attribute o "get" apos) [e,f] [] cpos) (tDGet2 td ty tx):=by
 intro pins s σ H Q I h
 refine wpAny_Call_method m.base m.few m.line PySem.F.plainAttrs_dict PySem.F.slot_dict_get PySem.F.type_dict_get (cI (ho pins s σ H _ I h) fun u s1 ⟨x,H1,I1,rx,a,ex,d,q1⟩=>?_)
 subst ex
 obtain rfl:u=Value.ref a:=rx
 obtain⟨t1,t2,_⟩:=isD_at I1 d
 refine⟨t1,t2,?_⟩
 rw[m.trees]
 refine Calls.callWith_builtin rfl (Calls.evalArgs_plain (Calls.spliced_cons (cI (he pins s1 σ H1 _ I1 q1) fun iv s2 ⟨y,H2,I2,ry,q2⟩=>
  Calls.spliced_cons (cI (hf pins s2 σ H2 _ I2 q2) fun fv s3 ⟨z,H3,I3,rz,ov,g,q3⟩=>Calls.spliced_nil ?_))))
 exact d_get2 hu I3 g ry rz fun w' s4 I4 rw'=>⟨_,H3,I4,rw',q3⟩
end
section
variable {X:Cx}{pins:List (Addr×Obj)}{σ:St}{H:Hp}{s:Shared}{a:Addr}{kvs:List (Key×V)}{A:Around}{E:Value→Shared→Prop}
end
section
variable {X:Cx}{pins:List (Addr×Obj)}{σ:St}{H:Hp}{s:Shared}{a:Addr}{y:V}{u:Value}{A:Around}{E:Value→Shared→Prop}
end
end L2
namespace Att
open PySem PySem.W PySem.Calls PyProof.Rows
theorem ints_of_wellAll {P:Params}{h:Heap}:∀ (ns:List Int) (vs:List Value),WellAll P h vs (ns.map WData.int)→IntsAre vs ns:=by
 intro ns
 induction ns with
 | nil=>
  intro vs w
  rw[List.map_nil] at w
  cases w
  exact .nil
 | cons n ns ih=>
  intro vs w
  rw[List.map_cons] at w
  cases w with
  | cons a b=>
   cases a
   exact .cons _ _ (ih _ b)
theorem script_of {l:OpenLaw}{n:Nat} (hn:l.most=some n) {P:Params}{h:Heap}{args:List WData}{vals:List Value}
  (hpre:l.row.toRowW.claim.pre args=true) (hwl:WellAll P h vals args) :
  ∃ a vs ns,vals=[Value.ref a]∧args=[WData.list (ns.map WData.int)]∧h.get? a=some { cls:=.type "list",data:=.seq vs.toArray }∧IntsAre vs ns∧ns.length≤n:=by
 have hsh:WShape.hasAll [] args [.list .int]=true:=(pre_splitW hpre).1
 have hc:l.pre.holds [] { args:=args }=true:=(pre_splitW hpre).2
 obtain⟨d,r,rfl,h1,h2⟩:=hasAllW_cons hsh
 obtain rfl:=hasAllW_nil h2
 obtain⟨xs,rfl,h3⟩:=hasW_list h1
 obtain⟨ns,rfl⟩:=items_int h3
 have hlen:ns.length≤n:=by
  unfold OpenLaw.pre at hc
  have h4:(WTm.not (.lt (.lit (.int (n:Int))) (.len (.arg 0)))).holds [] { args:=[.list (ns.map .int)] }=true:=by
   have h4:=(holds_andW hc).1
   rw[hn] at h4
   exact h4
  have h5:=condW_of h4 (w_not (w_lt w_lit (w_len_list (w_arg rfl))))
  rw[List.length_map] at h5
  refine Nat.le_of_not_lt fun q=>?_
  have q':(n:Int) < ((ns.length:Nat):Int):=by omega
  first
   | (rw[decide_eq_true q'] at h5;exact absurd h5 (by decide))
   | (simp at h5;omega)
 cases hwl with
 | cons w1 w2=>
  cases w2
  cases w1 with
  | list ho hall=>exact⟨_,_,ns,rfl,rfl,ho,ints_of_wellAll ns _ hall,hlen⟩
theorem post_true (l:OpenLaw) (args:List WData):l.row.toRowW.claim.post args (.bool true) args=true:=
 postW_of (r:=l.row.toRowW) (X:=(true == true))
  (show WShape.has [] (.bool true) .bool=true by first | rfl | decide | simp [WShape.has,WShape.arms,WShape.armsAll])
  (show (WTm.eq .res (.lit (.bool true))).value [] { args:=args,res:=some (.bool true),after:=args }=some (.bool (true == true)) from w_eq_bool (w_res rfl) w_lit) rfl
theorem attach_call {l:OpenLaw}{n:Nat}{q:Program}{loose:List Str}{XP:(Str→Option Value)→Heap→Prop}{YP:World→Heap→Prop}{d:DefRec}
  (hn:l.most=some n) (hdf:d.params.defaults=[])
  (call:∀ (w:World) (s₀ s₁:Shared) (mg mb:Str→Option Value) (fa:Addr) (o:Obj) (pm cd doc:Value) (a:Addr) (vs:List Value) (ns:List Int),
   Ground q loose [] XP w s₀ mg mb s₁.heap→YP w s₁.heap→
   s₁.heap.get? fa=some o→o.data=.func (docDef d.name d.params d.body d.scope pm cd doc)→s₁.heap.CodeRec cd d.name→mg d.name=some (.ref fa)→
   s₁.heap.get? a=some { cls:=.type "list",data:=.seq vs.toArray }→IntsAre vs ns→ns.length≤n→s₁.gens = #[]→
   codeAny (model l.prog w) callerA (.call (.ref fa) ⟨[.ref a],[]⟩) (fun r s'=>r=.ok (.ret (.bool true))∧OldK s₁.heap s'.heap∧s'.os=s₁.os∧AllBare s'.gens) s₁) :
  WalkO q loose XP YP l.row.toRowW d [] (fun f vs=>PySem.call f vs):=by
 intro w s₀ s₁ mg mb G Y fa o pm cd doc dV kV ho hd hcd hD hmg hg args vals as hpre hlay hrd hwl hlo
 obtain rfl:dV=.none:=Dflts.none hD hdf
 obtain rfl:kV=.none:=Dflts.noKw hD
 obtain⟨a,vs,ns,rfl,rfl,hobj,hints,hlen⟩:=script_of hn hpre hwl
 refine enter_call (codeAny_mono (call w s₀ s₁ mg mb fa o pm cd doc a vs ns G Y ho (fd_plain hd) hcd hmg hobj hints hlen hg) fun r s' hq=>?_)
 obtain⟨rfl,h2,h3,h4⟩:=hq
 exact⟨.inl ⟨.bool true,.bool true,[],rfl,fun _=>rfl,.bool true,post_true l _,fun _=>⟨List.Pairwise.nil,fun _ hm=>(nomatch hm)⟩⟩,h2,h3,h4⟩
section
variable {prog:Program}{w:World}{A:Around}{E:Value→Shared→Prop}{s:Shared}{K:Frag}
end
end Att
namespace L2
open PySem PySem.Spec PyProof.Rows
theorem vals_ints:∀ {vs:List Value}{ns:List Int},IntsAre vs ns→bK (ns.map V.int) vs
 | _,_,.nil=>.nil
 | _,_,.cons n t h=>.cons ⟨t,rfl⟩ (vals_ints h)
end L2
namespace L2
open PySem PySem.Spec PyProof.Rows
end L2
namespace L2
open PySem PySem.Spec PyProof.Rows
noncomputable def bF (s:Stmt):Arguments:=match s with
 | .FunctionDef _ a _ _ _ _ _ _ _ _=>a
 | _=>{ posonlyargs:=[],args:=[],vararg:=none,kwonlyargs:=[],kw_defaults:=[],kwarg:=none,defaults:=[] }
noncomputable def b0 (s:Stmt):List Stmt:=match s with
 | .FunctionDef _ _ b _ _ _ _ _ _ _=>b
 | _=>[]
noncomputable def aL (s:Stmt):Scope:=match s with
 | .FunctionDef _ _ _ _ _ _ sc _ _ _=>sc
 | _=>{ kind:=.function,names:=[],isGenerator:=false,isCoroutine:=false }
noncomputable abbrev CX0:CXT:=fun _ _ _ _ _ _=>False
noncomputable abbrev E0:XK:=fun _ _ _=>False
theorem pass0 {X:Cx}:Passes CX0 X E0:=fun _ _ _ _ _ _ _ h=>h.elim
structure Fun (K:PySem.W.Frag) (x qual:Str) (st:Stmt) (f:Addr) (fd:FuncData):Prop where
 ex:∃ (oc:Value) (od:Option Addr) (kV doc pm:Value) (an:Option Addr) (cdv ct:Value) (osl:Array (Option Value)),
  fd=PySem.W.fnOf x qual (bF st) (b0 st) (aL st) .none kV doc pm an cdv ct∧K.lookup f=some ⟨oc,od,.func fd,osl⟩∧PySem.W.codeIn K cdv qual=true
 kp:PySem.W.keepIn K (.ref f)=true
section
variable {P:Program}{w:World}{K:PySem.W.Frag}{mg:Str→Option Value}{base:Heap}
theorem Fun.ok {x qual:Str}{st:Stmt}{f:Addr}{fd:FuncData}{N ps:List Str}{k:Nat}{sp:Sp} (F:Fun K x qual st f fd) (S:FnScope N ps (aL st)) (len:∀ vs H Q E,sp vs H Q E→vs.length=ps.length)
  (hbody:∀ (cdv:Value) (A:Around) (outer:List Env) (s:Shared) (H:Hp) (vs:List V) (Q:VK) (E:XK),Room k (A.deeper (envOfC qual (aL st) s.heap.objs.size f cdv))→sp vs H Q E→
   ∃ t,PSs (cxOf CX0 P w K mg base N qual (aL st) f cdv A outer s H E).nox (b0 st) t∧t { nx:=fun _ H'=>Q .non H',rt:=Q } (start N vs) H):FnOk P w K mg base CX0 (k+1) f fd ps sp:=by
 obtain⟨oc,od,kV,doc,pm,an,cdv,ct,osl,rfl,lk,hcd⟩:=F.ex
 refine fn_of lk hcd S len fun A outer s H vs Q E hr hsp=>?_
 obtain⟨t,h,q⟩:=hbody cdv A outer s H vs Q E hr hsp
 exact⟨t,h.nox,q⟩
theorem Fun.binds {x qual:Str}{st:Stmt}{f:Addr}{fd:FuncData}{ps:List Str} (F:Fun K x qual st f fd)
  (h:∀ (kV doc pm:Value) (an:Option Addr) (cdv ct:Value) (us:List Value),us.length=ps.length→bindArgs (PySem.W.fnOf x qual (bF st) (b0 st) (aL st) .none kV doc pm an cdv ct) ⟨us,[]⟩=pure (ps.zip us)):Binds K fd ps []:=by
 obtain⟨oc,od,kV,doc,pm,an,cdv,ct,osl,rfl,lk,hcd⟩:=F.ex
 exact .all (h kV doc pm an cdv ct)
theorem cC {x qual:Str}{st:Stmt}{f:Addr}{oc:Value}{od an:Option Addr}{osl:Array (Option Value)}{kV doc pm cdv ct:Value} (l:K.lookup f=some ⟨oc,od,.func (PySem.W.fnOf x qual (bF st) (b0 st) (aL st) .none kV doc pm an cdv ct),osl⟩)
  (c:PySem.W.codeIn K cdv qual=true) (k:PySem.W.keepIn K (.ref f)=true):Fun K x qual st f (PySem.W.fnOf x qual (bF st) (b0 st) (aL st) .none kV doc pm an cdv ct):=⟨⟨oc,od,kV,doc,pm,an,cdv,ct,osl,rfl,l,c⟩,k⟩
end
theorem hu_of {A:Around}{k:Nat} (hr:Room k A):A.units+1 < cLine:=Nat.lt_of_le_of_lt (Nat.add_le_add_left (by decide:1≤64) _) hr.units
theorem aZ {n:Nat} (h:n≤1000):n < sizeLine:=Nat.lt_of_le_of_lt h (by decide)
section
variable {X:Cx}
theorem pv (i:Nat) {x:Str}{pos:Pos} (hN:X.N[i]? = some x:=by rfl) (hv:Vis X.env.scope x:=by first | exact Or.inl rfl | exact Or.inr (Or.inl rfl) | exact Or.inr (Or.inr rfl)) (hd:(x == ("__debug__" : Str))=false:=by decide)
  (hcd:(x == ("__classdict__" : Str))=false:=by decide):PE X (.Name x pos) (d5 i):=pe_var hN hv hd hcd
end
theorem iteF {A B:Prop} (h:B):if false=true then A else B:=by
 rw[if_neg Bool.false_ne_true]
 exact h
theorem iteT {A B:Prop} (h:A):if true=true then A else B:=by
 rw[if_pos rfl]
 exact h
theorem ite2 {c A B:Prop} [Decidable c] (h1:c→A) (h2:¬ c→B):if c then A else B:=by
 by_cases h:c
 ·rw[if_pos h]
  exact h1 h
 ·rw[if_neg h]
  exact h2 h
noncomputable def aF (H H':Hp):Prop:=∀ b o,H b=some o→H' b=some o
theorem aF.refl (H:Hp):aF H H:=fun _ _ h=>h
theorem aF.trans {H H1 H2:Hp} (a:aF H H1) (b:aF H1 H2):aF H H2:=fun c o h=>b c o (a c o h)
theorem aF.free {H H':Hp} (e:aF H H') {l:Addr} (h:H' l=Option.none):H l=Option.none:=by
 cases q:H l with
 | none=>rfl
 | some o=>
  rw[e l o q] at h
  cases h
theorem aF.seq {K:PySem.W.Frag}{H H':Hp}{a:Addr}{xs:List V} (e:aF H H') (h:bZ K H a xs):bZ K H' a xs:=by
 rcases h with (h | ⟨o,h⟩) | h
 ·exact .inl (.inl (e _ _ h))
 ·exact .inl (.inr ⟨o,e _ _ h⟩)
 ·exact .inr h
end L2
set_option maxHeartbeats 4000000
namespace L2
open PySem PySem.Spec PyProof.Rows
theorem dU {env:Env} (hk:env.scope.kind=.function):∀ {names:List (Str×NameKind)}{x:Str},names.lookup x=some .free→env.kindOf x=some .cell→
  (names.map fun (n,k)=>if (k == NameKind.free && env.scope.kind == .function && env.kindOf n == some .cell) then (n,NameKind.cell) else (n,k)).lookup x=some .cell
 | [],_,h,_=>by simp at h
 | (n,k)::r,x,h,hc=>by
  have ih:=@dU env hk r x
  show List.lookup x ((if (k == NameKind.free && env.scope.kind == .function && env.kindOf n == some .cell)=true then (n,NameKind.cell) else (n,k))::_)=_
  cases hx:x == n with
  | true=>
   simp only [List.lookup_cons,hx] at h
   cases h
   have e:x=n:=by simpa using hx
   subst e
   rw[if_pos (by rw[hk,hc];decide)]
   simp [List.lookup_cons]
  | false=>
   simp only [List.lookup_cons,hx] at h
   by_cases hq:(k == NameKind.free && env.scope.kind == .function && env.kindOf n == some .cell)=true
   ·rw[if_pos hq];simp only [List.lookup_cons,hx];exact ih h hc
   ·rw[if_neg hq];simp only [List.lookup_cons,hx];exact ih h hc
noncomputable def ClOk (env:Env):List (Str×Addr)→Prop
 | []=>True
 | p::r=>env.cells.lookup p.1=some p.2∧ClOk env r
theorem ClOk.get {env:Env}:∀ {cl:List (Str×Addr)},ClOk env cl→∀ x c,cl.lookup x=some c→env.cells.lookup x=some c
 | [],_,_,_,e=>by simp at e
 | (n,a)::r,h,x,c,e=>by
  cases hx:x == n with
  | true=>
   simp only [List.lookup_cons,hx] at e
   cases e
   have e':x=n:=by simpa using hx
   subst e'
   exact h.1
  | false=>
   simp only [List.lookup_cons,hx] at e
   exact ClOk.get h.2 x c e
noncomputable def FrOk (X:Cx) (scope:Scope) (N':List Str):List (Option Nat)→Nat→Prop
 | [],_=>True
 | none::r,i=>FrOk X scope N' r (i+1)
 | some j::r,i=>(∃ x,N'[i]? = some x∧X.N[j]? = some x∧scope.names.lookup x=some .free∧X.env.kindOf x=some .cell)∧FrOk X scope N' r (i+1)
theorem FrOk.get {X:Cx}{scope:Scope}{N':List Str}:∀ {fr:List (Option Nat)}{k:Nat},FrOk X scope N' fr k→∀ i j,fr[i]? = some (some j)→
  ∃ x,N'[k+i]? = some x∧X.N[j]? = some x∧scope.names.lookup x=some .free∧X.env.kindOf x=some .cell
 | [],_,_,i,j,e=>by simp at e
 | none::r,k,h,0,j,e=>by simp at e
 | some _::r,k,h,0,j,e=>by simp at e;subst e;exact h.1
 | none::r,k,h,i+1,j,e=>by
  have:=FrOk.get (k:=k+1) (show FrOk X scope N' r (k+1) from h) i j (by simpa using e)
  rwa [Nat.add_right_comm] at this
 | some _::r,k,h,i+1,j,e=>by
  have:=FrOk.get (k:=k+1) h.2 i j (by simpa using e)
  rwa [Nat.add_right_comm] at this
structure LcOk (X:Cx) (scope:Scope) (cl:List (Str×Addr)) (N':List Str) (fr:List (Option Nat)):Prop where
 clos:closureFor scope X.env=pure cl
 cls:ClOk X.env cl
 kind:scope.kind=.function
 nocell:(scope.names.all fun p=>p.2 != NameKind.cell)=true
 locs:(scope.names.all fun p=>p.2 != NameKind.local || scope.names.lookup p.1 == some NameKind.local)=true
 frees:(scope.names.all fun p=>p.2 != NameKind.free || (cl.lookup p.1).isSome)=true
 len:fr.length=N'.length
 fr:FrOk X scope N' fr 0
noncomputable def frσ (fr:List (Option Nat)) (σ:St):St:=fr.map fun o=>o.bind fun j=>(σ[j]?).join
noncomputable def cxC (X:Cx) (N':List Str) (scope:Scope) (cl:List (Str×Addr)) (fp:List Addr) (s:Shared) (H:Hp):Cx:=
 { X with N:=N',s₀:=s,H₀:=H,env:=compEnvC scope cl s.heap.objs.size X.env,outer:=X.stack,ex:=fp,fn:=fun _=>false,pn:=[] }
noncomputable def PIf (X:Cx) (ifs:List Expr) (t:TT):Prop:=
 ∀ (pins:List (Addr×Obj)) (s:Shared) (σ:St) (H:Hp) (Q:Bool→Hp→Prop),Inv X pins σ H s→t σ H Q→
  wpAny (model X.prog X.w) X.A (forIn ifs true fun c r=>if r=true then do let ok ← isTrue c X.env (eval c X.env);pure (ForInStep.yield ok) else pure (ForInStep.yield r)) (TP X pins σ Q) X.xe s
noncomputable def tYes:TT:=fun _ H Q=>Q true H
theorem eE {X:Cx}:PIf X [] tYes:=fun _ _ _ H _ I h=>wpAny_tests_nil ⟨H,I,h⟩
theorem pif_one {X:Cx}{c:Expr}{t:TT} (h:PT X c t):PIf X [c] t:=fun pins s σ H Q I hw=>wpAny_tests_one (h pins s σ H Q I hw)
noncomputable def lcRest (J:It) (g:TG) (tc:TT) (te:TE) (fr:List (Option Nat)) (σ:St) (H1:Hp) (Q:Addr→Hp→Prop):Prop:=
 ∀ D,H1 D=none→∃ W:Nat→Nat→List V→St→Hp→Prop,(∃ m,W 0 m [] (frσ fr σ) (upd H1 D (.lst [])))∧
  ∀ i m ys σ' H',W i m ys σ' H'→(J.stop i H'∧Q D H')∨
   (J.go i H'∧∃ N:List V→St→Hp→Prop,(∀ ys' σ'' H'',N ys' σ'' H''→∃ m',m' < m∧W (i+1) m' ys' σ'' H'')∧
    ∀ x H2,J.yld i H' x H2→g x σ' H2 fun σ3 H3=>tc σ3 H3 fun b H4=>
    if b=true then te σ3 H4 fun y H5=>H5 D=some (.lst ys)∧ys.length < sizeLine∧N (ys++[y]) σ3 (upd H5 D (.lst (ys++[y])))
    else N ys σ3 H4)
theorem lc_gen {J:It}{n:Nat}{g:TG}{tc:TT}{te:TE}{fr:List (Option Nat)}{σ:St}{H1:Hp}{Q:Addr→Hp→Prop} (Pv:Addr→Nat→List V→St→Hp→Prop)
  (h0:∀ D,H1 D=none→Pv D 0 [] (frσ fr σ) (upd H1 D (.lst [])))
  (hstop:∀ D ys σ' H',Pv D n ys σ' H'→J.stop n H'∧Q D H')
  (hgo:∀ D i ys σ' H',i < n→Pv D i ys σ' H'→J.go i H'∧∀ x H2,J.yld i H' x H2→g x σ' H2 fun σ3 H3=>tc σ3 H3 fun b H4=>
    if b=true then te σ3 H4 fun y H5=>H5 D=some (.lst ys)∧ys.length < sizeLine∧Pv D (i+1) (ys++[y]) σ3 (upd H5 D (.lst (ys++[y])))
    else Pv D (i+1) ys σ3 H4):lcRest J g tc te fr σ H1 Q:=by
 intro D hD
 refine⟨fun i m ys σ H=>m=n - i∧i≤n∧Pv D i ys σ H,⟨n,by simp,Nat.zero_le _,h0 D hD⟩,?_⟩
 rintro i m ys σ' H' ⟨rfl,hi,p⟩
 by_cases hlt:i < n
 ·obtain⟨go,step⟩:=hgo D i ys σ' H' hlt p
  exact .inr ⟨go,Pv D (i+1),fun ys' σ'' H'' p'=>⟨n - (i+1),by omega,rfl,hlt,p'⟩,step⟩
 ·have e:i=n:=by omega
  subst e
  exact .inl (hstop D ys σ' H' p)
theorem for_gen {J:It}{n:Nat}{g:TG}{tb:TS}{D:Ends}{σ:St}{H:Hp} (Pv:Nat→St→Hp→Prop) (h0:Pv 0 σ H) (hstop:∀ σ H,Pv n σ H→J.stop n H∧D.nx σ H)
  (hgo:∀ i σ H,i < n→Pv i σ H→J.go i H∧∀ x H',J.yld i H x H'→g x σ H' fun σ2 H2=>tb { D with nx:=Pv (i+1),ct:=Pv (i+1),bk:=D.nx } σ2 H2) :
  ∃ W:Nat→Nat→St→Hp→Prop,(∃ m,W 0 m σ H)∧∀ i m σ H,W i m σ H→
   (J.stop i H∧D.nx σ H)∨(J.go i H∧∃ N:St→Hp→Prop,(∀ σ' H',N σ' H'→∃ m',m' < m∧W (i+1) m' σ' H')∧∀ x H',J.yld i H x H'→g x σ H' fun σ2 H2=>tb { D with nx:=N,ct:=N,bk:=D.nx } σ2 H2):=by
 refine⟨fun i m σ H=>m=n - i∧i≤n∧Pv i σ H,⟨n,by simp,Nat.zero_le _,h0⟩,?_⟩
 rintro i m σ H ⟨rfl,hi,p⟩
 by_cases hlt:i < n
 ·obtain⟨go,step⟩:=hgo i σ H hlt p
  exact .inr ⟨go,Pv (i+1),fun σ' H' p'=>⟨n - (i+1),by omega,rfl,hlt,p'⟩,step⟩
 ·have e:i=n:=by omega
  subst e
  exact .inl (hstop σ H p)
noncomputable def tLC (wi:TI) (fr:List (Option Nat)) (g:TG) (tc:TT) (te:TE):TE:=fun σ H Q=>wi σ H fun J H1=>lcRest J g tc te fr σ H1 fun D H'=>Q (.ref D) H'
section
variable {prog:Program}{w:World}{A:Around}{R:Result→Shared→Prop}{s:Shared}
theorem compLoop_any {elt target iter:Expr}{ifs:List Expr}{scope:Scope}{pos:Pos}{it acc:Value}{env:Env} (I:Nat→Shared→Prop)
  (turn:∀ n s,I n s→wpAny (model prog w) A (pyNext it) (fun r s₁=>match r with
   | none=>R (.ok .next) s₁
   | some v=>wpAny (model prog w) A (letOwnedTupleGo target it v) (fun _ s₁'=>wpAny (model prog w) A (assign target env v) (fun _ s₂=>
     wpAny (model prog w) A (forIn ifs true fun c r=>if r=true then do let ok ← isTrue c env (eval c env);pure (ForInStep.yield ok) else pure (ForInStep.yield r)) (fun ok s₃=>
      if ok=true then wpAny (model prog w) A (eval elt env) (fun x s₄=>
       wpAny (model prog w) A (call (.builtin "list.append") [acc,x]) (fun _ s₅=>∃ m,m < n∧I m s₅) (notedBy (model prog w) A env fun e s'=>R (.error e) s') s₄) (notedBy (model prog w) A env fun e s'=>R (.error e) s') s₃
      else ∃ m,m < n∧I m s₃) (notedBy (model prog w) A env fun e s'=>R (.error e) s') s₂) (notedBy (model prog w) A env fun e s'=>R (.error e) s') s₁') (notedBy (model prog w) A env fun e s'=>R (.error e) s') s₁)
    (notedBy (model prog w) A env fun e s'=>R (.error e) s') s)
  (n:Nat) (h:I n s) :
  codeAny (model prog w) A (.compLoop (.ListComp elt [⟨target,iter,ifs,0⟩] scope pos) 0 it acc env) R s:=by
 refine codeAny_loop rfl I (fun n s hI=>?_) n h
 show wpAny _ A ((compTurn (.ListComp elt [⟨target,iter,ifs,0⟩] scope pos) 0 it acc env).onRaise (fun x=>do noteFrame x env;theTreesLotGoes x)) _ _ s
 refine wpAny_noted ?_
 rw[compTurn_list]
 refine wpAny_bind (wpAny_standAt (wpAny_bind (wpAny_mono (turn n s hI) (fun r s₁ h₁=>?_) fun _ _ h'=>h')))
 cases r with
 | none=>exact wpAny_pure h₁
 | some v=>
  refine wpAny_bind (wpAny_mono h₁ (fun _ s₁' h₁'=>?_) fun _ _ h'=>h')
  refine wpAny_bind (wpAny_mono h₁' (fun _ s₂ h₂=>wpAny_bind (wpAny_mono h₂ (fun ok s₃ h₃=>?_) fun _ _ h'=>h')) fun _ _ h'=>h')
  cases ok with
  | false=>exact wpAny_pure ⟨rfl,h₃⟩
  | true=>
   exact wpAny_bind (wpAny_bind (wpAny_mono h₃ (fun x s₄ h₄=>wpAny_bind (wpAny_mono h₄ (fun _ s₅ h₅=>wpAny_pure (wpAny_pure ⟨rfl,h₅⟩)) fun _ _ h'=>h')) fun _ _ h'=>h'))
end
section
variable {X:Cx}
theorem LcOk.invC {scope:Scope}{cl:List (Str×Addr)}{N':List Str}{fr:List (Option Nat)}{pins:List (Addr×Obj)}{σ:St}{H:Hp}{s:Shared}{h1:Heap}{fp:List Addr}{m1:Str→Option Value}{tk:Nat}
  (S:LcOk X scope cl N' fr) (I:Inv X pins σ H s) (hf:∀ b∈fp,FpOk X pins H b) (hfo:∀ b∈fp,b < s.heap.objs.size)
  (k:∀ b o,s.heap.get? b=some o→h1.get? b=some o) (hn:h1.Ns s.heap.objs.size m1):Inv (cxC X N' scope cl fp s H) [] (frσ fr σ) H { s with heap:=h1,toks:=tk }:=by
 have hfree:=S.frees
 have hcell:=S.nocell
 rw[List.all_eq_true] at hfree hcell
 have fresh:H s.heap.objs.size=none:=I.hok.fresh (Nat.le_refl _)
 have clg:=S.cls.get
 refine⟨⟨I.ok.mod,S.kind,I.ok.glob,I.ok.blt,Nat.le_refl _,fun x y c e1 e2=>I.ok.inj x y c (clg x c e1) (clg y c e2),fun x hx=>?_,(fun x c e=>nomatch e),I.ok.hd,I.ok.frames,.inl rfl,fun b hb=>⟨Nat.ne_of_lt (hfo b hb),fun x c e=>(hf b hb).2.2.2.2.1 x c (clg x c e)⟩,
  I.bs,Nat.le_trans I.ok.bsz I.sz,fun b o e hb=>?_,fun b hb hz=>?_,I.stack,I.stkFree⟩,rfl,I.bare,Un.kept k,⟨m1,hn,fun i x v e1 e2 e3=>?_⟩,fun x c e=>?_,fresh,fun x c e=>I.freeC x c (clg x c e),fun p hp=>absurd (show p∈([]:List (Addr×Obj)) from hp) (by simp),I.hok.kept k,?_⟩
 ·
  have hm:∃ k',(x,k')∈scope.names∧k'=NameKind.free:=by
   have hx':(relabel scope X.env).names.lookup x=some .cell∨(relabel scope X.env).names.lookup x=some .free:=hx
   obtain⟨k',e,hk'⟩:∃ k',(relabel scope X.env).names.lookup x=some k'∧(k'=.cell∨k'=.free):=by
    rcases hx' with e | e
    ·exact⟨_,e,.inl rfl⟩
    ·exact⟨_,e,.inr rfl⟩
   have hmem:=PySem.mem_of_lookup e
   obtain⟨⟨n,kn⟩,hp,he⟩:=List.mem_map.mp hmem
   dsimp only at he
   split at he
   ·rename_i hc
    cases he
    have:kn=.free:=by
     simp only [Bool.and_eq_true,beq_iff_eq] at hc
     exact hc.1.1
    exact⟨kn,hp,this⟩
   ·cases he
    rcases hk' with e' | e'
    ·subst e'
     have:=hcell _ hp
     simp at this
    ·exact⟨_,hp,e'⟩
  obtain⟨k',hp,rfl⟩:=hm
  have:=hfree _ hp
  simp only [bne_self_eq_false,Bool.false_or] at this
  exact Option.isSome_iff_exists.mp this
 ·rcases (hf b hb).2.2.2.1 with z | z
  ·exact I.ok.noex b o e z
  ·have:=Heap.lt_size e
   exact absurd (Nat.lt_of_lt_of_le this (Nat.le_trans I.ok.bsz z)) (Nat.lt_irrefl _)
 ·obtain⟨_,f1,f2,_⟩:=hf b hb
  rcases List.mem_cons.mp (I.stkSub b hz) with e | e
  ·exact f1 e
  ·exact f2 e
 ·
  unfold frσ at e2
  rw[List.getElem?_map] at e2
  cases ef:fr[i]? with
  | none=>rw[ef] at e2;cases e2
  | some o=>
   rw[ef] at e2
   cases o with
   | none=>simp at e2
   | some j=>
    have e2':(σ[j]?).join=some v:=by simpa using e2
    obtain⟨x',h1',h2',h3',h4'⟩:=S.fr.get i j ef
    rw[Nat.zero_add] at h1'
    have ex:x'=x:=by
     have:N'[i]? = some x:=e1
     rw[h1'] at this
     exact Option.some.inj this
    subst ex
    have e2'':σ[j]? = some (some v):=by
     cases q:σ[j]? with
     | none=>rw[q] at e2';cases e2'
     | some z=>rw[q] at e2';simp at e2';rw[e2']
    obtain⟨m,hm,hl⟩:=I.loc
    obtain⟨u,r,lk⟩:=hl j x' v h2' e2'' (.inr (.inl h4'))
    refine⟨u,r,?_⟩
    rcases lk with ⟨q,_⟩ | ⟨_,c,hc,z⟩
    ·rw[h4'] at q;cases q
    ·have hcl:∃ c',cl.lookup x'=some c':=by
      have:=hfree _ (PySem.mem_of_lookup h3')
      simp only [bne_self_eq_false,Bool.false_or] at this
      exact Option.isSome_iff_exists.mp this
     obtain⟨c',hc'⟩:=hcl
     have e':=clg x' c' hc'
     rw[hc] at e'
     cases e'
     obtain⟨oc,hoc,hd⟩:=z
     refine .inr ⟨.inl ?_,c,hc',oc,k c oc hoc,hd⟩
     exact dU I.ok.kind h3' h4'
 ·obtain⟨v,oc,hoc,hd⟩:=I.cell x c (clg x c e)
  exact⟨v,oc,k c oc hoc,hd⟩
 ·show (frσ fr σ).length=N'.length
  unfold frσ
  rw[List.length_map,S.len]
theorem Inv.outC {scope:Scope}{cl:List (Str×Addr)}{N':List Str}{pins pins':List (Addr×Obj)}{σ σ':St}{H H':Hp}{s s':Shared}{fp:List Addr} (I:Inv X pins σ H s) (J:Inv (cxC X N' scope cl fp s H) pins' σ' H' s')
  (hf:∀ b∈fp,FpOk X pins H b):Inv X pins σ H' s':=
 I.call' (ch:=fp) J.os J.base J.hok J.bare fun b hb=>by
  obtain⟨_,f1,_,f3,f4,f5⟩:=hf b hb
  exact⟨f3,f1,f4,f5⟩
theorem Inv.letgo {pins:List (Addr×Obj)}{σ:St}{H:Hp}{s:Shared}{C:Addr}{h':Heap} (I:Inv X pins σ H s) (f:FpOk X pins H C) (hsb:Heap.SameBut C s.heap h'):Inv X pins σ H { s with heap:=h' }:=by
 obtain⟨f0,f1,f2,f3,f4,f5⟩:=f
 exact I.turned (t':=s.toks) (it:=C) (h':=h') (fun b o hb e=>(hsb.2 b hb).trans e) f0 f1 f3 f4 f5
theorem lc_block {elt tg iter:Expr}{ifs:List Expr}{scope:Scope}{pos:Pos}{N':List Str}{fr:List (Option Nat)}{cl:List (Str×Addr)}{g:TG}{tc:TT}{te:TE}
  {pins:List (Addr×Obj)}{σ:St}{H:Hp}{s:Shared}{J:It}{fp:List Addr}{it:Addr}{tn:Nat→Heap→Prop}{Q:Addr→Hp→Prop}{RR:Value→Addr→Result→Shared→Prop}{E:Value→Shared→Prop}
  (hx:∀ e s,¬ X.xe e s) (hc:X.calm=true) (S:LcOk X scope cl N' fr)
  (hg:∀ fp s H,PG (cxC X N' scope cl fp s H) tg g) (ht:∀ fp s H,PIf (cxC X N' scope cl fp s H) ifs tc) (he:∀ fp s H,PE (cxC X N' scope cl fp s H) elt te)
  (I:Inv X pins σ H s) (T:Turn X.prog X.w X.K tg J fp it tn) (st:tn 0 s.heap) (hf:∀ b∈fp,FpOk X pins H b) (h:lcRest J g tc te fr σ H Q)
  (hRR:∀ D C H' s' m',Inv X pins σ H' s'→Q D H'→s'.heap.Ns C m'→FpOk X pins H' C→RR (.ref D) C (.ok .next) s') :
  wpAny (model X.prog X.w) X.A (newList []) (fun acc s₃=>wpAny (model X.prog X.w) X.A (newFunctionEnv scope X.env.globals cl [] X.env.qual none .none (some X.env)) (fun cenv s₄=>
   codeAny (model X.prog X.w) X.A (.compStart (.ListComp elt [⟨tg,iter,ifs,0⟩] scope pos) 0 (.ref it) acc { cenv with scope:=relabel scope X.env }) (RR acc cenv.locals) s₄) E s₃) E s:=by
 have hcell:=S.nocell
 rw[List.all_eq_true] at hcell
 refine wpAny_newObj_type (wpAny_newFunctionEnv (fun x hx'=>by simpa using hcell x hx') (by intro y hy;simp at hy) (fun h₁ hns₁ hsb₁=>?_) S.kind)
 dsimp only at hns₁ hsb₁ ⊢
 have fresh:H s.heap.objs.size=none:=I.hok.fresh (Nat.le_refl _)
 have I3:Inv X pins σ (upd H s.heap.objs.size (.lst [])) { s with heap:=s.heap.push { cls:=.type "list",data:=.seq ([]:List Value).toArray },toks:=s.toks }:=I.lnew (ys:=[]) (its:=[]) .nil (Nat.zero_le _)
 have hf3:∀ b∈fp,FpOk X pins (upd H s.heap.objs.size (.lst [])) b:=fun b hb=>by
  obtain⟨o,ho,_⟩:=T.obj _ _ st b hb
  exact⟨by rw[aI (Nat.ne_of_lt (Heap.lt_size ho))];exact (hf b hb).1,(hf b hb).2⟩
 generalize hs3:({ s with heap:=s.heap.push { cls:=.type "list",data:=.seq ([]:List Value).toArray },toks:=s.toks }:Shared)=s3 at I3
 have e3:s3.heap=s.heap.push { cls:=.type "list",dict:=none,data:=.seq ([]:List Value).toArray }:=by rw[← hs3]
 have e3s:({ s with heap:=s.heap.push { cls:=.type "list",dict:=none,data:=.seq ([]:List Value).toArray } }:Shared)=s3:=hs3
 have hsz3:s3.heap.objs.size=s.heap.objs.size+1:=by rw[e3,Heap.size_push]
 have hfo:∀ b∈fp,b < s3.heap.objs.size:=fun b hb=>by
  obtain⟨o,ho,_⟩:=T.obj _ _ st b hb
  rw[hsz3]
  exact Nat.lt_succ_of_lt (Heap.lt_size ho)
 rw[← e3] at hns₁ hsb₁ ⊢
 have old3:∀ b o,s3.heap.get? b=some o→h₁.get? b=some o:=fun b o e=>hsb₁.extBut b o (Nat.ne_of_lt (Heap.lt_size e)) (Heap.get?_push_of_some _ e)
 have old:∀ b o,s.heap.get? b=some o→s3.heap.get? b=some o:=fun b o e=>by rw[e3];exact Heap.get?_push_of_some _ e
 have I4:=S.invC (tk:=s3.toks) I3 hf3 hfo old3 hns₁
 obtain⟨W,⟨m0,w0⟩,turn⟩:=h s.heap.objs.size fresh
 have stat:∀ {H':Hp},(∀ b∈fp,H' b=none)→∀ b∈fp,FpOk (cxC X N' scope cl fp s3 (upd H s.heap.objs.size (.lst []))) [] H' b:=fun hn b hb=>by
  refine⟨hn b hb,Nat.ne_of_lt (hfo b hb),?_,.inl hb,fun x c e=>(hf b hb).2.2.2.2.1 x c (S.cls.get x c e),fun p hp=>absurd (show p∈([]:List (Addr×Obj)) from hp) (by simp)⟩
  intro hz
  obtain⟨_,f1,f2,_⟩:=hf b hb
  rcases List.mem_cons.mp (I.stkSub b hz) with e | e
  ·exact f1 e
  ·exact f2 e
 have loop:∀ s4:Shared,s4={ s3 with heap:=h₁,toks:=s3.toks }→
   codeAny (model X.prog X.w) X.A (.compLoop (.ListComp elt [⟨tg,iter,ifs,0⟩] scope pos) 0 (.ref it) (.ref s.heap.objs.size) (compEnvC scope cl s3.heap.objs.size X.env)) (RR (.ref s.heap.objs.size) s3.heap.objs.size) s4:=by
  intro s4 hs4
  refine compLoop_any (fun n s'=>∃ i ys σ' H',Inv (cxC X N' scope cl fp s3 (upd H s.heap.objs.size (.lst []))) [] σ' H' s'∧tn i s'.heap∧(∀ b∈fp,H' b=none)∧W i n ys σ' H') ?_ m0
   ⟨0,[],frσ fr σ,_,by rw[hs4];exact I4,by rw[hs4];exact T.keep _ _ _ st fun b _ o e=>old3 b o (old b o e),fun b hb=>(hf3 b hb).1,w0⟩
  rintro n s5 ⟨i,ys,σ5,H5,I5,st5,fr5,w5⟩
  rcases turn i n ys σ5 H5 w5 with ⟨stop,qn⟩ | ⟨go,N,hN,step⟩
  ·refine cI (T.done (cxC X N' scope cl fp s3 (upd H s.heap.objs.size (.lst []))) rfl rfl rfl hc i [] s5 σ5 H5 _ I5 (stat fr5) st5 stop) fun r s6 ⟨hr,I6⟩=>?_
   subst hr
   obtain⟨m',hm',_⟩:=I6.loc
   exact hRR _ _ H5 s6 m' (I3.outC I6 hf3) qn hm' (I3.fpOk (Nat.le_refl _) I6.free)
  ·refine cI (T.item (cxC X N' scope cl fp s3 (upd H s.heap.objs.size (.lst []))) rfl rfl rfl hc i [] s5 σ5 H5 _ I5 (stat fr5) st5 go) fun r s6 ⟨u,hr,h6⟩=>?_
   subst hr
   refine cI h6 fun _ s7 ⟨x,H7,I7,r7,y7,st7,fr7⟩=>?_
   have I7':=I7.pinned (stat fr7) (T.obj _ _ st7)
   refine wpAny_mono (hg fp s3 _ _ s7 σ5 H7 x u _ I7' r7 (step x H7 y7)) (fun _ s8 ⟨σ8,H8,I8,q8⟩=>?_) fun e s' z=>(hx e s' z).elim
   refine wpAny_mono (ht fp s3 _ _ s8 σ8 H8 _ I8 q8) (fun ok s9 ⟨H9,I9,q9⟩=>?_) fun e s' z=>(hx e s' z).elim
   have again:∀ {s10:Shared}{H10:Hp}{ys':List V},Inv (cxC X N' scope cl fp s3 (upd H s.heap.objs.size (.lst []))) ([]++pinsAt fp s7.heap) σ8 H10 s10→N ys' σ8 H10→
     ∃ m,m < n∧∃ i ys σ' H',Inv (cxC X N' scope cl fp s3 (upd H s.heap.objs.size (.lst []))) [] σ' H' s10∧tn i s10.heap∧(∀ b∈fp,H' b=none)∧W i m ys σ' H':=fun {s10 H10 ys'} I10 n10=>by
    obtain⟨m',hm,w10⟩:=hN ys' σ8 H10 n10
    refine⟨m',hm,i+1,ys',σ8,H10,I10.unpinned,T.keep _ _ _ st7 fun b hb o e=>(I10.pin (b,o) (List.mem_append_right _ (List.mem_append_right _ (mem_pinsAt hb e)))).1,fun b hb=>?_,w10⟩
    obtain⟨o,e,d⟩:=T.obj _ _ st7 b hb
    exact (I10.pin (b,o) (List.mem_append_right _ (List.mem_append_right _ (mem_pinsAt hb e)))).2.1
   cases ok with
   | false=>
    rw[if_neg Bool.false_ne_true] at q9 ⊢
    exact again I9 q9
   | true=>
    rw[if_pos rfl] at q9 ⊢
    refine wpAny_mono (he fp s3 _ _ s9 σ8 H9 _ I9 q9) (fun y s10 ⟨yv,H10,I10,r10,hD,hlen,q10⟩=>?_) fun e s' z=>(hx e s' z).elim
    refine wpAny_mono (cJ (X:=cxC X N' scope cl fp s3 (upd H s.heap.objs.size (.lst []))) _ s10 σ8 H10 (.ref s.heap.objs.size) [yv] (.ref s.heap.objs.size) [y] (fun _ H11=>H11=upd H10 s.heap.objs.size (.lst (ys++[yv]))) I10 rfl (.cons r10 .nil)
     ⟨_,ys,yv,rfl,rfl,hD,hlen,rfl⟩) (fun _ s11 ⟨_,H11,I11,_,e11⟩=>?_) fun e s' z=>(hx e s' z).elim
    subst e11
    exact again I11 q10
 exact codeAny_compStart_list (loop _ (by rw[← e3s];rfl)) (T.self X.A 0 _ _ _ (T.keep _ _ _ st fun b _ o e=>old3 b o (old b o e)) (loop _ (by rw[← e3s];rfl)))
theorem pe_lc {elt tg iter:Expr}{ifs:List Expr}{scope:Scope}{pos:Pos}{N':List Str}{fr:List (Option Nat)}{cl:List (Str×Addr)}{wi:TI}{g:TG}{tc:TT}{te:TE}
  (hx:∀ e s,¬ X.xe e s) (hc:X.calm=true) (S:LcOk X scope cl N' fr) (hi:PI X tg iter wi)
  (hg:∀ fp s H,PG (cxC X N' scope cl fp s H) tg g) (ht:∀ fp s H,PIf (cxC X N' scope cl fp s H) ifs tc) (he:∀ fp s H,PE (cxC X N' scope cl fp s H) elt te)
  (hs:∀ x,foldedSetIterable iter X.env x=pure x:=by intro _;rfl):PE X (.ListComp elt [⟨tg,iter,ifs,0⟩] scope pos) (tLC wi fr g tc te):=by
 intro pins s σ H Q I h
 have hloc:=S.locs
 rw[List.all_eq_true] at hloc
 rw[eval_ListComp]
 refine wpAny_comprehension_free (use:=none) rfl hs S.clos S.kind (fun x hx' hl=>by have:=hloc x hx';rw[hl] at this;simpa using this) (cI (hi pins s σ H _ I h) fun v s1 h1=>cI h1 fun itv s2 h2=>?_)
 obtain⟨it,fp,tn,J,H2,e,I2,T,st2,f2,rest⟩:=h2
 subst e
 refine lc_block (RR:=fun acc C=>compPost (model X.prog X.w) X.A X.xe none (EP X pins σ Q) acc C) hx hc S hg ht he I2 T st2 f2 rest ?_
 intro D C H' s' m' I' q hn f
 exact⟨m',hn,fun h' hsb=>⟨.ref D,H',I'.letgo f hsb,rfl,q⟩⟩
theorem ps_set_lc {i:Nat}{y:Str}{py:Pos}{spos:Pos}{elt tg iter:Expr}{ifs:List Expr}{scope:Scope}{pos:Pos}{N':List Str}{fr:List (Option Nat)}{cl:List (Str×Addr)}{wi:TI}{g:TG}{tc:TT}{te:TE}
  (hN:X.N.Nodup) (hy:X.N[i]? = some y) (hk:X.env.scope.names.lookup y=some .local)
  (hx:∀ e s,¬ X.xe e s) (hc:X.calm=true) (S:LcOk X scope cl N' fr) (hi:PI X tg iter wi)
  (hg:∀ fp s H,PG (cxC X N' scope cl fp s H) tg g) (ht:∀ fp s H,PIf (cxC X N' scope cl fp s H) ifs tc) (he:∀ fp s H,PE (cxC X N' scope cl fp s H) elt te)
  (hsw:swapsWith (.ListComp elt [⟨tg,iter,ifs,0⟩] scope pos) (some (.Name y py)) spos.line X.env=pure true:=by rfl)
  (hs:∀ x,foldedSetIterable iter X.env x=pure x:=by intro _;rfl):PS X (.Assign [.Name y py] (.ListComp elt [⟨tg,iter,ifs,0⟩] scope pos) spos) (tAsg (tLC wi fr g tc te) (gName i)):=by
 intro pins s σ H D I h
 have hloc:=S.locs
 rw[List.all_eq_true] at hloc
 rw[exec_Assign_Name_used _ _ _ _ hsw]
 refine wpAny_bind (wpAny_standAt (wpAny_bind ?_))
 show wpAny _ X.A (do let _ ← comprehension (.ListComp elt [⟨tg,iter,ifs,0⟩] scope pos) scope X.env _ (newList []) false (eval iter X.env) (some (assign (.Name y py) X.env))) _ _ s
 refine wpAny_bind (wpAny_mono (wpAny_comprehension_free (use:=some (assign (.Name y py) X.env)) (Q:=fun _ s'=>SP X pins D .next s') rfl hs S.clos S.kind (fun x hx' hl=>by have:=hloc x hx';rw[hl] at this;simpa using this)
  (cI (hi pins s σ H _ I h) fun v s1 h1=>cI h1 fun itv s2 h2=>?_)) (fun _ s' hq=>wpAny_pure (wpAny_pure hq)) fun _ _ e=>e)
 obtain⟨it,fp,tn,J,H2,e,I2,T,st2,f2,rest⟩:=h2
 subst e
 refine lc_block (RR:=fun acc C=>compPost (model X.prog X.w) X.A X.xe (some (assign (.Name y py) X.env)) (fun _ s'=>SP X pins D .next s') acc C) hx hc S hg ht he I2 T st2 f2 rest ?_
 intro Da C H' s' m' I' q hn f
 show wpAny _ X.A (assign (.Name y py) X.env (.ref Da)) _ _ _
 refine wpAny_assign_Name (store_ok2 I' hN hy (.inl hk) (v:=.ref Da) rfl (fun s'' I'' hch=>?_) (.inr hk))
 obtain⟨a,hsb,ha⟩:=hch
 have haC:a≠C:=by
  rcases ha with e | e
  ·rw[e];exact Ne.symm f.2.1
  ·exact f.2.2.2.2.1 _ _ e
 exact⟨m',hn.sameBut hsb (Ne.symm haC),fun h' hs'=>⟨_,H',I''.letgo f hs',q⟩⟩
end
end L2
namespace TwZ
open PySem
open Sem (wp)
noncomputable def cP (h:Heap) (t:Bool) (it a:Addr) (i:Nat):Prop:=if t=true then h.IsTupleIter it a i else h.IsListIter it a i
noncomputable def bN (h:Heap) (t:Bool) (a:Addr) (items:Array Value):Prop:=if t=true then h.IsTuple a items else h.IsList a items
theorem cP.at {h h':Heap}{t:Bool}{it a:Addr}{i:Nat} (x:cP h t it a i) (k:∀ o,h.get? it=some o→h'.get? it=some o):cP h' t it a i:=by
 cases t <;> (obtain⟨o,ho,r⟩:=x;exact⟨o,k o ho,r⟩)
theorem ex {h h':Heap}{b c:Addr}{o:Obj} (hs:Heap.SameBut b h h') (hc:@Ne Nat c b) (e:h.get? c=some o):h'.get? c=some o:=hs.extBut _ _ hc e
theorem cP.ext {h h':Heap}{t:Bool}{it a b:Addr}{i:Nat} (x:cP h t it a i) (hs:Heap.SameBut b h h') (hab:@Ne Nat it b):cP h' t it a i:=x.at fun o e=>hs.extBut _ _ hab e
theorem bN.at {h h':Heap}{t:Bool}{a:Addr}{xs:Array Value} (x:bN h t a xs) (k:∀ o,h.get? a=some o→h'.get? a=some o):bN h' t a xs:=by
 cases t <;> (obtain⟨o,ho,r⟩:=x;exact⟨o,k o ho,r⟩)
theorem bN.ext {h h':Heap}{t:Bool}{a b:Addr}{xs:Array Value} (x:bN h t a xs) (hs:Heap.SameBut b h h') (hab:@Ne Nat a b):bN h' t a xs:=x.at fun o e=>hs.extBut _ _ hab e
theorem bN.lt {h:Heap}{t:Bool}{a:Addr}{xs:Array Value} (x:bN h t a xs):a < h.objs.size:=by
 cases t <;> (obtain⟨o,ho,r⟩:=x;exact Heap.lt_size ho)
theorem cP.obj {h:Heap}{t:Bool}{it a:Addr}{i:Nat} (x:cP h t it a i):∃ o,h.get? it=some o∧∀ v,o.data≠.cell v:=by
 cases t <;> (obtain⟨o,ho,_,d⟩:=x;exact⟨o,ho,fun v z=>by rw[d] at z;cases z⟩)
section
variable {prog:Program}{w:World}{M:Model}{A:Around}{E:Value→Shared→Prop}{s:Shared}
theorem wpAny_alive {a:Addr}{Q:Option Obj→Shared→Prop} (h:Q (s.heap.get? a) s):wpAny M A (loadIfAlive a) Q E s:=fun Γ p _=>by
 unfold loadIfAlive
 rw[Sem.wp_loadIfAlive]
 exact h
theorem nextOf_tuple_item {it l:Addr}{i:Nat}{items}{x:Value}{Q:Value→Shared→Prop} (hit:s.heap.IsTupleIter it l i)
  (hl:s.heap.IsTuple l items) (hx:items[i]? = some x)
  (hQ:∀ h',h'.IsTupleIter it l (i+1)→Heap.SameBut it s.heap h'→Q x { s with heap:=h' }) :
  wpAny (model prog w) A (Builtin.SmallTypes.nextOf (.ref it)) Q E s:=by
 obtain⟨o,ho,hc,hd⟩:=id hit
 obtain⟨ol,hol,_,nl,hdl⟩:=hl
 unfold Builtin.SmallTypes.nextOf
 refine wpAny_bind (wpAny_callSpecial?_slot (name:=Str.ofString "__next__") hit.typeIs F.slot_tuple_iterator_next
  (wpAny_call_entry F.slot_tuple_iterator_next hit.typeIs F.entry_tuple_iterator_next ?_ (F.args_tuple_iterator_next_1 _)))
 show wpAny _ _ (field (.ref it) 0 >>= _) _ _ s
 refine wpAny_bind (wpAny_field ho hd (x:=.ref l) rfl ?_)
 show wpAny _ _ (if (Value.ref l == Value.none)=true then _ else _) _ _ s
 rw[if_neg (show ¬ ((Value.ref l == Value.none)=true) from Bool.false_ne_true)]
 show wpAny _ _ (field (.ref it) 1 >>= _) _ _ s
 refine wpAny_bind (wpAny_field ho hd (x:=.int i 0) rfl ?_)
 show wpAny _ _ (seqItems? (.ref l) >>= _) _ _ s
 refine wpAny_bind (wpAny_seqItems hol hdl ?_)
 simp only [Int.toNat_natCast,hx]
 refine wpAny_bind (wpAny_setField ho hd (by simp) (wpAny_pure ⟨x,rfl,wpAny_pure (hQ _ ?_ (Heap.SameBut.update ..))⟩))
 exact⟨_,Heap.get?_update_self _ ho (Obj.isFreed_of_fields (Obj.data_mapFields hd _)),(Obj.cls_mapFields ..).trans hc,by
  rw[Obj.data_mapFields hd];simp [rawInt]⟩
theorem nextOf_tuple_end {it l:Addr}{i:Nat}{items}{Q:Value→Shared→Prop} (hh:A.handled=none)
  (hit:s.heap.IsTupleIter it l i) (hl:s.heap.IsTuple l items) (hx:items[i]? = none)
  (hE:∀ h' e,Heap.ExtBut it s.heap h'→(∃ o,h'.get? e=some o∧o.cls=.type "StopIteration")→E (.ref e) { s with heap:=h' }) :
  wpAny (model prog w) A (Builtin.SmallTypes.nextOf (.ref it)) Q E s:=by
 obtain⟨o,ho,hc,hd⟩:=id hit
 obtain⟨ol,hol,_,nl,hdl⟩:=hl
 unfold Builtin.SmallTypes.nextOf
 refine wpAny_bind (wpAny_callSpecial?_slot (name:=Str.ofString "__next__") hit.typeIs F.slot_tuple_iterator_next
  (wpAny_call_entry F.slot_tuple_iterator_next hit.typeIs F.entry_tuple_iterator_next ?_ (F.args_tuple_iterator_next_1 _)))
 show wpAny _ _ (field (.ref it) 0 >>= _) _ _ s
 refine wpAny_bind (wpAny_field ho hd (x:=.ref l) rfl ?_)
 show wpAny _ _ (if (Value.ref l == Value.none)=true then _ else _) _ _ s
 rw[if_neg (show ¬ ((Value.ref l == Value.none)=true) from Bool.false_ne_true)]
 show wpAny _ _ (field (.ref it) 1 >>= _) _ _ s
 refine wpAny_bind (wpAny_field ho hd (x:=.int i 0) rfl ?_)
 show wpAny _ _ (seqItems? (.ref l) >>= _) _ _ s
 refine wpAny_bind (wpAny_seqItems hol hdl ?_)
 simp only [Int.toNat_natCast,hx]
 refine wpAny_bind (wpAny_rule (wpAny_bind (wpAny_setField ho hd (by simp) ?_)))
 show wpAny _ _ (newExc (.type "StopIteration") [] >>= _) _ _ _
 refine wpAny_bind ?_
 simp only [newExc,newTuple]
 refine wpAny_bind (wpAny_newObj_type ?_ (by size_fits))
 refine wpAny_bind (m:=firstArgMember _ _) (wpAny_of_eq (a:=Value.none) (by first | rfl | (simp only [firstArgMember];rfl)) ?_)
 refine wpAny_newObj_type ?_ (by size_fits)
 simp only [raiseNew]
 refine wpAny_bind (wpAny_handled ?_)
 first | rw[show A.in1.handled=none from hh] | rw[hh]
 refine wpAny_bind (wpAny_pure (wpAny_throw ?_))
 exact hE _ _ (((Heap.SameBut.update ..).extBut.push _).push _) ⟨_,Heap.get?_push_size _ rfl,rfl⟩
theorem bB {t:Bool}{it l:Addr}{i:Nat}{items}{x:Value}{Q:Value→Shared→Prop} (hit:cP s.heap t it l i)
  (hl:bN s.heap t l items) (hx:items[i]? = some x)
  (hQ:∀ h',cP h' t it l (i+1)→Heap.SameBut it s.heap h'→Q x { s with heap:=h' }) :
  wpAny (model prog w) A (Builtin.SmallTypes.nextOf (.ref it)) Q E s:=by
 cases t with
 | true=>exact nextOf_tuple_item hit hl hx hQ
 | false=>exact wpAny_nextOf_list_item hit hl hx hQ
theorem cF {t:Bool}{it l:Addr}{i:Nat}{items}{Q:Value→Shared→Prop} (hh:A.handled=none)
  (hit:cP s.heap t it l i) (hl:bN s.heap t l items) (hx:items[i]? = none)
  (hE:∀ h' e,Heap.ExtBut it s.heap h'→(∃ o,h'.get? e=some o∧o.cls=.type "StopIteration")→E (.ref e) { s with heap:=h' }) :
  wpAny (model prog w) A (Builtin.SmallTypes.nextOf (.ref it)) Q E s:=by
 cases t with
 | true=>exact nextOf_tuple_end hh hit hl hx hE
 | false=>exact wpAny_nextOf_list_end hh hit hl hx hE
noncomputable abbrev IsZ (h:Heap) (z TI TO:Addr) (f0:Value) (f1:Bool):Prop:=
 h.get? z=some { cls:=.type "zip",dict:=none,data:=.fields #[f0,.bool f1,.bool false,.ref TI,.ref TO],slots:=#[] }
noncomputable abbrev cH (h:Heap) (T:Addr) (vs:Array Value):Prop:=h.get? T=some { cls:=.type "tuple",data:=.seq vs }
noncomputable def Free0 (f0:Value):Prop:=f0=.none∨∃ a:Int,f0=.int a 0
theorem owned_free {z TI TO:Addr}{f0:Value}{f1:Bool}{Q:Bool→Shared→Prop} (hz:IsZ s.heap z TI TO f0 f1) (hf:Free0 f0) (yes:Q true s)
  (no:∀ h',IsZ h' z TI TO f0 true→Heap.SameBut z s.heap h'→Q false { s with heap:=h' }):wpAny (model prog w) A (Builtin.SmallTypes.ownedTupleIsFree (.ref z)) Q E s:=by
 unfold Builtin.SmallTypes.ownedTupleIsFree
 refine wpAny_bind (wpAny_field hz rfl (x:=f0) rfl ?_)
 rcases hf with rfl | ⟨a,rfl⟩
 ·exact wpAny_pure yes
 ·refine wpAny_bind (wpAny_alive ?_)
  cases h:s.heap.get? a.toNat with
  | none=>exact wpAny_pure yes
  | some o=>
   show wpAny _ _ (field (.ref z) 1 >>= _) _ _ _
   refine wpAny_bind (wpAny_field hz rfl (x:=.bool f1) rfl ?_)
   cases f1 with
   | true=>exact wpAny_pure (no s.heap hz (Heap.SameBut.refl ..))
   | false=>
    show wpAny _ _ (setField (.ref z) 1 (.bool true) >>= _) _ _ _
    refine wpAny_bind (wpAny_setField_rec hz (by simp) fun h₁ hz₁ hs₁=>wpAny_pure (no h₁ hz₁ hs₁))
theorem handOut {z TI TO:Addr}{f0:Value}{f1:Bool}{T:Addr}{Q:Unit→Shared→Prop} (hz:IsZ s.heap z TI TO f0 f1)
  (h:∀ h',IsZ h' z TI TO (rawInt T) false→Heap.SameBut z s.heap h'→Q () { s with heap:=h' }):wpAny (model prog w) A (Builtin.SmallTypes.ownedTupleHandOut (.ref z) (.ref T)) Q E s:=by
 unfold Builtin.SmallTypes.ownedTupleHandOut
 refine wpAny_bind (wpAny_setField_rec hz (by simp) fun h₁ hz₁ hs₁=>?_)
 replace hz₁:IsZ h₁ z TI TO (rawInt T) f1:=hz₁
 refine wpAny_setField_rec hz₁ (by simp) fun h₂ hz₂ hs₂=>?_
 exact h h₂ hz₂ (Heap.SameBut.trans hs₁ hs₂)
theorem seq_set {T:Addr}{vs:Array Value}{x:Value}{k:Nat}{Q:Unit→Shared→Prop} (hT:cH s.heap T vs) (h3:vs.size≤3)
  (h:∀ h',cH h' T (vs.setIfInBounds k x)→Heap.SameBut T s.heap h'→Q () { s with heap:=h' }):wpAny (model prog w) A (updateSeq T (·.setIfInBounds k x)) Q E s:=by
 have hl:vs.size≤sizeLine:=Nat.le_trans h3 (by decide)
 refine wpAny_updateSeq (hz:=hl) (_hz':=by rw[Array.size_setIfInBounds];omega) hT rfl (h _ ?_ (Heap.SameBut.update ..))
 show Heap.get? _ _=_
 rw[Heap.get?_update_self _ hT rfl]
 simp [Obj.mapSeq]
theorem nn {n i j:Nat} (h:i≠j):n+i≠n+j:=fun e=>h (Nat.add_left_cancel e)
theorem n0 {n j:Nat} (h:0 < j):n≠n+j:=fun e=>absurd e (Nat.ne_of_lt (Nat.lt_add_of_pos_right h))
theorem aQ {n j:Nat} (h:0 < j):n+j≠n:=Ne.symm (n0 h)
theorem al {a n:Nat} (h:a < n) (j:Nat):a≠n+j:=Nat.ne_of_lt (Nat.lt_of_lt_of_le h (Nat.le_add_right n j))
theorem aE {a n:Nat} (h:a < n):a≠n:=Nat.ne_of_lt h
theorem co {c n m k:Nat} (h:c < n∨n+m < c) (hk:k≤m):c≠n+k:=fun e=>h.elim (fun h=>absurd e (al h k)) fun h=>absurd (Nat.lt_of_le_of_lt (Nat.add_le_add_left hk n) h) (by rw[e];exact Nat.lt_irrefl _)
theorem aR {c n m:Nat} (h:c < n∨n+m < c):c≠n:=co (k:=0) h (Nat.zero_le m)
theorem zip3_next {n a1 a2 a3:Nat}{t1 t2 t3:Bool}{k:Nat}{xs ys zs:Array Value}{x y z c1 c2 c3 f0:Value}{f1:Bool}{Q:Value→Shared→Prop} (hf:Free0 f0)
  (hz:IsZ s.heap (n+5) (n+3) (n+4) f0 f1) (hTI:cH s.heap (n+3) #[.ref n,.ref (n+1),.ref (n+2)]) (hTO:cH s.heap (n+4) #[c1,c2,c3])
  (i1:cP s.heap t1 n a1 k) (i2:cP s.heap t2 (n+1) a2 k) (i3:cP s.heap t3 (n+2) a3 k) (s1:bN s.heap t1 a1 xs) (s2:bN s.heap t2 a2 ys) (s3:bN s.heap t3 a3 zs)
  (l1:a1 < n) (l2:a2 < n) (l3:a3 < n) (hx:xs[k]? = some x) (hy:ys[k]? = some y) (hw:zs[k]? = some z)
  (hQ:∀ (T:Nat) h' f0' f1' d1 d2 d3,s.heap.objs.size≤T→Free0 f0'→IsZ h' (n+5) (n+3) (n+4) f0' f1'→cH h' (n+3) #[.ref n,.ref (n+1),.ref (n+2)]→cH h' (n+4) #[d1,d2,d3]→
   cP h' t1 n a1 (k+1)→cP h' t2 (n+1) a2 (k+1)→cP h' t3 (n+2) a3 (k+1)→cH h' T #[x,y,z]→
   (∀ (c:Nat) o,(c < n∨n+5 < c)→s.heap.get? c=some o→h'.get? c=some o)→Q (.ref T) { s with heap:=h' }) :
  wpAny (model prog w) A (Builtin.«zip.__next__» ⟨[.ref (n+5)],[]⟩) (fun fin s'=>∃ v,fin=.done (.ret v)∧Q v s') E s:=by
 have hzlt:n+5 < s.heap.objs.size:=Heap.lt_size hz
 show wpAny _ _ (field (.ref (n+5)) 2 >>= _) _ _ _
 refine wpAny_bind (wpAny_field hz rfl (x:=.bool false) rfl ?_)
 show wpAny _ _ (field (.ref (n+5)) 3 >>= _) _ _ _
 refine wpAny_bind (wpAny_field hz rfl (x:=.ref (n+3)) rfl ?_)
 refine wpAny_bind (wpAny_seqItems hTI rfl ?_)
 show wpAny _ _ (Builtin.SmallTypes.ownedTupleIsFree (.ref (n+5)) >>= _) _ _ _
 refine wpAny_bind (owned_free hz hf ?_ ?_)
 ·simp only [if_true]
  refine wpAny_bind (wpAny_rule ?_)
  refine wpAny_bind (wpAny_field hz rfl (x:=.ref (n+4)) rfl ?_)
  refine wpAny_bind (wpAny_setField_rec hz (by simp) fun h₁ hz₁ hs₁=>?_)
  replace hz₁:IsZ h₁ (n+5) (n+3) (n+4) .ellipsis f1:=hz₁
  refine wpAny_bind ?_
  simp only [List.zipIdx_cons,List.zipIdx_nil,List.forIn_cons,List.forIn_nil]
  refine wpAny_bind (wpAny_bind (wpAny_onRaise ?_))
  show wpAny _ _ (Builtin.SmallTypes.nextOf (.ref n) >>= _) _ _ _
  refine wpAny_bind (bB (i1.ext hs₁ (by first | exact nn (by decide) | exact n0 (by decide) | exact aQ (by decide) | exact al l1 _ | exact al l2 _ | exact al l3 _ | exact aE l1 | exact aE l2 | exact aE l3 | exact co hc (by decide) | exact aR hc | omega)) (s1.ext hs₁ (by first | exact nn (by decide) | exact n0 (by decide) | exact aQ (by decide) | exact al l1 _ | exact al l2 _ | exact al l3 _ | exact aE l1 | exact aE l2 | exact aE l3 | exact co hc (by decide) | exact aR hc | omega)) hx fun h₂ i1₂ hs₂=>wpAny_pure ?_)
  have hTO₂:cH h₂ (n+4) #[c1,c2,c3]:=ex hs₂ (by first | exact nn (by decide) | exact n0 (by decide) | exact aQ (by decide) | exact al l1 _ | exact al l2 _ | exact al l3 _ | exact aE l1 | exact aE l2 | exact aE l3 | exact co hc (by decide) | exact aR hc | omega) (ex hs₁ (by first | exact nn (by decide) | exact n0 (by decide) | exact aQ (by decide) | exact al l1 _ | exact al l2 _ | exact al l3 _ | exact aE l1 | exact aE l2 | exact aE l3 | exact co hc (by decide) | exact aR hc | omega) hTO)
  refine wpAny_bind (wpAny_seqItems hTO₂ rfl ?_)
  refine wpAny_bind (seq_set hTO₂ (by simp) fun h₃ hTO₃ hs₃=>?_)
  replace hTO₃:cH h₃ (n+4) #[x,c2,c3]:=hTO₃
  refine wpAny_bind (wpAny_letGo (wpAny_pure ?_))
  refine wpAny_bind (wpAny_bind (wpAny_onRaise ?_))
  show wpAny _ _ (Builtin.SmallTypes.nextOf (.ref (n+1)) >>= _) _ _ _
  refine wpAny_bind (bB (((i2.ext hs₁ (by first | exact nn (by decide) | exact n0 (by decide) | exact aQ (by decide) | exact al l1 _ | exact al l2 _ | exact al l3 _ | exact aE l1 | exact aE l2 | exact aE l3 | exact co hc (by decide) | exact aR hc | omega)).ext hs₂ (by first | exact nn (by decide) | exact n0 (by decide) | exact aQ (by decide) | exact al l1 _ | exact al l2 _ | exact al l3 _ | exact aE l1 | exact aE l2 | exact aE l3 | exact co hc (by decide) | exact aR hc | omega)).ext hs₃ (by first | exact nn (by decide) | exact n0 (by decide) | exact aQ (by decide) | exact al l1 _ | exact al l2 _ | exact al l3 _ | exact aE l1 | exact aE l2 | exact aE l3 | exact co hc (by decide) | exact aR hc | omega)) (((s2.ext hs₁ (by first | exact nn (by decide) | exact n0 (by decide) | exact aQ (by decide) | exact al l1 _ | exact al l2 _ | exact al l3 _ | exact aE l1 | exact aE l2 | exact aE l3 | exact co hc (by decide) | exact aR hc | omega)).ext hs₂ (by first | exact nn (by decide) | exact n0 (by decide) | exact aQ (by decide) | exact al l1 _ | exact al l2 _ | exact al l3 _ | exact aE l1 | exact aE l2 | exact aE l3 | exact co hc (by decide) | exact aR hc | omega)).ext hs₃ (by first | exact nn (by decide) | exact n0 (by decide) | exact aQ (by decide) | exact al l1 _ | exact al l2 _ | exact al l3 _ | exact aE l1 | exact aE l2 | exact aE l3 | exact co hc (by decide) | exact aR hc | omega)) hy fun h₄ i2₄ hs₄=>wpAny_pure ?_)
  have hTO₄:cH h₄ (n+4) #[x,c2,c3]:=ex hs₄ (by first | exact nn (by decide) | exact n0 (by decide) | exact aQ (by decide) | exact al l1 _ | exact al l2 _ | exact al l3 _ | exact aE l1 | exact aE l2 | exact aE l3 | exact co hc (by decide) | exact aR hc | omega) hTO₃
  refine wpAny_bind (wpAny_seqItems hTO₄ rfl ?_)
  refine wpAny_bind (seq_set hTO₄ (by simp) fun h₅ hTO₅ hs₅=>?_)
  replace hTO₅:cH h₅ (n+4) #[x,y,c3]:=hTO₅
  refine wpAny_bind (wpAny_letGo (wpAny_pure ?_))
  refine wpAny_bind (wpAny_bind (wpAny_onRaise ?_))
  show wpAny _ _ (Builtin.SmallTypes.nextOf (.ref (n+2)) >>= _) _ _ _
  refine wpAny_bind (bB (((((i3.ext hs₁ (by first | exact nn (by decide) | exact n0 (by decide) | exact aQ (by decide) | exact al l1 _ | exact al l2 _ | exact al l3 _ | exact aE l1 | exact aE l2 | exact aE l3 | exact co hc (by decide) | exact aR hc | omega)).ext hs₂ (by first | exact nn (by decide) | exact n0 (by decide) | exact aQ (by decide) | exact al l1 _ | exact al l2 _ | exact al l3 _ | exact aE l1 | exact aE l2 | exact aE l3 | exact co hc (by decide) | exact aR hc | omega)).ext hs₃ (by first | exact nn (by decide) | exact n0 (by decide) | exact aQ (by decide) | exact al l1 _ | exact al l2 _ | exact al l3 _ | exact aE l1 | exact aE l2 | exact aE l3 | exact co hc (by decide) | exact aR hc | omega)).ext hs₄ (by first | exact nn (by decide) | exact n0 (by decide) | exact aQ (by decide) | exact al l1 _ | exact al l2 _ | exact al l3 _ | exact aE l1 | exact aE l2 | exact aE l3 | exact co hc (by decide) | exact aR hc | omega)).ext hs₅ (by first | exact nn (by decide) | exact n0 (by decide) | exact aQ (by decide) | exact al l1 _ | exact al l2 _ | exact al l3 _ | exact aE l1 | exact aE l2 | exact aE l3 | exact co hc (by decide) | exact aR hc | omega))
   (((((s3.ext hs₁ (by first | exact nn (by decide) | exact n0 (by decide) | exact aQ (by decide) | exact al l1 _ | exact al l2 _ | exact al l3 _ | exact aE l1 | exact aE l2 | exact aE l3 | exact co hc (by decide) | exact aR hc | omega)).ext hs₂ (by first | exact nn (by decide) | exact n0 (by decide) | exact aQ (by decide) | exact al l1 _ | exact al l2 _ | exact al l3 _ | exact aE l1 | exact aE l2 | exact aE l3 | exact co hc (by decide) | exact aR hc | omega)).ext hs₃ (by first | exact nn (by decide) | exact n0 (by decide) | exact aQ (by decide) | exact al l1 _ | exact al l2 _ | exact al l3 _ | exact aE l1 | exact aE l2 | exact aE l3 | exact co hc (by decide) | exact aR hc | omega)).ext hs₄ (by first | exact nn (by decide) | exact n0 (by decide) | exact aQ (by decide) | exact al l1 _ | exact al l2 _ | exact al l3 _ | exact aE l1 | exact aE l2 | exact aE l3 | exact co hc (by decide) | exact aR hc | omega)).ext hs₅ (by first | exact nn (by decide) | exact n0 (by decide) | exact aQ (by decide) | exact al l1 _ | exact al l2 _ | exact al l3 _ | exact aE l1 | exact aE l2 | exact aE l3 | exact co hc (by decide) | exact aR hc | omega)) hw fun h₆ i3₆ hs₆=>wpAny_pure ?_)
  have hTO₆:cH h₆ (n+4) #[x,y,c3]:=ex hs₆ (by first | exact nn (by decide) | exact n0 (by decide) | exact aQ (by decide) | exact al l1 _ | exact al l2 _ | exact al l3 _ | exact aE l1 | exact aE l2 | exact aE l3 | exact co hc (by decide) | exact aR hc | omega) hTO₅
  refine wpAny_bind (wpAny_seqItems hTO₆ rfl ?_)
  refine wpAny_bind (seq_set hTO₆ (by simp) fun h₇ hTO₇ hs₇=>?_)
  replace hTO₇:cH h₇ (n+4) #[x,y,z]:=hTO₇
  refine wpAny_bind (wpAny_letGo (wpAny_pure (wpAny_pure ?_)))
  refine wpAny_bind (wpAny_seqItems hTO₇ rfl ?_)
  refine wpAny_bind (wpAny_newTuple ?_)
  have hsz:h₇.objs.size=s.heap.objs.size:=by rw[hs₇.1,hs₆.1,hs₅.1,hs₄.1,hs₃.1,hs₂.1,hs₁.1]
  have keep:∀ (c:Nat) o,(c < n∨n+5 < c)→s.heap.get? c=some o→h₇.get? c=some o:=fun c o hc e=>
   ex hs₇ (by first | exact nn (by decide) | exact n0 (by decide) | exact aQ (by decide) | exact al l1 _ | exact al l2 _ | exact al l3 _ | exact aE l1 | exact aE l2 | exact aE l3 | exact co hc (by decide) | exact aR hc | omega) (ex hs₆ (by first | exact nn (by decide) | exact n0 (by decide) | exact aQ (by decide) | exact al l1 _ | exact al l2 _ | exact al l3 _ | exact aE l1 | exact aE l2 | exact aE l3 | exact co hc (by decide) | exact aR hc | omega) (ex hs₅ (by first | exact nn (by decide) | exact n0 (by decide) | exact aQ (by decide) | exact al l1 _ | exact al l2 _ | exact al l3 _ | exact aE l1 | exact aE l2 | exact aE l3 | exact co hc (by decide) | exact aR hc | omega) (ex hs₄ (by first | exact nn (by decide) | exact n0 (by decide) | exact aQ (by decide) | exact al l1 _ | exact al l2 _ | exact al l3 _ | exact aE l1 | exact aE l2 | exact aE l3 | exact co hc (by decide) | exact aR hc | omega) (ex hs₃ (by first | exact nn (by decide) | exact n0 (by decide) | exact aQ (by decide) | exact al l1 _ | exact al l2 _ | exact al l3 _ | exact aE l1 | exact aE l2 | exact aE l3 | exact co hc (by decide) | exact aR hc | omega) (ex hs₂ (by first | exact nn (by decide) | exact n0 (by decide) | exact aQ (by decide) | exact al l1 _ | exact al l2 _ | exact al l3 _ | exact aE l1 | exact aE l2 | exact aE l3 | exact co hc (by decide) | exact aR hc | omega) (ex hs₁ (by first | exact nn (by decide) | exact n0 (by decide) | exact aQ (by decide) | exact al l1 _ | exact al l2 _ | exact al l3 _ | exact aE l1 | exact aE l2 | exact aE l3 | exact co hc (by decide) | exact aR hc | omega) e))))))
  have hz₇:IsZ h₇ (n+5) (n+3) (n+4) .ellipsis f1:=ex hs₇ (by first | exact nn (by decide) | exact n0 (by decide) | exact aQ (by decide) | exact al l1 _ | exact al l2 _ | exact al l3 _ | exact aE l1 | exact aE l2 | exact aE l3 | exact co hc (by decide) | exact aR hc | omega) (ex hs₆ (by first | exact nn (by decide) | exact n0 (by decide) | exact aQ (by decide) | exact al l1 _ | exact al l2 _ | exact al l3 _ | exact aE l1 | exact aE l2 | exact aE l3 | exact co hc (by decide) | exact aR hc | omega) (ex hs₅ (by first | exact nn (by decide) | exact n0 (by decide) | exact aQ (by decide) | exact al l1 _ | exact al l2 _ | exact al l3 _ | exact aE l1 | exact aE l2 | exact aE l3 | exact co hc (by decide) | exact aR hc | omega) (ex hs₄ (by first | exact nn (by decide) | exact n0 (by decide) | exact aQ (by decide) | exact al l1 _ | exact al l2 _ | exact al l3 _ | exact aE l1 | exact aE l2 | exact aE l3 | exact co hc (by decide) | exact aR hc | omega) (ex hs₃ (by first | exact nn (by decide) | exact n0 (by decide) | exact aQ (by decide) | exact al l1 _ | exact al l2 _ | exact al l3 _ | exact aE l1 | exact aE l2 | exact aE l3 | exact co hc (by decide) | exact aR hc | omega) (ex hs₂ (by first | exact nn (by decide) | exact n0 (by decide) | exact aQ (by decide) | exact al l1 _ | exact al l2 _ | exact al l3 _ | exact aE l1 | exact aE l2 | exact aE l3 | exact co hc (by decide) | exact aR hc | omega) hz₁)))))
  have hTI₇:cH h₇ (n+3) #[.ref n,.ref (n+1),.ref (n+2)]:=ex hs₇ (by first | exact nn (by decide) | exact n0 (by decide) | exact aQ (by decide) | exact al l1 _ | exact al l2 _ | exact al l3 _ | exact aE l1 | exact aE l2 | exact aE l3 | exact co hc (by decide) | exact aR hc | omega) (ex hs₆ (by first | exact nn (by decide) | exact n0 (by decide) | exact aQ (by decide) | exact al l1 _ | exact al l2 _ | exact al l3 _ | exact aE l1 | exact aE l2 | exact aE l3 | exact co hc (by decide) | exact aR hc | omega) (ex hs₅ (by first | exact nn (by decide) | exact n0 (by decide) | exact aQ (by decide) | exact al l1 _ | exact al l2 _ | exact al l3 _ | exact aE l1 | exact aE l2 | exact aE l3 | exact co hc (by decide) | exact aR hc | omega) (ex hs₄ (by first | exact nn (by decide) | exact n0 (by decide) | exact aQ (by decide) | exact al l1 _ | exact al l2 _ | exact al l3 _ | exact aE l1 | exact aE l2 | exact aE l3 | exact co hc (by decide) | exact aR hc | omega) (ex hs₃ (by first | exact nn (by decide) | exact n0 (by decide) | exact aQ (by decide) | exact al l1 _ | exact al l2 _ | exact al l3 _ | exact aE l1 | exact aE l2 | exact aE l3 | exact co hc (by decide) | exact aR hc | omega) (ex hs₂ (by first | exact nn (by decide) | exact n0 (by decide) | exact aQ (by decide) | exact al l1 _ | exact al l2 _ | exact al l3 _ | exact aE l1 | exact aE l2 | exact aE l3 | exact co hc (by decide) | exact aR hc | omega) (ex hs₁ (by first | exact nn (by decide) | exact n0 (by decide) | exact aQ (by decide) | exact al l1 _ | exact al l2 _ | exact al l3 _ | exact aE l1 | exact aE l2 | exact aE l3 | exact co hc (by decide) | exact aR hc | omega) hTI))))))
  have i1₇:=((((i1₂.ext hs₃ (by first | exact nn (by decide) | exact n0 (by decide) | exact aQ (by decide) | exact al l1 _ | exact al l2 _ | exact al l3 _ | exact aE l1 | exact aE l2 | exact aE l3 | exact co hc (by decide) | exact aR hc | omega)).ext hs₄ (by first | exact nn (by decide) | exact n0 (by decide) | exact aQ (by decide) | exact al l1 _ | exact al l2 _ | exact al l3 _ | exact aE l1 | exact aE l2 | exact aE l3 | exact co hc (by decide) | exact aR hc | omega)).ext hs₅ (by first | exact nn (by decide) | exact n0 (by decide) | exact aQ (by decide) | exact al l1 _ | exact al l2 _ | exact al l3 _ | exact aE l1 | exact aE l2 | exact aE l3 | exact co hc (by decide) | exact aR hc | omega)).ext hs₆ (by first | exact nn (by decide) | exact n0 (by decide) | exact aQ (by decide) | exact al l1 _ | exact al l2 _ | exact al l3 _ | exact aE l1 | exact aE l2 | exact aE l3 | exact co hc (by decide) | exact aR hc | omega)).ext hs₇ (by first | exact nn (by decide) | exact n0 (by decide) | exact aQ (by decide) | exact al l1 _ | exact al l2 _ | exact al l3 _ | exact aE l1 | exact aE l2 | exact aE l3 | exact co hc (by decide) | exact aR hc | omega)
  have i2₇:=((i2₄.ext hs₅ (by first | exact nn (by decide) | exact n0 (by decide) | exact aQ (by decide) | exact al l1 _ | exact al l2 _ | exact al l3 _ | exact aE l1 | exact aE l2 | exact aE l3 | exact co hc (by decide) | exact aR hc | omega)).ext hs₆ (by first | exact nn (by decide) | exact n0 (by decide) | exact aQ (by decide) | exact al l1 _ | exact al l2 _ | exact al l3 _ | exact aE l1 | exact aE l2 | exact aE l3 | exact co hc (by decide) | exact aR hc | omega)).ext hs₇ (by first | exact nn (by decide) | exact n0 (by decide) | exact aQ (by decide) | exact al l1 _ | exact al l2 _ | exact al l3 _ | exact aE l1 | exact aE l2 | exact aE l3 | exact co hc (by decide) | exact aR hc | omega)
  have i3₇:=i3₆.ext hs₇ (by first | exact nn (by decide) | exact n0 (by decide) | exact aQ (by decide) | exact al l1 _ | exact al l2 _ | exact al l3 _ | exact aE l1 | exact aE l2 | exact aE l3 | exact co hc (by decide) | exact aR hc | omega)
  have hzlt₇:n+5 < h₇.objs.size:=by rw[hsz];exact hzlt
  have up:∀ {c o},h₇.get? c=some o→(h₇.push { cls:=.type "tuple",data:=.seq #[x,y,z] }).get? c=some o:=fun e=>Heap.get?_push_of_some _ e
  refine wpAny_bind (handOut (z:=n+5) (TI:=n+3) (TO:=n+4) (f0:=.ellipsis) (f1:=f1) (up hz₇) fun h₈ hz₈ hs₈=>?_)
  have up8:∀ {c:Nat}{o},c≠n+5→h₇.get? c=some o→h₈.get? c=some o:=fun hc e=>ex hs₈ hc (up e)
  refine wpAny_pure ⟨_,rfl,hQ h₇.objs.size h₈ (rawInt h₇.objs.size) false x y z (by rw[hsz];exact Nat.le_refl _) (.inr ⟨_,rfl⟩) hz₈ (up8 (by first | exact nn (by decide) | exact n0 (by decide) | exact aQ (by decide) | exact al l1 _ | exact al l2 _ | exact al l3 _ | exact aE l1 | exact aE l2 | exact aE l3 | exact co hc (by decide) | exact aR hc | omega) hTI₇) (up8 (by first | exact nn (by decide) | exact n0 (by decide) | exact aQ (by decide) | exact al l1 _ | exact al l2 _ | exact al l3 _ | exact aE l1 | exact aE l2 | exact aE l3 | exact co hc (by decide) | exact aR hc | omega) hTO₇) (i1₇.at fun o e=>up8 (by first | exact nn (by decide) | exact n0 (by decide) | exact aQ (by decide) | exact al l1 _ | exact al l2 _ | exact al l3 _ | exact aE l1 | exact aE l2 | exact aE l3 | exact co hc (by decide) | exact aR hc | omega) e) (i2₇.at fun o e=>up8 (by first | exact nn (by decide) | exact n0 (by decide) | exact aQ (by decide) | exact al l1 _ | exact al l2 _ | exact al l3 _ | exact aE l1 | exact aE l2 | exact aE l3 | exact co hc (by decide) | exact aR hc | omega) e) (i3₇.at fun o e=>up8 (by first | exact nn (by decide) | exact n0 (by decide) | exact aQ (by decide) | exact al l1 _ | exact al l2 _ | exact al l3 _ | exact aE l1 | exact aE l2 | exact aE l3 | exact co hc (by decide) | exact aR hc | omega) e)
   (ex hs₈ (by first | exact nn (by decide) | exact n0 (by decide) | exact aQ (by decide) | exact al l1 _ | exact al l2 _ | exact al l3 _ | exact aE l1 | exact aE l2 | exact aE l3 | exact co hc (by decide) | exact aR hc | omega) (Heap.get?_push_size _ rfl)) fun c o hc e=>up8 (by first | exact nn (by decide) | exact n0 (by decide) | exact aQ (by decide) | exact al l1 _ | exact al l2 _ | exact al l3 _ | exact aE l1 | exact aE l2 | exact aE l3 | exact co hc (by decide) | exact aR hc | omega) (keep c o hc e)⟩
 ·intro h₁ hz₁ hs₁
  simp only [Bool.false_eq_true,if_false]
  refine wpAny_bind ?_
  rw[← Array.forIn_toList]
  simp only [List.forIn_cons,List.forIn_nil]
  refine wpAny_bind (wpAny_bind (wpAny_holding ?_))
  show wpAny _ _ (Builtin.SmallTypes.nextOf (.ref n) >>= _) _ _ _
  refine wpAny_bind (bB (i1.ext hs₁ (by first | exact nn (by decide) | exact n0 (by decide) | exact aQ (by decide) | exact al l1 _ | exact al l2 _ | exact al l3 _ | exact aE l1 | exact aE l2 | exact aE l3 | exact co hc (by decide) | exact aR hc | omega)) (s1.ext hs₁ (by first | exact nn (by decide) | exact n0 (by decide) | exact aQ (by decide) | exact al l1 _ | exact al l2 _ | exact al l3 _ | exact aE l1 | exact aE l2 | exact aE l3 | exact co hc (by decide) | exact aR hc | omega)) hx fun h₂ i1₂ hs₂=>wpAny_pure (wpAny_pure ?_))
  refine wpAny_bind (wpAny_bind (wpAny_holding ?_))
  show wpAny _ _ (Builtin.SmallTypes.nextOf (.ref (n+1)) >>= _) _ _ _
  refine wpAny_bind (bB ((i2.ext hs₁ (by first | exact nn (by decide) | exact n0 (by decide) | exact aQ (by decide) | exact al l1 _ | exact al l2 _ | exact al l3 _ | exact aE l1 | exact aE l2 | exact aE l3 | exact co hc (by decide) | exact aR hc | omega)).ext hs₂ (by first | exact nn (by decide) | exact n0 (by decide) | exact aQ (by decide) | exact al l1 _ | exact al l2 _ | exact al l3 _ | exact aE l1 | exact aE l2 | exact aE l3 | exact co hc (by decide) | exact aR hc | omega)) ((s2.ext hs₁ (by first | exact nn (by decide) | exact n0 (by decide) | exact aQ (by decide) | exact al l1 _ | exact al l2 _ | exact al l3 _ | exact aE l1 | exact aE l2 | exact aE l3 | exact co hc (by decide) | exact aR hc | omega)).ext hs₂ (by first | exact nn (by decide) | exact n0 (by decide) | exact aQ (by decide) | exact al l1 _ | exact al l2 _ | exact al l3 _ | exact aE l1 | exact aE l2 | exact aE l3 | exact co hc (by decide) | exact aR hc | omega)) hy fun h₃ i2₃ hs₃=>wpAny_pure (wpAny_pure ?_))
  refine wpAny_bind (wpAny_bind (wpAny_holding ?_))
  show wpAny _ _ (Builtin.SmallTypes.nextOf (.ref (n+2)) >>= _) _ _ _
  refine wpAny_bind (bB (((i3.ext hs₁ (by first | exact nn (by decide) | exact n0 (by decide) | exact aQ (by decide) | exact al l1 _ | exact al l2 _ | exact al l3 _ | exact aE l1 | exact aE l2 | exact aE l3 | exact co hc (by decide) | exact aR hc | omega)).ext hs₂ (by first | exact nn (by decide) | exact n0 (by decide) | exact aQ (by decide) | exact al l1 _ | exact al l2 _ | exact al l3 _ | exact aE l1 | exact aE l2 | exact aE l3 | exact co hc (by decide) | exact aR hc | omega)).ext hs₃ (by first | exact nn (by decide) | exact n0 (by decide) | exact aQ (by decide) | exact al l1 _ | exact al l2 _ | exact al l3 _ | exact aE l1 | exact aE l2 | exact aE l3 | exact co hc (by decide) | exact aR hc | omega)) (((s3.ext hs₁ (by first | exact nn (by decide) | exact n0 (by decide) | exact aQ (by decide) | exact al l1 _ | exact al l2 _ | exact al l3 _ | exact aE l1 | exact aE l2 | exact aE l3 | exact co hc (by decide) | exact aR hc | omega)).ext hs₂ (by first | exact nn (by decide) | exact n0 (by decide) | exact aQ (by decide) | exact al l1 _ | exact al l2 _ | exact al l3 _ | exact aE l1 | exact aE l2 | exact aE l3 | exact co hc (by decide) | exact aR hc | omega)).ext hs₃ (by first | exact nn (by decide) | exact n0 (by decide) | exact aQ (by decide) | exact al l1 _ | exact al l2 _ | exact al l3 _ | exact aE l1 | exact aE l2 | exact aE l3 | exact co hc (by decide) | exact aR hc | omega)) hw fun h₄ i3₄ hs₄=>wpAny_pure (wpAny_pure (wpAny_pure ?_)))
  refine wpAny_bind (wpAny_newTuple (hsz:=by show 3≤sizeLine;decide) (wpAny_pure ⟨_,rfl,?_⟩))
  have hsz:h₄.objs.size=s.heap.objs.size:=by rw[hs₄.1,hs₃.1,hs₂.1,hs₁.1]
  have up:∀ {c o},h₄.get? c=some o→(h₄.push { cls:=.type "tuple",data:=.seq #[x,y,z] }).get? c=some o:=fun e=>Heap.get?_push_of_some _ e
  have keep:∀ (c:Nat) o,(c < n∨n+5 < c)→s.heap.get? c=some o→h₄.get? c=some o:=fun c o hc e=>ex hs₄ (by first | exact nn (by decide) | exact n0 (by decide) | exact aQ (by decide) | exact al l1 _ | exact al l2 _ | exact al l3 _ | exact aE l1 | exact aE l2 | exact aE l3 | exact co hc (by decide) | exact aR hc | omega) (ex hs₃ (by first | exact nn (by decide) | exact n0 (by decide) | exact aQ (by decide) | exact al l1 _ | exact al l2 _ | exact al l3 _ | exact aE l1 | exact aE l2 | exact aE l3 | exact co hc (by decide) | exact aR hc | omega) (ex hs₂ (by first | exact nn (by decide) | exact n0 (by decide) | exact aQ (by decide) | exact al l1 _ | exact al l2 _ | exact al l3 _ | exact aE l1 | exact aE l2 | exact aE l3 | exact co hc (by decide) | exact aR hc | omega) (ex hs₁ (by first | exact nn (by decide) | exact n0 (by decide) | exact aQ (by decide) | exact al l1 _ | exact al l2 _ | exact al l3 _ | exact aE l1 | exact aE l2 | exact aE l3 | exact co hc (by decide) | exact aR hc | omega) e)))
  refine hQ h₄.objs.size (h₄.push { cls:=.type "tuple",data:=.seq #[x,y,z] }) f0 true c1 c2 c3 (by rw[hsz];exact Nat.le_refl _) hf (up (ex hs₄ (by first | exact nn (by decide) | exact n0 (by decide) | exact aQ (by decide) | exact al l1 _ | exact al l2 _ | exact al l3 _ | exact aE l1 | exact aE l2 | exact aE l3 | exact co hc (by decide) | exact aR hc | omega) (ex hs₃ (by first | exact nn (by decide) | exact n0 (by decide) | exact aQ (by decide) | exact al l1 _ | exact al l2 _ | exact al l3 _ | exact aE l1 | exact aE l2 | exact aE l3 | exact co hc (by decide) | exact aR hc | omega) (ex hs₂ (by first | exact nn (by decide) | exact n0 (by decide) | exact aQ (by decide) | exact al l1 _ | exact al l2 _ | exact al l3 _ | exact aE l1 | exact aE l2 | exact aE l3 | exact co hc (by decide) | exact aR hc | omega) hz₁))))
   (up (ex hs₄ (by first | exact nn (by decide) | exact n0 (by decide) | exact aQ (by decide) | exact al l1 _ | exact al l2 _ | exact al l3 _ | exact aE l1 | exact aE l2 | exact aE l3 | exact co hc (by decide) | exact aR hc | omega) (ex hs₃ (by first | exact nn (by decide) | exact n0 (by decide) | exact aQ (by decide) | exact al l1 _ | exact al l2 _ | exact al l3 _ | exact aE l1 | exact aE l2 | exact aE l3 | exact co hc (by decide) | exact aR hc | omega) (ex hs₂ (by first | exact nn (by decide) | exact n0 (by decide) | exact aQ (by decide) | exact al l1 _ | exact al l2 _ | exact al l3 _ | exact aE l1 | exact aE l2 | exact aE l3 | exact co hc (by decide) | exact aR hc | omega) (ex hs₁ (by first | exact nn (by decide) | exact n0 (by decide) | exact aQ (by decide) | exact al l1 _ | exact al l2 _ | exact al l3 _ | exact aE l1 | exact aE l2 | exact aE l3 | exact co hc (by decide) | exact aR hc | omega) hTI))))) (up (ex hs₄ (by first | exact nn (by decide) | exact n0 (by decide) | exact aQ (by decide) | exact al l1 _ | exact al l2 _ | exact al l3 _ | exact aE l1 | exact aE l2 | exact aE l3 | exact co hc (by decide) | exact aR hc | omega) (ex hs₃ (by first | exact nn (by decide) | exact n0 (by decide) | exact aQ (by decide) | exact al l1 _ | exact al l2 _ | exact al l3 _ | exact aE l1 | exact aE l2 | exact aE l3 | exact co hc (by decide) | exact aR hc | omega) (ex hs₂ (by first | exact nn (by decide) | exact n0 (by decide) | exact aQ (by decide) | exact al l1 _ | exact al l2 _ | exact al l3 _ | exact aE l1 | exact aE l2 | exact aE l3 | exact co hc (by decide) | exact aR hc | omega) (ex hs₁ (by first | exact nn (by decide) | exact n0 (by decide) | exact aQ (by decide) | exact al l1 _ | exact al l2 _ | exact al l3 _ | exact aE l1 | exact aE l2 | exact aE l3 | exact co hc (by decide) | exact aR hc | omega) hTO)))))
   (((i1₂.ext hs₃ (by first | exact nn (by decide) | exact n0 (by decide) | exact aQ (by decide) | exact al l1 _ | exact al l2 _ | exact al l3 _ | exact aE l1 | exact aE l2 | exact aE l3 | exact co hc (by decide) | exact aR hc | omega)).ext hs₄ (by first | exact nn (by decide) | exact n0 (by decide) | exact aQ (by decide) | exact al l1 _ | exact al l2 _ | exact al l3 _ | exact aE l1 | exact aE l2 | exact aE l3 | exact co hc (by decide) | exact aR hc | omega)).at fun o e=>up e) ((i2₃.ext hs₄ (by first | exact nn (by decide) | exact n0 (by decide) | exact aQ (by decide) | exact al l1 _ | exact al l2 _ | exact al l3 _ | exact aE l1 | exact aE l2 | exact aE l3 | exact co hc (by decide) | exact aR hc | omega)).at fun o e=>up e) (i3₄.at fun o e=>up e) (Heap.get?_push_size _ rfl) fun c o hc e=>up (keep c o hc e)
theorem zip3_end {n a1 a2 a3:Nat}{t1 t2 t3:Bool}{k:Nat}{xs ys zs:Array Value}{c1 c2 c3 f0:Value}{f1:Bool}{Q:Fin→Shared→Prop} (hh:A.handled=none) (hf:Free0 f0)
  (hz:IsZ s.heap (n+5) (n+3) (n+4) f0 f1) (hTI:cH s.heap (n+3) #[.ref n,.ref (n+1),.ref (n+2)]) (hTO:cH s.heap (n+4) #[c1,c2,c3])
  (i1:cP s.heap t1 n a1 k) (i2:cP s.heap t2 (n+1) a2 k) (i3:cP s.heap t3 (n+2) a3 k) (s1:bN s.heap t1 a1 xs) (s2:bN s.heap t2 a2 ys) (s3:bN s.heap t3 a3 zs)
  (l1:a1 < n) (l2:a2 < n) (l3:a3 < n) (hend:xs[k]? = none∨ys[k]? = none∨zs[k]? = none)
  (hE:∀ h' e,(∀ (c:Nat) o,(c < n∨n+5 < c)→s.heap.get? c=some o→h'.get? c=some o)→(∃ o,h'.get? e=some o∧o.cls=.type "StopIteration")→E (.ref e) { s with heap:=h' }) :
  wpAny (model prog w) A (Builtin.«zip.__next__» ⟨[.ref (n+5)],[]⟩) Q E s:=by
 show wpAny _ _ (field (.ref (n+5)) 2 >>= _) _ _ _
 refine wpAny_bind (wpAny_field hz rfl (x:=.bool false) rfl ?_)
 show wpAny _ _ (field (.ref (n+5)) 3 >>= _) _ _ _
 refine wpAny_bind (wpAny_field hz rfl (x:=.ref (n+3)) rfl ?_)
 refine wpAny_bind (wpAny_seqItems hTI rfl ?_)
 show wpAny _ _ (Builtin.SmallTypes.ownedTupleIsFree (.ref (n+5)) >>= _) _ _ _
 refine wpAny_bind (owned_free hz hf ?_ ?_)
 ·simp only [if_true]
  refine wpAny_bind (wpAny_rule ?_)
  refine wpAny_bind (wpAny_field hz rfl (x:=.ref (n+4)) rfl ?_)
  refine wpAny_bind (wpAny_setField_rec hz (by simp) fun h₁ hz₁ hs₁=>?_)
  replace hz₁:IsZ h₁ (n+5) (n+3) (n+4) .ellipsis f1:=hz₁
  refine wpAny_bind ?_
  simp only [List.zipIdx_cons,List.zipIdx_nil,List.forIn_cons,List.forIn_nil]
  have fin:∀ {h₂ h₃:Heap}{e j:Nat}{oe:Obj},IsZ h₂ (n+5) (n+3) (n+4) .ellipsis f1→Heap.ExtBut j h₂ h₃→@Ne Nat (n+5) j→(n≤j∧j≤n+5)→(∀ (c:Nat) o,(c < n∨n+5 < c)→s.heap.get? c=some o→h₂.get? c=some o)→h₃.get? e=some oe→oe.cls=.type "StopIteration" →
    wpAny (model prog w) A (setField (.ref (n+5)) 0 .none) (fun _ s'=>E (.ref e) s') E { s with heap:=h₃ }:=fun {h₂ h₃ e j oe} hz₂ hx hj hr hk hoe hce=>by
   have hz₃:IsZ h₃ (n+5) (n+3) (n+4) .ellipsis f1:=hx _ _ hj hz₂
   have hez:e≠n+5:=fun q=>by subst q;rw[hz₃] at hoe;cases hoe;simp at hce
   refine wpAny_setField_rec hz₃ (by simp) fun h₄ _ hs₄=>hE h₄ e (fun c o hc q=>ex hs₄ (by first | exact nn (by decide) | exact n0 (by decide) | exact aQ (by decide) | exact al l1 _ | exact al l2 _ | exact al l3 _ | exact aE l1 | exact aE l2 | exact aE l3 | exact co hc (by decide) | exact aR hc | omega) (hx c o (show @Ne Nat c j by omega) (hk c o hc q))) ⟨oe,hs₄.extBut _ _ hez hoe,hce⟩
  refine wpAny_bind (wpAny_bind (wpAny_onRaise ?_))
  show wpAny _ _ (Builtin.SmallTypes.nextOf (.ref n) >>= _) _ _ _
  cases hx:xs[k]? with
  | none=>
   refine wpAny_bind (cF hh (i1.ext hs₁ (by first | exact nn (by decide) | exact n0 (by decide) | exact aQ (by decide) | exact al l1 _ | exact al l2 _ | exact al l3 _ | exact aE l1 | exact aE l2 | exact aE l3 | exact co hc (by decide) | exact aR hc | omega)) (s1.ext hs₁ (by first | exact nn (by decide) | exact n0 (by decide) | exact aQ (by decide) | exact al l1 _ | exact al l2 _ | exact al l3 _ | exact aE l1 | exact aE l2 | exact aE l3 | exact co hc (by decide) | exact aR hc | omega)) hx fun h₂ e hs₂ he=>?_)
   obtain⟨oe,hoe,hce⟩:=he
   exact fin hz₁ hs₂ (by first | exact nn (by decide) | exact n0 (by decide) | exact aQ (by decide) | exact al l1 _ | exact al l2 _ | exact al l3 _ | exact aE l1 | exact aE l2 | exact aE l3 | exact co hc (by decide) | exact aR hc | omega) (by first | exact nn (by decide) | exact n0 (by decide) | exact aQ (by decide) | exact al l1 _ | exact al l2 _ | exact al l3 _ | exact aE l1 | exact aE l2 | exact aE l3 | exact co hc (by decide) | exact aR hc | omega) (fun c o hc q=>ex hs₁ (by first | exact nn (by decide) | exact n0 (by decide) | exact aQ (by decide) | exact al l1 _ | exact al l2 _ | exact al l3 _ | exact aE l1 | exact aE l2 | exact aE l3 | exact co hc (by decide) | exact aR hc | omega) q) hoe hce
  | some x=>
   refine wpAny_bind (bB (i1.ext hs₁ (by first | exact nn (by decide) | exact n0 (by decide) | exact aQ (by decide) | exact al l1 _ | exact al l2 _ | exact al l3 _ | exact aE l1 | exact aE l2 | exact aE l3 | exact co hc (by decide) | exact aR hc | omega)) (s1.ext hs₁ (by first | exact nn (by decide) | exact n0 (by decide) | exact aQ (by decide) | exact al l1 _ | exact al l2 _ | exact al l3 _ | exact aE l1 | exact aE l2 | exact aE l3 | exact co hc (by decide) | exact aR hc | omega)) hx fun h₂ i1₂ hs₂=>wpAny_pure ?_)
   have hTO₂:cH h₂ (n+4) #[c1,c2,c3]:=ex hs₂ (by first | exact nn (by decide) | exact n0 (by decide) | exact aQ (by decide) | exact al l1 _ | exact al l2 _ | exact al l3 _ | exact aE l1 | exact aE l2 | exact aE l3 | exact co hc (by decide) | exact aR hc | omega) (ex hs₁ (by first | exact nn (by decide) | exact n0 (by decide) | exact aQ (by decide) | exact al l1 _ | exact al l2 _ | exact al l3 _ | exact aE l1 | exact aE l2 | exact aE l3 | exact co hc (by decide) | exact aR hc | omega) hTO)
   refine wpAny_bind (wpAny_seqItems hTO₂ rfl ?_)
   refine wpAny_bind (seq_set hTO₂ (by simp) fun h₃ hTO₃ hs₃=>?_)
   replace hTO₃:cH h₃ (n+4) #[x,c2,c3]:=hTO₃
   refine wpAny_bind (wpAny_letGo (wpAny_pure ?_))
   have hz₃:IsZ h₃ (n+5) (n+3) (n+4) .ellipsis f1:=ex hs₃ (by first | exact nn (by decide) | exact n0 (by decide) | exact aQ (by decide) | exact al l1 _ | exact al l2 _ | exact al l3 _ | exact aE l1 | exact aE l2 | exact aE l3 | exact co hc (by decide) | exact aR hc | omega) (ex hs₂ (by first | exact nn (by decide) | exact n0 (by decide) | exact aQ (by decide) | exact al l1 _ | exact al l2 _ | exact al l3 _ | exact aE l1 | exact aE l2 | exact aE l3 | exact co hc (by decide) | exact aR hc | omega) hz₁)
   have k₃:∀ (c:Nat) o,(c < n∨n+5 < c)→s.heap.get? c=some o→h₃.get? c=some o:=fun c o hc e=>ex hs₃ (by first | exact nn (by decide) | exact n0 (by decide) | exact aQ (by decide) | exact al l1 _ | exact al l2 _ | exact al l3 _ | exact aE l1 | exact aE l2 | exact aE l3 | exact co hc (by decide) | exact aR hc | omega) (ex hs₂ (by first | exact nn (by decide) | exact n0 (by decide) | exact aQ (by decide) | exact al l1 _ | exact al l2 _ | exact al l3 _ | exact aE l1 | exact aE l2 | exact aE l3 | exact co hc (by decide) | exact aR hc | omega) (ex hs₁ (by first | exact nn (by decide) | exact n0 (by decide) | exact aQ (by decide) | exact al l1 _ | exact al l2 _ | exact al l3 _ | exact aE l1 | exact aE l2 | exact aE l3 | exact co hc (by decide) | exact aR hc | omega) e))
   refine wpAny_bind (wpAny_bind (wpAny_onRaise ?_))
   show wpAny _ _ (Builtin.SmallTypes.nextOf (.ref (n+1)) >>= _) _ _ _
   cases hy:ys[k]? with
   | none=>
    refine wpAny_bind (cF hh (((i2.ext hs₁ (by first | exact nn (by decide) | exact n0 (by decide) | exact aQ (by decide) | exact al l1 _ | exact al l2 _ | exact al l3 _ | exact aE l1 | exact aE l2 | exact aE l3 | exact co hc (by decide) | exact aR hc | omega)).ext hs₂ (by first | exact nn (by decide) | exact n0 (by decide) | exact aQ (by decide) | exact al l1 _ | exact al l2 _ | exact al l3 _ | exact aE l1 | exact aE l2 | exact aE l3 | exact co hc (by decide) | exact aR hc | omega)).ext hs₃ (by first | exact nn (by decide) | exact n0 (by decide) | exact aQ (by decide) | exact al l1 _ | exact al l2 _ | exact al l3 _ | exact aE l1 | exact aE l2 | exact aE l3 | exact co hc (by decide) | exact aR hc | omega)) (((s2.ext hs₁ (by first | exact nn (by decide) | exact n0 (by decide) | exact aQ (by decide) | exact al l1 _ | exact al l2 _ | exact al l3 _ | exact aE l1 | exact aE l2 | exact aE l3 | exact co hc (by decide) | exact aR hc | omega)).ext hs₂ (by first | exact nn (by decide) | exact n0 (by decide) | exact aQ (by decide) | exact al l1 _ | exact al l2 _ | exact al l3 _ | exact aE l1 | exact aE l2 | exact aE l3 | exact co hc (by decide) | exact aR hc | omega)).ext hs₃ (by first | exact nn (by decide) | exact n0 (by decide) | exact aQ (by decide) | exact al l1 _ | exact al l2 _ | exact al l3 _ | exact aE l1 | exact aE l2 | exact aE l3 | exact co hc (by decide) | exact aR hc | omega)) hy fun h₄ e hs₄ he=>?_)
    obtain⟨oe,hoe,hce⟩:=he
    exact fin hz₃ hs₄ (by first | exact nn (by decide) | exact n0 (by decide) | exact aQ (by decide) | exact al l1 _ | exact al l2 _ | exact al l3 _ | exact aE l1 | exact aE l2 | exact aE l3 | exact co hc (by decide) | exact aR hc | omega) (by first | exact nn (by decide) | exact n0 (by decide) | exact aQ (by decide) | exact al l1 _ | exact al l2 _ | exact al l3 _ | exact aE l1 | exact aE l2 | exact aE l3 | exact co hc (by decide) | exact aR hc | omega) k₃ hoe hce
   | some y=>
    have hw:zs[k]? = none:=by rcases hend with h | h | h;rw[hx] at h;cases h;rw[hy] at h;cases h;exact h
    refine wpAny_bind (bB (((i2.ext hs₁ (by first | exact nn (by decide) | exact n0 (by decide) | exact aQ (by decide) | exact al l1 _ | exact al l2 _ | exact al l3 _ | exact aE l1 | exact aE l2 | exact aE l3 | exact co hc (by decide) | exact aR hc | omega)).ext hs₂ (by first | exact nn (by decide) | exact n0 (by decide) | exact aQ (by decide) | exact al l1 _ | exact al l2 _ | exact al l3 _ | exact aE l1 | exact aE l2 | exact aE l3 | exact co hc (by decide) | exact aR hc | omega)).ext hs₃ (by first | exact nn (by decide) | exact n0 (by decide) | exact aQ (by decide) | exact al l1 _ | exact al l2 _ | exact al l3 _ | exact aE l1 | exact aE l2 | exact aE l3 | exact co hc (by decide) | exact aR hc | omega)) (((s2.ext hs₁ (by first | exact nn (by decide) | exact n0 (by decide) | exact aQ (by decide) | exact al l1 _ | exact al l2 _ | exact al l3 _ | exact aE l1 | exact aE l2 | exact aE l3 | exact co hc (by decide) | exact aR hc | omega)).ext hs₂ (by first | exact nn (by decide) | exact n0 (by decide) | exact aQ (by decide) | exact al l1 _ | exact al l2 _ | exact al l3 _ | exact aE l1 | exact aE l2 | exact aE l3 | exact co hc (by decide) | exact aR hc | omega)).ext hs₃ (by first | exact nn (by decide) | exact n0 (by decide) | exact aQ (by decide) | exact al l1 _ | exact al l2 _ | exact al l3 _ | exact aE l1 | exact aE l2 | exact aE l3 | exact co hc (by decide) | exact aR hc | omega)) hy fun h₄ i2₄ hs₄=>wpAny_pure ?_)
    have hTO₄:cH h₄ (n+4) #[x,c2,c3]:=ex hs₄ (by first | exact nn (by decide) | exact n0 (by decide) | exact aQ (by decide) | exact al l1 _ | exact al l2 _ | exact al l3 _ | exact aE l1 | exact aE l2 | exact aE l3 | exact co hc (by decide) | exact aR hc | omega) hTO₃
    refine wpAny_bind (wpAny_seqItems hTO₄ rfl ?_)
    refine wpAny_bind (seq_set hTO₄ (by simp) fun h₅ hTO₅ hs₅=>?_)
    refine wpAny_bind (wpAny_letGo (wpAny_pure ?_))
    refine wpAny_bind (wpAny_bind (wpAny_onRaise ?_))
    show wpAny _ _ (Builtin.SmallTypes.nextOf (.ref (n+2)) >>= _) _ _ _
    refine wpAny_bind (cF hh (((((i3.ext hs₁ (by first | exact nn (by decide) | exact n0 (by decide) | exact aQ (by decide) | exact al l1 _ | exact al l2 _ | exact al l3 _ | exact aE l1 | exact aE l2 | exact aE l3 | exact co hc (by decide) | exact aR hc | omega)).ext hs₂ (by first | exact nn (by decide) | exact n0 (by decide) | exact aQ (by decide) | exact al l1 _ | exact al l2 _ | exact al l3 _ | exact aE l1 | exact aE l2 | exact aE l3 | exact co hc (by decide) | exact aR hc | omega)).ext hs₃ (by first | exact nn (by decide) | exact n0 (by decide) | exact aQ (by decide) | exact al l1 _ | exact al l2 _ | exact al l3 _ | exact aE l1 | exact aE l2 | exact aE l3 | exact co hc (by decide) | exact aR hc | omega)).ext hs₄ (by first | exact nn (by decide) | exact n0 (by decide) | exact aQ (by decide) | exact al l1 _ | exact al l2 _ | exact al l3 _ | exact aE l1 | exact aE l2 | exact aE l3 | exact co hc (by decide) | exact aR hc | omega)).ext hs₅ (by first | exact nn (by decide) | exact n0 (by decide) | exact aQ (by decide) | exact al l1 _ | exact al l2 _ | exact al l3 _ | exact aE l1 | exact aE l2 | exact aE l3 | exact co hc (by decide) | exact aR hc | omega))
     (((((s3.ext hs₁ (by first | exact nn (by decide) | exact n0 (by decide) | exact aQ (by decide) | exact al l1 _ | exact al l2 _ | exact al l3 _ | exact aE l1 | exact aE l2 | exact aE l3 | exact co hc (by decide) | exact aR hc | omega)).ext hs₂ (by first | exact nn (by decide) | exact n0 (by decide) | exact aQ (by decide) | exact al l1 _ | exact al l2 _ | exact al l3 _ | exact aE l1 | exact aE l2 | exact aE l3 | exact co hc (by decide) | exact aR hc | omega)).ext hs₃ (by first | exact nn (by decide) | exact n0 (by decide) | exact aQ (by decide) | exact al l1 _ | exact al l2 _ | exact al l3 _ | exact aE l1 | exact aE l2 | exact aE l3 | exact co hc (by decide) | exact aR hc | omega)).ext hs₄ (by first | exact nn (by decide) | exact n0 (by decide) | exact aQ (by decide) | exact al l1 _ | exact al l2 _ | exact al l3 _ | exact aE l1 | exact aE l2 | exact aE l3 | exact co hc (by decide) | exact aR hc | omega)).ext hs₅ (by first | exact nn (by decide) | exact n0 (by decide) | exact aQ (by decide) | exact al l1 _ | exact al l2 _ | exact al l3 _ | exact aE l1 | exact aE l2 | exact aE l3 | exact co hc (by decide) | exact aR hc | omega)) hw fun h₆ e hs₆ he=>?_)
    obtain⟨oe,hoe,hce⟩:=he
    exact fin (ex hs₅ (by first | exact nn (by decide) | exact n0 (by decide) | exact aQ (by decide) | exact al l1 _ | exact al l2 _ | exact al l3 _ | exact aE l1 | exact aE l2 | exact aE l3 | exact co hc (by decide) | exact aR hc | omega) (ex hs₄ (by first | exact nn (by decide) | exact n0 (by decide) | exact aQ (by decide) | exact al l1 _ | exact al l2 _ | exact al l3 _ | exact aE l1 | exact aE l2 | exact aE l3 | exact co hc (by decide) | exact aR hc | omega) hz₃)) hs₆ (by first | exact nn (by decide) | exact n0 (by decide) | exact aQ (by decide) | exact al l1 _ | exact al l2 _ | exact al l3 _ | exact aE l1 | exact aE l2 | exact aE l3 | exact co hc (by decide) | exact aR hc | omega) (by first | exact nn (by decide) | exact n0 (by decide) | exact aQ (by decide) | exact al l1 _ | exact al l2 _ | exact al l3 _ | exact aE l1 | exact aE l2 | exact aE l3 | exact co hc (by decide) | exact aR hc | omega) (fun c o hc q=>ex hs₅ (by first | exact nn (by decide) | exact n0 (by decide) | exact aQ (by decide) | exact al l1 _ | exact al l2 _ | exact al l3 _ | exact aE l1 | exact aE l2 | exact aE l3 | exact co hc (by decide) | exact aR hc | omega) (ex hs₄ (by first | exact nn (by decide) | exact n0 (by decide) | exact aQ (by decide) | exact al l1 _ | exact al l2 _ | exact al l3 _ | exact aE l1 | exact aE l2 | exact aE l3 | exact co hc (by decide) | exact aR hc | omega) (k₃ c o hc q))) hoe hce
 ·intro h₁ hz₁ hs₁
  simp only [Bool.false_eq_true,if_false]
  refine wpAny_bind ?_
  rw[← Array.forIn_toList]
  simp only [List.forIn_cons,List.forIn_nil]
  refine wpAny_bind (wpAny_bind (wpAny_holding ?_))
  show wpAny _ _ (Builtin.SmallTypes.nextOf (.ref n) >>= _) _ _ _
  cases hx:xs[k]? with
  | none=>
   refine wpAny_bind (cF hh (i1.ext hs₁ (by first | exact nn (by decide) | exact n0 (by decide) | exact aQ (by decide) | exact al l1 _ | exact al l2 _ | exact al l3 _ | exact aE l1 | exact aE l2 | exact aE l3 | exact co hc (by decide) | exact aR hc | omega)) (s1.ext hs₁ (by first | exact nn (by decide) | exact n0 (by decide) | exact aQ (by decide) | exact al l1 _ | exact al l2 _ | exact al l3 _ | exact aE l1 | exact aE l2 | exact aE l3 | exact co hc (by decide) | exact aR hc | omega)) hx fun h₂ e hs₂ he=>?_)
   exact hE h₂ e (fun c o hc q=>hs₂ c o (show @Ne Nat c n by omega) (ex hs₁ (by first | exact nn (by decide) | exact n0 (by decide) | exact aQ (by decide) | exact al l1 _ | exact al l2 _ | exact al l3 _ | exact aE l1 | exact aE l2 | exact aE l3 | exact co hc (by decide) | exact aR hc | omega) q)) he
  | some x=>
   refine wpAny_bind (bB (i1.ext hs₁ (by first | exact nn (by decide) | exact n0 (by decide) | exact aQ (by decide) | exact al l1 _ | exact al l2 _ | exact al l3 _ | exact aE l1 | exact aE l2 | exact aE l3 | exact co hc (by decide) | exact aR hc | omega)) (s1.ext hs₁ (by first | exact nn (by decide) | exact n0 (by decide) | exact aQ (by decide) | exact al l1 _ | exact al l2 _ | exact al l3 _ | exact aE l1 | exact aE l2 | exact aE l3 | exact co hc (by decide) | exact aR hc | omega)) hx fun h₂ i1₂ hs₂=>wpAny_pure (wpAny_pure ?_))
   refine wpAny_bind (wpAny_bind (wpAny_holding ?_))
   show wpAny _ _ (Builtin.SmallTypes.nextOf (.ref (n+1)) >>= _) _ _ _
   cases hy:ys[k]? with
   | none=>
    refine wpAny_bind (cF hh ((i2.ext hs₁ (by first | exact nn (by decide) | exact n0 (by decide) | exact aQ (by decide) | exact al l1 _ | exact al l2 _ | exact al l3 _ | exact aE l1 | exact aE l2 | exact aE l3 | exact co hc (by decide) | exact aR hc | omega)).ext hs₂ (by first | exact nn (by decide) | exact n0 (by decide) | exact aQ (by decide) | exact al l1 _ | exact al l2 _ | exact al l3 _ | exact aE l1 | exact aE l2 | exact aE l3 | exact co hc (by decide) | exact aR hc | omega)) ((s2.ext hs₁ (by first | exact nn (by decide) | exact n0 (by decide) | exact aQ (by decide) | exact al l1 _ | exact al l2 _ | exact al l3 _ | exact aE l1 | exact aE l2 | exact aE l3 | exact co hc (by decide) | exact aR hc | omega)).ext hs₂ (by first | exact nn (by decide) | exact n0 (by decide) | exact aQ (by decide) | exact al l1 _ | exact al l2 _ | exact al l3 _ | exact aE l1 | exact aE l2 | exact aE l3 | exact co hc (by decide) | exact aR hc | omega)) hy fun h₃ e hs₃ he=>?_)
    exact hE h₃ e (fun c o hc q=>hs₃ c o (show @Ne Nat c (n+1) by omega) (ex hs₂ (by first | exact nn (by decide) | exact n0 (by decide) | exact aQ (by decide) | exact al l1 _ | exact al l2 _ | exact al l3 _ | exact aE l1 | exact aE l2 | exact aE l3 | exact co hc (by decide) | exact aR hc | omega) (ex hs₁ (by first | exact nn (by decide) | exact n0 (by decide) | exact aQ (by decide) | exact al l1 _ | exact al l2 _ | exact al l3 _ | exact aE l1 | exact aE l2 | exact aE l3 | exact co hc (by decide) | exact aR hc | omega) q))) he
   | some y=>
    have hw:zs[k]? = none:=by rcases hend with h | h | h;rw[hx] at h;cases h;rw[hy] at h;cases h;exact h
    refine wpAny_bind (bB ((i2.ext hs₁ (by first | exact nn (by decide) | exact n0 (by decide) | exact aQ (by decide) | exact al l1 _ | exact al l2 _ | exact al l3 _ | exact aE l1 | exact aE l2 | exact aE l3 | exact co hc (by decide) | exact aR hc | omega)).ext hs₂ (by first | exact nn (by decide) | exact n0 (by decide) | exact aQ (by decide) | exact al l1 _ | exact al l2 _ | exact al l3 _ | exact aE l1 | exact aE l2 | exact aE l3 | exact co hc (by decide) | exact aR hc | omega)) ((s2.ext hs₁ (by first | exact nn (by decide) | exact n0 (by decide) | exact aQ (by decide) | exact al l1 _ | exact al l2 _ | exact al l3 _ | exact aE l1 | exact aE l2 | exact aE l3 | exact co hc (by decide) | exact aR hc | omega)).ext hs₂ (by first | exact nn (by decide) | exact n0 (by decide) | exact aQ (by decide) | exact al l1 _ | exact al l2 _ | exact al l3 _ | exact aE l1 | exact aE l2 | exact aE l3 | exact co hc (by decide) | exact aR hc | omega)) hy fun h₃ i2₃ hs₃=>wpAny_pure (wpAny_pure ?_))
    refine wpAny_bind (wpAny_bind (wpAny_holding ?_))
    show wpAny _ _ (Builtin.SmallTypes.nextOf (.ref (n+2)) >>= _) _ _ _
    refine wpAny_bind (cF hh (((i3.ext hs₁ (by first | exact nn (by decide) | exact n0 (by decide) | exact aQ (by decide) | exact al l1 _ | exact al l2 _ | exact al l3 _ | exact aE l1 | exact aE l2 | exact aE l3 | exact co hc (by decide) | exact aR hc | omega)).ext hs₂ (by first | exact nn (by decide) | exact n0 (by decide) | exact aQ (by decide) | exact al l1 _ | exact al l2 _ | exact al l3 _ | exact aE l1 | exact aE l2 | exact aE l3 | exact co hc (by decide) | exact aR hc | omega)).ext hs₃ (by first | exact nn (by decide) | exact n0 (by decide) | exact aQ (by decide) | exact al l1 _ | exact al l2 _ | exact al l3 _ | exact aE l1 | exact aE l2 | exact aE l3 | exact co hc (by decide) | exact aR hc | omega)) (((s3.ext hs₁ (by first | exact nn (by decide) | exact n0 (by decide) | exact aQ (by decide) | exact al l1 _ | exact al l2 _ | exact al l3 _ | exact aE l1 | exact aE l2 | exact aE l3 | exact co hc (by decide) | exact aR hc | omega)).ext hs₂ (by first | exact nn (by decide) | exact n0 (by decide) | exact aQ (by decide) | exact al l1 _ | exact al l2 _ | exact al l3 _ | exact aE l1 | exact aE l2 | exact aE l3 | exact co hc (by decide) | exact aR hc | omega)).ext hs₃ (by first | exact nn (by decide) | exact n0 (by decide) | exact aQ (by decide) | exact al l1 _ | exact al l2 _ | exact al l3 _ | exact aE l1 | exact aE l2 | exact aE l3 | exact co hc (by decide) | exact aR hc | omega)) hw fun h₄ e hs₄ he=>?_)
    exact hE h₄ e (fun c o hc q=>hs₄ c o (show @Ne Nat c (n+2) by omega) (ex hs₃ (by first | exact nn (by decide) | exact n0 (by decide) | exact aQ (by decide) | exact al l1 _ | exact al l2 _ | exact al l3 _ | exact aE l1 | exact aE l2 | exact aE l3 | exact co hc (by decide) | exact aR hc | omega) (ex hs₂ (by first | exact nn (by decide) | exact n0 (by decide) | exact aQ (by decide) | exact al l1 _ | exact al l2 _ | exact al l3 _ | exact aE l1 | exact aE l2 | exact aE l3 | exact co hc (by decide) | exact aR hc | omega) (ex hs₁ (by first | exact nn (by decide) | exact n0 (by decide) | exact aQ (by decide) | exact al l1 _ | exact al l2 _ | exact al l3 _ | exact aE l1 | exact aE l2 | exact aE l3 | exact co hc (by decide) | exact aR hc | omega) q)))) he
theorem zip2_next {n a1 a2:Nat}{t1 t2:Bool}{k:Nat}{xs ys:Array Value}{x y c1 c2 f0:Value}{f1:Bool}{Q:Value→Shared→Prop} (hf:Free0 f0)
  (hz:IsZ s.heap (n+4) (n+2) (n+3) f0 f1) (hTI:cH s.heap (n+2) #[.ref n,.ref (n+1)]) (hTO:cH s.heap (n+3) #[c1,c2])
  (i1:cP s.heap t1 n a1 k) (i2:cP s.heap t2 (n+1) a2 k) (s1:bN s.heap t1 a1 xs) (s2:bN s.heap t2 a2 ys)
  (l1:a1 < n) (l2:a2 < n) (hx:xs[k]? = some x) (hy:ys[k]? = some y)
  (hQ:∀ (T:Nat) h' f0' f1' d1 d2,s.heap.objs.size≤T→Free0 f0'→IsZ h' (n+4) (n+2) (n+3) f0' f1'→cH h' (n+2) #[.ref n,.ref (n+1)]→cH h' (n+3) #[d1,d2]→
   cP h' t1 n a1 (k+1)→cP h' t2 (n+1) a2 (k+1)→cH h' T #[x,y]→
   (∀ (c:Nat) o,(c < n∨n+4 < c)→s.heap.get? c=some o→h'.get? c=some o)→Q (.ref T) { s with heap:=h' }) :
  wpAny (model prog w) A (Builtin.«zip.__next__» ⟨[.ref (n+4)],[]⟩) (fun fin s'=>∃ v,fin=.done (.ret v)∧Q v s') E s:=by
 have hzlt:n+4 < s.heap.objs.size:=Heap.lt_size hz
 show wpAny _ _ (field (.ref (n+4)) 2 >>= _) _ _ _
 refine wpAny_bind (wpAny_field hz rfl (x:=.bool false) rfl ?_)
 show wpAny _ _ (field (.ref (n+4)) 3 >>= _) _ _ _
 refine wpAny_bind (wpAny_field hz rfl (x:=.ref (n+2)) rfl ?_)
 refine wpAny_bind (wpAny_seqItems hTI rfl ?_)
 show wpAny _ _ (Builtin.SmallTypes.ownedTupleIsFree (.ref (n+4)) >>= _) _ _ _
 refine wpAny_bind (owned_free hz hf ?_ ?_)
 ·simp only [if_true]
  refine wpAny_bind (wpAny_rule ?_)
  refine wpAny_bind (wpAny_field hz rfl (x:=.ref (n+3)) rfl ?_)
  refine wpAny_bind (wpAny_setField_rec hz (by simp) fun h₁ hz₁ hs₁=>?_)
  replace hz₁:IsZ h₁ (n+4) (n+2) (n+3) .ellipsis f1:=hz₁
  refine wpAny_bind ?_
  simp only [List.zipIdx_cons,List.zipIdx_nil,List.forIn_cons,List.forIn_nil]
  refine wpAny_bind (wpAny_bind (wpAny_onRaise ?_))
  show wpAny _ _ (Builtin.SmallTypes.nextOf (.ref n) >>= _) _ _ _
  refine wpAny_bind (bB (i1.ext hs₁ (by first | exact nn (by decide) | exact n0 (by decide) | exact aQ (by decide) | exact al l1 _ | exact al l2 _ | exact aE l1 | exact aE l2 | exact co hc (by decide) | exact aR hc | omega)) (s1.ext hs₁ (by first | exact nn (by decide) | exact n0 (by decide) | exact aQ (by decide) | exact al l1 _ | exact al l2 _ | exact aE l1 | exact aE l2 | exact co hc (by decide) | exact aR hc | omega)) hx fun h₂ i1₂ hs₂=>wpAny_pure ?_)
  have hTO₂:cH h₂ (n+3) #[c1,c2]:=ex hs₂ (by first | exact nn (by decide) | exact n0 (by decide) | exact aQ (by decide) | exact al l1 _ | exact al l2 _ | exact aE l1 | exact aE l2 | exact co hc (by decide) | exact aR hc | omega) (ex hs₁ (by first | exact nn (by decide) | exact n0 (by decide) | exact aQ (by decide) | exact al l1 _ | exact al l2 _ | exact aE l1 | exact aE l2 | exact co hc (by decide) | exact aR hc | omega) hTO)
  refine wpAny_bind (wpAny_seqItems hTO₂ rfl ?_)
  refine wpAny_bind (seq_set hTO₂ (by simp) fun h₃ hTO₃ hs₃=>?_)
  replace hTO₃:cH h₃ (n+3) #[x,c2]:=hTO₃
  refine wpAny_bind (wpAny_letGo (wpAny_pure ?_))
  refine wpAny_bind (wpAny_bind (wpAny_onRaise ?_))
  show wpAny _ _ (Builtin.SmallTypes.nextOf (.ref (n+1)) >>= _) _ _ _
  refine wpAny_bind (bB (((i2.ext hs₁ (by first | exact nn (by decide) | exact n0 (by decide) | exact aQ (by decide) | exact al l1 _ | exact al l2 _ | exact aE l1 | exact aE l2 | exact co hc (by decide) | exact aR hc | omega)).ext hs₂ (by first | exact nn (by decide) | exact n0 (by decide) | exact aQ (by decide) | exact al l1 _ | exact al l2 _ | exact aE l1 | exact aE l2 | exact co hc (by decide) | exact aR hc | omega)).ext hs₃ (by first | exact nn (by decide) | exact n0 (by decide) | exact aQ (by decide) | exact al l1 _ | exact al l2 _ | exact aE l1 | exact aE l2 | exact co hc (by decide) | exact aR hc | omega)) (((s2.ext hs₁ (by first | exact nn (by decide) | exact n0 (by decide) | exact aQ (by decide) | exact al l1 _ | exact al l2 _ | exact aE l1 | exact aE l2 | exact co hc (by decide) | exact aR hc | omega)).ext hs₂ (by first | exact nn (by decide) | exact n0 (by decide) | exact aQ (by decide) | exact al l1 _ | exact al l2 _ | exact aE l1 | exact aE l2 | exact co hc (by decide) | exact aR hc | omega)).ext hs₃ (by first | exact nn (by decide) | exact n0 (by decide) | exact aQ (by decide) | exact al l1 _ | exact al l2 _ | exact aE l1 | exact aE l2 | exact co hc (by decide) | exact aR hc | omega)) hy fun h₄ i2₄ hs₄=>wpAny_pure ?_)
  have hTO₄:cH h₄ (n+3) #[x,c2]:=ex hs₄ (by first | exact nn (by decide) | exact n0 (by decide) | exact aQ (by decide) | exact al l1 _ | exact al l2 _ | exact aE l1 | exact aE l2 | exact co hc (by decide) | exact aR hc | omega) hTO₃
  refine wpAny_bind (wpAny_seqItems hTO₄ rfl ?_)
  refine wpAny_bind (seq_set hTO₄ (by simp) fun h₇ hTO₇ hs₇=>?_)
  replace hTO₇:cH h₇ (n+3) #[x,y]:=hTO₇
  refine wpAny_bind (wpAny_letGo (wpAny_pure (wpAny_pure ?_)))
  refine wpAny_bind (wpAny_seqItems hTO₇ rfl ?_)
  refine wpAny_bind (wpAny_newTuple ?_)
  have hsz:h₇.objs.size=s.heap.objs.size:=by rw[hs₇.1,hs₄.1,hs₃.1,hs₂.1,hs₁.1]
  have keep:∀ (c:Nat) o,(c < n∨n+4 < c)→s.heap.get? c=some o→h₇.get? c=some o:=fun c o hc e=>
   ex hs₇ (by first | exact nn (by decide) | exact n0 (by decide) | exact aQ (by decide) | exact al l1 _ | exact al l2 _ | exact aE l1 | exact aE l2 | exact co hc (by decide) | exact aR hc | omega) (ex hs₄ (by first | exact nn (by decide) | exact n0 (by decide) | exact aQ (by decide) | exact al l1 _ | exact al l2 _ | exact aE l1 | exact aE l2 | exact co hc (by decide) | exact aR hc | omega) (ex hs₃ (by first | exact nn (by decide) | exact n0 (by decide) | exact aQ (by decide) | exact al l1 _ | exact al l2 _ | exact aE l1 | exact aE l2 | exact co hc (by decide) | exact aR hc | omega) (ex hs₂ (by first | exact nn (by decide) | exact n0 (by decide) | exact aQ (by decide) | exact al l1 _ | exact al l2 _ | exact aE l1 | exact aE l2 | exact co hc (by decide) | exact aR hc | omega) (ex hs₁ (by first | exact nn (by decide) | exact n0 (by decide) | exact aQ (by decide) | exact al l1 _ | exact al l2 _ | exact aE l1 | exact aE l2 | exact co hc (by decide) | exact aR hc | omega) e))))
  have hz₇:IsZ h₇ (n+4) (n+2) (n+3) .ellipsis f1:=ex hs₇ (by first | exact nn (by decide) | exact n0 (by decide) | exact aQ (by decide) | exact al l1 _ | exact al l2 _ | exact aE l1 | exact aE l2 | exact co hc (by decide) | exact aR hc | omega) (ex hs₄ (by first | exact nn (by decide) | exact n0 (by decide) | exact aQ (by decide) | exact al l1 _ | exact al l2 _ | exact aE l1 | exact aE l2 | exact co hc (by decide) | exact aR hc | omega) (ex hs₃ (by first | exact nn (by decide) | exact n0 (by decide) | exact aQ (by decide) | exact al l1 _ | exact al l2 _ | exact aE l1 | exact aE l2 | exact co hc (by decide) | exact aR hc | omega) (ex hs₂ (by first | exact nn (by decide) | exact n0 (by decide) | exact aQ (by decide) | exact al l1 _ | exact al l2 _ | exact aE l1 | exact aE l2 | exact co hc (by decide) | exact aR hc | omega) hz₁)))
  have hTI₇:cH h₇ (n+2) #[.ref n,.ref (n+1)]:=ex hs₇ (by first | exact nn (by decide) | exact n0 (by decide) | exact aQ (by decide) | exact al l1 _ | exact al l2 _ | exact aE l1 | exact aE l2 | exact co hc (by decide) | exact aR hc | omega) (ex hs₄ (by first | exact nn (by decide) | exact n0 (by decide) | exact aQ (by decide) | exact al l1 _ | exact al l2 _ | exact aE l1 | exact aE l2 | exact co hc (by decide) | exact aR hc | omega) (ex hs₃ (by first | exact nn (by decide) | exact n0 (by decide) | exact aQ (by decide) | exact al l1 _ | exact al l2 _ | exact aE l1 | exact aE l2 | exact co hc (by decide) | exact aR hc | omega) (ex hs₂ (by first | exact nn (by decide) | exact n0 (by decide) | exact aQ (by decide) | exact al l1 _ | exact al l2 _ | exact aE l1 | exact aE l2 | exact co hc (by decide) | exact aR hc | omega) (ex hs₁ (by first | exact nn (by decide) | exact n0 (by decide) | exact aQ (by decide) | exact al l1 _ | exact al l2 _ | exact aE l1 | exact aE l2 | exact co hc (by decide) | exact aR hc | omega) hTI))))
  have i1₇:=((i1₂.ext hs₃ (by first | exact nn (by decide) | exact n0 (by decide) | exact aQ (by decide) | exact al l1 _ | exact al l2 _ | exact aE l1 | exact aE l2 | exact co hc (by decide) | exact aR hc | omega)).ext hs₄ (by first | exact nn (by decide) | exact n0 (by decide) | exact aQ (by decide) | exact al l1 _ | exact al l2 _ | exact aE l1 | exact aE l2 | exact co hc (by decide) | exact aR hc | omega)).ext hs₇ (by first | exact nn (by decide) | exact n0 (by decide) | exact aQ (by decide) | exact al l1 _ | exact al l2 _ | exact aE l1 | exact aE l2 | exact co hc (by decide) | exact aR hc | omega)
  have i2₇:=i2₄.ext hs₇ (by first | exact nn (by decide) | exact n0 (by decide) | exact aQ (by decide) | exact al l1 _ | exact al l2 _ | exact aE l1 | exact aE l2 | exact co hc (by decide) | exact aR hc | omega)
  have hzlt₇:n+4 < h₇.objs.size:=by rw[hsz];exact hzlt
  have up:∀ {c o},h₇.get? c=some o→(h₇.push { cls:=.type "tuple",data:=.seq #[x,y] }).get? c=some o:=fun e=>Heap.get?_push_of_some _ e
  refine wpAny_bind (handOut (z:=n+4) (TI:=n+2) (TO:=n+3) (f0:=.ellipsis) (f1:=f1) (up hz₇) fun h₈ hz₈ hs₈=>?_)
  have up8:∀ {c:Nat}{o},c≠n+4→h₇.get? c=some o→h₈.get? c=some o:=fun hc e=>ex hs₈ hc (up e)
  refine wpAny_pure ⟨_,rfl,hQ h₇.objs.size h₈ (rawInt h₇.objs.size) false x y (by rw[hsz];exact Nat.le_refl _) (.inr ⟨_,rfl⟩) hz₈ (up8 (by first | exact nn (by decide) | exact n0 (by decide) | exact aQ (by decide) | exact al l1 _ | exact al l2 _ | exact aE l1 | exact aE l2 | exact co hc (by decide) | exact aR hc | omega) hTI₇) (up8 (by first | exact nn (by decide) | exact n0 (by decide) | exact aQ (by decide) | exact al l1 _ | exact al l2 _ | exact aE l1 | exact aE l2 | exact co hc (by decide) | exact aR hc | omega) hTO₇) (i1₇.at fun o e=>up8 (by first | exact nn (by decide) | exact n0 (by decide) | exact aQ (by decide) | exact al l1 _ | exact al l2 _ | exact aE l1 | exact aE l2 | exact co hc (by decide) | exact aR hc | omega) e) (i2₇.at fun o e=>up8 (by first | exact nn (by decide) | exact n0 (by decide) | exact aQ (by decide) | exact al l1 _ | exact al l2 _ | exact aE l1 | exact aE l2 | exact co hc (by decide) | exact aR hc | omega) e)
   (ex hs₈ (by first | exact nn (by decide) | exact n0 (by decide) | exact aQ (by decide) | exact al l1 _ | exact al l2 _ | exact aE l1 | exact aE l2 | exact co hc (by decide) | exact aR hc | omega) (Heap.get?_push_size _ rfl)) fun c o hc e=>up8 (by first | exact nn (by decide) | exact n0 (by decide) | exact aQ (by decide) | exact al l1 _ | exact al l2 _ | exact aE l1 | exact aE l2 | exact co hc (by decide) | exact aR hc | omega) (keep c o hc e)⟩
 ·intro h₁ hz₁ hs₁
  simp only [Bool.false_eq_true,if_false]
  refine wpAny_bind ?_
  rw[← Array.forIn_toList]
  simp only [List.forIn_cons,List.forIn_nil]
  refine wpAny_bind (wpAny_bind (wpAny_holding ?_))
  show wpAny _ _ (Builtin.SmallTypes.nextOf (.ref n) >>= _) _ _ _
  refine wpAny_bind (bB (i1.ext hs₁ (by first | exact nn (by decide) | exact n0 (by decide) | exact aQ (by decide) | exact al l1 _ | exact al l2 _ | exact aE l1 | exact aE l2 | exact co hc (by decide) | exact aR hc | omega)) (s1.ext hs₁ (by first | exact nn (by decide) | exact n0 (by decide) | exact aQ (by decide) | exact al l1 _ | exact al l2 _ | exact aE l1 | exact aE l2 | exact co hc (by decide) | exact aR hc | omega)) hx fun h₂ i1₂ hs₂=>wpAny_pure (wpAny_pure ?_))
  refine wpAny_bind (wpAny_bind (wpAny_holding ?_))
  show wpAny _ _ (Builtin.SmallTypes.nextOf (.ref (n+1)) >>= _) _ _ _
  refine wpAny_bind (bB ((i2.ext hs₁ (by first | exact nn (by decide) | exact n0 (by decide) | exact aQ (by decide) | exact al l1 _ | exact al l2 _ | exact aE l1 | exact aE l2 | exact co hc (by decide) | exact aR hc | omega)).ext hs₂ (by first | exact nn (by decide) | exact n0 (by decide) | exact aQ (by decide) | exact al l1 _ | exact al l2 _ | exact aE l1 | exact aE l2 | exact co hc (by decide) | exact aR hc | omega)) ((s2.ext hs₁ (by first | exact nn (by decide) | exact n0 (by decide) | exact aQ (by decide) | exact al l1 _ | exact al l2 _ | exact aE l1 | exact aE l2 | exact co hc (by decide) | exact aR hc | omega)).ext hs₂ (by first | exact nn (by decide) | exact n0 (by decide) | exact aQ (by decide) | exact al l1 _ | exact al l2 _ | exact aE l1 | exact aE l2 | exact co hc (by decide) | exact aR hc | omega)) hy fun h₄ i2₄ hs₄=>wpAny_pure (wpAny_pure (wpAny_pure ?_)))
  refine wpAny_bind (wpAny_newTuple (hsz:=by show 2≤sizeLine;decide) (wpAny_pure ⟨_,rfl,?_⟩))
  have hsz:h₄.objs.size=s.heap.objs.size:=by rw[hs₄.1,hs₂.1,hs₁.1]
  have up:∀ {c o},h₄.get? c=some o→(h₄.push { cls:=.type "tuple",data:=.seq #[x,y] }).get? c=some o:=fun e=>Heap.get?_push_of_some _ e
  have keep:∀ (c:Nat) o,(c < n∨n+4 < c)→s.heap.get? c=some o→h₄.get? c=some o:=fun c o hc e=>ex hs₄ (by first | exact nn (by decide) | exact n0 (by decide) | exact aQ (by decide) | exact al l1 _ | exact al l2 _ | exact aE l1 | exact aE l2 | exact co hc (by decide) | exact aR hc | omega) (ex hs₂ (by first | exact nn (by decide) | exact n0 (by decide) | exact aQ (by decide) | exact al l1 _ | exact al l2 _ | exact aE l1 | exact aE l2 | exact co hc (by decide) | exact aR hc | omega) (ex hs₁ (by first | exact nn (by decide) | exact n0 (by decide) | exact aQ (by decide) | exact al l1 _ | exact al l2 _ | exact aE l1 | exact aE l2 | exact co hc (by decide) | exact aR hc | omega) e))
  refine hQ h₄.objs.size (h₄.push { cls:=.type "tuple",data:=.seq #[x,y] }) f0 true c1 c2 (by rw[hsz];exact Nat.le_refl _) hf (up (ex hs₄ (by first | exact nn (by decide) | exact n0 (by decide) | exact aQ (by decide) | exact al l1 _ | exact al l2 _ | exact aE l1 | exact aE l2 | exact co hc (by decide) | exact aR hc | omega) (ex hs₂ (by first | exact nn (by decide) | exact n0 (by decide) | exact aQ (by decide) | exact al l1 _ | exact al l2 _ | exact aE l1 | exact aE l2 | exact co hc (by decide) | exact aR hc | omega) hz₁)))
   (up (ex hs₄ (by first | exact nn (by decide) | exact n0 (by decide) | exact aQ (by decide) | exact al l1 _ | exact al l2 _ | exact aE l1 | exact aE l2 | exact co hc (by decide) | exact aR hc | omega) (ex hs₂ (by first | exact nn (by decide) | exact n0 (by decide) | exact aQ (by decide) | exact al l1 _ | exact al l2 _ | exact aE l1 | exact aE l2 | exact co hc (by decide) | exact aR hc | omega) (ex hs₁ (by first | exact nn (by decide) | exact n0 (by decide) | exact aQ (by decide) | exact al l1 _ | exact al l2 _ | exact aE l1 | exact aE l2 | exact co hc (by decide) | exact aR hc | omega) hTI)))) (up (ex hs₄ (by first | exact nn (by decide) | exact n0 (by decide) | exact aQ (by decide) | exact al l1 _ | exact al l2 _ | exact aE l1 | exact aE l2 | exact co hc (by decide) | exact aR hc | omega) (ex hs₂ (by first | exact nn (by decide) | exact n0 (by decide) | exact aQ (by decide) | exact al l1 _ | exact al l2 _ | exact aE l1 | exact aE l2 | exact co hc (by decide) | exact aR hc | omega) (ex hs₁ (by first | exact nn (by decide) | exact n0 (by decide) | exact aQ (by decide) | exact al l1 _ | exact al l2 _ | exact aE l1 | exact aE l2 | exact co hc (by decide) | exact aR hc | omega) hTO))))
   ((i1₂.ext hs₄ (by first | exact nn (by decide) | exact n0 (by decide) | exact aQ (by decide) | exact al l1 _ | exact al l2 _ | exact aE l1 | exact aE l2 | exact co hc (by decide) | exact aR hc | omega)).at fun o e=>up e) (i2₄.at fun o e=>up e) (Heap.get?_push_size _ rfl) fun c o hc e=>up (keep c o hc e)
theorem zip2_end {n a1 a2:Nat}{t1 t2:Bool}{k:Nat}{xs ys:Array Value}{c1 c2 f0:Value}{f1:Bool}{Q:Fin→Shared→Prop} (hh:A.handled=none) (hf:Free0 f0)
  (hz:IsZ s.heap (n+4) (n+2) (n+3) f0 f1) (hTI:cH s.heap (n+2) #[.ref n,.ref (n+1)]) (hTO:cH s.heap (n+3) #[c1,c2])
  (i1:cP s.heap t1 n a1 k) (i2:cP s.heap t2 (n+1) a2 k) (s1:bN s.heap t1 a1 xs) (s2:bN s.heap t2 a2 ys)
  (l1:a1 < n) (l2:a2 < n) (hend:xs[k]? = none∨ys[k]? = none)
  (hE:∀ h' e,(∀ (c:Nat) o,(c < n∨n+4 < c)→s.heap.get? c=some o→h'.get? c=some o)→(∃ o,h'.get? e=some o∧o.cls=.type "StopIteration")→E (.ref e) { s with heap:=h' }) :
  wpAny (model prog w) A (Builtin.«zip.__next__» ⟨[.ref (n+4)],[]⟩) Q E s:=by
 show wpAny _ _ (field (.ref (n+4)) 2 >>= _) _ _ _
 refine wpAny_bind (wpAny_field hz rfl (x:=.bool false) rfl ?_)
 show wpAny _ _ (field (.ref (n+4)) 3 >>= _) _ _ _
 refine wpAny_bind (wpAny_field hz rfl (x:=.ref (n+2)) rfl ?_)
 refine wpAny_bind (wpAny_seqItems hTI rfl ?_)
 show wpAny _ _ (Builtin.SmallTypes.ownedTupleIsFree (.ref (n+4)) >>= _) _ _ _
 refine wpAny_bind (owned_free hz hf ?_ ?_)
 ·simp only [if_true]
  refine wpAny_bind (wpAny_rule ?_)
  refine wpAny_bind (wpAny_field hz rfl (x:=.ref (n+3)) rfl ?_)
  refine wpAny_bind (wpAny_setField_rec hz (by simp) fun h₁ hz₁ hs₁=>?_)
  replace hz₁:IsZ h₁ (n+4) (n+2) (n+3) .ellipsis f1:=hz₁
  refine wpAny_bind ?_
  simp only [List.zipIdx_cons,List.zipIdx_nil,List.forIn_cons,List.forIn_nil]
  have fin:∀ {h₂ h₃:Heap}{e j:Nat}{oe:Obj},IsZ h₂ (n+4) (n+2) (n+3) .ellipsis f1→Heap.ExtBut j h₂ h₃→@Ne Nat (n+4) j→(n≤j∧j≤n+4)→(∀ (c:Nat) o,(c < n∨n+4 < c)→s.heap.get? c=some o→h₂.get? c=some o)→h₃.get? e=some oe→oe.cls=.type "StopIteration" →
    wpAny (model prog w) A (setField (.ref (n+4)) 0 .none) (fun _ s'=>E (.ref e) s') E { s with heap:=h₃ }:=fun {h₂ h₃ e j oe} hz₂ hx hj hr hk hoe hce=>by
   have hz₃:IsZ h₃ (n+4) (n+2) (n+3) .ellipsis f1:=hx _ _ hj hz₂
   have hez:e≠n+4:=fun q=>by subst q;rw[hz₃] at hoe;cases hoe;simp at hce
   refine wpAny_setField_rec hz₃ (by simp) fun h₄ _ hs₄=>hE h₄ e (fun c o hc q=>ex hs₄ (by first | exact nn (by decide) | exact n0 (by decide) | exact aQ (by decide) | exact al l1 _ | exact al l2 _ | exact aE l1 | exact aE l2 | exact co hc (by decide) | exact aR hc | omega) (hx c o (show @Ne Nat c j by omega) (hk c o hc q))) ⟨oe,hs₄.extBut _ _ hez hoe,hce⟩
  refine wpAny_bind (wpAny_bind (wpAny_onRaise ?_))
  show wpAny _ _ (Builtin.SmallTypes.nextOf (.ref n) >>= _) _ _ _
  cases hx:xs[k]? with
  | none=>
   refine wpAny_bind (cF hh (i1.ext hs₁ (by first | exact nn (by decide) | exact n0 (by decide) | exact aQ (by decide) | exact al l1 _ | exact al l2 _ | exact aE l1 | exact aE l2 | exact co hc (by decide) | exact aR hc | omega)) (s1.ext hs₁ (by first | exact nn (by decide) | exact n0 (by decide) | exact aQ (by decide) | exact al l1 _ | exact al l2 _ | exact aE l1 | exact aE l2 | exact co hc (by decide) | exact aR hc | omega)) hx fun h₂ e hs₂ he=>?_)
   obtain⟨oe,hoe,hce⟩:=he
   exact fin hz₁ hs₂ (by first | exact nn (by decide) | exact n0 (by decide) | exact aQ (by decide) | exact al l1 _ | exact al l2 _ | exact aE l1 | exact aE l2 | exact co hc (by decide) | exact aR hc | omega) (by first | exact nn (by decide) | exact n0 (by decide) | exact aQ (by decide) | exact al l1 _ | exact al l2 _ | exact aE l1 | exact aE l2 | exact co hc (by decide) | exact aR hc | omega) (fun c o hc q=>ex hs₁ (by first | exact nn (by decide) | exact n0 (by decide) | exact aQ (by decide) | exact al l1 _ | exact al l2 _ | exact aE l1 | exact aE l2 | exact co hc (by decide) | exact aR hc | omega) q) hoe hce
  | some x=>
   have hy:ys[k]? = none:=by rcases hend with h | h;rw[hx] at h;cases h;exact h
   refine wpAny_bind (bB (i1.ext hs₁ (by first | exact nn (by decide) | exact n0 (by decide) | exact aQ (by decide) | exact al l1 _ | exact al l2 _ | exact aE l1 | exact aE l2 | exact co hc (by decide) | exact aR hc | omega)) (s1.ext hs₁ (by first | exact nn (by decide) | exact n0 (by decide) | exact aQ (by decide) | exact al l1 _ | exact al l2 _ | exact aE l1 | exact aE l2 | exact co hc (by decide) | exact aR hc | omega)) hx fun h₂ i1₂ hs₂=>wpAny_pure ?_)
   have hTO₂:cH h₂ (n+3) #[c1,c2]:=ex hs₂ (by first | exact nn (by decide) | exact n0 (by decide) | exact aQ (by decide) | exact al l1 _ | exact al l2 _ | exact aE l1 | exact aE l2 | exact co hc (by decide) | exact aR hc | omega) (ex hs₁ (by first | exact nn (by decide) | exact n0 (by decide) | exact aQ (by decide) | exact al l1 _ | exact al l2 _ | exact aE l1 | exact aE l2 | exact co hc (by decide) | exact aR hc | omega) hTO)
   refine wpAny_bind (wpAny_seqItems hTO₂ rfl ?_)
   refine wpAny_bind (seq_set hTO₂ (by simp) fun h₃ hTO₃ hs₃=>?_)
   refine wpAny_bind (wpAny_letGo (wpAny_pure ?_))
   have hz₃:IsZ h₃ (n+4) (n+2) (n+3) .ellipsis f1:=ex hs₃ (by first | exact nn (by decide) | exact n0 (by decide) | exact aQ (by decide) | exact al l1 _ | exact al l2 _ | exact aE l1 | exact aE l2 | exact co hc (by decide) | exact aR hc | omega) (ex hs₂ (by first | exact nn (by decide) | exact n0 (by decide) | exact aQ (by decide) | exact al l1 _ | exact al l2 _ | exact aE l1 | exact aE l2 | exact co hc (by decide) | exact aR hc | omega) hz₁)
   have k₃:∀ (c:Nat) o,(c < n∨n+4 < c)→s.heap.get? c=some o→h₃.get? c=some o:=fun c o hc e=>ex hs₃ (by first | exact nn (by decide) | exact n0 (by decide) | exact aQ (by decide) | exact al l1 _ | exact al l2 _ | exact aE l1 | exact aE l2 | exact co hc (by decide) | exact aR hc | omega) (ex hs₂ (by first | exact nn (by decide) | exact n0 (by decide) | exact aQ (by decide) | exact al l1 _ | exact al l2 _ | exact aE l1 | exact aE l2 | exact co hc (by decide) | exact aR hc | omega) (ex hs₁ (by first | exact nn (by decide) | exact n0 (by decide) | exact aQ (by decide) | exact al l1 _ | exact al l2 _ | exact aE l1 | exact aE l2 | exact co hc (by decide) | exact aR hc | omega) e))
   refine wpAny_bind (wpAny_bind (wpAny_onRaise ?_))
   show wpAny _ _ (Builtin.SmallTypes.nextOf (.ref (n+1)) >>= _) _ _ _
   refine wpAny_bind (cF hh (((i2.ext hs₁ (by first | exact nn (by decide) | exact n0 (by decide) | exact aQ (by decide) | exact al l1 _ | exact al l2 _ | exact aE l1 | exact aE l2 | exact co hc (by decide) | exact aR hc | omega)).ext hs₂ (by first | exact nn (by decide) | exact n0 (by decide) | exact aQ (by decide) | exact al l1 _ | exact al l2 _ | exact aE l1 | exact aE l2 | exact co hc (by decide) | exact aR hc | omega)).ext hs₃ (by first | exact nn (by decide) | exact n0 (by decide) | exact aQ (by decide) | exact al l1 _ | exact al l2 _ | exact aE l1 | exact aE l2 | exact co hc (by decide) | exact aR hc | omega)) (((s2.ext hs₁ (by first | exact nn (by decide) | exact n0 (by decide) | exact aQ (by decide) | exact al l1 _ | exact al l2 _ | exact aE l1 | exact aE l2 | exact co hc (by decide) | exact aR hc | omega)).ext hs₂ (by first | exact nn (by decide) | exact n0 (by decide) | exact aQ (by decide) | exact al l1 _ | exact al l2 _ | exact aE l1 | exact aE l2 | exact co hc (by decide) | exact aR hc | omega)).ext hs₃ (by first | exact nn (by decide) | exact n0 (by decide) | exact aQ (by decide) | exact al l1 _ | exact al l2 _ | exact aE l1 | exact aE l2 | exact co hc (by decide) | exact aR hc | omega)) hy fun h₄ e hs₄ he=>?_)
   obtain⟨oe,hoe,hce⟩:=he
   exact fin hz₃ hs₄ (by first | exact nn (by decide) | exact n0 (by decide) | exact aQ (by decide) | exact al l1 _ | exact al l2 _ | exact aE l1 | exact aE l2 | exact co hc (by decide) | exact aR hc | omega) (by first | exact nn (by decide) | exact n0 (by decide) | exact aQ (by decide) | exact al l1 _ | exact al l2 _ | exact aE l1 | exact aE l2 | exact co hc (by decide) | exact aR hc | omega) k₃ hoe hce
 ·intro h₁ hz₁ hs₁
  simp only [Bool.false_eq_true,if_false]
  refine wpAny_bind ?_
  rw[← Array.forIn_toList]
  simp only [List.forIn_cons,List.forIn_nil]
  refine wpAny_bind (wpAny_bind (wpAny_holding ?_))
  show wpAny _ _ (Builtin.SmallTypes.nextOf (.ref n) >>= _) _ _ _
  cases hx:xs[k]? with
  | none=>
   refine wpAny_bind (cF hh (i1.ext hs₁ (by first | exact nn (by decide) | exact n0 (by decide) | exact aQ (by decide) | exact al l1 _ | exact al l2 _ | exact aE l1 | exact aE l2 | exact co hc (by decide) | exact aR hc | omega)) (s1.ext hs₁ (by first | exact nn (by decide) | exact n0 (by decide) | exact aQ (by decide) | exact al l1 _ | exact al l2 _ | exact aE l1 | exact aE l2 | exact co hc (by decide) | exact aR hc | omega)) hx fun h₂ e hs₂ he=>?_)
   exact hE h₂ e (fun c o hc q=>hs₂ c o (show @Ne Nat c n by omega) (ex hs₁ (by first | exact nn (by decide) | exact n0 (by decide) | exact aQ (by decide) | exact al l1 _ | exact al l2 _ | exact aE l1 | exact aE l2 | exact co hc (by decide) | exact aR hc | omega) q)) he
  | some x=>
   have hy:ys[k]? = none:=by rcases hend with h | h;rw[hx] at h;cases h;exact h
   refine wpAny_bind (bB (i1.ext hs₁ (by first | exact nn (by decide) | exact n0 (by decide) | exact aQ (by decide) | exact al l1 _ | exact al l2 _ | exact aE l1 | exact aE l2 | exact co hc (by decide) | exact aR hc | omega)) (s1.ext hs₁ (by first | exact nn (by decide) | exact n0 (by decide) | exact aQ (by decide) | exact al l1 _ | exact al l2 _ | exact aE l1 | exact aE l2 | exact co hc (by decide) | exact aR hc | omega)) hx fun h₂ i1₂ hs₂=>wpAny_pure (wpAny_pure ?_))
   refine wpAny_bind (wpAny_bind (wpAny_holding ?_))
   show wpAny _ _ (Builtin.SmallTypes.nextOf (.ref (n+1)) >>= _) _ _ _
   refine wpAny_bind (cF hh ((i2.ext hs₁ (by first | exact nn (by decide) | exact n0 (by decide) | exact aQ (by decide) | exact al l1 _ | exact al l2 _ | exact aE l1 | exact aE l2 | exact co hc (by decide) | exact aR hc | omega)).ext hs₂ (by first | exact nn (by decide) | exact n0 (by decide) | exact aQ (by decide) | exact al l1 _ | exact al l2 _ | exact aE l1 | exact aE l2 | exact co hc (by decide) | exact aR hc | omega)) ((s2.ext hs₁ (by first | exact nn (by decide) | exact n0 (by decide) | exact aQ (by decide) | exact al l1 _ | exact al l2 _ | exact aE l1 | exact aE l2 | exact co hc (by decide) | exact aR hc | omega)).ext hs₂ (by first | exact nn (by decide) | exact n0 (by decide) | exact aQ (by decide) | exact al l1 _ | exact al l2 _ | exact aE l1 | exact aE l2 | exact co hc (by decide) | exact aR hc | omega)) hy fun h₃ e hs₃ he=>?_)
   exact hE h₃ e (fun c o hc q=>hs₃ c o (show @Ne Nat c (n+1) by omega) (ex hs₂ (by first | exact nn (by decide) | exact n0 (by decide) | exact aQ (by decide) | exact al l1 _ | exact al l2 _ | exact aE l1 | exact aE l2 | exact co hc (by decide) | exact aR hc | omega) (ex hs₁ (by first | exact nn (by decide) | exact n0 (by decide) | exact aQ (by decide) | exact al l1 _ | exact al l2 _ | exact aE l1 | exact aE l2 | exact co hc (by decide) | exact aR hc | omega) q))) he
theorem pyNext_zip {z TI TO:Addr}{f0:Value}{f1:Bool}{Q:Option Value→Shared→Prop} (hz:IsZ s.heap z TI TO f0 f1)
  (h:wpAny (model prog w) A.in1 (Builtin.«zip.__next__» ⟨[.ref z],[]⟩) (fun fin s'=>∃ v,fin=.done (.ret v)∧Q (some v) s') (fun e s'=>(∃ a o,e=.ref a∧s'.heap.get? a=some o∧o.cls=.type "StopIteration")∧Q none s') s) :
  wpAny (model prog w) A (pyNext (.ref z)) Q E s:=by
 have hT:s.TypeIs (.ref z) "zip" := ⟨_,hz,rfl⟩
 unfold pyNext
 refine wpAny_bind (wpAny_attempt (wpAny_callSpecial?_slot (name:=Str.ofString "__next__") hT F.slot_zip_next
  (wpAny_call_entry F.slot_zip_next hT F.entry_zip_next (wpAny_mono h (fun fin s' h'=>?_) fun e s' h'=>?_) (F.args_zip_next_1 _))))
 ·obtain⟨v,rfl,q⟩:=h'
  exact⟨v,rfl,wpAny_pure q⟩
 ·obtain⟨⟨a,o,rfl,ho,hc⟩,q⟩:=h'
  exact wpAny_bind (wpAny_isInstance (T := "StopIteration") (b:=true) ⟨o,ho,hc⟩ isSubtype_stop (wpAny_pure q))
theorem letGo_zip {tg:Expr}{z TI TO T:Addr}{f0:Value}{f1:Bool}{Q:Unit→Shared→Prop} (hf:Free0 f0) (hz:IsZ s.heap z TI TO f0 f1)
  (hQ:∀ h' f0',Free0 f0'→IsZ h' z TI TO f0' f1→Heap.SameBut z s.heap h'→Q () { s with heap:=h' }):wpAny (model prog w) A (letOwnedTupleGo tg (.ref z) (.ref T)) Q E s:=by
 have same:Q () s:=hQ s.heap f0 hf hz (Heap.SameBut.refl ..)
 have core:wpAny (model prog w) A (do
   let o ← load z
   match o.cls,o.data with
   | .type n,.fields vs=>
    if ["enumerate","zip","dict_itemiterator","dict_reverseitemiterator","odict_iterator","itertools.zip_longest","itertools.pairwise"].contains n && vs[0]? == some (rawInt T) then
     rule "for.unpacks-the-owned-tuple"
     updateField z 0 .none
   | _,_=>pure ()) Q E s:=by
  refine wpAny_bind (wpAny_load hz ?_)
  show wpAny _ _ (if (["enumerate","zip","dict_itemiterator","dict_reverseitemiterator","odict_iterator","itertools.zip_longest","itertools.pairwise"].contains "zip" &&
   (#[f0,.bool f1,.bool false,.ref TI,.ref TO]:Array Value)[0]? == some (rawInt T))=true then _ else _) Q E s
  split
  ·refine wpAny_bind (wpAny_rule ?_)
   show wpAny _ _ (setField (.ref z) 0 .none) Q E s
   exact wpAny_setField_rec hz (by simp) fun h' hz' hs'=>hQ h' .none (.inl rfl) hz' hs'
  ·exact wpAny_pure same
 unfold letOwnedTupleGo
 cases tg <;> first
  | exact wpAny_pure same
  | exact core
theorem pyIter_zip {z TI TO:Addr}{f0:Value}{f1:Bool}{Q:Value→Shared→Prop} (hz:IsZ s.heap z TI TO f0 f1) (h:Q (.ref z) s):wpAny (model prog w) A (pyIter (.ref z)) Q E s:=by
 have hT:s.TypeIs (.ref z) "zip" := ⟨_,hz,rfl⟩
 refine wpAny_pyIter_slot hT F.slot_zip_iter (wpAny_call_entry F.slot_zip_iter hT F.entry_zip_iter ?_ (F.args_zip_iter_1 _))
 show wpAny _ _ (ret (.ref z)) _ _ s
 exact wpAny_pure ⟨_,rfl,"zip",_,hT,F.slot_zip_next.lookup,h⟩
noncomputable def itObj (t:Bool) (a:Addr):Obj:={ cls:=.type (if t=true then "tuple_iterator" else "list_iterator"),data:=.fields #[.ref a,.int 0 0] }
theorem dG {t:Bool}{a:Addr}{items:Array Value}{Q:Value→Shared→Prop} (hs:bN s.heap t a items) (hQ:Q (.ref s.heap.objs.size) { s with heap:=s.heap.push (itObj t a) }) :
  wpAny (model prog w) A (pyIter (.ref a)) Q E s:=by
 cases t with
 | true=>exact wpAny_pyIter_tuple hs hQ
 | false=>exact wpAny_pyIter_list hs hQ
theorem itObj_is {h:Heap}{t:Bool}{a it:Addr} (e:h.get? it=some (itObj t a)):cP h t it a 0:=by
 cases t <;> exact⟨_,e,rfl,rfl⟩
noncomputable abbrev zA (h:Heap) (t:Bool) (a:Addr):Heap:=h.push (itObj t a)
noncomputable abbrev zTup (h:Heap) (vs:List Value):Heap:=h.push { cls:=.type "tuple",data:=.seq vs.toArray }
noncomputable abbrev z2B (h:Heap) (t1 t2:Bool) (l1 l2:Addr):Heap:=zTup (zA (zA h t1 l1) t2 l2) [.ref h.objs.size,.ref (zA h t1 l1).objs.size]
noncomputable abbrev z2H (h:Heap) (t1 t2:Bool) (l1 l2:Addr):Heap:=zTup (z2B h t1 t2 l1 l2) [.none,.none]
noncomputable abbrev z2E (h:Heap) (t1 t2:Bool) (l1 l2:Addr):Heap:=(z2H h t1 t2 l1 l2).push { cls:=.type "zip",data:=.fields #[.none,.bool false,.bool false,.ref (zA (zA h t1 l1) t2 l2).objs.size,.ref (z2B h t1 t2 l1 l2).objs.size] }
noncomputable abbrev z3B (h:Heap) (t1 t2 t3:Bool) (l1 l2 l3:Addr):Heap:=zTup (zA (zA (zA h t1 l1) t2 l2) t3 l3) [.ref h.objs.size,.ref (zA h t1 l1).objs.size,.ref (zA (zA h t1 l1) t2 l2).objs.size]
noncomputable abbrev z3H (h:Heap) (t1 t2 t3:Bool) (l1 l2 l3:Addr):Heap:=zTup (z3B h t1 t2 t3 l1 l2 l3) [.none,.none,.none]
noncomputable abbrev z3E (h:Heap) (t1 t2 t3:Bool) (l1 l2 l3:Addr):Heap:=(z3H h t1 t2 t3 l1 l2 l3).push { cls:=.type "zip",data:=.fields #[.none,.bool false,.bool false,.ref (zA (zA (zA h t1 l1) t2 l2) t3 l3).objs.size,.ref (z3B h t1 t2 t3 l1 l2 l3).objs.size] }
theorem meets_zip2 (t1 t2:Bool) (l1 l2:Addr) (xs ys:Array Value) :
  Meets (Builtin.«zip.__new__» ⟨[.type "zip",.ref l1,.ref l2],[]⟩) (fun _ R s=>bN s.heap t1 l1 xs∧bN s.heap t2 l2 ys∧
   R (.ok (.ret (.ref (z2H s.heap t1 t2 l1 l2).objs.size))) { s with heap:=z2E s.heap t1 t2 l1 l2 }):=
 .of_wp fun prog w A R s h=>by
  obtain⟨hp,g,d,tk,os⟩:=s;obtain⟨hl1,hl2,h⟩:=h
  have hsub:=sub_zip
  have hL1:bN (Shared.heap ⟨hp,g,d,tk,os⟩) t1 l1 xs:=hl1
  have hL2:bN (Shared.heap ⟨hp.push (itObj t1 l1),g,d,tk,os⟩) t2 l2 ys:=hl2.at fun o e=>Heap.get?_push_of_some _ e
  wp_walk using dG hL1,dG hL2
  exact⟨_,rfl,h⟩
theorem meets_zip3 (t1 t2 t3:Bool) (l1 l2 l3:Addr) (xs ys zs:Array Value) :
  Meets (Builtin.«zip.__new__» ⟨[.type "zip",.ref l1,.ref l2,.ref l3],[]⟩) (fun _ R s=>bN s.heap t1 l1 xs∧bN s.heap t2 l2 ys∧bN s.heap t3 l3 zs∧
   R (.ok (.ret (.ref (z3H s.heap t1 t2 t3 l1 l2 l3).objs.size))) { s with heap:=z3E s.heap t1 t2 t3 l1 l2 l3 }):=
 .of_wp fun prog w A R s h=>by
  obtain⟨hp,g,d,tk,os⟩:=s;obtain⟨hl1,hl2,hl3,h⟩:=h
  have hsub:=sub_zip
  have hL1:bN (Shared.heap ⟨hp,g,d,tk,os⟩) t1 l1 xs:=hl1
  have hL2:bN (Shared.heap ⟨hp.push (itObj t1 l1),g,d,tk,os⟩) t2 l2 ys:=hl2.at fun o e=>Heap.get?_push_of_some _ e
  have hL3:bN (Shared.heap ⟨(hp.push (itObj t1 l1)).push (itObj t2 l2),g,d,tk,os⟩) t3 l3 zs:=hl3.at fun o e=>Heap.get?_push_of_some _ (Heap.get?_push_of_some _ e)
  wp_walk using dG hL1,dG hL2,dG hL3
  exact⟨_,rfl,h⟩
theorem typeCall_zip_3 (a b c:Value):checkTypeCall "zip" ⟨[a,b,c],[]⟩=pure ():=by kernel_rfl
theorem newCall_zip_3 (a b c:Value):checkBuiltinCall "zip.__new__" ⟨[.type "zip",a,b,c],[]⟩=pure ():=by kernel_rfl
theorem args_object_init_4 (a b c d:Value):argsOk "object.__init__" ⟨[a,b,c,d],[]⟩:=by
 unfold argsOk;rw[signature?_of (id := "object.__init__") (n:=['_','_','t','i','n','i','_','_']) (o:=['t','c','e','j','b','o']) (by kernel_rfl) F.owner_object];kernel_rfl
theorem call_zip2 {t1 t2:Bool}{l1 l2:Addr}{xs ys:Array Value}{Q:Value→Shared→Prop} (hl1:bN s.heap t1 l1 xs) (hl2:bN s.heap t2 l2 ys)
  (h:∀ h',IsZ h' (s.heap.objs.size+4) (s.heap.objs.size+2) (s.heap.objs.size+3) .none false→cH h' (s.heap.objs.size+2) #[.ref s.heap.objs.size,.ref (s.heap.objs.size+1)]→
   cH h' (s.heap.objs.size+3) #[.none,.none]→cP h' t1 s.heap.objs.size l1 0→cP h' t2 (s.heap.objs.size+1) l2 0→
   (∀ c o,s.heap.get? c=some o→h'.get? c=some o)→Q (.ref (s.heap.objs.size+4)) { s with heap:=h' }):wpAny (model prog w) A (call (.type "zip") [.ref l1,.ref l2]) Q E s:=by
 refine callType_new F.called_zip (by decide) (F.typeCall_zip_2 _ _) (F.newCall_zip_2 _ _) (fun obj=>F.args_object_init_3 obj _ _) F.entry_zip_new (meets_zip2 t1 t2 l1 l2 xs ys) ⟨hl1,hl2,?_⟩
 generalize s.heap=h0 at *
 have z1:(zA h0 t1 l1).objs.size=h0.objs.size+1:=Heap.size_push ..
 have z2:(zA (zA h0 t1 l1) t2 l2).objs.size=h0.objs.size+2:=by rw[Heap.size_push,z1]
 have z3:(z2B h0 t1 t2 l1 l2).objs.size=h0.objs.size+3:=by rw[Heap.size_push,z2]
 have z4:(z2H h0 t1 t2 l1 l2).objs.size=h0.objs.size+4:=by rw[Heap.size_push,z3]
 have g5:(z2E h0 t1 t2 l1 l2).get? (z2H h0 t1 t2 l1 l2).objs.size=some _:=Heap.get?_push_size _ rfl
 have g4:(z2E h0 t1 t2 l1 l2).get? (z2B h0 t1 t2 l1 l2).objs.size=some _:=Heap.get?_push_of_some _ (Heap.get?_push_size _ rfl)
 have g3:(z2E h0 t1 t2 l1 l2).get? (zA (zA h0 t1 l1) t2 l2).objs.size=some _:=Heap.get?_push_of_some _ (Heap.get?_push_of_some _ (Heap.get?_push_size _ rfl))
 have g2:(z2E h0 t1 t2 l1 l2).get? (zA h0 t1 l1).objs.size=some _:=Heap.get?_push_of_some _ (Heap.get?_push_of_some _ (Heap.get?_push_of_some _ (Heap.get?_push_size _ rfl)))
 have g1:(z2E h0 t1 t2 l1 l2).get? h0.objs.size=some _:=Heap.get?_push_of_some _ (Heap.get?_push_of_some _ (Heap.get?_push_of_some _ (Heap.get?_push_of_some _ (Heap.get?_push_size _ rfl))))
 show _∧_
 rw[z2,z3,z4] at g5
 rw[z1,z2] at g3
 rw[z3] at g4
 rw[z1] at g2
 rw[z4]
 exact⟨⟨_,g5,rfl⟩,h _ g5 g3 g4 (itObj_is g1) (itObj_is g2) fun c o x=>Heap.get?_push_of_some _ (Heap.get?_push_of_some _ (Heap.get?_push_of_some _ (Heap.get?_push_of_some _ (Heap.get?_push_of_some _ x))))⟩
theorem call_zip3 {t1 t2 t3:Bool}{l1 l2 l3:Addr}{xs ys zs:Array Value}{Q:Value→Shared→Prop} (hl1:bN s.heap t1 l1 xs) (hl2:bN s.heap t2 l2 ys) (hl3:bN s.heap t3 l3 zs)
  (h:∀ h',IsZ h' (s.heap.objs.size+5) (s.heap.objs.size+3) (s.heap.objs.size+4) .none false→cH h' (s.heap.objs.size+3) #[.ref s.heap.objs.size,.ref (s.heap.objs.size+1),.ref (s.heap.objs.size+2)]→
   cH h' (s.heap.objs.size+4) #[.none,.none,.none]→cP h' t1 s.heap.objs.size l1 0→cP h' t2 (s.heap.objs.size+1) l2 0→cP h' t3 (s.heap.objs.size+2) l3 0→
   (∀ c o,s.heap.get? c=some o→h'.get? c=some o)→Q (.ref (s.heap.objs.size+5)) { s with heap:=h' }):wpAny (model prog w) A (call (.type "zip") [.ref l1,.ref l2,.ref l3]) Q E s:=by
 refine callType_new F.called_zip (by decide) (typeCall_zip_3 _ _ _) (newCall_zip_3 _ _ _) (fun obj=>args_object_init_4 obj _ _ _) F.entry_zip_new (meets_zip3 t1 t2 t3 l1 l2 l3 xs ys zs) ⟨hl1,hl2,hl3,?_⟩
 generalize s.heap=h0 at *
 have z1:(zA h0 t1 l1).objs.size=h0.objs.size+1:=Heap.size_push ..
 have z2:(zA (zA h0 t1 l1) t2 l2).objs.size=h0.objs.size+2:=by rw[Heap.size_push,z1]
 have z2':(zA (zA (zA h0 t1 l1) t2 l2) t3 l3).objs.size=h0.objs.size+3:=by rw[Heap.size_push,z2]
 have z3:(z3B h0 t1 t2 t3 l1 l2 l3).objs.size=h0.objs.size+4:=by rw[Heap.size_push,z2']
 have z4:(z3H h0 t1 t2 t3 l1 l2 l3).objs.size=h0.objs.size+5:=by rw[Heap.size_push,z3]
 have g5:(z3E h0 t1 t2 t3 l1 l2 l3).get? (z3H h0 t1 t2 t3 l1 l2 l3).objs.size=some _:=Heap.get?_push_size _ rfl
 have g4:(z3E h0 t1 t2 t3 l1 l2 l3).get? (z3B h0 t1 t2 t3 l1 l2 l3).objs.size=some _:=Heap.get?_push_of_some _ (Heap.get?_push_size _ rfl)
 have g3:(z3E h0 t1 t2 t3 l1 l2 l3).get? (zA (zA (zA h0 t1 l1) t2 l2) t3 l3).objs.size=some _:=Heap.get?_push_of_some _ (Heap.get?_push_of_some _ (Heap.get?_push_size _ rfl))
 have g2':(z3E h0 t1 t2 t3 l1 l2 l3).get? (zA (zA h0 t1 l1) t2 l2).objs.size=some _:=Heap.get?_push_of_some _ (Heap.get?_push_of_some _ (Heap.get?_push_of_some _ (Heap.get?_push_size _ rfl)))
 have g2:(z3E h0 t1 t2 t3 l1 l2 l3).get? (zA h0 t1 l1).objs.size=some _:=Heap.get?_push_of_some _ (Heap.get?_push_of_some _ (Heap.get?_push_of_some _ (Heap.get?_push_of_some _ (Heap.get?_push_size _ rfl))))
 have g1:(z3E h0 t1 t2 t3 l1 l2 l3).get? h0.objs.size=some _:=Heap.get?_push_of_some _ (Heap.get?_push_of_some _ (Heap.get?_push_of_some _ (Heap.get?_push_of_some _ (Heap.get?_push_of_some _ (Heap.get?_push_size _ rfl)))))
 show _∧_
 rw[z2',z3,z4] at g5
 rw[z1,z2,z2'] at g3
 rw[z3] at g4
 rw[z2] at g2'
 rw[z1] at g2
 rw[z4]
 exact⟨⟨_,g5,rfl⟩,h _ g5 g3 g4 (itObj_is g1) (itObj_is g2) (itObj_is g2') fun c o x=>Heap.get?_push_of_some _ (Heap.get?_push_of_some _ (Heap.get?_push_of_some _ (Heap.get?_push_of_some _ (Heap.get?_push_of_some _ (Heap.get?_push_of_some _ x)))))⟩
end
end TwZ
namespace TwZ
open PySem
open Sem (wp)
open AutoSeq1 (wpAny_loadPart')
section
variable {prog:Program}{w:World}{M:Model}{A:Around}{E:Value→Shared→Prop}{s:Shared}
noncomputable abbrev IsEn (h:Heap) (e it:Addr) (f0:Value) (f1:Bool) (i:Int) (old:Value):Prop:=
 h.get? e=some { cls:=.type "enumerate",dict:=none,data:=.fields #[f0,.bool f1,.ref it,rawInt i,.none,old],slots:=#[] }
theorem ownedE_free {e it:Addr}{f0:Value}{f1:Bool}{i:Int}{old:Value}{Q:Bool→Shared→Prop} (hz:IsEn s.heap e it f0 f1 i old) (hf:Free0 f0) (yes:Q true s)
  (no:∀ h',IsEn h' e it f0 true i old→Heap.SameBut e s.heap h'→Q false { s with heap:=h' }):wpAny (model prog w) A (Builtin.SmallTypes.ownedTupleIsFree (.ref e)) Q E s:=by
 unfold Builtin.SmallTypes.ownedTupleIsFree
 refine wpAny_bind (wpAny_field hz rfl (x:=f0) rfl ?_)
 rcases hf with rfl | ⟨a,rfl⟩
 ·exact wpAny_pure yes
 ·refine wpAny_bind (wpAny_alive ?_)
  cases h:s.heap.get? a.toNat with
  | none=>exact wpAny_pure yes
  | some o=>
   show wpAny _ _ (field (.ref e) 1 >>= _) _ _ _
   refine wpAny_bind (wpAny_field hz rfl (x:=.bool f1) rfl ?_)
   cases f1 with
   | true=>exact wpAny_pure (no s.heap hz (Heap.SameBut.refl ..))
   | false=>
    show wpAny _ _ (setField (.ref e) 1 (.bool true) >>= _) _ _ _
    refine wpAny_bind (wpAny_setField_rec hz (by simp) fun h₁ hz₁ hs₁=>wpAny_pure (no h₁ hz₁ hs₁))
theorem handOutE {e it:Addr}{f0:Value}{f1:Bool}{i:Int}{old:Value}{T:Addr}{Q:Unit→Shared→Prop} (hz:IsEn s.heap e it f0 f1 i old)
  (h:∀ h',IsEn h' e it (rawInt T) false i old→Heap.SameBut e s.heap h'→Q () { s with heap:=h' }):wpAny (model prog w) A (Builtin.SmallTypes.ownedTupleHandOut (.ref e) (.ref T)) Q E s:=by
 unfold Builtin.SmallTypes.ownedTupleHandOut
 refine wpAny_bind (wpAny_setField_rec hz (by simp) fun h₁ hz₁ hs₁=>?_)
 replace hz₁:IsEn h₁ e it (rawInt T) f1 i old:=hz₁
 refine wpAny_setField_rec hz₁ (by simp) fun h₂ hz₂ hs₂=>?_
 exact h h₂ hz₂ (Heap.SameBut.trans hs₁ hs₂)
theorem enum_next {n a:Nat}{t:Bool}{k:Nat}{xs:Array Value}{x old f0:Value}{f1:Bool}{Q:Value→Shared→Prop} (hf:Free0 f0)
  (he:IsEn s.heap (n+1) n f0 f1 k old) (i1:cP s.heap t n a k) (s1:bN s.heap t a xs) (l1:a < n) (hx:xs[k]? = some x)
  (hQ:∀ (T:Nat) h' f0' f1' old',s.heap.objs.size≤T→Free0 f0'→IsEn h' (n+1) n f0' f1' ((k:Int)+1) old'→cP h' t n a (k+1)→cH h' T #[.int k s.toks,x]→
   (∀ (c:Nat) o,(c < n∨n+1 < c)→s.heap.get? c=some o→h'.get? c=some o)→Q (.ref T) { s with heap:=h',toks:=s.toks+1 }) :
  wpAny (model prog w) A (Builtin.«enumerate.__next__» ⟨[.ref (n+1)],[]⟩) (fun fin s'=>∃ v,fin=.done (.ret v)∧Q v s') E s:=by
 obtain⟨hp,g,d,tk,os⟩:=s
 have helt:n+1 < hp.objs.size:=Heap.lt_size he
 show wpAny _ _ (field (.ref (n+1)) 2 >>= _) _ _ _
 refine wpAny_bind (wpAny_field he rfl (x:=.ref n) rfl ?_)
 refine wpAny_bind (bB i1 s1 hx fun h₁ i1₁ hs₁=>?_)
 replace hs₁:Heap.SameBut n hp h₁:=hs₁
 have he₁:IsEn h₁ (n+1) n f0 f1 k old:=ex hs₁ (by omega) he
 show wpAny _ _ (field (.ref (n+1)) 3 >>= _) _ _ ⟨h₁,g,d,tk,os⟩
 refine wpAny_bind (wpAny_field he₁ rfl (x:=rawInt k) rfl ?_)
 show wpAny _ _ (field (.ref (n+1)) 4 >>= _) _ _ ⟨h₁,g,d,tk,os⟩
 refine wpAny_bind (wpAny_field he₁ rfl (x:=.none) rfl ?_)
 show wpAny _ _ (mkInt k >>= _) _ _ ⟨h₁,g,d,tk,os⟩
 refine wpAny_bind (wpAny_mkInt ?_)
 show wpAny _ _ (setField (.ref (n+1)) 3 (rawInt ((k:Int)+1)) >>= _) _ _ ⟨h₁,g,d,tk+1,os⟩
 refine wpAny_bind (wpAny_setField_rec he₁ (by simp) fun h₂ he₂ hs₂=>?_)
 replace hs₂:Heap.SameBut (n+1) h₁ h₂:=hs₂
 replace he₂:IsEn h₂ (n+1) n f0 f1 ((k:Int)+1) old:=he₂
 show wpAny _ _ (setField (.ref (n+1)) 4 .none >>= _) _ _ ⟨h₂,g,d,tk+1,os⟩
 refine wpAny_bind (wpAny_setField_rec he₂ (by simp) fun h₃ he₃ hs₃=>?_)
 replace hs₃:Heap.SameBut (n+1) h₂ h₃:=hs₃
 replace he₃:IsEn h₃ (n+1) n f0 f1 ((k:Int)+1) old:=he₃
 show wpAny _ _ (newTuple [.int k tk,x] >>= _) _ _ ⟨h₃,g,d,tk+1,os⟩
 refine wpAny_bind (wpAny_newTuple ?_)
 have he₄:IsEn (h₃.push { cls:=.type "tuple",data:=.seq #[.int k tk,x] }) (n+1) n f0 f1 ((k:Int)+1) old:=Heap.get?_push_of_some _ he₃
 have hsz:h₃.objs.size=hp.objs.size:=by rw[hs₃.1,hs₂.1,hs₁.1]
 have ht₄:cH (h₃.push { cls:=.type "tuple",data:=.seq #[.int k tk,x] }) h₃.objs.size #[.int k tk,x]:=Heap.get?_push_size _ rfl
 have k₄:∀ (c:Nat) o,(c < n∨n+1 < c)→hp.get? c=some o→(h₃.push { cls:=.type "tuple",data:=.seq #[.int k tk,x] }).get? c=some o:=fun c o hc e=>
  Heap.get?_push_of_some _ (ex hs₃ (by omega) (ex hs₂ (by omega) (ex hs₁ (by omega) e)))
 have i1₄:cP (h₃.push { cls:=.type "tuple",data:=.seq #[.int k tk,x] }) t n a (k+1):=((i1₁.ext hs₂ (by omega)).ext hs₃ (by omega)).at fun o e=>Heap.get?_push_of_some _ e
 have hlt₃:n+1 < h₃.objs.size:=by rw[hsz];exact helt
 generalize hh₄:h₃.push { cls:=.type "tuple",data:=.seq #[.int k tk,x] }=h₄ at he₄ ht₄ k₄ i1₄
 have hTle:hp.objs.size≤h₃.objs.size:=Nat.le_of_eq hsz.symm
 show wpAny _ _ (Builtin.SmallTypes.ownedTupleIsFree (.ref (n+1)) >>= _) _ _ ⟨h₄,g,d,tk+1,os⟩
 refine wpAny_bind (ownedE_free he₄ hf ?_ ?_)
 ·simp only [if_true]
  refine wpAny_bind (wpAny_rule ?_)
  refine wpAny_bind (wpAny_field he₄ rfl (x:=old) rfl ?_)
  refine wpAny_bind (wpAny_setField_rec he₄ (by simp) fun h₅ he₅ hs₅=>?_)
  replace hs₅:Heap.SameBut (n+1) h₄ h₅:=hs₅
  replace he₅:IsEn h₅ (n+1) n f0 f1 ((k:Int)+1) x:=he₅
  refine wpAny_bind (handOutE (s:=⟨h₅,g,d,tk+1,os⟩) he₅ fun h₆ he₆ hs₆=>?_)
  replace hs₆:Heap.SameBut (n+1) h₅ h₆:=hs₆
  refine wpAny_bind (wpAny_letGo (wpAny_pure ⟨_,rfl,?_⟩))
  exact hQ h₃.objs.size h₆ _ _ _ hTle (.inr ⟨_,rfl⟩) he₆ ((i1₄.ext hs₅ (by omega)).ext hs₆ (by omega)) (ex hs₆ (by omega) (ex hs₅ (by omega) ht₄)) fun c o hc e=>ex hs₆ (by omega) (ex hs₅ (by omega) (k₄ c o hc e))
 ·intro h₅ he₅ hs₅
  replace hs₅:Heap.SameBut (n+1) h₄ h₅:=hs₅
  simp only [Bool.false_eq_true,if_false]
  refine wpAny_pure ⟨_,rfl,?_⟩
  exact hQ h₃.objs.size h₅ _ _ _ hTle hf he₅ (i1₄.ext hs₅ (by omega)) (ex hs₅ (by omega) ht₄) fun c o hc e=>ex hs₅ (by omega) (k₄ c o hc e)
theorem enum_end {n a:Nat}{t:Bool}{k:Nat}{xs:Array Value}{old f0:Value}{f1:Bool}{Q:Fin→Shared→Prop} (hh:A.handled=none)
  (he:IsEn s.heap (n+1) n f0 f1 k old) (i1:cP s.heap t n a k) (s1:bN s.heap t a xs) (hx:xs[k]? = none)
  (hE:∀ h' e,(∀ (c:Nat) o,(c < n∨n+1 < c)→s.heap.get? c=some o→h'.get? c=some o)→(∃ o,h'.get? e=some o∧o.cls=.type "StopIteration")→E (.ref e) { s with heap:=h' }) :
  wpAny (model prog w) A (Builtin.«enumerate.__next__» ⟨[.ref (n+1)],[]⟩) Q E s:=by
 show wpAny _ _ (field (.ref (n+1)) 2 >>= _) _ _ _
 refine wpAny_bind (wpAny_field he rfl (x:=.ref n) rfl ?_)
 refine wpAny_bind (cF hh i1 s1 hx fun h' e hk he'=>hE h' e (fun c o hc q=>hk c o (show @Ne Nat c n by omega) q) he')
theorem pyNext_enum {e it:Addr}{f0:Value}{f1:Bool}{i:Int}{old:Value}{Q:Option Value→Shared→Prop} (he:IsEn s.heap e it f0 f1 i old)
  (h:wpAny (model prog w) A.in1 (Builtin.«enumerate.__next__» ⟨[.ref e],[]⟩) (fun fin s'=>∃ v,fin=.done (.ret v)∧Q (some v) s') (fun e s'=>(∃ a o,e=.ref a∧s'.heap.get? a=some o∧o.cls=.type "StopIteration")∧Q none s') s) :
  wpAny (model prog w) A (pyNext (.ref e)) Q E s:=by
 have hT:s.TypeIs (.ref e) "enumerate" := ⟨_,he,rfl⟩
 unfold pyNext
 refine wpAny_bind (wpAny_attempt (wpAny_callSpecial?_slot (name:=Str.ofString "__next__") hT F.slot_enumerate_next
  (wpAny_call_entry F.slot_enumerate_next hT F.entry_enumerate_next (wpAny_mono h (fun fin s' h'=>?_) fun e s' h'=>?_) (F.args_enumerate_next_1 _))))
 ·obtain⟨v,rfl,q⟩:=h'
  exact⟨v,rfl,wpAny_pure q⟩
 ·obtain⟨⟨a,o,rfl,ho,hc⟩,q⟩:=h'
  exact wpAny_bind (wpAny_isInstance (T := "StopIteration") (b:=true) ⟨o,ho,hc⟩ isSubtype_stop (wpAny_pure q))
theorem letGo_enum {tg:Expr}{e it T:Addr}{f0:Value}{f1:Bool}{i:Int}{old:Value}{Q:Unit→Shared→Prop} (hf:Free0 f0) (hz:IsEn s.heap e it f0 f1 i old)
  (hQ:∀ h' f0',Free0 f0'→IsEn h' e it f0' f1 i old→Heap.SameBut e s.heap h'→Q () { s with heap:=h' }):wpAny (model prog w) A (letOwnedTupleGo tg (.ref e) (.ref T)) Q E s:=by
 have same:Q () s:=hQ s.heap f0 hf hz (Heap.SameBut.refl ..)
 have core:wpAny (model prog w) A (do
   let o ← load e
   match o.cls,o.data with
   | .type n,.fields vs=>
    if ["enumerate","zip","dict_itemiterator","dict_reverseitemiterator","odict_iterator","itertools.zip_longest","itertools.pairwise"].contains n && vs[0]? == some (rawInt T) then
     rule "for.unpacks-the-owned-tuple"
     updateField e 0 .none
   | _,_=>pure ()) Q E s:=by
  refine wpAny_bind (wpAny_load hz ?_)
  show wpAny _ _ (if (["enumerate","zip","dict_itemiterator","dict_reverseitemiterator","odict_iterator","itertools.zip_longest","itertools.pairwise"].contains "enumerate" &&
   (#[f0,.bool f1,.ref it,rawInt i,.none,old]:Array Value)[0]? == some (rawInt T))=true then _ else _) Q E s
  split
  ·refine wpAny_bind (wpAny_rule ?_)
   show wpAny _ _ (setField (.ref e) 0 .none) Q E s
   exact wpAny_setField_rec hz (by simp) fun h' hz' hs'=>hQ h' .none (.inl rfl) hz' hs'
  ·exact wpAny_pure same
 unfold letOwnedTupleGo
 cases tg <;> first
  | exact wpAny_pure same
  | exact core
theorem pyIter_enum {e it:Addr}{f0:Value}{f1:Bool}{i:Int}{old:Value}{Q:Value→Shared→Prop} (he:IsEn s.heap e it f0 f1 i old) (h:Q (.ref e) s):wpAny (model prog w) A (pyIter (.ref e)) Q E s:=by
 have hT:s.TypeIs (.ref e) "enumerate" := ⟨_,he,rfl⟩
 refine wpAny_pyIter_slot hT F.slot_enumerate_iter (wpAny_call_entry F.slot_enumerate_iter hT F.entry_enumerate_iter ?_ (F.args_enumerate_iter_1 _))
 show wpAny _ _ (ret (.ref e)) _ _ s
 exact wpAny_pure ⟨_,rfl,"enumerate",_,hT,F.slot_enumerate_next.lookup,h⟩
theorem meets_enum (t:Bool) (l:Addr) (xs:Array Value) :
  Meets (Builtin.«enumerate.__new__» ⟨[.type "enumerate",.ref l],[]⟩) (fun _ R s=>bN s.heap t l xs∧
   R (.ok (.ret (.ref (zA s.heap t l).objs.size))) { s with heap:=(zA s.heap t l).push { cls:=.type "enumerate",data:=.fields #[.none,.bool false,.ref s.heap.objs.size,rawInt 0,.none,.none] } }):=
 .of_wp fun prog w A R s h=>by
  obtain⟨hp,g,d,tk,os⟩:=s;obtain⟨hl,h⟩:=h
  have hsub:=sub_enumerate
  have hL:bN (Shared.heap ⟨hp,g,d,tk,os⟩) t l xs:=hl
  wp_walk
  refine wpAny_stack_any fun st=>wpAny_pure ?_
  split
  ·rename_i c _ _ _ _ _
   cases (c == Value.type "enumerate")
   ·wp_walk using dG hL
    exact⟨_,rfl,h⟩
   ·wp_walk using dG hL
    exact⟨_,rfl,h⟩
  ·wp_walk using dG hL
   exact⟨_,rfl,h⟩
theorem call_enum {t:Bool}{l:Addr}{xs:Array Value}{Q:Value→Shared→Prop} (hL:bN s.heap t l xs)
  (h:∀ h',IsEn h' (s.heap.objs.size+1) s.heap.objs.size .none false 0 .none→cP h' t s.heap.objs.size l 0→(∀ b o,s.heap.get? b=some o→h'.get? b=some o)→Q (.ref (s.heap.objs.size+1)) { s with heap:=h' }) :
  wpAny (model prog w) A (call (.type "enumerate") [.ref l]) Q E s:=by
 refine callType_new F.called_enumerate (by decide) (F.typeCall_enumerate_1 _) (F.newCall_enumerate_1 _) (fun obj=>F.args_object_init_2 obj _) F.entry_enumerate_new (meets_enum t l xs) ⟨hL,?_⟩
 have hz:(zA s.heap t l).objs.size=s.heap.objs.size+1:=Heap.size_push ..
 show _∧_
 rw[hz]
 have he:IsEn ((zA s.heap t l).push { cls:=.type "enumerate",data:=.fields #[.none,.bool false,.ref s.heap.objs.size,rawInt 0,.none,.none] }) (s.heap.objs.size+1) s.heap.objs.size .none false 0 .none:=by
  have:=Heap.get?_push_size (zA s.heap t l) (o:={ cls:=.type "enumerate",data:=.fields #[.none,.bool false,.ref s.heap.objs.size,rawInt 0,.none,.none] }) rfl
  rw[hz] at this;exact this
 exact⟨⟨_,he,rfl⟩,h _ he (itObj_is (Heap.get?_push_of_some _ (Heap.get?_push_size _ rfl))) fun b o x=>Heap.get?_push_of_some _ (Heap.get?_push_of_some _ x)⟩
end
end TwZ
namespace L2
open PySem PySem.Spec PyProof.Rows TwZ
noncomputable def SqB (K:PySem.W.Frag) (H:Hp) (t:Bool) (a:Addr) (xs:List V):Prop:=if t=true then bT K H a xs else bZ K H a xs
section
variable {X:Cx}{pins:List (Addr×Obj)}{σ:St}{H:Hp}{s:Shared}
theorem Inv.src {t:Bool}{a:Addr}{xs:List V} (I:Inv X pins σ H s) (h:SqB X.K H t a xs):∃ its:List Value,bK xs its∧bN s.heap t a its.toArray∧xs.length≤sizeLine:=by
 cases t with
 | true=>
  obtain⟨its,r,p,z⟩:=I.tuple h
  exact⟨its,r,(show s.heap.IsTuple a its.toArray from p),z⟩
 | false=>
  obtain⟨its,r,p,z⟩:=I.list h
  exact⟨its,r,p.isList,z⟩
theorem Inv.src_inj {t:Bool}{a:Addr}{xs ys:List V} (I:Inv X pins σ H s) (h:SqB X.K H t a xs) (h':SqB X.K H t a ys):xs=ys:=by
 cases t with
 | true=>exact I.tuple_inj h h'
 | false=>exact I.list_inj h h'
theorem Inv.turnedT {fp:List Addr}{h':Heap}{t':Nat}{T:Addr}{xs:List V}{its:List Value} (I:Inv X pins σ H s) (hf:∀ b∈fp,FpOk X pins H b) (k:∀ b o,b∉fp→s.heap.get? b=some o→h'.get? b=some o)
  (hT:s.heap.objs.size≤T) (hv:bK xs its) (hz:xs.length≤sizeLine) (ht:IsTup h' T its.toArray):Inv X pins σ (upd H T (.tup xs)) { s with heap:=h',toks:=t' }:=by
 have hn:H T=none:=I.hok.fresh hT
 have nT:∀ b u,H b=some u→b≠T:=fun b u e=>aJ e hn
 have nfp:∀ b u,H b=some u→b∉fp:=fun b u e hb=>by rw[(hf b hb).1] at e;cases e
 have nTh:∀ b o,s.heap.get? b=some o→b≠T:=fun b o e z=>by rw[z] at e;exact absurd (Nat.lt_of_lt_of_le (Heap.lt_size e) hT) (Nat.lt_irrefl _)
 refine I.step (g':=s.gens) (d':=s.drawn) (ch:=fp) (fun b hb=>?_) (fun b o _ _ hc e _=>k b o hc e) (fun b o _ _ hc e _=>⟨o.slots,k b o hc e⟩) (fun b o hc e n=>by rw[aI (nTh b o e)];exact n)
  (fun b o hc e=>⟨o,k b o hc e⟩) (fun b ys e=>by rw[aI (nT b _ e)];exact e) (fun b o u e=>by rw[aI (nT b _ e)];exact e) (fun b ps e=>⟨#[],by rw[aI (nT b _ e),e];simp⟩) (fun m hm=>?_) (fun b u e=>?_) I.bare
 ·obtain⟨_,f1,_,f3,f4,f5⟩:=hf b hb
  exact⟨f3,f1,f4,f5⟩
 ·obtain⟨o,es,ep,ho,r⟩:=hm
  exact⟨o,es,ep,k _ o (fun hb=>(hf _ hb).2.1 rfl) ho,r⟩
 ·by_cases hb:b=T
  ·subst hb
   rw[aB] at e
   cases e
   exact⟨hz,its,hv,ht⟩
  ·rw[aI hb] at e
   refine (I.hok b u e).stay (fun c v hc q=>k c v ?_ q) (fun c q=>by rw[aI (nT c _ q)];exact q) fun c ys q=>by rw[aI (nT c _ q)];exact q
   rcases hc with z | z
   ·rw[z];exact nfp b u e
   ·exact nfp c _ z
theorem Inv.turnedL {fp:List Addr}{h':Heap}{t':Nat} (I:Inv X pins σ H s) (hf:∀ b∈fp,FpOk X pins H b) (k:∀ b o,b∉fp→s.heap.get? b=some o→h'.get? b=some o):Inv X pins σ H { s with heap:=h',toks:=t' }:=by
 have nfp:∀ b u,H b=some u→b∉fp:=fun b u e hb=>by rw[(hf b hb).1] at e;cases e
 refine I.step (g':=s.gens) (d':=s.drawn) (ch:=fp) (fun b hb=>?_) (fun b o _ _ hc e _=>k b o hc e) (fun b o _ _ hc e _=>⟨o.slots,k b o hc e⟩) (fun b o hc e n=>n)
  (fun b o hc e=>⟨o,k b o hc e⟩) (fun b ys e=>e) (fun b o u e=>e) (fun b ps e=>⟨#[],by rw[e];simp⟩) (fun m hm=>?_) (fun b u e=>?_) I.bare
 ·obtain⟨_,f1,_,f3,f4,f5⟩:=hf b hb
  exact⟨f3,f1,f4,f5⟩
 ·obtain⟨o,es,ep,ho,r⟩:=hm
  exact⟨o,es,ep,k _ o (fun hb=>(hf _ hb).2.1 rfl) ho,r⟩
 ·refine (I.hok b u e).stay (fun c v hc q=>k c v ?_ q) (fun c q=>q) fun c ys q=>q
  rcases hc with z | z
  ·rw[z];exact nfp b u e
  ·exact nfp c _ z
end
noncomputable def Itz3 (K:PySem.W.Frag) (t1 t2 t3:Bool) (a1 a2 a3:Addr):It:=
 ⟨fun i H=>∃ xs ys zs x y z,SqB K H t1 a1 xs∧SqB K H t2 a2 ys∧SqB K H t3 a3 zs∧xs[i]? = some x∧ys[i]? = some y∧zs[i]? = some z,
  fun i H v H'=>∃ T x y z,H T=none∧v=.ref T∧(∀ xs,SqB K H t1 a1 xs→xs[i]? = some x)∧(∀ xs,SqB K H t2 a2 xs→xs[i]? = some y)∧(∀ xs,SqB K H t3 a3 xs→xs[i]? = some z)∧H'=upd H T (.tup [x,y,z]),
  fun i H=>∃ xs ys zs,SqB K H t1 a1 xs∧SqB K H t2 a2 ys∧SqB K H t3 a3 zs∧(xs.length≤i∨ys.length≤i∨zs.length≤i)⟩
noncomputable def tnz3 (n a1 a2 a3:Nat) (t1 t2 t3:Bool) (i:Nat) (h:Heap):Prop:=
 ∃ f0 f1 c1 c2 c3,Free0 f0∧IsZ h (n+5) (n+3) (n+4) f0 f1∧cH h (n+3) #[.ref n,.ref (n+1),.ref (n+2)]∧cH h (n+4) #[c1,c2,c3]∧
  cP h t1 n a1 i∧cP h t2 (n+1) a2 i∧cP h t3 (n+2) a3 i∧a1 < n∧a2 < n∧a3 < n
noncomputable def fpz (n:Nat) (m:Nat):List Addr:=(List.range m).map fun k=>(n+k:Nat)
theorem cR {n m:Nat}{b:Addr}:b∈fpz n m↔∃ k,k < m∧b=n+k:=by
 unfold fpz
 rw[List.mem_map]
 constructor
 ·rintro⟨k,hk,e⟩;exact⟨k,List.mem_range.mp hk,e.symm⟩
 ·rintro⟨k,hk,e⟩;exact⟨k,List.mem_range.mpr hk,e.symm⟩
theorem not_fpz {n m:Nat}{b:Nat} (h:(b:Addr)∉fpz n m) (hm:0 < m):b < n∨n+(m - 1) < b:=by
 by_cases h1:b < n
 ·exact .inl h1
 ·by_cases h2:n+(m - 1) < b
  ·exact .inr h2
  ·exact absurd (cR.mpr ⟨b - n,by omega,by show (b:Nat)=n+(b - n);omega⟩) h
theorem turn_zip3 {P:Program}{w:World}{K:PySem.W.Frag}{tg:Expr} (n a1 a2 a3:Nat) (t1 t2 t3:Bool):Turn P w K tg (Itz3 K t1 t2 t3 a1 a2 a3) (fpz n 6) (n+5) (tnz3 n a1 a2 a3 t1 t2 t3) where
 mem:=cR.mpr ⟨5,by decide,rfl⟩
 obj:=fun i h st b hb=>by
  obtain⟨f0,f1,c1,c2,c3,hf,hz,hTI,hTO,i1,i2,i3,_⟩:=st
  obtain⟨k,hk,rfl⟩:=cR.mp hb
  have hk':k=0∨k=1∨k=2∨k=3∨k=4∨k=5:=by omega
  rcases hk' with rfl | rfl | rfl | rfl | rfl | rfl
  ·exact i1.obj
  ·exact i2.obj
  ·exact i3.obj
  ·exact⟨_,hTI,fun v z=>by cases z⟩
  ·exact⟨_,hTO,fun v z=>by cases z⟩
  ·exact⟨_,hz,fun v z=>by cases z⟩
 keep:=fun i h h' st k=>by
  obtain⟨f0,f1,c1,c2,c3,hf,hz,hTI,hTO,i1,i2,i3,l⟩:=st
  have m:∀ j,j < 6→((n+j:Nat):Addr)∈fpz n 6:=fun j hj=>cR.mpr ⟨j,hj,rfl⟩
  exact⟨f0,f1,c1,c2,c3,hf,k _ (m 5 (by decide)) _ hz,k _ (m 3 (by decide)) _ hTI,k _ (m 4 (by decide)) _ hTO,i1.at fun o e=>k _ (m 0 (by decide)) _ e,i2.at fun o e=>k _ (m 1 (by decide)) _ e,i3.at fun o e=>k _ (m 2 (by decide)) _ e,l⟩
 item:=by
  intro X hP hw hK hc i pins s σ H E I hf st hg
  subst hP hw hK
  obtain⟨f0,f1,c1,c2,c3,f,hz,hTI,hTO,i1,i2,i3,l1,l2,l3⟩:=st
  obtain⟨xs,ys,zs,x,y,z,q1,q2,q3,hx,hy,hw⟩:=hg
  obtain⟨us,r1,p1,_⟩:=I.src q1
  obtain⟨vs,r2,p2,_⟩:=I.src q2
  obtain⟨ws,r3,p3,_⟩:=I.src q3
  obtain⟨u,hu,ru⟩:=r1.get hx
  obtain⟨v,hv,rv⟩:=r2.get hy
  obtain⟨w',hw',rw'⟩:=r3.get hw
  refine pyNext_zip hz (zip3_next f hz hTI hTO i1 i2 i3 p1 p2 p3 l1 l2 l3 (by simpa using hu) (by simpa using hv) (by simpa using hw') fun T h' f0' f1' d1 d2 d3 hT f' hz' hTI' hTO' i1' i2' i3' hTp hk=>?_)
  refine⟨_,rfl,letGo_zip (s:={ s with heap:=h' }) f' hz' fun h'' f0'' f'' hz'' hs=>?_⟩
  replace hs:Heap.SameBut (n+5) h' h'':=hs
  have hTn:n+5 < T:=Nat.lt_of_lt_of_le (Heap.lt_size hz) hT
  have hTp':cH h'' T #[u,v,w']:=ex hs (by omega) hTp
  have IT:Inv X pins σ (upd H T (.tup [x,y,z])) { s with heap:=h'',toks:=s.toks }:=I.turnedT (fp:=fpz n 6) hf (fun b o hb e=>ex (c:=b) hs (by have:=not_fpz (b:=b) hb (by decide);have:n+(6 - 1)=n+5:=rfl;omega) (hk b o (not_fpz (b:=b) hb (by decide)) e)) hT (its:=[u,v,w']) (.cons ru (.cons rv (.cons rw' .nil))) (by show 3≤sizeLine;decide) ⟨_,hTp',rfl,_,rfl⟩
  refine⟨.ref T,upd H T (.tup [x,y,z]),IT,rfl,
   ⟨T,x,y,z,I.hok.fresh hT,rfl,fun as q=>by rw[I.src_inj q q1];exact hx,fun as q=>by rw[I.src_inj q q2];exact hy,fun as q=>by rw[I.src_inj q q3];exact hw,rfl⟩,
   ⟨f0'',f1',d1,d2,d3,f'',hz'',ex hs (by omega) hTI',ex hs (by omega) hTO',i1'.ext hs (by omega),i2'.ext hs (by omega),i3'.ext hs (by omega),l1,l2,l3⟩,fun b hb=>?_⟩
  ·obtain⟨j,hj,rfl⟩:=cR.mp hb
   rw[aI (show ((n+j:Nat):Addr)≠T from (show @Ne Nat (n+j) T by omega))]
   exact (hf _ hb).1
 done:=by
  intro X hP hw hK hc i pins s σ H E I hf st hg
  subst hP hw hK
  obtain⟨f0,f1,c1,c2,c3,f,hz,hTI,hTO,i1,i2,i3,l1,l2,l3⟩:=st
  obtain⟨xs,ys,zs,q1,q2,q3,hend⟩:=hg
  obtain⟨us,r1,p1,_⟩:=I.src q1
  obtain⟨vs,r2,p2,_⟩:=I.src q2
  obtain⟨ws,r3,p3,_⟩:=I.src q3
  have e1:=r1.length
  have e2:=r2.length
  have e3:=r3.length
  refine pyNext_zip hz (zip3_end (I.ok.hd hc) f hz hTI hTO i1 i2 i3 p1 p2 p3 l1 l2 l3 (by
   rcases hend with h | h | h
   ·exact .inl (by simp;omega)
   ·exact .inr (.inl (by simp;omega))
   ·exact .inr (.inr (by simp;omega))) fun h' e hk he=>?_)
  obtain⟨o,ho,hcl⟩:=he
  exact⟨⟨e,o,rfl,ho,hcl⟩,rfl,I.turnedL (t':=s.toks) hf fun b o hb q=>hk b o (not_fpz (b:=b) hb (by decide)) q⟩
 self:=fun _ _ _ _ _ st h=>by
  obtain⟨f0,f1,c1,c2,c3,f,hz,_⟩:=st
  exact pyIter_zip hz h
noncomputable def Itz2 (K:PySem.W.Frag) (t1 t2:Bool) (a1 a2:Addr):It:=
 ⟨fun i H=>∃ xs ys x y,SqB K H t1 a1 xs∧SqB K H t2 a2 ys∧xs[i]? = some x∧ys[i]? = some y,
  fun i H v H'=>∃ T x y,H T=none∧v=.ref T∧(∀ xs,SqB K H t1 a1 xs→xs[i]? = some x)∧(∀ xs,SqB K H t2 a2 xs→xs[i]? = some y)∧H'=upd H T (.tup [x,y]),
  fun i H=>∃ xs ys,SqB K H t1 a1 xs∧SqB K H t2 a2 ys∧(xs.length≤i∨ys.length≤i)⟩
noncomputable def tnz2 (n a1 a2:Nat) (t1 t2:Bool) (i:Nat) (h:Heap):Prop:=
 ∃ f0 f1 c1 c2,Free0 f0∧IsZ h (n+4) (n+2) (n+3) f0 f1∧cH h (n+2) #[.ref n,.ref (n+1)]∧cH h (n+3) #[c1,c2]∧cP h t1 n a1 i∧cP h t2 (n+1) a2 i∧a1 < n∧a2 < n
theorem turn_zip2 {P:Program}{w:World}{K:PySem.W.Frag}{tg:Expr} (n a1 a2:Nat) (t1 t2:Bool):Turn P w K tg (Itz2 K t1 t2 a1 a2) (fpz n 5) (n+4) (tnz2 n a1 a2 t1 t2) where
 mem:=cR.mpr ⟨4,by decide,rfl⟩
 obj:=fun i h st b hb=>by
  obtain⟨f0,f1,c1,c2,hf,hz,hTI,hTO,i1,i2,_⟩:=st
  obtain⟨k,hk,rfl⟩:=cR.mp hb
  have hk':k=0∨k=1∨k=2∨k=3∨k=4:=by omega
  rcases hk' with rfl | rfl | rfl | rfl | rfl
  ·exact i1.obj
  ·exact i2.obj
  ·exact⟨_,hTI,fun v z=>by cases z⟩
  ·exact⟨_,hTO,fun v z=>by cases z⟩
  ·exact⟨_,hz,fun v z=>by cases z⟩
 keep:=fun i h h' st k=>by
  obtain⟨f0,f1,c1,c2,hf,hz,hTI,hTO,i1,i2,l⟩:=st
  have m:∀ j,j < 5→((n+j:Nat):Addr)∈fpz n 5:=fun j hj=>cR.mpr ⟨j,hj,rfl⟩
  exact⟨f0,f1,c1,c2,hf,k _ (m 4 (by decide)) _ hz,k _ (m 2 (by decide)) _ hTI,k _ (m 3 (by decide)) _ hTO,i1.at fun o e=>k _ (m 0 (by decide)) _ e,i2.at fun o e=>k _ (m 1 (by decide)) _ e,l⟩
 item:=by
  intro X hP hw hK hc i pins s σ H E I hf st hg
  subst hP hw hK
  obtain⟨f0,f1,c1,c2,f,hz,hTI,hTO,i1,i2,l1,l2⟩:=st
  obtain⟨xs,ys,x,y,q1,q2,hx,hy⟩:=hg
  obtain⟨us,r1,p1,_⟩:=I.src q1
  obtain⟨vs,r2,p2,_⟩:=I.src q2
  obtain⟨u,hu,ru⟩:=r1.get hx
  obtain⟨v,hv,rv⟩:=r2.get hy
  refine pyNext_zip hz (zip2_next f hz hTI hTO i1 i2 p1 p2 l1 l2 (by simpa using hu) (by simpa using hv) fun T h' f0' f1' d1 d2 hT f' hz' hTI' hTO' i1' i2' hTp hk=>?_)
  refine⟨_,rfl,letGo_zip (s:={ s with heap:=h' }) f' hz' fun h'' f0'' f'' hz'' hs=>?_⟩
  replace hs:Heap.SameBut (n+4) h' h'':=hs
  have hTn:n+4 < T:=Nat.lt_of_lt_of_le (Heap.lt_size hz) hT
  have hTp':cH h'' T #[u,v]:=ex hs (by omega) hTp
  have IT:Inv X pins σ (upd H T (.tup [x,y])) { s with heap:=h'',toks:=s.toks }:=I.turnedT (fp:=fpz n 5) hf (fun b o hb e=>ex (c:=b) hs (by have:=not_fpz (b:=b) hb (by decide);have:n+(5 - 1)=n+4:=rfl;omega) (hk b o (not_fpz (b:=b) hb (by decide)) e)) hT (its:=[u,v]) (.cons ru (.cons rv .nil)) (by show 2≤sizeLine;decide) ⟨_,hTp',rfl,_,rfl⟩
  refine⟨.ref T,upd H T (.tup [x,y]),IT,rfl,
   ⟨T,x,y,I.hok.fresh hT,rfl,fun as q=>by rw[I.src_inj q q1];exact hx,fun as q=>by rw[I.src_inj q q2];exact hy,rfl⟩,
   ⟨f0'',f1',d1,d2,f'',hz'',ex hs (by omega) hTI',ex hs (by omega) hTO',i1'.ext hs (by omega),i2'.ext hs (by omega),l1,l2⟩,fun b hb=>?_⟩
  ·obtain⟨j,hj,rfl⟩:=cR.mp hb
   rw[aI (show ((n+j:Nat):Addr)≠T from (show @Ne Nat (n+j) T by omega))]
   exact (hf _ hb).1
 done:=by
  intro X hP hw hK hc i pins s σ H E I hf st hg
  subst hP hw hK
  obtain⟨f0,f1,c1,c2,f,hz,hTI,hTO,i1,i2,l1,l2⟩:=st
  obtain⟨xs,ys,q1,q2,hend⟩:=hg
  obtain⟨us,r1,p1,_⟩:=I.src q1
  obtain⟨vs,r2,p2,_⟩:=I.src q2
  have e1:=r1.length
  have e2:=r2.length
  refine pyNext_zip hz (zip2_end (I.ok.hd hc) f hz hTI hTO i1 i2 p1 p2 l1 l2 (by
   rcases hend with h | h
   ·exact .inl (by simp;omega)
   ·exact .inr (by simp;omega)) fun h' e hk he=>?_)
  obtain⟨o,ho,hcl⟩:=he
  exact⟨⟨e,o,rfl,ho,hcl⟩,rfl,I.turnedL (t':=s.toks) hf fun b o hb q=>hk b o (not_fpz (b:=b) hb (by decide)) q⟩
 self:=fun _ _ _ _ _ st h=>by
  obtain⟨f0,f1,c1,c2,f,hz,_⟩:=st
  exact pyIter_zip hz h
noncomputable def Ite (K:PySem.W.Frag) (t:Bool) (a:Addr):It:=
 ⟨fun i H=>∃ xs x,SqB K H t a xs∧xs[i]? = some x,
  fun i H v H'=>∃ T x,H T=none∧v=.ref T∧(∀ xs,SqB K H t a xs→xs[i]? = some x)∧H'=upd H T (.tup [.int i,x]),
  fun i H=>∃ xs,SqB K H t a xs∧xs.length≤i⟩
noncomputable def tne (n a:Nat) (t:Bool) (i:Nat) (h:Heap):Prop:=∃ f0 f1 old,Free0 f0∧IsEn h (n+1) n f0 f1 i old∧cP h t n a i∧a < n
theorem turn_enum {P:Program}{w:World}{K:PySem.W.Frag}{tg:Expr} (n a:Nat) (t:Bool):Turn P w K tg (Ite K t a) (fpz n 2) (n+1) (tne n a t) where
 mem:=cR.mpr ⟨1,by decide,rfl⟩
 obj:=fun i h st b hb=>by
  obtain⟨f0,f1,old,hf,he,i1,_⟩:=st
  obtain⟨k,hk,rfl⟩:=cR.mp hb
  have hk':k=0∨k=1:=by omega
  rcases hk' with rfl | rfl
  ·exact i1.obj
  ·exact⟨_,he,fun v z=>by cases z⟩
 keep:=fun i h h' st k=>by
  obtain⟨f0,f1,old,hf,he,i1,l⟩:=st
  have m:∀ j,j < 2→((n+j:Nat):Addr)∈fpz n 2:=fun j hj=>cR.mpr ⟨j,hj,rfl⟩
  exact⟨f0,f1,old,hf,k _ (m 1 (by decide)) _ he,i1.at fun o e=>k _ (m 0 (by decide)) _ e,l⟩
 item:=by
  intro X hP hw hK hc i pins s σ H E I hf st hg
  subst hP hw hK
  obtain⟨f0,f1,old,f,he,i1,l1⟩:=st
  obtain⟨xs,x,q1,hx⟩:=hg
  obtain⟨us,r1,p1,_⟩:=I.src q1
  obtain⟨u,hu,ru⟩:=r1.get hx
  refine pyNext_enum he (enum_next f he i1 p1 l1 (by simpa using hu) fun T h' f0' f1' old' hT f' he' i1' hTp hk=>?_)
  refine⟨_,rfl,letGo_enum (s:={ s with heap:=h',toks:=s.toks+1 }) f' he' fun h'' f0'' f'' he'' hs=>?_⟩
  replace hs:Heap.SameBut (n+1) h' h'':=hs
  have hTn:n+1 < T:=Nat.lt_of_lt_of_le (Heap.lt_size he) hT
  have hTp':cH h'' T #[.int i s.toks,u]:=ex hs (by omega) hTp
  have IT:Inv X pins σ (upd H T (.tup [.int i,x])) { s with heap:=h'',toks:=s.toks+1 }:=I.turnedT (fp:=fpz n 2) hf (fun b o hb e=>ex (c:=b) hs (by have:=not_fpz (b:=b) hb (by decide);have:n+(2 - 1)=n+1:=rfl;omega) (hk b o (not_fpz (b:=b) hb (by decide)) e)) hT (its:=[.int i s.toks,u]) (.cons ⟨_,rfl⟩ (.cons ru .nil)) (by show 2≤sizeLine;decide) ⟨_,hTp',rfl,_,rfl⟩
  have he2:IsEn h'' (n+1) n f0'' f1' ((i+1:Nat):Int) old':=by
   have:((i+1:Nat):Int)=(i:Int)+1:=by push_cast;rfl
   rw[this];exact he''
  refine⟨.ref T,upd H T (.tup [.int i,x]),IT,rfl,⟨T,x,I.hok.fresh hT,rfl,fun as q=>by rw[I.src_inj q q1];exact hx,rfl⟩,⟨f0'',f1',old',f'',he2,i1'.ext hs (by omega),l1⟩,fun b hb=>?_⟩
  ·obtain⟨j,hj,rfl⟩:=cR.mp hb
   rw[aI (show ((n+j:Nat):Addr)≠T from (show @Ne Nat (n+j) T by omega))]
   exact (hf _ hb).1
 done:=by
  intro X hP hw hK hc i pins s σ H E I hf st hg
  subst hP hw hK
  obtain⟨f0,f1,old,f,he,i1,l1⟩:=st
  obtain⟨xs,q1,hend⟩:=hg
  obtain⟨us,r1,p1,_⟩:=I.src q1
  have e1:=r1.length
  refine pyNext_enum he (enum_end (I.ok.hd hc) he i1 p1 (by simp;omega) fun h' e hk he=>?_)
  obtain⟨o,ho,hcl⟩:=he
  exact⟨⟨e,o,rfl,ho,hcl⟩,rfl,I.turnedL (t':=s.toks) hf fun b o hb q=>hk b o (not_fpz (b:=b) hb (by decide)) q⟩
 self:=fun _ _ _ _ _ st h=>by
  obtain⟨f0,f1,old,f,he,_⟩:=st
  exact pyIter_enum he h
section
variable {X:Cx}{tg:Expr}
theorem boot_zip:bootBuiltins "zip" = some (.type "zip"):=by decide +kernel
theorem boot_enum:bootBuiltins "enumerate" = some (.type "enumerate"):=by decide +kernel
noncomputable def iZip2 (K:PySem.W.Frag) (ta:TA):TI:=fun σ H R=>ta σ H fun vs H1=>∃ t1 t2 a1 a2,vs=[.ref a1,.ref a2]∧(∃ xs,SqB K H1 t1 a1 xs)∧(∃ xs,SqB K H1 t2 a2 xs)∧R (Itz2 K t1 t2 a1 a2) H1
noncomputable def iZip3 (K:PySem.W.Frag) (ta:TA):TI:=fun σ H R=>ta σ H fun vs H1=>∃ t1 t2 t3 a1 a2 a3,vs=[.ref a1,.ref a2,.ref a3]∧(∃ xs,SqB K H1 t1 a1 xs)∧(∃ xs,SqB K H1 t2 a2 xs)∧(∃ xs,SqB K H1 t3 a3 xs)∧R (Itz3 K t1 t2 t3 a1 a2 a3) H1
noncomputable def iEnum (K:PySem.W.Frag) (ta:TA):TI:=fun σ H R=>ta σ H fun vs H1=>∃ t a,vs=[.ref a]∧(∃ xs,SqB K H1 t a xs)∧R (Ite K t a) H1
theorem pi_enum {a:Expr}{ta:TA}{p pos:Pos} (hg:Gl X "enumerate") (hm:X.mg "enumerate" = none) (ha:PA X [a] ta) (hs:starEach [a] X.env=[(false,eval a X.env)]:=by rfl):PI X tg (.Call (.Name "enumerate" p) [a] [] pos) (iEnum X.K ta):=by
 intro pins s σ H R I h
 refine Call_ (ld_blt I hg hm boot_enum (PyProof.Rows.callWith_type1 (cI (ha pos pins s σ H _ I h) fun us s1 ⟨vs,H1,I1,r1,q1⟩=>?_) hs rfl))
 obtain⟨t,a1,e,⟨xs,hq⟩,q⟩:=q1
 subst e
 cases r1 with
 | cons r rr=>
  cases rr
  cases r
  obtain⟨its,rv,p,hz⟩:=I1.src hq
  refine call_enum p fun h' he i1 hk=>?_
  refine pyIter_enum (s:={ s1 with heap:=h' }) he ?_
  refine⟨_,fpz s1.heap.objs.size 2,tne s1.heap.objs.size a1 t,_,H1,rfl,I1.kept (t':=s1.toks) hk,turn_enum _ _ _,⟨.none,false,.none,.inl rfl,he,i1,p.lt⟩,fun b hb=>?_,q⟩
  obtain⟨k,_,rfl⟩:=cR.mp hb
  exact I1.fpOk (Nat.le_add_right _ _) (I1.hok.fresh (Nat.le_add_right _ _))
theorem pi_zip2 {a b:Expr}{ta:TA}{p pos:Pos} (hg:Gl X "zip") (hm:X.mg "zip" = none) (ha:PA X [a,b] ta) (hs:starEach [a,b] X.env=[(false,eval a X.env),(false,eval b X.env)]:=by rfl) (hs2:starEach [b] X.env=[(false,eval b X.env)]:=by rfl) :
  PI X tg (.Call (.Name "zip" p) [a,b] [] pos) (iZip2 X.K ta):=by
 intro pins s σ H R I h
 refine Call_ (ld_blt I hg hm boot_zip (PyProof.Rows.callWith_type1 (cI (ha pos pins s σ H _ I h) fun us s1 ⟨vs,H1,I1,r1,q1⟩=>?_) (by rw[hs,hs2]) (by rw[hs2];rfl)))
 obtain⟨t1,t2,a1,a2,e,⟨xs,hq1⟩,⟨ys,hq2⟩,q⟩:=q1
 subst e
 cases r1 with
 | cons r rr=>
  cases rr with
  | cons r' rr=>
   cases rr
   cases r
   cases r'
   obtain⟨its,rv,p1,hz⟩:=I1.src hq1
   obtain⟨its2,rv2,p2,hz2⟩:=I1.src hq2
   refine call_zip2 p1 p2 fun h' hz' hTI hTO i1 i2 hk=>?_
   refine pyIter_zip (s:={ s1 with heap:=h' }) hz' ?_
   refine⟨_,fpz s1.heap.objs.size 5,tnz2 s1.heap.objs.size a1 a2 t1 t2,_,H1,rfl,I1.kept (t':=s1.toks) hk,turn_zip2 _ _ _ _ _,⟨.none,false,_,_,.inl rfl,hz',hTI,hTO,i1,i2,p1.lt,p2.lt⟩,fun b hb=>?_,q⟩
   obtain⟨k,_,rfl⟩:=cR.mp hb
   exact I1.fpOk (Nat.le_add_right _ _) (I1.hok.fresh (Nat.le_add_right _ _))
theorem pi_zip3 {a b c:Expr}{ta:TA}{p pos:Pos} (hg:Gl X "zip") (hm:X.mg "zip" = none) (ha:PA X [a,b,c] ta) (hs:starEach [a,b,c] X.env=[(false,eval a X.env),(false,eval b X.env),(false,eval c X.env)]:=by rfl)
  (hs2:starEach [b,c] X.env=[(false,eval b X.env),(false,eval c X.env)]:=by rfl) :
  PI X tg (.Call (.Name "zip" p) [a,b,c] [] pos) (iZip3 X.K ta):=by
 intro pins s σ H R I h
 refine Call_ (ld_blt I hg hm boot_zip (PyProof.Rows.callWith_type1 (cI (ha pos pins s σ H _ I h) fun us s1 ⟨vs,H1,I1,r1,q1⟩=>?_) (by rw[hs,hs2]) (by rw[hs2];rfl)))
 obtain⟨t1,t2,t3,a1,a2,a3,e,⟨xs,hq1⟩,⟨ys,hq2⟩,⟨zs,hq3⟩,q⟩:=q1
 subst e
 cases r1 with
 | cons r rr=>
  cases rr with
  | cons r' rr=>
   cases rr with
   | cons r'' rr=>
    cases rr
    cases r
    cases r'
    cases r''
    obtain⟨its,rv,p1,hz⟩:=I1.src hq1
    obtain⟨its2,rv2,p2,hz2⟩:=I1.src hq2
    obtain⟨its3,rv3,p3,hz3⟩:=I1.src hq3
    refine call_zip3 p1 p2 p3 fun h' hz' hTI hTO i1 i2 i3 hk=>?_
    refine pyIter_zip (s:={ s1 with heap:=h' }) hz' ?_
    refine⟨_,fpz s1.heap.objs.size 6,tnz3 s1.heap.objs.size a1 a2 a3 t1 t2 t3,_,H1,rfl,I1.kept (t':=s1.toks) hk,turn_zip3 _ _ _ _ _ _ _,⟨.none,false,_,_,_,.inl rfl,hz',hTI,hTO,i1,i2,i3,p1.lt,p2.lt,p3.lt⟩,fun b hb=>?_,q⟩
    obtain⟨k,_,rfl⟩:=cR.mp hb
    exact I1.fpOk (Nat.le_add_right _ _) (I1.hok.fresh (Nat.le_add_right _ _))
end
end L2
namespace L2
open PySem PySem.Spec PyProof.Rows TwZ
section
variable {prog:Program}{w:World}{A:Around}{E:Value→Shared→Prop}{s:Shared}{l:Addr}{xs:Array (Int×Tok)}
theorem sum_intTup {Q:Value→Shared→Prop} (hh:A.handled=none) (hl:s.heap.IsTuple l (intItems xs))
  (h:∀ h' tk t',(∀ b o,s.heap.get? b=some o→h'.get? b=some o)→Q (.int (preSum (numAt xs) xs.size) t') { s with heap:=h',toks:=tk }) :
  wpAny (model prog w) A (call (.builtin "sum") [.ref l]) Q E s:=by
 have hlt:l < s.heap.objs.size:=by obtain⟨_,e,_⟩:=hl;exact Heap.lt_size e
 refine call_sum_walkG (wpAny_pyIter_tuple hl ?_)
 refine⟨_,_,_,_,_,_,numAt xs,rfl,Walks.tuple (A:=A.in1) hh _ l (Nat.ne_of_lt hlt) (intItems xs),⟨⟨_,Heap.get?_push_size _ rfl,rfl,rfl⟩,hl.push _⟩,fun b hb=>?_,(fun _ _=>intItems_at),fun h' tk t' hk=>?_⟩
 ·show b < (s.heap.push _).objs.size
  rw[Heap.size_push]
  rcases List.mem_cons.mp hb with rfl | hb
  ·exact Nat.lt_succ_self _
  ·rcases List.mem_cons.mp hb with rfl | hb
   ·exact Nat.lt_succ_of_lt hlt
   ·cases hb
 ·have:=h h' tk t' (fun b o e=>hk b o (fun hm=>by rw[List.mem_singleton.mp hm] at e;exact Nat.lt_irrefl _ (Heap.lt_size e)) (Heap.get?_push_of_some _ e))
  simpa [intItems] using this
theorem sum_intSrc {t:Bool}{vs:List Value}{ns:List Int}{Q:Value→Shared→Prop} (hh:A.handled=none) (hl:bN s.heap t l vs.toArray) (hi:IntsAre vs ns)
  (h:∀ h' tk t',(∀ b o,s.heap.get? b=some o→h'.get? b=some o)→Q (.int ns.sum t') { s with heap:=h',toks:=tk }) :
  wpAny (model prog w) A (call (.builtin "sum") [.ref l]) Q E s:=by
 obtain⟨xs,hx⟩:=hi.allInts.items
 have hn:numsOf vs.toArray.toList=ns:=by rw[show vs.toArray.toList=vs from rfl,hi.numsOf]
 rw[hx] at hl hn
 rw[nums_intItems] at hn
 have e:preSum (numAt xs) xs.size=ns.sum:=by rw[preSum_eq,List.take_of_length_le (by simp),hn]
 cases t with
 | true=>exact sum_intTup hh hl fun h' tk t' hk=>by rw[e];exact h h' tk t' hk
 | false=>exact sum_intListG hh hl fun h' tk t' hk=>by rw[e];exact h h' tk t' hk
end
section
variable {X:Cx}
noncomputable def rSum (K:PySem.W.Frag):List V→Hp→VK→Prop:=fun xs H Q=>∃ (t:Bool) (p:Addr) (ns:List Int),xs=[.ref p]∧SqB K H t p (ns.map V.int)∧Q (.int ns.sum) H
theorem call_sumB (hc:X.calm=true):CallR X (.builtin "sum") (rSum X.K):=by
 intro pins s σ H xs us Q I r h
 obtain⟨t,p,ns,rfl,hq,q⟩:=h
 obtain⟨u,rfl,ru⟩:=r.one
 cases ru
 obtain⟨its,rv,p1,hz⟩:=I.src hq
 refine sum_intSrc (I.ok.hd hc) p1 (intsAre_of rv) fun h' tk t' hk=>⟨.int ns.sum,H,I.kept hk,⟨t',rfl⟩,q⟩
noncomputable def TyS (K:PySem.W.Frag) (H:Hp) (x:V) (t:Value):Prop:=TyOf K H x t∨∃ a ys,x=.ref a∧bT K H a ys∧t=.type "tuple"
noncomputable def rIsi (K:PySem.W.Frag):List V→Hp→VK→Prop:=fun xs H Q=>∃ x T t b,xs=[x,.ty T]∧TyS K H x t∧PySem.W.kitOne K t (.type T)=some b∧Q (.bl b) H
theorem call_isi:CallR X (.builtin "isinstance") (rIsi X.K):=by
 intro pins s σ H xs us Q I r h
 obtain⟨x,T,t,b,rfl,ty,e,q⟩:=h
 obtain⟨u,v,rfl,ru,rv⟩:=r.two
 cases rv
 rcases ty with ty | ⟨a,ys,rfl,hq,rfl⟩
 ·exact isinst_ok I ru ty e fun tk=>⟨.bl b,H,I.tok tk,rfl,q⟩
 ·cases (show u=Value.ref a from ru)
  obtain⟨its,rv',⟨o,h1,h2,_⟩,_⟩:=I.tuple hq
  exact PySem.W.kia_one PySem.W.kitx_tuple I.kIn ⟨o,h1,h2⟩ e (fun z=>nomatch z) fun tk=>⟨.bl b,H,I.tok tk,rfl,q⟩
end
theorem noFill_tuple_mul:fillsNumberSlot (.type "tuple") "mul" = pure false:=
 PySem.fillsNumberSlot_seq (id := "tuple.__mul__") (r:=some (.builtin "tuple.__rmul__")) F.slot_tuple_mul.lookup (by decide +kernel) F.slot_tuple_rmul.lookup (by decide +kernel)
theorem repeat_tuple:seqRepeat? (.type "tuple")=pure (some (.builtin "tuple.__mul__")):=by
 unfold seqRepeat?
 rw[PySem.seqSlot_of (T := "tuple") (name := "__mul__") (id := "tuple.__mul__") F.slot_tuple_mul.lookup (by decide +kernel),PySem.seqSlot_of (T := "tuple") (name := "__rmul__") (id := "tuple.__rmul__") F.slot_tuple_rmul.lookup (by decide +kernel)]
 rfl
theorem int_rmul_tuple (a:Int) (t:Tok) (l:Addr) (items:Array Value) (n:Nat) (dd:Option Addr) (sl:Array (Option Value)) :
  Meets (Builtin.«int.__rmul__» ⟨[.int a t,.ref l],[]⟩) (fun _ R s=>s.heap.get? l=some { cls:=.type "tuple",dict:=dd,data:=.seq items n,slots:=sl }∧R (.ok (.ret Value.notImplemented)) s):=
 .of_wp fun prog w A R s h=>by obtain⟨hp,g,d,tk,os⟩:=s;obtain⟨hl,h⟩:=h;wp_walk;exact⟨_,rfl,h⟩
theorem tuple_mul_one (l:Addr) (items:Array Value) (n:Nat) (u:Tok) (dd:Option Addr) (sl:Array (Option Value)) :
  Meets (Builtin.«tuple.__mul__» ⟨[.ref l,.int 1 u],[]⟩) (fun _ R s=>s.heap.get? l=some { cls:=.type "tuple",dict:=dd,data:=.seq items n,slots:=sl }∧R (.ok (.ret (.ref l))) s):=
 .of_wp fun prog w A R s h=>by
  obtain⟨hp,g,d,tk,os⟩:=s;obtain⟨hl,h⟩:=h
  have c1:(items.isEmpty || (1:Int) == 1)=true:=by simp
  wp_walk
  exact⟨_,rfl,h⟩
theorem tuple_mul_many (l:Addr) (items:Array Value) (n:Nat) (x:Int) (u:Tok) (dd:Option Addr) (sl:Array (Option Value)) (c0:¬ (decide (x < -(2 ^ 63)) || decide (x ≥ 2 ^ 63))=true) (c1:¬ (items.isEmpty || x == 1)=true)
  (c2:¬ (decide (x≤0) || items.isEmpty)=true) (c3:¬ (items.size:Int) * x > (2 ^ 63 - 1) / 8) (c4:¬ Builtin.Tuple.tupleTooMany ((items.size:Int) * x)=true) (hsz:(List.foldl (fun x1 x2=>x1++x2) #[] (List.replicate x.toNat items)).size≤sizeLine) :
  Meets (Builtin.«tuple.__mul__» ⟨[.ref l,.int x u],[]⟩) (fun _ R s=>s.heap.get? l=some { cls:=.type "tuple",dict:=dd,data:=.seq items n,slots:=sl }∧
   R (.ok (.ret (.ref s.heap.objs.size))) { s with heap:=s.heap.push { cls:=.type "tuple",data:=.seq (List.foldl (fun x1 x2=>x1++x2) #[] (List.replicate x.toNat items)) } }):=
 .of_wp fun prog w A R s h=>by
  obtain⟨hp,g,d,tk,os⟩:=s;obtain⟨hl,h⟩:=h
  wp_walk
  rw[if_neg c0]
  wp_walk
  all_goals (try rw[if_neg c1])
  wp_walk
  all_goals (try rw[if_neg c2])
  wp_walk
  all_goals (try rw[if_neg c3])
  wp_walk
  all_goals (try rw[if_neg c4])
  wp_walk
  exact⟨_,rfl,h⟩
theorem aF.tup {K:PySem.W.Frag}{H H':Hp}{a:Addr}{xs:List V} (e:aF H H') (h:bT K H a xs):bT K H' a xs:=by
 rcases h with (h | ⟨o,h⟩) | h
 ·exact .inl (.inl (e _ _ h))
 ·exact .inl (.inr ⟨o,e _ _ h⟩)
 ·exact .inr h
theorem aF.new {H:Hp}{p:Addr}{o:HO} (h:H p=none):aF H (upd H p o):=fun b u e=>by rw[aI (aJ e h)];exact e
section
variable {X:Cx}
noncomputable def rRepT (K:PySem.W.Frag):R2:=fun x y H Q=>∃ (l:Addr) (k:Int) (xs:List V),x=.ref l∧y=.int k∧bT K H l xs∧1≤k∧k < 1000000∧xs≠[]∧xs.length≤10∧
 ∀ p H',aF H H'→bT K H' p (List.replicate k.toNat xs).flatten→Q (.ref p) H'
theorem op_repT:OpR X (binaryOp .Mult) (rRepT X.K):=by
 intro pins s σ H x y v u Q I rx ry h
 obtain⟨l,k,xs,rfl,rfl,hq,h1,h2,hne,hl10,q⟩:=h
 cases rx
 obtain⟨t,rfl⟩:=ry
 obtain⟨its,r,ht,z⟩:=I.tuple hq
 have hlen:=r.length
 obtain⟨⟨cls,dd,data,sl⟩,e,hc,n,hd⟩:=id ht
 simp only at hc hd
 subst hc hd
 refine wpAny_binaryOp_repeat_ref (T := "tuple") (U := "int") (by decide) ⟨_,e,rfl⟩ (fun s'=>typeIs_int s' k t) noFill_tuple_mul F.fills_int_mul F.slot_int_rmul repeat_tuple F.slot_int_index.lookup
  (call_meets F.slot_int_rmul (typeIs_int s k t) F.entry_int_rmul (F.args_int_rmul_2 _ _) (int_rmul_tuple k t l its.toArray n dd sl) ⟨e,rfl,⟨_,e,rfl⟩,?_⟩)
 by_cases hk:k=1
 ·subst hk
  refine call_meets F.slot_tuple_mul ⟨_,e,rfl⟩ F.entry_tuple_mul (F.args_tuple_mul_2 _ _) (tuple_mul_one l its.toArray n t dd sl) ⟨e,?_⟩
  refine⟨.ref l,H,I,rfl,q l H (aF.refl H) ?_⟩
  have e1:(List.replicate (1:Int).toNat xs).flatten=xs:=by simp
  rw[e1];exact hq
 ·have hne':its≠[]:=fun z=>by rw[z] at hlen;exact hne (List.eq_nil_of_length_eq_zero hlen)
  have f0:List.foldl (fun x1 x2=>x1++x2) #[] (List.replicate k.toNat its.toArray)=(List.replicate k.toNat its).flatten.toArray:=by
   have:=foldl_rep its k.toNat []
   rw[List.nil_append] at this
   exact this
  have hemp:its.toArray.isEmpty=false:=by cases its with
   | nil=>exact absurd rfl hne'
   | cons a r=>rfl
  have hszN:k.toNat * its.length≤sizeLine:=by
   have a1:its.length≤10:=by omega
   have a2:k.toNat≤1000000:=by omega
   have:=Nat.mul_le_mul a2 a1
   rw[sizeLine_eq];omega
  have hprod:((its.toArray.size:Nat):Int) * k≤16777216:=by
   have a1:((its.toArray.size:Nat):Int)≤10:=by rw[List.size_toArray];omega
   have:=Int.mul_le_mul a1 (show k≤1000000 by omega) (by omega) (by omega)
   omega
  refine call_meets F.slot_tuple_mul ⟨_,e,rfl⟩ F.entry_tuple_mul (F.args_tuple_mul_2 _ _) (tuple_mul_many l its.toArray n k t dd sl (by simp;omega) (by rw[hemp];simp;exact hk) (by rw[hemp];simp;omega) (by omega) (by
    unfold Builtin.Tuple.tupleTooMany
    rw[decide_eq_true_iff]
    rw[sizeLine_eq]
    omega) (by rw[f0,List.size_toArray,len_rep];exact hszN)) ⟨e,?_⟩
  have I1:=I.laid (a:=s.heap.objs.size) (o:=.tup (List.replicate k.toNat xs).flatten) (h':=s.heap.push { cls:=.type "tuple",data:=.seq (List.foldl (fun x1 x2=>x1++x2) #[] (List.replicate k.toNat its.toArray)) }) (t':=s.toks)
   (fun _ _ q=>Heap.get?_push_of_some _ q) (Nat.le_refl _) ⟨by rw[len_rep,hlen];exact hszN,(List.replicate k.toNat its).flatten,r.rep k.toNat,⟨_,Heap.get?_push_size _ rfl,rfl,0,by simp only [f0]⟩⟩
  exact⟨.ref _,_,I1,rfl,q _ _ (aF.new I.fresh) (bT.of aB)⟩
end
inductive D where
 | non | bl (b:Bool) | int (i:Int) | str (x:Str) | tup (ds:List D)
mutual
noncomputable def Is (K:PySem.W.Frag) (H:Hp):D→V→Prop
 | .non,v=>v=.non
 | .bl b,v=>v=.bl b
 | .int i,v=>v=.int i
 | .str x,v=>v=.str x
 | .tup ds,v=>∃ a xs,v=.ref a∧bT K H a xs∧IsL K H ds xs
noncomputable def IsL (K:PySem.W.Frag) (H:Hp):List D→List V→Prop
 | [],xs=>xs=[]
 | d::ds,xs=>∃ x r,xs=x::r∧Is K H d x∧IsL K H ds r
end
noncomputable def bJ (K:PySem.W.Frag) (H H':Hp):Prop:=∀ a xs,bT K H a xs→bT K H' a xs
theorem bJ.refl {K:PySem.W.Frag} (H:Hp):bJ K H H:=fun _ _ h=>h
theorem bJ.trans {K:PySem.W.Frag}{H H1 H2:Hp} (a:bJ K H H1) (b:bJ K H1 H2):bJ K H H2:=fun c xs h=>b c xs (a c xs h)
theorem aF.ts {K:PySem.W.Frag}{H H':Hp} (e:aF H H'):bJ K H H':=fun _ _ h=>e.tup h
mutual
theorem Is.mono {K:PySem.W.Frag}{H H':Hp} (t:bJ K H H'):∀ (d:D) (v:V),Is K H d v→Is K H' d v
 | .non,_,h=>h
 | .bl _,_,h=>h
 | .int _,_,h=>h
 | .str _,_,h=>h
 | .tup ds,v,h=>by
  rw[Is] at h ⊢
  obtain⟨a,xs,e,q,l⟩:=h
  exact⟨a,xs,e,t a xs q,IsL.mono t ds xs l⟩
theorem IsL.mono {K:PySem.W.Frag}{H H':Hp} (t:bJ K H H'):∀ (ds:List D) (xs:List V),IsL K H ds xs→IsL K H' ds xs
 | [],xs,h=>h
 | d::ds,xs,h=>by
  rw[IsL] at h ⊢
  obtain⟨x,r,e,hx,hr⟩:=h
  exact⟨x,r,e,Is.mono t d x hx,IsL.mono t ds r hr⟩
end
theorem IsL.length {K:PySem.W.Frag}{H:Hp}:∀ {ds:List D}{xs:List V},IsL K H ds xs→xs.length=ds.length
 | [],xs,h=>by rw[IsL] at h;subst h;rfl
 | d::ds,xs,h=>by
  rw[IsL] at h
  obtain⟨x,r,rfl,_,hr⟩:=h
  rw[List.length_cons,List.length_cons,IsL.length hr]
theorem IsL.get {K:PySem.W.Frag}{H:Hp}:∀ {ds:List D}{xs:List V}{i:Nat}{d:D},IsL K H ds xs→ds[i]? = some d→∃ x,xs[i]? = some x∧Is K H d x
 | [],_,_,_,_,e=>by simp at e
 | d::ds,xs,0,d',h,e=>by
  rw[IsL] at h
  obtain⟨x,r,rfl,hx,hr⟩:=h
  simp at e
  subst e
  exact⟨x,rfl,hx⟩
 | d::ds,xs,i+1,d',h,e=>by
  rw[IsL] at h
  obtain⟨x,r,rfl,hx,hr⟩:=h
  obtain⟨y,h1,h2⟩:=IsL.get hr (i:=i) (by simpa using e)
  exact⟨y,by simpa using h1,h2⟩
theorem IsL.get' {K:PySem.W.Frag}{H:Hp}{ds:List D}{xs:List V}{i:Nat}{x:V} (h:IsL K H ds xs) (e:xs[i]? = some x):∃ d,ds[i]? = some d∧Is K H d x:=by
 have hl:=h.length
 have hi:i < ds.length:=by rw[← hl];exact (List.getElem?_eq_some_iff.mp e).1
 obtain⟨y,h1,h2⟩:=h.get (i:=i) (d:=ds[i]) (by simp [hi])
 rw[e] at h1
 cases h1
 exact⟨ds[i],by simp [hi],h2⟩
theorem IsL.snoc {K:PySem.W.Frag}{H:Hp}{d:D}{x:V} (hd:Is K H d x):∀ {ds:List D}{xs:List V},IsL K H ds xs→IsL K H (ds++[d]) (xs++[x])
 | [],xs,h=>by
  rw[IsL] at h
  subst h
  show IsL K H [d] [x]
  rw[IsL]
  exact⟨x,[],rfl,hd,by rw[IsL]⟩
 | d'::ds,xs,h=>by
  rw[IsL] at h
  obtain⟨y,r,rfl,hy,hr⟩:=h
  show IsL K H (d'::(ds++[d])) (y::(r++[x]))
  rw[IsL]
  exact⟨y,r++[x],rfl,hy,IsL.snoc hd hr⟩
theorem IsL.ints {K:PySem.W.Frag}{H:Hp}:∀ {ns:List Int}{xs:List V},IsL K H (ns.map D.int) xs→xs=ns.map V.int
 | [],xs,h=>by rw[List.map_nil,IsL] at h;exact h
 | n::ns,xs,h=>by
  rw[List.map_cons,IsL] at h
  obtain⟨x,r,rfl,hx,hr⟩:=h
  rw[Is] at hx
  rw[hx,IsL.ints hr,List.map_cons]
theorem IsL.of_ints {K:PySem.W.Frag}{H:Hp}:∀ (ns:List Int),IsL K H (ns.map D.int) (ns.map V.int)
 | []=>by rw[List.map_nil,List.map_nil,IsL]
 | n::ns=>by
  rw[List.map_cons,List.map_cons,IsL]
  exact⟨_,_,rfl,by rw[Is],IsL.of_ints ns⟩
theorem IsL.bools {K:PySem.W.Frag}{H:Hp}:∀ {ns:List Bool}{xs:List V},IsL K H (ns.map D.bl) xs→xs=ns.map V.bl
 | [],xs,h=>by rw[List.map_nil,IsL] at h;exact h
 | n::ns,xs,h=>by
  rw[List.map_cons,IsL] at h
  obtain⟨x,r,rfl,hx,hr⟩:=h
  rw[Is] at hx
  rw[hx,IsL.bools hr,List.map_cons]
theorem IsL.of_bools {K:PySem.W.Frag}{H:Hp}:∀ (ns:List Bool),IsL K H (ns.map D.bl) (ns.map V.bl)
 | []=>by rw[List.map_nil,List.map_nil,IsL]
 | n::ns=>by
  rw[List.map_cons,List.map_cons,IsL]
  exact⟨_,_,rfl,by rw[Is],IsL.of_bools ns⟩
mutual
noncomputable def D.depth:D→Nat
 | .tup ds=>dW ds+1
 | _=>0
noncomputable def dW:List D→Nat
 | []=>0
 | d::ds=>max d.depth (dW ds)
end
section
variable {X:Cx}{pins:List (Addr×Obj)}{σ:St}{H:Hp}{s:Shared}
end
section
variable {X:Cx}
noncomputable def rIndex:V→List V→Hp→VK→Prop:=fun x vs H Q=>∃ (l:Addr) (xs:List V) (y:V) (j:Nat),x=.ref l∧vs=[y]∧H l=some (.lst xs)∧flatV y=true∧xs.all flatV=true∧j < xs.length∧(∀ z,xs[j]? = some z→eqV z y=true)∧(∀ i z,i < j→xs[i]? = some z→eqV z y=false)∧Q (.int j) H
theorem mt_index:MtM X "list.index" rIndex:=by
 intro pins s σ H x vs v us Q I rx rv h
 obtain⟨l,xs,y,j,rfl,rfl,hH,fy,fx,hj,h1,h2,q⟩:=h
 cases rx
 obtain⟨u,rfl,ru⟩:=rv.one
 obtain⟨z,its,n,r,hl,e⟩:=I.lstM hH
 have key:∀ i (hi:i < its.length),∃ x,xs[i]? = some x∧aY x its[i]∧flatV x=true:=fun i hi=>by
  have hx:xs[i]? = some xs[i]:=by simp [show i < xs.length by omega]
  obtain⟨w',h1,h2⟩:=r.get hx
  have:its[i]? = some its[i]:=by simp [hi]
  rw[this] at h1
  cases h1
  exact⟨_,hx,h2,(List.all_eq_true.mp fx) _ (List.getElem_mem _)⟩
 refine call_meets F.slot_list_index ⟨_,e,rfl⟩ F.entry_list_index (F.args_list_index_2 _ _)
  (SeqAt.list_indexAt l its.toArray n none #[] u (eqU y) j (by rw[List.size_toArray];omega) (by rw[sizeLine_eq] at z;omega) ?_ ?_) ⟨e,fun w' hw=>?_,⟨.int j,H,I.tok _,⟨_,rfl⟩,q⟩⟩
 ·obtain⟨x,hx,rx,fx'⟩:=key j (by omega)
  have:=eqU_of (x:=y) rx fx'
  show eqU y its[j]=true
  rw[this]
  exact h1 x hx
 ·intro i hi hlt
  have hi':i < its.length:=by simpa using hi
  obtain⟨x,hx,rx,fx'⟩:=key i hi'
  have:=eqU_of (x:=y) rx fx'
  show eqU y its[i]=false
  rw[this]
  exact h2 i x hlt hx
 ·exact mem_eqAt ru fy r fx w' (by simpa using hw)
end
end L2
namespace L2
open PySem PySem.Spec PyProof.Rows TwZ
structure Callee (P:Program) (w:World) (K:PySem.W.Frag) (mg:Str→Option Value) (base:Heap) (x:Str) (ps:List Str) (k:Nat) (sp:Sp) (f:Addr) (fd:FuncData):Prop where
 ok:FnOk P w K mg base CX0 k f fd ps sp
 mg:mg x=some (.ref f)
 kp:PySem.W.keepIn K (.ref f)=true
 bd:Binds K fd ps []
theorem pcG {X:Cx}{x:Str}{ps:List Str}{k n:Nat}{sp:Sp}{f:Addr}{fd:FuncData}{e:Expr}{es:List Expr}{t:TA}{p pos:Pos} (G:Callee X.prog X.w X.K X.mg X.base x ps k sp f fd) (hr:Room n X.A) (ha:PA X (e::es) t) (hg:Gl X x:=by rfl) (hle:k≤n:=by decide)
  (hdb:(x == ("__debug__" : Str))=false:=by decide) (he:starEach (e::es) X.env=(false,eval e X.env)::starEach es X.env:=by rfl) (hpl:(backTo pos (starEach es X.env)).any (·.1)=false:=by rfl) :
  PE X (.Call (.Name x p) (e::es) [] pos) (tCall sp [] E0 t):=pe_call G.ok (hr.mono hle) hg G.mg G.kp G.bd .nil pass0 ha hdb he hpl
theorem boot_isi:bootBuiltins "isinstance" = some (.builtin "isinstance"):=by decide +kernel
noncomputable def eI (t:Addr) (H H':Hp):Prop:=∀ b o,b≠t→H b=some o→H' b=some o
theorem eI.refl {t:Addr} (H:Hp):eI t H H:=fun _ _ _ h=>h
theorem eI.trans {t:Addr}{H H1 H2:Hp} (a:eI t H H1) (b:eI t H1 H2):eI t H H2:=fun c o hc h=>b c o hc (a c o hc h)
theorem aF.but {t:Addr}{H H':Hp} (a:aF H H'):eI t H H':=fun b o _ h=>a b o h
theorem eI.upd {t:Addr}{H:Hp}{o:HO}:eI t H (upd H t o):=fun b u hb h=>by rw[aI hb];exact h
theorem eI.ts {K:PySem.W.Frag}{t:Addr}{H H':Hp} (a:eI t H H') (hm:Mut (H t)):bJ K H H':=by
 intro b xs h
 have ne:∀ {o:HO},H b=some o→¬ Mut (some o)→b≠t:=fun e n z=>by rw[← z,e] at hm;exact n hm
 rcases h with (h | ⟨o,h⟩) | h
 ·exact .inl (.inl (a _ _ (ne h (fun z=>z)) h))
 ·exact .inl (.inr ⟨o,a _ _ (ne h (fun z=>z)) h⟩)
 ·exact .inr h
theorem eI.free {t l:Addr}{H H':Hp} (a:eI t H H') (hl:l≠t) (h:H' l=none):H l=none:=by
 cases q:H l with
 | none=>rfl
 | some o=>rw[a l o hl q] at h;cases h
noncomputable def rGetL (K:PySem.W.Frag):V→V→Hp→VK→Prop:=fun o i H Q=>∃ (p:Addr) (xs:List V) (k:Int) (v:V),o=.ref p∧i=.int k∧bZ K H p xs∧0≤k∧k < 2 ^ 63∧xs[k.toNat]? = some v∧Q v H
theorem get_list {X:Cx}:PGet X (rGetL X.K):=by
 intro pins s σ H o i ov iv Q I ro ri h
 obtain⟨p,xs,k,v,rfl,rfl,hq,h0,h1,hx,q⟩:=h
 cases ro
 obtain⟨t,rfl⟩:=ri
 obtain⟨its,r,pl,hz⟩:=I.list hq
 obtain⟨w',ew,rw'⟩:=r.get hx
 exact wpAny_getItem_list pl.isList h0 h1 (by simpa using ew) ⟨v,H,I,rw',q⟩
theorem ixN_nat {n:Nat}{k:Int} (h0:0≤k) (h1:k < n):ixN n k=some k.toNat:=by
 unfold ixN
 rw[if_pos h0,if_pos h1]
theorem atI_int {α:Type}{xs:List α}{k:Int}{v:α} (h0:0≤k) (h:xs[k.toNat]? = some v):atI xs k=some v:=by
 obtain⟨j,rfl⟩:=Int.eq_ofNat_of_zero_le h0
 exact cL (by simpa using h)
theorem Is.tupOf {K:PySem.W.Frag}{H:Hp}{ds:List D}{a:Addr}{xs:List V} (q:bT K H a xs) (l:IsL K H ds xs):Is K H (.tup ds) (.ref a):=by
 rw[Is];exact⟨a,xs,rfl,q,l⟩
theorem Is.un {K:PySem.W.Frag}{H:Hp}{ds:List D}{v:V} (h:Is K H (.tup ds) v):∃ a xs,v=.ref a∧bT K H a xs∧IsL K H ds xs:=by
 rw[Is] at h;exact h
theorem IsL.un {K:PySem.W.Frag}{H:Hp}{d:D}{ds:List D}{xs:List V} (h:IsL K H (d::ds) xs):∃ x r,xs=x::r∧Is K H d x∧IsL K H ds r:=by
 rw[IsL] at h;exact h
theorem IsL.un0 {K:PySem.W.Frag}{H:Hp}{xs:List V} (h:IsL K H [] xs):xs=[]:=by
 rw[IsL] at h;exact h
theorem IsL.cons {K:PySem.W.Frag}{H:Hp}{d:D}{ds:List D}{x:V}{xs:List V} (hd:Is K H d x) (h:IsL K H ds xs):IsL K H (d::ds) (x::xs):=by
 rw[IsL];exact⟨x,xs,rfl,hd,h⟩
theorem IsL.nil {K:PySem.W.Frag}{H:Hp}:IsL K H [] []:=by rw[IsL]
theorem Is.i {K:PySem.W.Frag}{H:Hp} (i:Int):Is K H (.int i) (.int i):=by rw[Is]
theorem Is.b {K:PySem.W.Frag}{H:Hp} (i:Bool):Is K H (.bl i) (.bl i):=by rw[Is]
theorem Is.s {K:PySem.W.Frag}{H:Hp} (i:Str):Is K H (.str i) (.str i):=by rw[Is]
theorem Is.n {K:PySem.W.Frag}{H:Hp}:Is K H .non .non:=by rw[Is]
theorem Is.ui {K:PySem.W.Frag}{H:Hp}{i:Int}{v:V} (h:Is K H (.int i) v):v=.int i:=by rw[Is] at h;exact h
theorem Is.ub {K:PySem.W.Frag}{H:Hp}{i:Bool}{v:V} (h:Is K H (.bl i) v):v=.bl i:=by rw[Is] at h;exact h
theorem Is.us {K:PySem.W.Frag}{H:Hp}{i:Str}{v:V} (h:Is K H (.str i) v):v=.str i:=by rw[Is] at h;exact h
theorem Is.u0 {K:PySem.W.Frag}{H:Hp}{v:V} (h:Is K H .non v):v=.non:=by rw[Is] at h;exact h
end L2
namespace Tw
open PySem L2
structure Vs where
 size:Int
 brim:Int
 outs:List (Option Int×Int)
 holds:Bool
 spill:Option Int
 acts:List (Str×Int)
noncomputable abbrev Spt:=Int×Int×Bool
structure Net where
 vs:List Vs
 sps:List Spt
noncomputable def tgD:Option Int→D
 | none=>.non
 | some i=>.int i
noncomputable def tgV:Option Int→V
 | none=>.non
 | some i=>.int i
noncomputable def outD (o:Option Int×Int):D:=.tup [tgD o.1,.int o.2]
noncomputable def actD (a:Str×Int):D:=.tup [.str a.1,.int a.2]
noncomputable def vsD (v:Vs):D:=.tup [.int v.size,.int v.brim,.tup (v.outs.map outD),.bl v.holds,tgD v.spill,.tup (v.acts.map actD)]
noncomputable def spD (s:Spt):D:=.tup [.int s.1,.int s.2.1,.bl s.2.2]
noncomputable def netD (n:Net):D:=.tup [.tup (n.vs.map vsD),.tup (n.sps.map spD)]
noncomputable def stD (held coming:List Int) (doors:List Bool):D:=.tup [.tup (held.map D.int),.tup (coming.map D.int),.tup (doors.map D.bl)]
theorem Is.tg {K:PySem.W.Frag}{H:Hp}{t:Option Int}{v:V} (h:Is K H (tgD t) v):v=tgV t:=by
 cases t with
 | none=>exact h.u0
 | some i=>exact h.ui
theorem Is.tgOf {K:PySem.W.Frag}{H:Hp} (t:Option Int):Is K H (tgD t) (tgV t):=by
 cases t with
 | none=>exact Is.n
 | some i=>exact Is.i i
structure OutOk (n:Nat) (o:Option Int×Int):Prop where
 tg:∀ t,o.1=some t→0≤t∧t < n
 lo:1≤o.2
 hi:o.2≤60
structure ActOk (m:Nat) (a:Str×Int):Prop where
 word:a.1 = "open" ∨ a.1 = "shut" ∨ a.1 = "turn"
 lo:0≤a.2
 hi:a.2 < m
structure VOk (n m:Nat) (v:Vs):Prop where
 size:1≤v.size
 ne:v.outs≠[]
 o3:v.outs.length≤3
 outs:∀ o∈v.outs,OutOk n o
 spill:∀ t,v.spill=some t→0≤t∧t < n
 a3:v.acts.length≤3
 acts:∀ a∈v.acts,ActOk m a
structure NetOk (net:Net):Prop where
 lo:1≤net.vs.length
 hi:net.vs.length≤12
 sp:net.sps.length≤12
 vs:∀ v∈net.vs,VOk net.vs.length net.sps.length v
 sps:∀ s∈net.sps,0≤s.1∧s.1 < net.vs.length
noncomputable def whole (outs:List (Option Int×Int)):Int:=(outs.map (·.2)).sum
theorem whole_pos {n:Nat}:∀ {outs:List (Option Int×Int)},outs≠[]→(∀ o∈outs,OutOk n o)→1≤whole outs
 | [],h,_=>absurd rfl h
 | o::r,_,h=>by
  have h1:=(h o List.mem_cons_self).lo
  have h2:0≤whole r:=by
   clear h1
   have:∀ (r:List (Option Int×Int)),(∀ o∈r,OutOk n o)→0≤whole r:=by
    intro r
    induction r with
    | nil=>intro _;exact Int.le_refl _
    | cons o r ih=>
     intro h
     have h1:=(h o List.mem_cons_self).lo
     have h2:=ih fun o ho=>h o (List.mem_cons_of_mem _ ho)
     show 0≤o.2+whole r
     omega
   exact this r fun o ho=>h o (List.mem_cons_of_mem _ ho)
  show 1≤o.2+whole r
  omega
theorem whole_le {n:Nat}:∀ {outs:List (Option Int×Int)},(∀ o∈outs,OutOk n o)→whole outs≤60 * outs.length
 | [],_=>Int.le_refl _
 | o::r,h=>by
  have h1:=(h o List.mem_cons_self).hi
  have h2:=whole_le fun o ho=>h o (List.mem_cons_of_mem _ ho)
  show o.2+whole r≤_
  rw[List.length_cons]
  omega
noncomputable def cO (k:Option Int):List (Option Int×Int)→Int
 | []=>0
 | g::r=>(if g.1=k then g.2 else 0)+cO k r
theorem sumFor_append (k:Option Int):∀ (a b:List (Option Int×Int)),cO k (a++b)=cO k a+cO k b
 | [],b=>by simp [cO]
 | g::r,b=>by
  show (if g.1=k then g.2 else 0)+cO k (r++b)=(if g.1=k then g.2 else 0)+cO k r+cO k b
  rw[sumFor_append k r b];omega
noncomputable def bI (v:Vs) (has:Int):Int:=min has v.brim
noncomputable def vTips (v:Vs) (has:Int):Bool:=decide (v.size≤bI v has)
noncomputable def shared (v:Vs) (here:Int):List (Option Int×Int):=v.outs.map fun o=>(o.1,here / whole v.outs * o.2)
noncomputable def vGoes (v:Vs) (has:Int):List (Option Int×Int):=
 (v.spill,has - bI v has)::(if vTips v has=true then shared v (bI v has)++(if v.holds=true then [] else [(none,bI v has % whole v.outs)]) else [])
noncomputable def vStay (v:Vs) (has:Int):Int:=if vTips v has=true then (if v.holds=true then bI v has % whole v.outs else 0) else bI v has
theorem vGoes_len {n m:Nat}{v:Vs} (ok:VOk n m v) (has:Int):(vGoes v has).length≤5:=by
 unfold vGoes shared
 have:=ok.o3
 split
 ·split <;> simp <;> omega
 ·simp
noncomputable def fill1 (has:List Int) (s:Spt) (d:Bool):List Int:=if d=true then has.set s.1.toNat (has.getD s.1.toNat 0+s.2.1) else has
noncomputable def eA:List Int→List Spt→List Bool→List Int
 | has,s::ss,d::ds=>eA (fill1 has s d) ss ds
 | has,_,_=>has
noncomputable def add3:List Int→List Int→List Int→List Int
 | a::as,b::bs,c::cs=>(a+b+c)::add3 as bs cs
 | _,_,_=>[]
noncomputable def aP (net:Net) (held coming poured:List Int) (doors:List Bool):List Int:=eA (add3 held coming poured) net.sps doors
noncomputable def bY:List Vs→List Int→List (Option Int×Int)
 | v::vs,h::hs=>vGoes v h++bY vs hs
 | _,_=>[]
noncomputable def cX:List Vs→List Int→List Int
 | v::vs,h::hs=>vStay v h::cX vs hs
 | _,_=>[]
noncomputable def bE:Nat→List Vs→List Int→List Nat
 | i,v::vs,h::hs=>if vTips v h=true then i::bE (i+1) vs hs else bE (i+1) vs hs
 | _,_,_=>[]
noncomputable def act1 (doors:List Bool) (a:Str×Int):List Bool:=doors.set a.2.toNat (if a.1 = "open" then true else if a.1 = "turn" then !(doors.getD a.2.toNat false) else false)
noncomputable def dQ (doors:List Bool) (as:List (Str×Int)):List Bool:=as.foldl act1 doors
noncomputable def cB (vs:List Vs) (doors:List Bool) (tip:List Nat):List Bool:=tip.foldl (fun ds i=>match vs[i]? with | some v=>dQ ds v.acts | none=>ds) doors
noncomputable def dJ (n:Nat) (goes:List (Option Int×Int)):List Int:=(List.range n).map fun (k:Nat)=>cO (some (k:Int)) goes
structure Tick where
 held:List Int
 coming:List Int
 doors:List Bool
 tip:List Nat
 ground:Int
noncomputable def tickOf (net:Net) (held coming poured:List Int) (doors:List Bool):Tick:=
 let hs:=aP net held coming poured doors
 ⟨cX net.vs hs,dJ net.vs.length (bY net.vs hs),cB net.vs doors (bE 0 net.vs hs),bE 0 net.vs hs,cO none (bY net.vs hs)⟩
end Tw
namespace Tw
open PySem L2
noncomputable def bC (i:Nat):Stmt:=PySem.Challenge.pw_tipwell_k18_whole_soonest_by_trying.main.body.getD i (.Pass ⟨0,0,0,0⟩)
structure Txt (mg:Str→Option Value):Prop where
 b_len:mg "len" = none
 b_sum:mg "sum" = none
 b_all:mg "all" = none
 b_max:mg "max" = none
 b_min:mg "min" = none
 b_int:mg "int" = none
 b_tuple:mg "tuple" = none
 b_list:mg "list" = none
 b_bool:mg "bool" = none
 b_range:mg "range" = none
 b_zip:mg "zip" = none
 b_enumerate:mg "enumerate" = none
 b_isinstance:mg "isinstance" = none
 b_divmod:mg "divmod" = none
 b_set:mg "set" = none
 b_sorted:mg "sorted" = none
noncomputable def keyO:Option Int→Key
 | none=>.inr none
 | some i=>.inl i
theorem keyO_V (k:Option Int):kV (keyO k)=tgV k:=by cases k <;> rfl
theorem keyO_inj {a b:Option Int} (h:keyO a=keyO b):a=b:=by
 cases a <;> cases b <;> simp_all [keyO]
noncomputable def DictG (H:Hp) (d:Addr) (gs:List (Option Int×Int)):Prop:=
 ∃ kvs:List (Key×V),H d=some (.dK kvs)∧kvs.length≤gs.length∧∀ k:Option Int,(dF kvs (keyO k)).getD (.int 0)=.int (cO k gs)
theorem DictG.mut {H:Hp}{d:Addr}{gs:List (Option Int×Int)} (h:DictG H d gs):Mut (H d):=by
 obtain⟨kvs,e,_⟩:=h;rw[e];exact trivial
section
variable {P:Program}{w:World}{K:PySem.W.Frag}{mg:Str→Option Value}{base:Heap}
noncomputable def spSend:Sp:=fun vs H Q _=>∃ (d:Addr) (t:Option Int) (a:Int) (gs:List (Option Int×Int)),vs=[.ref d,tgV t,.int a]∧DictG H d gs∧gs.length≤1000∧
 ∀ H',eI d H H'→DictG H' d (gs++[(t,a)])→Q .non H'
theorem sc_send:FnScope ["sent","target","amount"] ["sent","target","amount"] (aL (bC 14)):=⟨rfl,rfl,rfl,by decide +kernel,rfl,by decide +kernel,by decide +kernel⟩
theorem ok_send {f:Addr}{fd:FuncData} (F:Fun K "send" "send" (bC 14) f fd) (T:Txt mg):FnOk P w K mg base CX0 1 f fd ["sent","target","amount"] spSend:=by
 refine F.ok sc_send (fun vs H Q E h=>?_) (fun cdv A outer s H vs Q E hr h=>?_)
 ·obtain⟨d,t,a,gs,rfl,_⟩:=h;rfl
 ·obtain⟨d,t,a,gs,rfl,⟨kvs,hd,hl,hv⟩,hg,k⟩:=h
  have sc:=sc_send
  have hu:=hu_of hr
  refine⟨_,(aO (ps_dput hu (pv 0) (pv 1) (aX cU (pe_dget2 hu (pv 0) (pv 1) aG ⟨rfl,rfl,rfl,rfl⟩) (pv 2)) rfl)),?_⟩
  have hget:=DGet.k (k:=keyO t) hd
  rw[keyO_V] at hget
  have hput:=DPut.k (k:=keyO t) (v:=V.int (cO t gs+a)) hd (aZ (by omega))
  rw[keyO_V] at hput
  refine⟨_,rfl,d,rfl,.inl ⟨kvs,.inl hd⟩,_,rfl,dF kvs (keyO t),hget,_,rfl,_,_,hv t,rfl,_,rfl,_,rfl,d,_,rfl,hput,?_⟩
  refine k _ eI.upd ⟨_,aB,?_,fun k'=>?_⟩
  ·have:=length_putK kvs (keyO t) (V.int (cO t gs+a))
   rw[List.length_append];simp;omega
  ·rw[valV_put,sumFor_append]
   by_cases e:k'=t
   ·subst e
    rw[if_pos rfl]
    show V.int _=V.int _
    simp [cO]
   ·rw[if_neg (fun z=>e (keyO_inj z)),hv k']
    have:¬ t=k':=fun z=>e z.symm
    simp [cO,this]
end
end Tw
namespace L2
open PySem PySem.Spec PyProof.Rows TwZ
section
variable {K:PySem.W.Frag}{g:TG}{tc:TT}{te:TE}{fr:List (Option Nat)}{σ:St}{H1:Hp}{Q:Addr→Hp→Prop}
theorem lc_tup {a:Addr}{xs:List V} (Pv:Addr→Nat→List V→St→Hp→Prop) (hq:∀ D i ys σ H,Pv D i ys σ H→bT K H a xs)
  (h0:∀ D,H1 D=none→Pv D 0 [] (frσ fr σ) (upd H1 D (.lst []))) (hstop:∀ D ys σ' H',Pv D xs.length ys σ' H'→Q D H')
  (hgo:∀ D i x ys σ' H',xs[i]? = some x→Pv D i ys σ' H'→g x σ' H' fun σ3 H3=>tc σ3 H3 fun b H4=>
    if b=true then te σ3 H4 fun y H5=>H5 D=some (.lst ys)∧ys.length < sizeLine∧Pv D (i+1) (ys++[y]) σ3 (upd H5 D (.lst (ys++[y])))
    else Pv D (i+1) ys σ3 H4):lcRest (Itt K a) g tc te fr σ H1 Q:=by
 refine lc_gen (n:=xs.length) Pv h0 (fun D ys σ' H' p=>⟨⟨xs,hq D _ ys σ' H' p,Nat.le_refl _⟩,hstop D ys σ' H' p⟩) fun D i ys σ' H' hi p=>⟨⟨xs,xs[i],hq D _ ys σ' H' p,by simp [hi]⟩,fun x H2 y=>?_⟩
 obtain⟨e,y⟩:=y
 subst e
 exact hgo D i x ys σ' _ (y xs (hq D _ ys σ' _ p)) p
theorem lc_list {a:Addr}{xs:List V} (Pv:Addr→Nat→List V→St→Hp→Prop) (hq:∀ D i ys σ H,Pv D i ys σ H→bZ K H a xs)
  (h0:∀ D,H1 D=none→Pv D 0 [] (frσ fr σ) (upd H1 D (.lst []))) (hstop:∀ D ys σ' H',Pv D xs.length ys σ' H'→Q D H')
  (hgo:∀ D i x ys σ' H',xs[i]? = some x→Pv D i ys σ' H'→g x σ' H' fun σ3 H3=>tc σ3 H3 fun b H4=>
    if b=true then te σ3 H4 fun y H5=>H5 D=some (.lst ys)∧ys.length < sizeLine∧Pv D (i+1) (ys++[y]) σ3 (upd H5 D (.lst (ys++[y])))
    else Pv D (i+1) ys σ3 H4):lcRest (Itl K a) g tc te fr σ H1 Q:=by
 refine lc_gen (n:=xs.length) Pv h0 (fun D ys σ' H' p=>⟨⟨xs,hq D _ ys σ' H' p,Nat.le_refl _⟩,hstop D ys σ' H' p⟩) fun D i ys σ' H' hi p=>⟨⟨xs,xs[i],hq D _ ys σ' H' p,by simp [hi]⟩,fun x H2 y=>?_⟩
 obtain⟨e,y⟩:=y
 subst e
 exact hgo D i x ys σ' _ (y xs (hq D _ ys σ' _ p)) p
theorem lc_range {n:Nat} (Pv:Addr→Nat→List V→St→Hp→Prop)
  (h0:∀ D,H1 D=none→Pv D 0 [] (frσ fr σ) (upd H1 D (.lst []))) (hstop:∀ D ys σ' H',Pv D n ys σ' H'→Q D H')
  (hgo:∀ D i ys σ' H',i < n→Pv D i ys σ' H'→g (.int (i:Int)) σ' H' fun σ3 H3=>tc σ3 H3 fun b H4=>
    if b=true then te σ3 H4 fun y H5=>H5 D=some (.lst ys)∧ys.length < sizeLine∧Pv D (i+1) (ys++[y]) σ3 (upd H5 D (.lst (ys++[y])))
    else Pv D (i+1) ys σ3 H4):lcRest (Itr 0 n) g tc te fr σ H1 Q:=by
 refine lc_gen (n:=n) Pv h0 (fun D ys σ' H' p=>⟨Nat.le_refl _,hstop D ys σ' H' p⟩) fun D i ys σ' H' hi p=>⟨hi,fun x H2 y=>?_⟩
 obtain⟨e,y⟩:=y
 subst e y
 rw[Int.zero_add]
 exact hgo D i ys σ' _ hi p
theorem lc_zip3 {t1 t2 t3:Bool}{a1 a2 a3:Addr}{xs ys zs:List V}{n:Nat} (h1:xs.length=n) (h2:ys.length=n) (h3:zs.length=n) (Pv:Addr→Nat→List V→St→Hp→Prop)
  (hq:∀ D i r σ H,Pv D i r σ H→SqB K H t1 a1 xs∧SqB K H t2 a2 ys∧SqB K H t3 a3 zs)
  (h0:∀ D,H1 D=none→Pv D 0 [] (frσ fr σ) (upd H1 D (.lst []))) (hstop:∀ D r σ' H',Pv D n r σ' H'→Q D H')
  (hgo:∀ D i x y z r σ' H' T,xs[i]? = some x→ys[i]? = some y→zs[i]? = some z→Pv D i r σ' H'→H' T=none→g (.ref T) σ' (upd H' T (.tup [x,y,z])) fun σ3 H3=>tc σ3 H3 fun b H4=>
    if b=true then te σ3 H4 fun y H5=>H5 D=some (.lst r)∧r.length < sizeLine∧Pv D (i+1) (r++[y]) σ3 (upd H5 D (.lst (r++[y])))
    else Pv D (i+1) r σ3 H4):lcRest (Itz3 K t1 t2 t3 a1 a2 a3) g tc te fr σ H1 Q:=by
 refine lc_gen (n:=n) Pv h0 (fun D r σ' H' p=>?_) fun D i r σ' H' hi p=>?_
 ·obtain⟨q1,q2,q3⟩:=hq D _ r σ' H' p
  exact⟨⟨xs,ys,zs,q1,q2,q3,.inl (by omega)⟩,hstop D r σ' H' p⟩
 ·obtain⟨q1,q2,q3⟩:=hq D _ r σ' H' p
  refine⟨⟨xs,ys,zs,xs[i]'(by omega),ys[i]'(by omega),zs[i]'(by omega),q1,q2,q3,by simp,by simp,by simp⟩,?_⟩
  rintro v H2 ⟨T,x,y,z,hT,rfl,e1,e2,e3,rfl⟩
  exact hgo D i x y z r σ' H' T (e1 xs q1) (e2 ys q2) (e3 zs q3) p hT
end
section
variable {K:PySem.W.Frag}{g:TG}{tb:TS}{D:Ends}{σ:St}{H:Hp}
noncomputable abbrev ForRest (J:It) (g:TG) (tb:TS) (D:Ends) (σ:St) (H:Hp):Prop:=
 ∃ W:Nat→Nat→St→Hp→Prop,(∃ m,W 0 m σ H)∧∀ i m σ H,W i m σ H→
   (J.stop i H∧D.nx σ H)∨(J.go i H∧∃ N:St→Hp→Prop,(∀ σ' H',N σ' H'→∃ m',m' < m∧W (i+1) m' σ' H')∧∀ x H',J.yld i H x H'→g x σ H' fun σ2 H2=>tb { D with nx:=N,ct:=N,bk:=D.nx } σ2 H2)
theorem for_zip2 {t1 t2:Bool}{a1 a2:Addr}{xs ys:List V}{n:Nat} (h1:xs.length=n) (h2:ys.length=n) (Pv:Nat→St→Hp→Prop) (hq:∀ i σ H,Pv i σ H→SqB K H t1 a1 xs∧SqB K H t2 a2 ys)
  (h0:Pv 0 σ H) (hstop:∀ σ H,Pv n σ H→D.nx σ H)
  (hgo:∀ i x y σ H T,xs[i]? = some x→ys[i]? = some y→Pv i σ H→H T=none→g (.ref T) σ (upd H T (.tup [x,y])) fun σ2 H2=>tb { D with nx:=Pv (i+1),ct:=Pv (i+1),bk:=D.nx } σ2 H2):ForRest (Itz2 K t1 t2 a1 a2) g tb D σ H:=by
 refine for_gen (n:=n) Pv h0 (fun σ H p=>?_) fun i σ H hi p=>?_
 ·obtain⟨q1,q2⟩:=hq _ σ H p
  exact⟨⟨xs,ys,q1,q2,.inl (by omega)⟩,hstop σ H p⟩
 ·obtain⟨q1,q2⟩:=hq _ σ H p
  refine⟨⟨xs,ys,xs[i]'(by omega),ys[i]'(by omega),q1,q2,by simp,by simp⟩,?_⟩
  rintro v H2 ⟨T,x,y,hT,rfl,e1,e2,rfl⟩
  exact hgo i x y σ H T (e1 xs q1) (e2 ys q2) p hT
theorem for_enum {t:Bool}{a:Addr}{xs:List V} (Pv:Nat→St→Hp→Prop) (hq:∀ i σ H,Pv i σ H→SqB K H t a xs)
  (h0:Pv 0 σ H) (hstop:∀ σ H,Pv xs.length σ H→D.nx σ H)
  (hgo:∀ i x σ H T,xs[i]? = some x→Pv i σ H→H T=none→g (.ref T) σ (upd H T (.tup [.int (i:Int),x])) fun σ2 H2=>tb { D with nx:=Pv (i+1),ct:=Pv (i+1),bk:=D.nx } σ2 H2):ForRest (Ite K t a) g tb D σ H:=by
 refine for_gen (n:=xs.length) Pv h0 (fun σ H p=>?_) fun i σ H hi p=>?_
 ·exact⟨⟨xs,hq _ σ H p,Nat.le_refl _⟩,hstop σ H p⟩
 ·refine⟨⟨xs,xs[i],hq _ σ H p,by simp [hi]⟩,?_⟩
  rintro v H2 ⟨T,x,hT,rfl,e1,rfl⟩
  exact hgo i x σ H T (e1 xs (hq _ σ H p)) p hT
end
theorem yes_of {σ:St}{H:Hp}{A B:Hp→Prop} (h:A H):tYes σ H fun b H4=>if b=true then A H4 else B H4:=by
 show if true=true then A H else B H
 rw[if_pos rfl];exact h
theorem name_yes {i:Nat}{v:V}{σ:St}{H:Hp}{A B:St→Hp→Prop} (h:A (σ.set i (some v)) H):gName i v σ H fun σ3 H3=>tYes σ3 H3 fun b H4=>if b=true then A σ3 H4 else B σ3 H4:=yes_of (σ:=σ.set i (some v)) (A:=A (σ.set i (some v))) (B:=B (σ.set i (some v))) h
theorem aF.put {H H':Hp}{p:Addr}{o:HO} (a:aF H H') (h:H p=none):aF H (upd H' p o):=fun b u e=>by rw[aI (aJ e h)];exact a b u e
theorem bJ.put {K:PySem.W.Frag}{H H':Hp}{p:Addr}{o:HO} (a:bJ K H H') (h:H' p=none∨Mut (H' p)):bJ K H (upd H' p o):=a.trans (by
 rcases h with h | h
 ·exact (aF.new h).ts
 ·exact eI.ts eI.upd h)
noncomputable def CDivB (i j:Int):Prop:=0 < j∧j < 2 ^ 200
theorem op_fdivB {X:Cx}:OpR X (binaryOp .FloorDiv) (rI CDivB fun i j=>.int (i / j)):=opI fun i j _ _ _ _ _ hc q=>by
 have h1:(0:Int) < j:=hc.1
 have h2:j < 2 ^ 200:=hc.2
 refine floordiv_int (by omega) (by rw[Int.fdiv_eq_ediv_of_nonneg i (by omega)];exact q) (.inl (PyProof.noPylong_of_log2 ?_))
 have h0:j.natAbs≠0:=by omega
 have h3:j.natAbs < 2 ^ 200:=by omega
 have:=(Nat.log2_lt h0).mpr h3
 omega
theorem bt_int:bootBuiltins "int" = some (.type "int"):=by decide +kernel
theorem cK:bootBuiltins "tuple" = some (.type "tuple"):=by decide +kernel
theorem bt_list:bootBuiltins "list" = some (.type "list"):=by decide +kernel
theorem bt_bool:bootBuiltins "bool" = some (.type "bool"):=by decide +kernel
section
variable {X:Cx}{K:PySem.W.Frag}{tg:Expr}{pos:Pos}
theorem bO {es:List Expr}{k:Nat}{t:TGs}{n:Nat} (hK:X.K=K) (hc:X.calm=true) (h:PGs X es t)
  (hn:(assignEach es X.env).length=n:=by rfl) (hst:(assignEach es X.env).findIdx? (·.1)=none:=by rfl):PG X (.Tuple es k pos) (gTup K n t):=by
 subst hK;exact pg_tup hc h hn hst
theorem aM (hK:X.K=K):IxR X (rIx K):=by subst hK;exact ix_seq
noncomputable def rLen (K:PySem.W.Frag):List V→Hp→VK→Prop:=fun xs H Q=>∃ p ys,xs=[.ref p]∧(bZ K H p ys∨bT K H p ys)∧Q (.int ys.length) H
theorem bQ (hK:X.K=K):CallR X (.builtin "len") (rLen K):=by subst hK;exact call_len_seq
theorem call_sumK (hK:X.K=K) (hc:X.calm=true):CallR X (.builtin "sum") (rSum K):=by subst hK;exact call_sumB hc
theorem call_isiK (hK:X.K=K):CallR X (.builtin "isinstance") (rIsi K):=by subst hK;exact call_isi
noncomputable def rTupOf (K:PySem.W.Frag):List V→Hp→VK→Prop:=fun xs H Q=>∃ p ys,xs=[.ref p]∧((bZ K H p ys∧∀ l,H l=none→Q (.ref l) (upd H l (.tup ys)))∨(bT K H p ys∧Q (.ref p) H))
theorem cE (hK:X.K=K):CallR X (.type "tuple") (rTupOf K):=by subst hK;exact call_tuple_of
noncomputable def rLstOf (K:PySem.W.Frag):List V→Hp→VK→Prop:=fun xs H Q=>∃ p ys,xs=[.ref p]∧(bZ K H p ys∨bT K H p ys)∧∀ l,H l=none→Q (.ref l) (upd H l (.lst ys))
theorem call_lstK (hK:X.K=K):CallR X (.type "list") (rLstOf K):=by subst hK;exact call_list_of
theorem pi_listK {l:Expr}{tl:TE} (hK:X.K=K) (hl:PE X l tl):PI X tg l (iList K tl):=by subst hK;exact pi_list hl
theorem pi_tupK {l:Expr}{tl:TE} (hK:X.K=K) (hl:PE X l tl):PI X tg l (iTup K tl):=by subst hK;exact pi_tup hl
theorem pi_enumK {a:Expr}{ta:TA}{p:Pos} (hK:X.K=K) (hg:Gl X "enumerate") (hm:X.mg "enumerate" = none) (ha:PA X [a] ta) (hs:starEach [a] X.env=[(false,eval a X.env)]:=by rfl):PI X tg (.Call (.Name "enumerate" p) [a] [] pos) (iEnum K ta):=by
 subst hK;exact pi_enum hg hm ha hs
theorem pi_zip2K {a b:Expr}{ta:TA}{p:Pos} (hK:X.K=K) (hg:Gl X "zip") (hm:X.mg "zip" = none) (ha:PA X [a,b] ta) (hs:starEach [a,b] X.env=[(false,eval a X.env),(false,eval b X.env)]:=by rfl) (hs2:starEach [b] X.env=[(false,eval b X.env)]:=by rfl) :
  PI X tg (.Call (.Name "zip" p) [a,b] [] pos) (iZip2 K ta):=by subst hK;exact pi_zip2 hg hm ha hs hs2
theorem pi_zip3K {a b c:Expr}{ta:TA}{p:Pos} (hK:X.K=K) (hg:Gl X "zip") (hm:X.mg "zip" = none) (ha:PA X [a,b,c] ta) (hs:starEach [a,b,c] X.env=[(false,eval a X.env),(false,eval b X.env),(false,eval c X.env)]:=by rfl)
  (hs2:starEach [b,c] X.env=[(false,eval b X.env),(false,eval c X.env)]:=by rfl):PI X tg (.Call (.Name "zip" p) [a,b,c] [] pos) (iZip3 K ta):=by subst hK;exact pi_zip3 hg hm ha hs hs2
theorem op_repTK (hK:X.K=K):OpR X (binaryOp .Mult) (rRepT K):=by subst hK;exact op_repT
theorem get_listK (hK:X.K=K):PGet X (rGetL K):=by subst hK;exact get_list
theorem pe_bmK {o e:Expr}{es:List Expr}{to:TE}{t:TA}{name:Str}{apos cpos:Pos}{T id:String}{r:V→List V→Hp→VK→Prop} (hK:X.K=K)
  (pa:PlainAttrs T) (slot:Slot T name id) (hty:typeOf (.builtin id)=pure (.type "method_descriptor")) (hm:MtR X id r) (ho:PE X o to) (ha:PA X (e::es) t)
  (hbase:attributeBase o name X.env (eval o X.env)=eval o X.env:=by rfl)
  (hfew:((backTo cpos (starEach (e::es) X.env)).all (fun x=>!x.1) && (backToKw cpos (keywordEach [] X.env)).all (fun x=>x.1.isSome)
   && decide ((e::es).length+([]:List Keyword).length+(if ([]:List Keyword).isEmpty then 0 else 1) < 30))=true:=by rfl)
  (hline:(apos.endLine == cpos.line)=true:=by rfl) (hs:starEach (e::es) X.env=(false,eval e X.env)::starEach es X.env:=by rfl) (hplain:(backTo cpos (starEach es X.env)).any (·.1)=false:=by rfl) :
  PE X (.Call (.Attribute o name apos) (e::es) [] cpos) (tBM K T r to t):=by subst hK;exact pe_bm pa slot hty hm ho ha hbase hfew hline hs hplain
end
end L2
namespace Tw
open PySem L2
section
variable {P:Program}{w:World}{K:PySem.W.Frag}{mg:Str→Option Value}{base:Heap}
theorem aW {α:Type}{xs:List α}{i:Nat}{x:α} (h:xs[i]? = some x):xs.take (i+1)=xs.take i++[x]:=by
 rw[List.take_succ,h];rfl
theorem outs_at {H:Hp}{outs:List (Option Int×Int)}{xs:List V}{i:Nat}{x:V} (l:IsL K H (outs.map outD) xs) (h:xs[i]? = some x) :
  ∃ o,outs[i]? = some o∧∃ a,x=.ref a∧bT K H a [tgV o.1,.int o.2]:=by
 obtain⟨d,hd,hx⟩:=l.get' h
 rw[List.getElem?_map] at hd
 cases e:outs[i]? with
 | none=>rw[e] at hd;cases hd
 | some o=>
  rw[e] at hd
  cases hd
  refine⟨o,rfl,?_⟩
  obtain⟨a,ys,rfl,q,l⟩:=(show Is K H (.tup [tgD o.1,.int o.2]) x from hx).un
  obtain⟨y,r,rfl,hy,l⟩:=l.un
  obtain⟨z,r,rfl,hz,l⟩:=l.un
  have:=l.un0
  subst this
  rw[Is.tg hy,hz.ui] at q
  exact⟨a,rfl,q⟩
noncomputable def spShare (K:PySem.W.Frag):Sp:=fun vs H Q _=>∃ (o d:Addr) (has:Int) (outs gs:List (Option Int×Int)) (n:Nat),vs=[.ref o,.int has,.ref d]∧Is K H (.tup (outs.map outD)) (.ref o)∧DictG H d gs∧gs.length+3≤1000∧
 outs≠[]∧outs.length≤3∧(∀ x∈outs,OutOk n x)∧∀ H',eI d H H'→DictG H' d (gs++outs.map fun x=>(x.1,has / whole outs * x.2))→Q (.int (has % whole outs)) H'
theorem sc_share_out:FnScope ["outs","has","sent","whole","times","target","parts"] ["outs","has","sent"] (aL (bC 13)):=⟨rfl,rfl,rfl,by decide +kernel,rfl,by decide +kernel,by decide +kernel⟩
theorem ok_share_out {f fS:Addr}{fd fdS:FuncData} (F:Fun K "share_out" "share_out" (bC 13) f fd) (T:Txt mg) (G_send:Callee P w K mg base "send" ["sent","target","amount"] 1 spSend fS fdS):FnOk P w K mg base CX0 2 f fd ["outs","has","sent"] (spShare K):=by
 refine F.ok sc_share_out (fun vs H Q E h=>?_) (fun cdv A outer s H vs Q E hr h=>?_)
 ·obtain⟨o,d,has,outs,gs,n,rfl,_⟩:=h;rfl
 ·obtain⟨o,d,has,outs,gs,n,rfl,ho,hd,hg,hne,h3,hok,k⟩:=h
  have sc:=sc_share_out
  refine⟨_,(aD (aS (i:=3) sc.nd rfl (Or.inl rfl) (bA (call_sumK (K:=K) rfl rfl) rfl T.b_sum PyProof.Rows.boot_sum (aA (pe_lc (fun _ _ h=>h) rfl (LcOk.mk (N':=["target","parts"]) (fr:=[none,none]) rfl trivial rfl rfl rfl rfl rfl trivial) (pi_tupK (K:=K) rfl (pv 0)) (fun _ _ _=>(bO (K:=K) (n:=2) rfl rfl (aK (aH (i:=0) (show (["target","parts"]:List Str).Nodup by decide +kernel) rfl (Or.inl rfl) (Or.inr rfl)) (aK (aH (i:=1) (show (["target","parts"]:List Str).Nodup by decide +kernel) rfl (Or.inl rfl) (Or.inr rfl)) bL)))) (fun _ _ _=>eE) (fun _ _ _=>(pv 1))) aC)))
   (aD (aS (i:=4) sc.nd rfl (Or.inl rfl) (aX op_fdiv (pv 1) (bA (call_max2 rfl) rfl T.b_max PyProof.Rows.boot_max (aA aG (aA (pv 3) aC)))))
   (aD (dH PassesOwn.never rfl (pi_tupK (K:=K) rfl (pv 0)) (bO (K:=K) (n:=2) rfl rfl (aK (aH (i:=5) sc.nd rfl (Or.inl rfl)) (aK (aH (i:=6) sc.nd rfl (Or.inl rfl)) bL))) (aO (cY (pcG G_send hr (aA (pv 2) (aA (pv 5) (aA (aX op_mul (pv 6) (pv 4)) aC)))))))
   (aO (bV (aX op_sub (pv 1) (aX op_mul (pv 3) (pv 4)))))))),?_⟩
  have hw1:=whole_pos hne hok
  have hw2:=whole_le hok
  obtain⟨o',xs,e,hq,hl⟩:=ho.un
  cases e
  have hxl:xs.length=outs.length:=by rw[hl.length,List.length_map]
  refine⟨_,rfl,o,rfl,⟨_,hq⟩,lc_tup (K:=K) (a:=o) (xs:=xs) (fun D i ys σ' H'=>H D=none∧aF H H'∧H' D=some (.lst ys)∧ys=(outs.take i).map (fun x=>V.int x.2)∧∃ x y,σ'=[x,y])
   (fun D i ys σ' H' p=>p.2.1.tup hq) (fun D hD=>⟨hD,aF.new hD,aB,by simp,none,none,rfl⟩) ?_ ?_⟩
  rotate_left
  ·rintro D i x ys σ' H' hx ⟨hD,sm,hDl,rfl,v1,v2,rfl⟩
   obtain⟨ot,hot,a,rfl,qa⟩:=outs_at hl hx
   have hil:=(List.getElem?_eq_some_iff.mp hot).1
   refine⟨a,_,rfl,sm.tup qa,rfl,_,_,rfl,_,_,rfl,rfl,?_⟩
   refine yes_of ⟨_,rfl,hDl,aZ (by simp;omega),hD,sm.put hD,aB,?_,_,_,rfl⟩
   rw[aW hot];simp
  ·rintro D ys σ' H1 ⟨hD,sm,hDl,rfl,_⟩
   rw[hxl,List.take_length] at hDl
   refine⟨false,D,outs.map (·.2),rfl,bZ.of (by rw[List.map_map];exact hDl),?_⟩
   refine⟨_,rfl,_,rfl,_,_,rfl,_,_,rfl,rfl,?_,?_⟩
   ·show 0 < (if whole outs > 1 then whole outs else 1)∧(if whole outs > 1 then whole outs else 1) < 1073741824
    split <;> omega
   have hm:(if whole outs > 1 then whole outs else 1)=whole outs:=by split <;> omega
   show tSeq _ _ _ [some (V.ref o),some (V.int has),some (V.ref d),some (V.int (whole outs)),some (V.int (has / (if whole outs > 1 then whole outs else 1))),none,none] _
   rw[hm]
   have hd1:DictG H1 d gs:=by obtain⟨kvs,e,r⟩:=hd;exact⟨kvs,sm _ _ e,r⟩
   have tsH:bJ K H H1:=sm.ts
   refine⟨_,rfl,o,rfl,⟨_,sm.tup hq⟩,for_tup (K:=K) (a:=o) (xs:=xs) (fun i σ' H'=>eI d H1 H'∧DictG H' d (gs++(outs.take i).map fun x=>(x.1,has / whole outs * x.2))∧
    ∃ x y,σ'=[some (V.ref o),some (V.int has),some (V.ref d),some (V.int (whole outs)),some (V.int (has / whole outs)),x,y]) ⟨eI.refl _,by simpa using hd1,none,none,rfl⟩
    (fun i σ' H' _ p=>(p.1.ts hd1.mut) _ _ (sm.tup hq)) ?_ ?_⟩
   ·rintro i x σ' H2 hx ⟨bt,dg,v1,v2,rfl⟩
    obtain⟨ot,hot,a,rfl,qa⟩:=outs_at hl hx
    have hil:=(List.getElem?_eq_some_iff.mp hot).1
    have hom:=hok ot (List.mem_of_getElem? hot)
    refine⟨a,_,rfl,(bt.ts hd1.mut) _ _ (sm.tup qa),rfl,_,_,rfl,_,_,rfl,rfl,?_⟩
    refine⟨_,rfl,_,rfl,_,rfl,_,rfl,_,_,rfl,rfl,.inl ⟨by have:=hom.lo;omega,by have:=hom.hi;omega⟩,d,ot.1,ot.2 * (has / whole outs),_,rfl,dg,by simp;omega,fun H' bt' dg'=>?_⟩
    refine⟨bt.trans bt',?_,_,_,rfl⟩
    rw[aW hot,List.map_append,← List.append_assoc]
    rw[Int.mul_comm] at dg'
    exact dg'
   ·rintro σ' H2 ⟨bt,dg,v1,v2,rfl⟩
    rw[hxl,List.take_length] at dg
    refine⟨_,rfl,_,rfl,_,rfl,_,_,rfl,rfl,.inl ⟨by omega,by omega⟩,_,_,rfl,rfl,?_⟩
    have e:has - whole outs * (has / whole outs)=has % whole outs:=by
     have:=Int.emod_add_mul_ediv has (whole outs);omega
    show Q (V.int (has - whole outs * (has / whole outs))) H2
    rw[e]
    exact k H2 (sm.but.trans bt) dg
theorem vs_un {H:Hp}{v:Vs}{x:V} (h:Is K H (vsD v) x):∃ (a:Addr) (o c:V),x=.ref a∧bT K H a [.int v.size,.int v.brim,o,.bl v.holds,tgV v.spill,c]∧Is K H (.tup (v.outs.map outD)) o∧Is K H (.tup (v.acts.map actD)) c:=by
 obtain⟨a,xs,rfl,q,l⟩:=(show Is K H (.tup [.int v.size,.int v.brim,.tup (v.outs.map outD),.bl v.holds,tgD v.spill,.tup (v.acts.map actD)]) x from h).un
 obtain⟨x1,r,rfl,h1,l⟩:=l.un
 obtain⟨x2,r,rfl,h2,l⟩:=l.un
 obtain⟨x3,r,rfl,h3,l⟩:=l.un
 obtain⟨x4,r,rfl,h4,l⟩:=l.un
 obtain⟨x5,r,rfl,h5,l⟩:=l.un
 obtain⟨x6,r,rfl,h6,l⟩:=l.un
 have:=l.un0
 subst this
 rw[h1.ui,h2.ui,h4.ub,Is.tg h5] at q
 exact⟨a,x3,x6,rfl,q,h3,h6⟩
noncomputable def spSettle (K:PySem.W.Frag):Sp:=fun vs H Q _=>∃ (x:V) (d:Addr) (has:Int) (v:Vs) (gs:List (Option Int×Int)) (n m:Nat),vs=[x,.int has,.ref d]∧Is K H (vsD v) x∧DictG H d gs∧gs.length+5≤1000∧VOk n m v∧
 ∀ p H',eI d H H'→DictG H' d (gs++vGoes v has)→bT K H' p [.int (vStay v has),.bl (vTips v has)]→Q (.ref p) H'
theorem sc_settle:FnScope ["vessel","has","sent","size","brim","outs","holds","spill","acts","over","left"] ["vessel","has","sent"] (aL (bC 12)):=⟨rfl,rfl,rfl,by decide +kernel,rfl,by decide +kernel,by decide +kernel⟩
theorem ok_settle {f fS fO:Addr}{fd fdS fdO:FuncData} (F:Fun K "settle" "settle" (bC 12) f fd) (T:Txt mg) (G_send:Callee P w K mg base "send" ["sent","target","amount"] 1 spSend fS fdS)
  (G_share_out:Callee P w K mg base "share_out" ["outs","has","sent"] 2 (spShare K) fO fdO):FnOk P w K mg base CX0 3 f fd ["vessel","has","sent"] (spSettle K):=by
 refine F.ok sc_settle (fun vs H Q E h=>?_) (fun cdv A outer s H vs Q E hr h=>?_)
 ·obtain⟨x,d,has,v,gs,n,m,rfl,_⟩:=h;rfl
 ·obtain⟨x,d,has,v,gs,n,m,rfl,hx,hd,hg,ok,k⟩:=h
  have sc:=sc_settle
  refine⟨_,(aD (cS (pv 0) (bO (K:=K) (n:=6) rfl rfl (aK (aH (i:=3) sc.nd rfl (Or.inl rfl)) (aK (aH (i:=4) sc.nd rfl (Or.inl rfl)) (aK (aH (i:=5) sc.nd rfl (Or.inl rfl)) (aK (aH (i:=6) sc.nd rfl (Or.inl rfl)) (aK (aH (i:=7) sc.nd rfl (Or.inl rfl)) (aK (aH (i:=8) sc.nd rfl (Or.inl rfl)) bL))))))))
   (aD (aS (i:=9) sc.nd rfl (Or.inl rfl) (bA (call_max2 rfl) rfl T.b_max PyProof.Rows.boot_max (aA aG (aA (aX op_sub (pv 1) (pv 4)) aC))))
   (aD (cY (pcG G_send hr (aA (pv 2) (aA (pv 7) (aA (pv 9) aC)))))
   (aD (ps_aug (i:=1) sc.nd rfl (Or.inl rfl) (pv 9) ip_sub)
   (aD (dP (bR op_lt (pv 1) (pv 3) (bW _)) (aO (bV (bS (aA (pv 1) (aA pe_bl aC))))) bX)
   (aD (aS (i:=10) sc.nd rfl (Or.inl rfl) (pcG G_share_out hr (aA (pv 5) (aA (pv 1) (aA (pv 2) aC)))))
   (aD (dP (pt_val (pv 6)) (aO (bV (bS (aA (pv 10) (aA pe_bl aC))))) bX)
   (aD (cY (pcG G_send hr (aA (pv 2) (aA pe_non (aA (pv 10) aC)))))
   (aO (bV (bS (aA aG (aA pe_bl aC))))))))))))),?_⟩
  obtain⟨a,o,c,rfl,q,ho,hc⟩:=vs_un hx
  refine⟨_,rfl,a,_,rfl,q,rfl,_,_,rfl,_,_,rfl,_,_,rfl,_,_,rfl,_,_,rfl,_,_,rfl,rfl,?_⟩
  refine⟨_,rfl,_,rfl,_,_,rfl,rfl,_,_,rfl,?_⟩
  have eo:(if has - v.brim > 0 then has - v.brim else 0)=has - bI v has:=by unfold bI;split <;> omega
  show tSeq _ _ _ [some (V.ref a),some (V.int has),some (V.ref d),some (V.int v.size),some (V.int v.brim),some o,some (V.bl v.holds),some (tgV v.spill),some c,some (V.int (if has - v.brim > 0 then has - v.brim else 0)),none] _
  rw[eo]
  refine⟨_,rfl,_,rfl,_,rfl,d,v.spill,has - bI v has,gs,rfl,hd,by omega,fun H1 b1 d1=>?_⟩
  have ts1:bJ K H H1:=b1.ts hd.mut
  refine⟨_,rfl,_,rfl,_,_,rfl,rfl,?_⟩
  have eh:has - (has - bI v has)=bI v has:=by omega
  show tSeq _ _ _ [some (V.ref a),some (V.int (has - (has - bI v has))),some (V.ref d),some (V.int v.size),some (V.int v.brim),some o,some (V.bl v.holds),some (tgV v.spill),some c,some (V.int (has - bI v has)),none] _
  rw[eh]
  refine⟨_,rfl,_,rfl,_,_,rfl,rfl,_,rfl,?_⟩
  refine ite2 (fun hlt=>?_) (fun hge=>?_)
  ·have hlt':bI v has < v.size:=of_decide_eq_true hlt
   have ht:vTips v has=false:=decide_eq_false (by omega)
   refine⟨_,rfl,(show 2≤sizeLine by decide),fun p hp=>?_⟩
   refine k p _ (b1.trans (aF.new hp).but) ?_ ?_
   ·have:vGoes v has=[(v.spill,has - bI v has)]:=by unfold vGoes;rw[ht];rfl
    rw[this]
    obtain⟨kvs,e,r⟩:=d1
    exact⟨kvs,aF.new hp _ _ e,r⟩
   ·have:vStay v has=bI v has:=by unfold vStay;rw[ht];rfl
    rw[this,ht]
    exact bT.of aB
  ·have hge':v.size≤bI v has:=by simpa using hge
   have ht:vTips v has=true:=decide_eq_true hge'
   obtain⟨oa,os,rfl,_,_⟩:=ho.un
   refine⟨_,rfl,_,rfl,_,rfl,oa,d,bI v has,v.outs,_,n,rfl,Is.mono ts1 _ _ ho,d1,by simp;omega,ok.ne,ok.o3,ok.outs,fun H2 b2 d2=>?_⟩
   refine⟨_,rfl,_,rfl,?_⟩
   cases hh:v.holds with
   | true=>
    refine iteT ?_
    refine⟨_,rfl,(show 2≤sizeLine by decide),fun p hp=>?_⟩
    refine k p _ (b1.trans (b2.trans (aF.new hp).but)) ?_ ?_
    ·have:gs++vGoes v has=(gs++[(v.spill,has - bI v has)])++v.outs.map fun x=>(x.1,bI v has / whole v.outs * x.2):=by
      unfold vGoes shared;rw[ht,hh];simp
     rw[this]
     obtain⟨kvs,e,r⟩:=d2
     exact⟨kvs,aF.new hp _ _ e,r⟩
    ·have:vStay v has=bI v has % whole v.outs:=by unfold vStay;rw[ht,hh];rfl
     rw[this,ht]
     exact bT.of aB
   | false=>
    refine iteF ?_
    refine⟨_,rfl,_,rfl,d,none,bI v has % whole v.outs,_,rfl,d2,by simp;have:=ok.o3;omega,fun H3 b3 d3=>?_⟩
    refine⟨(show 2≤sizeLine by decide),fun p hp=>?_⟩
    refine k p _ (b1.trans (b2.trans (b3.trans (aF.new hp).but))) ?_ ?_
    ·have:gs++vGoes v has=((gs++[(v.spill,has - bI v has)])++v.outs.map fun x=>(x.1,bI v has / whole v.outs * x.2))++[(none,bI v has % whole v.outs)]:=by
      unfold vGoes shared;rw[ht,hh];simp
     rw[this]
     obtain⟨kvs,e,r⟩:=d3
     exact⟨kvs,aF.new hp _ _ e,r⟩
    ·have:vStay v has=0:=by unfold vStay;rw[ht,hh];rfl
     rw[this,ht]
     exact bT.of aB
end
end Tw
namespace Tw
open PySem L2
section
variable {P:Program}{w:World}{K:PySem.W.Frag}{mg:Str→Option Value}{base:Heap}
theorem acts_at {H:Hp}{acts:List (Str×Int)}{xs:List V}{i:Nat}{x:V} (l:IsL K H (acts.map actD) xs) (h:xs[i]? = some x) :
  ∃ o,acts[i]? = some o∧∃ a,x=.ref a∧bT K H a [.str o.1,.int o.2]:=by
 obtain⟨d,hd,hx⟩:=l.get' h
 rw[List.getElem?_map] at hd
 cases e:acts[i]? with
 | none=>rw[e] at hd;cases hd
 | some o=>
  rw[e] at hd
  cases hd
  refine⟨o,rfl,?_⟩
  obtain⟨a,ys,rfl,q,l⟩:=(show Is K H (.tup [.str o.1,.int o.2]) x from hx).un
  obtain⟨y,r,rfl,hy,l⟩:=l.un
  obtain⟨z,r,rfl,hz,l⟩:=l.un
  have:=l.un0
  subst this
  rw[hy.us,hz.ui] at q
  exact⟨a,rfl,q⟩
theorem act1_len (ds:List Bool) (a:Str×Int):(act1 ds a).length=ds.length:=by unfold act1;simp
theorem actsL_len:∀ (as:List (Str×Int)) (ds:List Bool),(dQ ds as).length=ds.length
 | [],ds=>rfl
 | a::as,ds=>by
  show (dQ (act1 ds a) as).length=_
  rw[actsL_len as,act1_len]
theorem doorsL_len (vs:List Vs):∀ (tip:List Nat) (ds:List Bool),(cB vs ds tip).length=ds.length
 | [],ds=>rfl
 | i::r,ds=>by
  show (cB vs (match vs[i]? with | some v=>dQ ds v.acts | none=>ds) r).length=_
  rw[doorsL_len vs r]
  cases vs[i]? with
  | none=>rfl
  | some v=>exact actsL_len _ _
theorem actsL_snoc (ds:List Bool) (as:List (Str×Int)) (a:Str×Int):dQ ds (as++[a])=act1 (dQ ds as) a:=by
 unfold dQ;rw[List.foldl_append];rfl
theorem doorsL_snoc (vs:List Vs) (ds:List Bool) (tip:List Nat) (i:Nat) (v:Vs) (h:vs[i]? = some v):cB vs ds (tip++[i])=dQ (cB vs ds tip) v.acts:=by
 unfold cB;rw[List.foldl_append]
 show (match vs[i]? with | some v=>_ | none=>_)=_
 rw[h]
noncomputable def spDoors (K:PySem.W.Frag):Sp:=fun args H Q _=>∃ (x y:V) (t:Addr) (vs:List Vs) (doors:List Bool) (tip:List Nat) (n:Nat),args=[x,y,.ref t]∧Is K H (.tup (vs.map vsD)) x∧Is K H (.tup (doors.map D.bl)) y∧
 bZ K H t (tip.map fun (i:Nat)=>V.int (i:Int))∧(∀ i∈tip,i < vs.length)∧(∀ v∈vs,VOk n doors.length v)∧doors.length≤12∧
 ∀ p H',aF H H'→Is K H' (.tup ((cB vs doors tip).map D.bl)) p→Q p H'
theorem sc_doors_behind:FnScope ["vessels","doors","tipped","behind","number","size","brim","outs","holds","spill","acts","word","spout"] ["vessels","doors","tipped"] (aL (bC 15)):=⟨rfl,rfl,rfl,by decide +kernel,rfl,by decide +kernel,by decide +kernel⟩
theorem ok_doors_behind {f:Addr}{fd:FuncData} (F:Fun K "doors_behind" "doors_behind" (bC 15) f fd) (T:Txt mg):FnOk P w K mg base CX0 1 f fd ["vessels","doors","tipped"] (spDoors K):=by
 refine F.ok sc_doors_behind (fun vs H Q E h=>?_) (fun cdv A outer s H vs Q E hr h=>?_)
 ·obtain⟨x,y,t,vs,doors,tip,n,rfl,_⟩:=h;rfl
 ·obtain⟨x,y,t,vs,doors,tip,n,rfl,hx,hy,ht,htip,hok,hm,k⟩:=h
  have sc:=sc_doors_behind
  refine⟨_,(aD (aS (i:=3) sc.nd rfl (Or.inl rfl) (b9 (call_lstK (K:=K) rfl) rfl T.b_list bt_list (aA (pv 1) aC)))
   (aD (dH PassesOwn.never rfl (pi_listK (K:=K) rfl (pv 2)) (aH (i:=4) sc.nd rfl (Or.inl rfl)) (aD (cS (aU (aM (K:=K) rfl) (pv 0) (pv 4) (fun _ _=>rfl)) (bO (K:=K) (n:=6) rfl rfl (aK (aH (i:=5) sc.nd rfl (Or.inl rfl)) (aK (aH (i:=6) sc.nd rfl (Or.inl rfl)) (aK (aH (i:=7) sc.nd rfl (Or.inl rfl)) (aK (aH (i:=8) sc.nd rfl (Or.inl rfl)) (aK (aH (i:=9) sc.nd rfl (Or.inl rfl)) (aK (aH (i:=10) sc.nd rfl (Or.inl rfl)) bL))))))))
   (aO (dH PassesOwn.never rfl (pi_tupK (K:=K) rfl (pv 10)) (bO (K:=K) (n:=2) rfl rfl (aK (aH (i:=11) sc.nd rfl (Or.inl rfl)) (aK (aH (i:=12) sc.nd rfl (Or.inl rfl)) bL))) (aO (cS (pe_or (pe_cmpR op_eq (pv 11) dI (bW _)) (pe_one (pe_and (pe_cmpR op_eq (pv 11) dI (bW _)) (pe_one (pe_not (aU (aM (K:=K) rfl) (pv 3) (pv 12) (fun _ _=>rfl))))))) (pg_sub (pv 3) (pv 12) set_list)))))))
   (aO (bV (b9 (cE (K:=K) rfl) rfl T.b_tuple cK (aA (pv 3) aC)))))),?_⟩
  obtain⟨ax,xs,rfl,qx,lx⟩:=hx.un
  obtain⟨ay,ys,rfl,qy,ly⟩:=hy.un
  have ey:=ly.bools
  subst ey
  have exl:xs.length=vs.length:=by rw[lx.length,List.length_map]
  refine⟨_,rfl,ay,_,rfl,.inr qy,fun b hb=>?_⟩
  have nb:∀ {c:Addr}{o:HO},H c=some o→c≠b:=fun e=>aJ e hb
  refine⟨_,rfl,t,rfl,⟨_,(aF.new hb).seq ht⟩,for_list (K:=K) (a:=t) (xs:=tip.map fun (i:Nat)=>V.int (i:Int))
   (fun i σ' H'=>aF H H'∧H' b=some (.lst ((cB vs doors (tip.take i)).map V.bl))∧∃ v4 v5 v6 v7 v8 v9 v10 v11 v12,σ'=[some (.ref ax),some (.ref ay),some (.ref t),some (.ref b),v4,v5,v6,v7,v8,v9,v10,v11,v12])
   ⟨aF.new hb,aB,none,none,none,none,none,none,none,none,none,rfl⟩ (fun i σ' H' _ p=>p.1.seq ht) ?_ ?_⟩
  ·rintro i x σ' H1 hi ⟨sm,hbl,v4,v5,v6,v7,v8,v9,v10,v11,v12,rfl⟩
   rw[List.getElem?_map] at hi
   obtain⟨j,hj,rfl⟩:=Option.map_eq_some_iff.mp hi
   have hjv:=htip j (List.mem_of_getElem? hj)
   have hv:vs[j]? = some vs[j]:=by simp [hjv]
   have hvok:=hok vs[j] (List.getElem_mem hjv)
   obtain⟨xv,hxv,ixv⟩:=lx.get (i:=j) (d:=vsD vs[j]) (by rw[List.getElem?_map,hv];rfl)
   obtain⟨va,o,c,rfl,qv,ho,hc⟩:=vs_un ixv
   refine⟨_,rfl,_,rfl,.inr (.inl ⟨ax,xs,j,_,rfl,rfl,sm.tup qx,cL hxv,va,_,rfl,sm.tup qv,rfl,_,_,rfl,_,_,rfl,_,_,rfl,_,_,rfl,_,_,rfl,_,_,rfl,rfl,?_⟩)⟩
   obtain⟨ca,cs,rfl,qc,lc⟩:=hc.un
   have ecs:cs.length=vs[j].acts.length:=by rw[lc.length,List.length_map]
   refine⟨_,rfl,ca,rfl,⟨_,sm.tup qc⟩,for_tup (K:=K) (a:=ca) (xs:=cs)
    (fun l σ' H'=>aF H H'∧H' b=some (.lst ((dQ (cB vs doors (tip.take i)) (vs[j].acts.take l)).map V.bl))∧
     ∃ u11 u12,σ'=[some (.ref ax),some (.ref ay),some (.ref t),some (.ref b),some (.int (j:Int)),some (.int vs[j].size),some (.int vs[j].brim),some o,some (.bl vs[j].holds),some (tgV vs[j].spill),some (.ref ca),u11,u12])
    ⟨sm,hbl,v11,v12,rfl⟩ (fun l σ' H' _ p=>p.1.tup qc) ?_ ?_⟩
   ·rintro l x σ' H2 hl ⟨sm2,hb2,u11,u12,rfl⟩
    obtain⟨at',hat,aa,rfl,qa⟩:=acts_at lc hl
    have aok:=hvok.acts at' (List.mem_of_getElem? hat)
    refine⟨aa,_,rfl,sm2.tup qa,rfl,_,_,rfl,_,_,rfl,rfl,?_⟩
    have hdl:(dQ (cB vs doors (tip.take i)) (vs[j].acts.take l)).length=doors.length:=by rw[actsL_len,doorsL_len]
    have hsp:at'.2.toNat < (dQ (cB vs doors (tip.take i)) (vs[j].acts.take l)).length:=by rw[hdl];have:=aok.lo;have:=aok.hi;omega
    have fin:∀ c:Bool,c=(if at'.1 = "open" then true else if at'.1 = "turn" then !((dQ (cB vs doors (tip.take i)) (vs[j].acts.take l)).getD at'.2.toNat false) else false)→
      aF H (upd H2 b (.lst (((dQ (cB vs doors (tip.take i)) (vs[j].acts.take l)).map V.bl).set at'.2.toNat (.bl c))))∧
      upd H2 b (.lst (((dQ (cB vs doors (tip.take i)) (vs[j].acts.take l)).map V.bl).set at'.2.toNat (.bl c))) b=some (.lst ((dQ (cB vs doors (tip.take i)) (vs[j].acts.take (l+1))).map V.bl)):=fun c hc=>by
     refine⟨sm2.put hb,?_⟩
     rw[aB,aW hat,actsL_snoc,act1,← hc,List.map_set]
    have set:∀ c:Bool,c=(if at'.1 = "open" then true else if at'.1 = "turn" then !((dQ (cB vs doors (tip.take i)) (vs[j].acts.take l)).getD at'.2.toNat false) else false)→
      gSub (d5 3) (d5 12) rSetL (.bl c) [some (.ref ax),some (.ref ay),some (.ref t),some (.ref b),some (.int (j:Int)),some (.int vs[j].size),some (.int vs[j].brim),some o,some (.bl vs[j].holds),some (tgV vs[j].spill),some (.ref ca),some (.str at'.1),some (.int at'.2)] H2
       fun σ' H'=>aF H H'∧H' b=some (.lst ((dQ (cB vs doors (tip.take i)) (vs[j].acts.take (l+1))).map V.bl))∧
        ∃ u11 u12,σ'=[some (.ref ax),some (.ref ay),some (.ref t),some (.ref b),some (.int (j:Int)),some (.int vs[j].size),some (.int vs[j].brim),some o,some (.bl vs[j].holds),some (tgV vs[j].spill),some (.ref ca),u11,u12]:=fun c hc=>by
     obtain⟨f1,f2⟩:=fin c hc
     refine⟨_,rfl,_,rfl,b,_,at'.2,at'.2.toNat,rfl,rfl,hb2,ixN_nat aok.lo (by rw[List.length_map];omega),f1,f2,_,_,rfl⟩
    refine⟨_,rfl,rfl,_,rfl,?_⟩
    refine ite2 (fun h1=>?_) (fun h1=>?_)
    ·have e1:at'.1 = "open" := by have:=of_decide_eq_true h1;injection this
     exact set true (by rw[if_pos e1])
    ·have e1:¬ at'.1 = "open" := fun z=>h1 (decide_eq_true (by rw[z]))
     refine⟨_,rfl,rfl,_,rfl,?_⟩
     refine ite2 (fun h2=>?_) (fun h2=>?_)
     ·have e2:at'.1 = "turn" := by have:=of_decide_eq_true h2;injection this
      have hg:((dQ (cB vs doors (tip.take i)) (vs[j].acts.take l)).map V.bl)[at'.2.toNat]? = some (.bl ((dQ (cB vs doors (tip.take i)) (vs[j].acts.take l)).getD at'.2.toNat false)):=by
       rw[List.getElem?_map,List.getD_eq_getElem?_getD];simp [hsp]
      refine⟨_,rfl,_,rfl,.inl ⟨b,_,at'.2,_,rfl,rfl,bZ.of hb2,atI_int aok.lo hg,_,rfl,?_⟩⟩
      exact set _ (by rw[if_neg e1,if_pos e2])
     ·have e2:¬ at'.1 = "turn" := fun z=>h2 (decide_eq_true (by rw[z]))
      exact set false (by rw[if_neg e1,if_neg e2])
   ·rintro σ' H2 ⟨sm2,hb2,u11,u12,rfl⟩
    rw[ecs,List.take_length] at hb2
    refine⟨sm2,?_,_,_,_,_,_,_,_,_,_,rfl⟩
    rw[aW hj,doorsL_snoc vs doors _ j vs[j] hv]
    exact hb2
  ·rintro σ' H1 ⟨sm,hbl,v4,v5,v6,v7,v8,v9,v10,v11,v12,rfl⟩
   rw[List.length_map,List.take_length] at hbl
   refine⟨_,rfl,b,_,rfl,.inl ⟨bZ.of hbl,fun l hl=>?_⟩⟩
   exact k _ _ (sm.trans (aF.new hl)) (Is.tupOf (bT.of aB) (IsL.of_bools _))
end
end Tw
namespace Tw
open PySem L2
theorem add3_len:∀ {a b c:List Int}{n:Nat},a.length=n→b.length=n→c.length=n→(add3 a b c).length=n
 | [],b,c,n,h,_,_=>by simp at h;subst h;rfl
 | x::a,[],c,n,h1,h2,_=>by simp at h1 h2;omega
 | x::a,y::b,[],n,h1,_,h3=>by simp at h1 h3;omega
 | x::a,y::b,z::c,n,h1,h2,h3=>by
  simp at h1 h2 h3
  show (add3 a b c).length+1=n
  rw[add3_len (n:=n - 1) (by omega) (by omega) (by omega)];omega
theorem add3_get:∀ {a b c:List Int}{i:Nat}{x y z:Int},a[i]? = some x→b[i]? = some y→c[i]? = some z→(add3 a b c)[i]? = some (x+y+z)
 | [],_,_,i,_,_,_,h,_,_=>by simp at h
 | _::_,[],_,i,_,_,_,_,h,_=>by simp at h
 | _::_,_::_,[],i,_,_,_,_,_,h=>by simp at h
 | a::as,b::bs,c::cs,0,x,y,z,h1,h2,h3=>by simp at h1 h2 h3;subst h1 h2 h3;rfl
 | a::as,b::bs,c::cs,i+1,x,y,z,h1,h2,h3=>by
  show (add3 as bs cs)[i]? = _
  exact add3_get (by simpa using h1) (by simpa using h2) (by simpa using h3)
theorem fill1_len (has:List Int) (s:Spt) (d:Bool):(fill1 has s d).length=has.length:=by unfold fill1;split <;> simp
theorem fillL_len:∀ (ss:List Spt) (ds:List Bool) (has:List Int),(eA has ss ds).length=has.length
 | [],ds,has=>by cases ds <;> rfl
 | s::ss,[],has=>rfl
 | s::ss,d::ds,has=>by show (eA (fill1 has s d) ss ds).length=_;rw[fillL_len ss ds,fill1_len]
theorem fillL_snoc:∀ (ss:List Spt) (ds:List Bool) (i:Nat) (has:List Int) (s:Spt) (d:Bool),ss[i]? = some s→ds[i]? = some d→eA has (ss.take (i+1)) (ds.take (i+1))=fill1 (eA has (ss.take i) (ds.take i)) s d
 | [],_,i,_,_,_,h,_=>by simp at h
 | _::_,[],i,_,_,_,_,h=>by simp at h
 | a::ss,b::ds,0,has,s,d,h1,h2=>by simp at h1 h2;subst h1 h2;simp [eA]
 | a::ss,b::ds,i+1,has,s,d,h1,h2=>by
  simp only [List.take_succ_cons,eA]
  exact fillL_snoc ss ds i _ s d (by simpa using h1) (by simpa using h2)
theorem goesL_snoc:∀ (vs:List Vs) (hs:List Int) (i:Nat) (v:Vs) (h:Int),vs[i]? = some v→hs[i]? = some h→bY (vs.take (i+1)) (hs.take (i+1))=bY (vs.take i) (hs.take i)++vGoes v h
 | [],_,i,_,_,h,_=>by simp at h
 | _::_,[],i,_,_,_,h=>by simp at h
 | a::vs,b::hs,0,v,h,h1,h2=>by simp at h1 h2;subst h1 h2;simp [bY]
 | a::vs,b::hs,i+1,v,h,h1,h2=>by
  simp only [List.take_succ_cons,bY,List.append_assoc]
  rw[goesL_snoc vs hs i v h (by simpa using h1) (by simpa using h2)]
theorem staysL_snoc:∀ (vs:List Vs) (hs:List Int) (i:Nat) (v:Vs) (h:Int),vs[i]? = some v→hs[i]? = some h→cX (vs.take (i+1)) (hs.take (i+1))=cX (vs.take i) (hs.take i)++[vStay v h]
 | [],_,i,_,_,h,_=>by simp at h
 | _::_,[],i,_,_,_,h=>by simp at h
 | a::vs,b::hs,0,v,h,h1,h2=>by simp at h1 h2;subst h1 h2;simp [cX]
 | a::vs,b::hs,i+1,v,h,h1,h2=>by
  simp only [List.take_succ_cons,cX,List.cons_append]
  rw[staysL_snoc vs hs i v h (by simpa using h1) (by simpa using h2)]
theorem tipsL_snoc:∀ (vs:List Vs) (hs:List Int) (i j:Nat) (v:Vs) (h:Int),vs[i]? = some v→hs[i]? = some h→bE j (vs.take (i+1)) (hs.take (i+1))=bE j (vs.take i) (hs.take i)++(if vTips v h=true then [j+i] else [])
 | [],_,i,_,_,_,h,_=>by simp at h
 | _::_,[],i,_,_,_,_,h=>by simp at h
 | a::vs,b::hs,0,j,v,h,h1,h2=>by
  simp at h1 h2;subst h1 h2
  simp only [List.take_succ_cons,List.take_zero,bE,Nat.add_zero,List.nil_append]
 | a::vs,b::hs,i+1,j,v,h,h1,h2=>by
  simp only [List.take_succ_cons,bE]
  rw[tipsL_snoc vs hs i (j+1) v h (by simpa using h1) (by simpa using h2)]
  have e:j+1+i=j+(i+1):=by omega
  rw[e]
  split <;> simp
theorem tipsL_lt:∀ (vs:List Vs) (hs:List Int) (j k:Nat),k∈bE j vs hs→j≤k∧k < j+vs.length
 | [],_,_,k,h=>by simp [bE] at h
 | _::_,[],_,k,h=>by simp [bE] at h
 | a::vs,b::hs,j,k,h=>by
  simp only [bE] at h
  have ih:=tipsL_lt vs hs (j+1) k
  simp only [List.length_cons]
  split at h
  ·rcases List.mem_cons.mp h with rfl | h
   ·omega
   ·have:=ih h;omega
  ·have:=ih h;omega
theorem tipsL_len:∀ (vs:List Vs) (hs:List Int) (j:Nat),(bE j vs hs).length≤vs.length
 | [],_,_=>by simp [bE]
 | _::_,[],_=>by simp [bE]
 | a::vs,b::hs,j=>by
  simp only [bE,List.length_cons]
  have:=tipsL_len vs hs (j+1)
  split
  ·rw[List.length_cons];omega
  ·omega
theorem goesL_len {n m:Nat}:∀ (vs:List Vs) (hs:List Int),(∀ v∈vs,VOk n m v)→(bY vs hs).length≤5 * vs.length
 | [],_,_=>by simp [bY]
 | _::_,[],_=>by simp [bY]
 | a::vs,b::hs,h=>by
  simp only [bY,List.length_append,List.length_cons]
  have h1:=vGoes_len (h a List.mem_cons_self) b
  have h2:=goesL_len vs hs fun v hv=>h v (List.mem_cons_of_mem _ hv)
  omega
section
variable {P:Program}{w:World}{K:PySem.W.Frag}{mg:Str→Option Value}{base:Heap}
theorem sps_at {H:Hp}{sps:List Spt}{xs:List V}{i:Nat}{x:V} (l:IsL K H (sps.map spD) xs) (h:xs[i]? = some x) :
  ∃ s,sps[i]? = some s∧∃ a,x=.ref a∧bT K H a [.int s.1,.int s.2.1,.bl s.2.2]:=by
 obtain⟨d,hd,hx⟩:=l.get' h
 rw[List.getElem?_map] at hd
 cases e:sps[i]? with
 | none=>rw[e] at hd;cases hd
 | some o=>
  rw[e] at hd
  cases hd
  refine⟨o,rfl,?_⟩
  obtain⟨a,ys,rfl,q,l⟩:=(show Is K H (.tup [.int o.1,.int o.2.1,.bl o.2.2]) x from hx).un
  obtain⟨y,r,rfl,hy,l⟩:=l.un
  obtain⟨z,r,rfl,hz,l⟩:=l.un
  obtain⟨z2,r,rfl,hz2,l⟩:=l.un
  have:=l.un0
  subst this
  rw[hy.ui,hz.ui,hz2.ub] at q
  exact⟨a,rfl,q⟩
theorem st_un {H:Hp}{held coming:List Int}{doors:List Bool}{y:V} (h:Is K H (stD held coming doors) y):∃ (a b c d:Addr),y=.ref a∧bT K H a [.ref b,.ref c,.ref d]∧bT K H b (held.map V.int)∧bT K H c (coming.map V.int)∧bT K H d (doors.map V.bl):=by
 obtain⟨a,xs,rfl,q,l⟩:=(show Is K H (.tup [.tup (held.map D.int),.tup (coming.map D.int),.tup (doors.map D.bl)]) y from h).un
 obtain⟨x1,r,rfl,h1,l⟩:=l.un
 obtain⟨x2,r,rfl,h2,l⟩:=l.un
 obtain⟨x3,r,rfl,h3,l⟩:=l.un
 have:=l.un0
 subst this
 obtain⟨b,ys,rfl,q1,l1⟩:=h1.un
 obtain⟨c,zs,rfl,q2,l2⟩:=h2.un
 obtain⟨d,us,rfl,q3,l3⟩:=h3.un
 rw[l1.ints] at q1
 rw[l2.ints] at q2
 rw[l3.bools] at q3
 exact⟨a,b,c,d,rfl,q,q1,q2,q3⟩
theorem st_of {H:Hp}{held coming:List Int}{doors:List Bool}{a b c d:Addr} (q:bT K H a [.ref b,.ref c,.ref d]) (q1:bT K H b (held.map V.int)) (q2:bT K H c (coming.map V.int)) (q3:bT K H d (doors.map V.bl)):Is K H (stD held coming doors) (.ref a):=
 Is.tupOf q (.cons (Is.tupOf q1 (IsL.of_ints _)) (.cons (Is.tupOf q2 (IsL.of_ints _)) (.cons (Is.tupOf q3 (IsL.of_bools _)) .nil)))
noncomputable def spFilled (K:PySem.W.Frag):Sp:=fun args H Q _=>∃ (x y:V) (z:Addr) (sps:List Spt) (held coming poured:List Int) (doors:List Bool) (n:Nat),args=[x,y,.ref z]∧Is K H (.tup (sps.map spD)) x∧Is K H (stD held coming doors) y∧bT K H z (poured.map V.int)∧
 held.length=n∧coming.length=n∧poured.length=n∧doors.length=sps.length∧n≤12∧(∀ s∈sps,0≤s.1∧s.1 < n)∧
 ∀ p H',aF H H'→H p=none→H' p=some (.lst ((eA (add3 held coming poured) sps doors).map V.int))→Q (.ref p) H'
theorem sc_filled:FnScope ["spouts","state","poured","held","coming","doors","has","target","flow","first_door","door"] ["spouts","state","poured"] (aL (bC 11)):=⟨rfl,rfl,rfl,by decide +kernel,rfl,by decide +kernel,by decide +kernel⟩
theorem ok_filled {f:Addr}{fd:FuncData} (F:Fun K "filled" "filled" (bC 11) f fd) (T:Txt mg):FnOk P w K mg base CX0 1 f fd ["spouts","state","poured"] (spFilled K):=by
 refine F.ok sc_filled (fun vs H Q E h=>?_) (fun cdv A outer s H vs Q E hr h=>?_)
 ·obtain⟨x,y,z,sps,held,coming,poured,doors,n,rfl,_⟩:=h;rfl
 ·obtain⟨x,y,z,sps,held,coming,poured,doors,n,rfl,hx,hy,qz,l1,l2,l3,l4,hn,hsp,k⟩:=h
  have sc:=sc_filled
  refine⟨_,(aD (cS (pv 1) (bO (K:=K) (n:=3) rfl rfl (aK (aH (i:=3) sc.nd rfl (Or.inl rfl)) (aK (aH (i:=4) sc.nd rfl (Or.inl rfl)) (aK (aH (i:=5) sc.nd rfl (Or.inl rfl)) bL)))))
   (aD (ps_set_lc (i:=6) sc.nd rfl rfl (fun _ _ h=>h) rfl (LcOk.mk (N':=["amounts"]) (fr:=[none]) rfl trivial rfl rfl rfl rfl rfl trivial) (pi_zip3K (K:=K) rfl rfl T.b_zip (aA (pv 3) (aA (pv 4) (aA (pv 2) aC)))) (fun _ _ _=>(aH (i:=0) (show (["amounts"]:List Str).Nodup by decide +kernel) rfl (Or.inl rfl) (Or.inr rfl))) (fun _ _ _=>eE) (fun _ _ _=>(bA (call_sumK (K:=K) rfl rfl) rfl T.b_sum PyProof.Rows.boot_sum (aA (pv 0) aC))))
   (aD (dH PassesOwn.never rfl (pi_zip2K (K:=K) rfl rfl T.b_zip (aA (pv 0) (aA (pv 5) aC))) (bO (K:=K) (n:=2) rfl rfl (aK (bO (K:=K) (n:=3) rfl rfl (aK (aH (i:=7) sc.nd rfl (Or.inl rfl)) (aK (aH (i:=8) sc.nd rfl (Or.inl rfl)) (aK (aH (i:=9) sc.nd rfl (Or.inl rfl)) bL)))) (aK (aH (i:=10) sc.nd rfl (Or.inl rfl)) bL))) (aO (dP (pt_val (pv 10)) (aO (ps_augS (pv 6) (pv 7) (get_listK (K:=K) rfl) (pv 8) ip_add set_list)) bX)))
   (aO (bV (pv 6)))))),?_⟩
  obtain⟨ax,xs,rfl,qx,lx⟩:=hx.un
  obtain⟨ay,a1,a2,a3,rfl,qy,q1,q2,q3⟩:=st_un hy
  have exl:xs.length=sps.length:=by rw[lx.length,List.length_map]
  refine⟨_,rfl,ay,_,rfl,qy,rfl,_,_,rfl,_,_,rfl,_,_,rfl,rfl,?_⟩
  have la:=add3_len l1 l2 l3
  refine⟨_,rfl,_,rfl,_,rfl,true,true,true,a1,a2,z,rfl,⟨_,q1⟩,⟨_,q2⟩,⟨_,qz⟩,lc_zip3 (K:=K) (xs:=held.map V.int) (ys:=coming.map V.int) (zs:=poured.map V.int) (n:=n) (by simpa using l1) (by simpa using l2) (by simpa using l3)
   (fun D i r σ' H'=>H D=none∧aF H H'∧H' D=some (.lst r)∧r=((add3 held coming poured).take i).map V.int∧∃ v,σ'=[v])
   (fun D i r σ' H' p=>⟨p.2.1.tup q1,p.2.1.tup q2,p.2.1.tup qz⟩) (fun D hD=>⟨hD,aF.new hD,aB,by simp,none,rfl⟩) ?_ ?_⟩
  rotate_left
  ·rintro D i x0 y0 z0 r σ' H' Tt hx0 hy0 hz0 ⟨hD,sm,hDl,rfl,v,rfl⟩ hT
   rw[List.getElem?_map] at hx0 hy0 hz0
   obtain⟨x,hx,rfl⟩:=Option.map_eq_some_iff.mp hx0
   obtain⟨y,hy,rfl⟩:=Option.map_eq_some_iff.mp hy0
   obtain⟨z',hz,rfl⟩:=Option.map_eq_some_iff.mp hz0
   have hi:=add3_get hx hy hz
   have hil:=(List.getElem?_eq_some_iff.mp hi).1
   have nT:D≠Tt:=aJ hDl hT
   refine name_yes ?_
   refine⟨_,rfl,true,Tt,[x,y,z'],rfl,bT.of aB,by rw[aI nT];exact hDl,aZ (by simp;omega),hD,?_,aB,?_,_,rfl⟩
   ·intro b o e
    rw[aI (aJ e hD)]
    exact aF.new hT b o (sm b o e)
   ·rw[aW hi,List.map_append]
    have:[x,y,z'].sum=x+y+z':=by simp;omega
    rw[this];rfl
  ·rintro D r σ' H1 ⟨hD,sm,hDl,rfl,_⟩
   rw[← la,List.take_length] at hDl
   refine⟨_,rfl,_,rfl,true,true,ax,a3,rfl,⟨_,sm.tup qx⟩,⟨_,sm.tup q3⟩,for_zip2 (K:=K) (xs:=xs) (ys:=doors.map V.bl) (n:=sps.length) exl (by rw[List.length_map,l4])
    (fun i σ' H'=>aF H H'∧H' D=some (.lst ((eA (add3 held coming poured) (sps.take i) (doors.take i)).map V.int))∧
     ∃ v7 v8 v9 v10,σ'=[some (.ref ax),some (.ref ay),some (.ref z),some (.ref a1),some (.ref a2),some (.ref a3),some (.ref D),v7,v8,v9,v10])
    (fun i σ' H' p=>⟨p.1.tup qx,p.1.tup q3⟩) ⟨sm,by cases sps <;> exact hDl,none,none,none,none,rfl⟩ ?_ ?_⟩
   ·rintro σ' H2 ⟨sm2,h2,v7,v8,v9,v10,rfl⟩
    rw[← l4,List.take_length] at h2
    rw[l4,List.take_length] at h2
    refine⟨_,rfl,?_⟩
    exact k D H2 sm2 hD h2
   ·rintro i x y σ' H2 Tt hx hy ⟨sm2,h2,v7,v8,v9,v10,rfl⟩ hT
    obtain⟨sp,hsi,sa,rfl,qs⟩:=sps_at lx hx
    rw[List.getElem?_map] at hy
    obtain⟨dr,hdi,rfl⟩:=Option.map_eq_some_iff.mp hy
    have nT:D≠Tt:=aJ h2 hT
    have sm3:aF H (upd H2 Tt (.tup [.ref sa,.bl dr])):=fun b o e=>aF.new hT b o (sm2 b o e)
    have h3:upd H2 Tt (.tup [.ref sa,.bl dr]) D=some (.lst ((eA (add3 held coming poured) (sps.take i) (doors.take i)).map V.int)):=by rw[aI nT];exact h2
    refine⟨Tt,_,rfl,bT.of aB,rfl,_,_,rfl,⟨sa,_,rfl,sm3.tup qs,rfl,_,_,rfl,_,_,rfl,_,_,rfl,rfl,_,_,rfl,rfl,?_⟩⟩
    refine⟨_,rfl,_,rfl,?_⟩
    have snoc:=fillL_snoc sps doors i (add3 held coming poured) sp dr hsi hdi
    cases dr with
    | false=>
     refine iteF ?_
     refine⟨sm3,?_,_,_,_,_,rfl⟩
     rw[snoc];exact h3
    | true=>
     refine iteT ?_
     have hs:=hsp sp (List.mem_of_getElem? hsi)
     have hlen:(eA (add3 held coming poured) (sps.take i) (doors.take i)).length=n:=by rw[fillL_len,la]
     have hlt:sp.1.toNat < (eA (add3 held coming poured) (sps.take i) (doors.take i)).length:=by rw[hlen];omega
     have hg:((eA (add3 held coming poured) (sps.take i) (doors.take i)).map V.int)[sp.1.toNat]? = some (.int ((eA (add3 held coming poured) (sps.take i) (doors.take i)).getD sp.1.toNat 0)):=by
      rw[List.getElem?_map,List.getD_eq_getElem?_getD];simp [hlt]
     refine⟨_,rfl,_,rfl,D,_,sp.1,_,rfl,rfl,bZ.of h3,hs.1,by omega,hg,_,rfl,_,_,rfl,rfl,D,_,sp.1,sp.1.toNat,rfl,rfl,h3,ixN_nat hs.1 (by rw[List.length_map,hlen];omega),?_⟩
     refine⟨sm3.put hD,?_,_,_,_,_,rfl⟩
     rw[aB,snoc,fill1,if_pos rfl,List.map_set]
end
end Tw
namespace Tw
open PySem L2
theorem staysL_len:∀ (vs:List Vs) (hs:List Int),vs.length=hs.length→(cX vs hs).length=vs.length
 | [],_,_=>by simp [cX]
 | _::_,[],h=>by simp at h
 | a::vs,b::hs,h=>by simp only [cX,List.length_cons];rw[staysL_len vs hs (by simpa using h)]
section
variable {P:Program}{w:World}{K:PySem.W.Frag}{mg:Str→Option Value}{base:Heap}
theorem net_un {H:Hp}{net:Net}{x:V} (h:Is K H (netD net) x):∃ (a b c:Addr) (xs ys:List V),x=.ref a∧bT K H a [.ref b,.ref c]∧bT K H b xs∧IsL K H (net.vs.map vsD) xs∧bT K H c ys∧IsL K H (net.sps.map spD) ys:=by
 obtain⟨a,zs,rfl,q,l⟩:=(show Is K H (.tup [.tup (net.vs.map vsD),.tup (net.sps.map spD)]) x from h).un
 obtain⟨x1,r,rfl,h1,l⟩:=l.un
 obtain⟨x2,r,rfl,h2,l⟩:=l.un
 have:=l.un0
 subst this
 obtain⟨b,xs,rfl,q1,l1⟩:=h1.un
 obtain⟨c,ys,rfl,q2,l2⟩:=h2.un
 exact⟨a,b,c,xs,ys,rfl,q,q1,l1,q2,l2⟩
structure StOk (net:Net) (held coming:List Int) (doors:List Bool):Prop where
 h:held.length=net.vs.length
 c:coming.length=net.vs.length
 d:doors.length=net.sps.length
theorem sc_tick_behind:FnScope ["net","state","poured","vessels","spouts","held","tipped","sent","number","has","left","tips","coming","doors"] ["net","state","poured"] (aL (bC 10)):=⟨rfl,rfl,rfl,by decide +kernel,rfl,by decide +kernel,by decide +kernel⟩
end
end Tw
namespace Tw
open PySem L2
section
variable {P:Program}{w:World}{K:PySem.W.Frag}{mg:Str→Option Value}{base:Heap}
noncomputable def eB (H:Hp) (t sl:Addr):Prop:=∃ (ns:List Int) (pos cell:Int),H t=some (.lst [.ref sl,.int pos,.int cell])∧H sl=some (.lst (ns.map V.int))∧ns.length≤1000
theorem eB.mut {H:Hp}{t sl:Addr} (h:eB H t sl):Mut (H t):=by obtain⟨ns,pos,cell,e,_⟩:=h;rw[e];exact trivial
theorem eB.same {H H':Hp}{t sl:Addr} (h:eB H t sl) (s:aF H H'):eB H' t sl:=by
 obtain⟨ns,pos,cell,e,f,g⟩:=h;exact⟨ns,pos,cell,s _ _ e,s _ _ f,g⟩
noncomputable def spDraw:Sp:=fun vs H Q _=>∃ (t sl:Addr) (many:Int),vs=[.ref t,.int many]∧eB H t sl∧0 < many∧many < 1000000∧
 ∀ (r:Int) H',eI t H H'→eB H' t sl→0≤r→r < many→Q (.int r) H'
noncomputable def spDrawB:Sp:=fun vs H Q _=>∃ (t sl:Addr) (many:Int),vs=[.ref t,.int many]∧eB H t sl∧0 < many∧many < 2 ^ 200∧
 ∀ (r:Int) H',eI t H H'→eB H' t sl→0≤r→r < many→Q (.int r) H'
noncomputable abbrev rdTail (K:PySem.W.Frag):TS:=tSeq (tAsg (tOp (rI (fun _ j=>0 < j) fun i j=>.int (i % j)) (tOp (rIx K) (d5 0) (tC (.int 2))) (d5 1)) (gName 4)) (tSeq (tAsg (tOp (rI CDivB fun i j=>.int (i / j)) (tOp (rIx K) (d5 0) (tC (.int 2))) (d5 1)) (gSub (d5 0) (tC (.int 2)) rSetL)) (tRet (d5 4)))
noncomputable abbrev rdMid (K:PySem.W.Frag):TS:=tSeq (tAsg (tOp (rI0 fun i j=>.int (i+j)) (tOp (rIx K) (d5 0) (tC (.int 1))) (tC (.int 1))) (gSub (d5 0) (tC (.int 1)) rSetL)) (tAsg (d5 3) (gSub (d5 0) (tC (.int 2)) rSetL))
noncomputable abbrev rdBody (K:PySem.W.Frag):TS:=tSeq (tAsg (tOp (rI (fun _ j=>0 < j) fun i j=>.int (i % j)) (tOp (rI0 fun i j=>.int (i+j)) (d5 3) (tOp (rI CMul fun i j=>.int (i * j)) (tC (.int 1000003)) (tOp (rIx K) (d5 0) (tC (.int 1))))) (d5 2)) (gName 3)) (tSeq (tAsg (tOp (rI (fun _ j=>0 < j) fun i j=>.int (i % j)) (tOp (rI0 fun i j=>.int (i+j)) (tOp (rI0 fun i j=>.int (i+j)) (tOp (rI CMul fun i j=>.int (i * j)) (d5 3) (d5 3)) (tOp (rI CMul fun i j=>.int (i * j)) (tC (.int 1181783497276652981)) (d5 3))) (tC (.int 2049848353892358983))) (d5 2)) (gName 3)) (tAsg (tOp (rI (fun _ j=>0 < j) fun i j=>.int (i % j)) (tOp (rI0 fun i j=>.int (i+j)) (tOp (rI CMul fun i j=>.int (i * j)) (d5 3) (d5 3)) (tC (.int 1442695040888963407))) (d5 2)) (gName 3)))
noncomputable abbrev rdTest (K:PySem.W.Frag):TT:=tOr (tTest (tOp (rI0 fun i j=>.bl (decide (j≤i))) (tOp (rIx K) (d5 0) (tC (.int 1))) (tCB (rLen K) (dX (tOp (rIx K) (d5 0) (tC (.int 0))) tNil)))) (tTest (tOp (rI0 fun i j=>.bl (decide (i < j))) (d5 3) (tOp (rI CPow fun i j=>.int (i ^ j.toNat)) (tC (.int 10)) (tC (.int 18)))))
noncomputable abbrev dE (Q:VK):Ends:={ nx:=fun _ H'=>Q .non H',rt:=Q }
theorem sc__law_draw:FnScope ["tape","many","prime","cell","found"] ["tape","many"] (aL (bC 23)):=⟨rfl,rfl,rfl,by decide +kernel,rfl,by decide +kernel,by decide +kernel⟩
theorem ok__law_drawB {f:Addr}{fd:FuncData} (F:Fun K "_law_draw" "_law_draw" (bC 23) f fd) (T:Txt mg):FnOk P w K mg base CX0 1 f fd ["tape","many"] spDrawB:=by
 refine F.ok sc__law_draw (fun vs H Q E h=>?_) (fun cdv A outer s H vs Q E hr h=>?_)
 ·obtain⟨t,sl,many,rfl,_⟩:=h;rfl
 ·obtain⟨t,sl,many,rfl,⟨ns,pos,cell,ht,hsl,hns⟩,hm0,hm1,k⟩:=h
  have sc:=sc__law_draw
  refine⟨_,(aD (aS (i:=2) sc.nd rfl (Or.inl rfl) aG)
   (aD (dP (bR op_lt (aU (aM (K:=K) rfl) (pv 0) aG (fun _ _=>rfl)) (pv 1) (bW _)) (aD (aS (i:=3) sc.nd rfl (Or.inl rfl) aG)
   (aD (dP (bR op_gt (bA (bQ (K:=K) rfl) rfl T.b_len PySem.boot_len (aA (aU (aM (K:=K) rfl) (pv 0) aG (fun _ _=>rfl)) aC)) aG (bW _)) (aO (aS (i:=3) sc.nd rfl (Or.inl rfl) (aU (aM (K:=K) rfl) (aU (aM (K:=K) rfl) (pv 0) aG (fun _ _=>rfl)) (aX op_mod (aU (aM (K:=K) rfl) (pv 0) aG (fun _ _=>rfl)) (bA (bQ (K:=K) rfl) rfl T.b_len PySem.boot_len (aA (aU (aM (K:=K) rfl) (pv 0) aG (fun _ _=>rfl)) aC))) (fun _ _=>rfl)))) bX)
   (aD (dP (PW.pt (pw_or (bR op_ge (aU (aM (K:=K) rfl) (pv 0) aG (fun _ _=>rfl)) (bA (bQ (K:=K) rfl) rfl T.b_len PySem.boot_len (aA (aU (aM (K:=K) rfl) (pv 0) aG (fun _ _=>rfl)) aC)) (bW _)) (pw_or1 (bR op_lt (pv 3) (aX op_pow aG aG) (bW _))))) (aD (aS (i:=3) sc.nd rfl (Or.inl rfl) (aX op_mod (aX cU (pv 3) (aX op_mul aG (aU (aM (K:=K) rfl) (pv 0) aG (fun _ _=>rfl)))) (pv 2)))
   (aD (aS (i:=3) sc.nd rfl (Or.inl rfl) (aX op_mod (aX cU (aX cU (aX op_mul (pv 3) (pv 3)) (aX op_mul aG (pv 3))) aG) (pv 2)))
   (aO (aS (i:=3) sc.nd rfl (Or.inl rfl) (aX op_mod (aX cU (aX op_mul (pv 3) (pv 3)) aG) (pv 2)))))) bX)
   (aD (cS (aX cU (aU (aM (K:=K) rfl) (pv 0) aG (fun _ _=>rfl)) aG) (pg_sub (pv 0) aG set_list))
   (aO (cS (pv 3) (pg_sub (pv 0) aG set_list))))))) bX)
   (aD (aS (i:=4) sc.nd rfl (Or.inl rfl) (aX op_mod (aU (aM (K:=K) rfl) (pv 0) aG (fun _ _=>rfl)) (pv 1)))
   (aD (cS (aX op_fdivB (aU (aM (K:=K) rfl) (pv 0) aG (fun _ _=>rfl)) (pv 1)) (pg_sub (pv 0) aG set_list))
   (aO (bV (pv 4))))))),?_⟩
  have nst:sl≠t:=ne_of hsl ht (by intro z;injection z with z;cases ns <;> simp at z)
  have ix:∀ {H1:Hp}{p' c':Int}{Q:VK},H1 t=some (.lst [.ref sl,.int p',.int c'])→Q (.ref sl) H1→rIx K (.ref t) (.int 0) H1 Q:=fun e q=>.inl ⟨t,_,0,_,rfl,rfl,bZ.of e,rfl,q⟩
  have ix1:∀ {H1:Hp}{p' c':Int}{Q:VK},H1 t=some (.lst [.ref sl,.int p',.int c'])→Q (.int p') H1→rIx K (.ref t) (.int 1) H1 Q:=fun e q=>.inl ⟨t,_,1,_,rfl,rfl,bZ.of e,rfl,q⟩
  have ix2:∀ {H1:Hp}{p' c':Int}{Q:VK},H1 t=some (.lst [.ref sl,.int p',.int c'])→Q (.int c') H1→rIx K (.ref t) (.int 2) H1 Q:=fun e q=>.inl ⟨t,_,2,_,rfl,rfl,bZ.of e,rfl,q⟩
  have tail:∀ (v3:Option V) (H1:Hp) (p' c':Int),eI t H H1→H1 t=some (.lst [.ref sl,.int p',.int c'])→rdTail K (dE Q) [some (.ref t),some (.int many),some (.int 2305843009213693951),v3,none] H1:=by
   intro v3 H1 p' c' bt e
   refine⟨_,rfl,ix2 e ⟨_,rfl,_,_,rfl,rfl,hm0,?_⟩⟩
   refine⟨_,rfl,ix2 e ⟨_,rfl,_,_,rfl,rfl,⟨hm0,hm1⟩,_,rfl,t,_,2,2,rfl,rfl,e,rfl,_,rfl,?_⟩⟩
   refine k _ _ (bt.trans eI.upd) ⟨ns,p',c' / many,aB,?_,hns⟩ (Int.emod_nonneg _ (by omega)) (Int.emod_lt_of_pos _ hm0)
   rw[aI nst];exact bt sl _ nst hsl
  refine⟨_,rfl,ix2 ht ⟨_,rfl,_,_,rfl,rfl,_,rfl,?_⟩⟩
  refine ite2 (fun _=>?_) (fun _=>tail none H pos cell (eI.refl H) ht)
  have mid:∀ (c':Int),rdMid K { nx:=rdTail K (dE Q),rt:=Q } [some (.ref t),some (.int many),some (.int 2305843009213693951),some (.int c'),none] H:=by
   intro c'
   refine⟨_,rfl,ix1 ht ⟨_,_,rfl,rfl,_,rfl,t,_,1,1,rfl,rfl,ht,rfl,?_⟩⟩
   refine⟨_,rfl,_,rfl,t,_,2,2,rfl,rfl,aB,rfl,?_⟩
   exact tail (some (.int c')) _ (pos+1) c' (eI.upd.trans eI.upd) aB
  have big:∀ (c':Int),tSeq (tIfS (rdTest K) (rdBody K) tNext) (rdMid K) { nx:=rdTail K (dE Q),rt:=Q } [some (.ref t),some (.int many),some (.int 2305843009213693951),some (.int c'),none] H:=by
   intro c'
   have body:∀ σ,σ=[some (.ref t),some (.int many),some (.int 2305843009213693951),some (.int c'),none]→rdBody K { nx:=rdMid K { nx:=rdTail K (dE Q),rt:=Q },rt:=Q } σ H:=by
    rintro σ rfl
    have prime:(0:Int) < 2305843009213693951:=by decide
    refine⟨_,rfl,_,rfl,ix1 ht ⟨_,_,rfl,rfl,.inl ⟨by decide,by decide⟩,_,_,rfl,rfl,_,rfl,_,_,rfl,rfl,prime,?_⟩⟩
    have b1:=Int.emod_nonneg (c'+1000003 * pos) (show (2305843009213693951:Int)≠0 by decide)
    have b2:=Int.emod_lt_of_pos (c'+1000003 * pos) prime
    generalize (c'+1000003 * pos) % 2305843009213693951=c1 at b1 b2
    refine⟨_,rfl,_,rfl,_,_,rfl,rfl,.inl ⟨by omega,by omega⟩,_,rfl,_,_,rfl,rfl,.inl ⟨by decide,by decide⟩,_,_,rfl,rfl,_,_,rfl,rfl,_,rfl,_,_,rfl,rfl,prime,?_⟩
    have b3:=Int.emod_nonneg (c1 * c1+1181783497276652981 * c1+2049848353892358983) (show (2305843009213693951:Int)≠0 by decide)
    have b4:=Int.emod_lt_of_pos (c1 * c1+1181783497276652981 * c1+2049848353892358983) prime
    generalize (c1 * c1+1181783497276652981 * c1+2049848353892358983) % 2305843009213693951=c2 at b3 b4
    refine⟨_,rfl,_,rfl,_,_,rfl,rfl,.inl ⟨by omega,by omega⟩,_,_,rfl,rfl,_,rfl,_,_,rfl,rfl,prime,?_⟩
    exact mid _
   refine⟨_,rfl,ix1 ht ⟨_,rfl,ix ht ⟨sl,_,rfl,.inl (bZ.of hsl),_,_,rfl,rfl,_,rfl,?_⟩⟩⟩
   refine ite2 (fun _=>?_) (fun _=>?_)
   ·refine iteT ?_
    exact body _ rfl
   ·refine⟨_,rfl,_,_,rfl,rfl,⟨by decide,by decide,by decide⟩,_,_,rfl,rfl,_,rfl,?_⟩
    refine ite2 (fun _=>body _ rfl) (fun _=>mid _)
  refine⟨_,rfl,ix ht ⟨sl,_,rfl,.inl (bZ.of hsl),_,_,rfl,rfl,_,rfl,?_⟩⟩
  refine ite2 (fun hlen=>?_) (fun _=>big 0)
  have hpos:0 < ns.length:=by have:=of_decide_eq_true hlen;simpa using this
  refine⟨_,rfl,ix ht ⟨_,rfl,ix1 ht ⟨_,rfl,ix ht ⟨sl,_,rfl,.inl (bZ.of hsl),_,_,rfl,rfl,(show (0:Int) < (((ns.map V.int).length:Nat):Int) by rw[List.length_map];omega),?_⟩⟩⟩⟩
  have m1:=Int.emod_nonneg pos (show (((ns.map V.int).length:Nat):Int)≠0 by rw[List.length_map];omega)
  have m2:=Int.emod_lt_of_pos pos (show (0:Int) < (((ns.map V.int).length:Nat):Int) by rw[List.length_map];omega)
  rw[List.length_map] at m1 m2
  have hix:(ns.map V.int)[(pos % ((ns.map V.int).length:Int)).toNat]? = some (.int (ns[(pos % (ns.length:Int)).toNat]'(by omega))):=by
   rw[List.length_map,List.getElem?_map];simp [show (pos % (ns.length:Int)).toNat < ns.length by omega]
  refine .inl ⟨sl,_,_,_,rfl,rfl,bZ.of hsl,atI_int (by rw[List.length_map];exact m1) hix,?_⟩
  exact big _
theorem ok__law_draw {f:Addr}{fd:FuncData} (F:Fun K "_law_draw" "_law_draw" (bC 23) f fd) (T:Txt mg):FnOk P w K mg base CX0 1 f fd ["tape","many"] spDraw:=
 (ok__law_drawB F T).imp fun vs H Q E ⟨t,sl,many,e,tp,h0,h1,k⟩=>⟨t,sl,many,e,tp,h0,Int.lt_of_lt_of_le h1 (by decide),k⟩
end
end Tw
namespace Tw
open PySem L2
structure Ext (t sl:Addr) (H H':Hp):Prop where
 bt:eI t H H'
 tp:eB H' t sl
theorem eB.some {H:Hp}{t sl:Addr} (h:eB H t sl):∃ o,H t=some o:=by obtain⟨ns,pos,cell,e,_⟩:=h;exact⟨_,e⟩
theorem eB.put {H:Hp}{t sl p:Addr}{o:HO} (h:eB H t sl) (h1:p≠t) (h2:p≠sl):eB (upd H p o) t sl:=by
 obtain⟨ns,pos,cell,e,f,g⟩:=h
 exact⟨ns,pos,cell,by rw[aI (Ne.symm h1)];exact e,by rw[aI (Ne.symm h2)];exact f,g⟩
theorem eB.ne_sl {H:Hp}{t sl p:Addr} (h:eB H t sl) (hp:H p=none):p≠sl:=by
 obtain⟨ns,pos,cell,e,f,g⟩:=h
 exact fun z=>by rw[z,f] at hp;cases hp
theorem Ext.new {t sl p:Addr}{H H':Hp}{o:HO} (e:Ext t sl H H') (hp:H' p=none):Ext t sl H (upd H' p o):=⟨e.bt.trans (aF.new hp).but,e.tp.same (aF.new hp)⟩
theorem Ext.ne {t sl p:Addr}{H H':Hp} (e:Ext t sl H H') (hp:H' p=none):p≠t:=by
 obtain⟨o,h⟩:=e.tp.some
 intro z;rw[z,h] at hp;cases hp
theorem Ext.ts {K:PySem.W.Frag}{t sl:Addr}{H H':Hp} (e:Ext t sl H H') (tp:eB H t sl):bJ K H H':=e.bt.ts tp.mut
noncomputable def Gn (t sl:Addr) (σ:St) (H0:Hp) (P:V→Prop) (te:TE):Prop:=∀ H Q,Ext t sl H0 H→(∀ v H',Ext t sl H0 H'→eI t H H'→P v→Q v H')→te σ H Q
section
variable {K:PySem.W.Frag}{t sl:Addr}{σ:St}{H0:Hp}{P:V→Prop}{a b c d:TE}
noncomputable def cQ (lo hi:Int):V→Prop:=fun v=>∃ i,v=.int i∧lo≤i∧i < hi
theorem Gn.imp {P':V→Prop} (h:Gn t sl σ H0 P a) (f:∀ v,P v→P' v):Gn t sl σ H0 P' a:=fun H Q e k=>h H Q e fun v H' e' b p=>k v H' e' b (f v p)
theorem gn_c {v:V} (h:P v):Gn t sl σ H0 P (tC v):=fun H Q e k=>k v H e (eI.refl H) h
theorem gn_v {i:Nat}{v:V} (hσ:σ[i]? = some (some v)) (h:P v):Gn t sl σ H0 P (d5 i):=fun H Q e k=>⟨v,hσ,k v H e (eI.refl H) h⟩
theorem gn_pick2 (ha:Gn t sl σ H0 P a) (hb:Gn t sl σ H0 P b) (hc:Gn t sl σ H0 (cQ 0 2) c):Gn t sl σ H0 P (tOp (rIx K) (tLst (dX a (dX b tNil))) c):=by
 intro H Q e k
 refine ha H _ e fun v1 H1 e1 b1 p1=>hb H1 _ e1 fun v2 H2 e2 b2 p2=>⟨(show 2≤sizeLine by decide),fun p hp=>hc _ _ (e2.new hp) fun v H3 e3 b3 ⟨i,hi,h0,h1⟩=>?_⟩
 subst hi
 have hl:=b3 p _ (e2.ne hp) aB
 have hb:eI t H H3:=b1.trans (b2.trans ((aF.new hp).but.trans b3))
 rcases (show i=0∨i=1 by omega) with rfl | rfl
 ·exact .inl ⟨p,_,0,v1,rfl,rfl,bZ.of hl,rfl,k v1 H3 e3 hb p1⟩
 ·exact .inl ⟨p,_,1,v2,rfl,rfl,bZ.of hl,rfl,k v2 H3 e3 hb p2⟩
theorem gn_pick3 (ha:Gn t sl σ H0 P a) (hb:Gn t sl σ H0 P b) (hd:Gn t sl σ H0 P d) (hc:Gn t sl σ H0 (cQ 0 3) c):Gn t sl σ H0 P (tOp (rIx K) (tLst (dX a (dX b (dX d tNil)))) c):=by
 intro H Q e k
 refine ha H _ e fun v1 H1 e1 b1 p1=>hb H1 _ e1 fun v2 H2 e2 b2 p2=>hd H2 _ e2 fun v4 H4 e4 b4 p4=>⟨(show 3≤sizeLine by decide),fun p hp=>hc _ _ (e4.new hp) fun v H3 e3 b3 ⟨i,hi,h0,h1⟩=>?_⟩
 subst hi
 have hl:=b3 p _ (e4.ne hp) aB
 have hb:eI t H H3:=b1.trans (b2.trans (b4.trans ((aF.new hp).but.trans b3)))
 rcases (show i=0∨i=1∨i=2 by omega) with rfl | rfl | rfl
 ·exact .inl ⟨p,_,0,v1,rfl,rfl,bZ.of hl,rfl,k v1 H3 e3 hb p1⟩
 ·exact .inl ⟨p,_,1,v2,rfl,rfl,bZ.of hl,rfl,k v2 H3 e3 hb p2⟩
 ·exact .inl ⟨p,_,2,v4,rfl,rfl,bZ.of hl,rfl,k v4 H3 e3 hb p4⟩
theorem gn_draw {i:Nat}{lo hi:Int} (hσ:σ[i]? = some (some (.ref t))) (hlo:0 < lo) (hhi:hi≤1000000) (ha:Gn t sl σ H0 (cQ lo hi) a):Gn t sl σ H0 (fun v=>∃ r m,v=.int r∧0≤r∧r < m∧lo≤m∧m < hi) (tCall spDraw [] E0 (dX (d5 i) (dX a tNil))):=by
 intro H Q e k
 refine⟨_,hσ,ha H _ e fun v H1 e1 b1 ⟨m,hm,h0,h1⟩=>?_⟩
 subst hm
 exact⟨t,sl,m,rfl,e1.tp,by omega,by omega,fun r H2 b2 t2 r0 r1=>k _ H2 ⟨e1.bt.trans b2,t2⟩ (b1.trans b2) ⟨r,m,rfl,r0,r1,h0,h1⟩⟩
theorem bP {i:Nat}{m:Int} (hσ:σ[i]? = some (some (.ref t))) (h0:0 < m) (h1:m < 1000000):Gn t sl σ H0 (cQ 0 m) (tCall spDraw [] E0 (dX (d5 i) (dX (tC (.int m)) tNil))):=
 (gn_draw (lo:=m) (hi:=m+1) hσ h0 (by omega) (gn_c ⟨m,rfl,by omega,by omega⟩)).imp fun v ⟨r,m',e,a,b,c,d⟩=>⟨r,e,a,by omega⟩
theorem gn_drawv {i j:Nat}{m:Int} (hσ:σ[i]? = some (some (.ref t))) (hj:σ[j]? = some (some (.int m))) (h0:0 < m) (h1:m < 1000000):Gn t sl σ H0 (cQ 0 m) (tCall spDraw [] E0 (dX (d5 i) (dX (d5 j) tNil))):=
 (gn_draw (lo:=m) (hi:=m+1) hσ h0 (by omega) (gn_v hj ⟨m,rfl,by omega,by omega⟩)).imp fun v ⟨r,m',e,a,b,c,d⟩=>⟨r,e,a,by omega⟩
theorem gn_add {x y l h:Int} (ha:Gn t sl σ H0 (cQ x y) a) (hb:Gn t sl σ H0 (cQ l h) b):Gn t sl σ H0 (cQ (x+l) (y+h - 1)) (tOp (rI0 fun i j=>.int (i+j)) a b):=by
 intro H Q e k
 refine ha H _ e fun v1 H1 e1 b1 ⟨i,hi,i0,i1⟩=>hb H1 _ e1 fun v2 H2 e2 b2 ⟨j,hj,j0,j1⟩=>?_
 subst hi hj
 exact⟨i,j,rfl,rfl,k _ H2 e2 (b1.trans b2) ⟨_,rfl,by omega,by omega⟩⟩
theorem gn_div {y m:Int} (hm:0 < m) (hm2:m < 1000000) (ha:Gn t sl σ H0 (cQ 0 y) a):Gn t sl σ H0 (fun v=>∃ i,v=.int (i / m)∧0≤i∧i < y) (tOp (rI CDiv fun i j=>.int (i / j)) a (tC (.int m))):=by
 intro H Q e k
 refine ha H _ e fun v1 H1 e1 b1 ⟨i,hi,i0,i1⟩=>?_
 subst hi
 exact⟨i,m,rfl,rfl,⟨hm,by omega⟩,k _ H1 e1 b1 ⟨i,rfl,i0,i1⟩⟩
theorem gn_eq0 {y c0:Int} (ha:Gn t sl σ H0 (cQ 0 y) a):Gn t sl σ H0 (fun v=>∃ b:Bool,v=.bl b) (tOp rEq a (tC (.int c0))):=by
 intro H Q e k
 refine ha H _ e fun v1 H1 e1 b1 ⟨i,hi,i0,i1⟩=>?_
 subst hi
 exact⟨rfl,k _ H1 e1 b1 ⟨_,rfl⟩⟩
theorem gn_gt0 {y c0:Int} (ha:Gn t sl σ H0 (cQ 0 y) a):Gn t sl σ H0 (fun v=>∃ b:Bool,v=.bl b) (tOp (rI0 fun i j=>.bl (decide (j < i))) a (tC (.int c0))):=by
 intro H Q e k
 refine ha H _ e fun v1 H1 e1 b1 ⟨i,hi,i0,i1⟩=>?_
 subst hi
 exact⟨i,c0,rfl,rfl,k _ H1 e1 b1 ⟨_,rfl⟩⟩
noncomputable abbrev rInt1:List V→Hp→VK→Prop:=fun xs H Q=>(∃ i,xs=[.int i]∧Q (.int i) H)∨∃ k,xs=[.bl k]∧Q (.int (if k then 1 else 0)) H
theorem gn_small {i:Nat}{s:Bool} (hσ:σ[i]? = some (some (.bl s))):Gn t sl σ H0 (cQ 0 2) (tCB rInt1 (dX (d5 i) tNil)):=by
 intro H Q e k
 refine⟨_,hσ,.inr ⟨s,rfl,k _ H e (eI.refl H) ?_⟩⟩
 cases s
 ·exact⟨0,rfl,by omega,by omega⟩
 ·exact⟨1,rfl,by omega,by omega⟩
theorem gn_menu {i:Nat}{s:Bool}{x y lo hi:Int} (hσ:σ[i]? = some (some (.bl s))) (h1:lo≤x∧x < hi) (h2:lo≤y∧y < hi):Gn t sl σ H0 (cQ lo hi) (tOp (rIx K) (tLst (dX (tC (.int x)) (dX (tC (.int y)) tNil))) (tCB rInt1 (dX (d5 i) tNil))):=
 gn_pick2 (gn_c ⟨x,rfl,h1.1,h1.2⟩) (gn_c ⟨y,rfl,h2.1,h2.2⟩) (gn_small hσ)
theorem gn_half (ha:Gn t sl σ H0 (cQ 0 4) a):Gn t sl σ H0 (cQ 0 2) (tOp (rI CDiv fun i j=>.int (i / j)) a (tC (.int 3))):=
 (gn_div (by decide) (by decide) ha).imp fun v ⟨i,e,a,b⟩=>⟨i / 3,e,by omega,by omega⟩
theorem gn_up {lo hi lo' hi':Int} (h:Gn t sl σ H0 (cQ lo hi) a) (h1:lo'≤lo) (h2:hi≤hi'):Gn t sl σ H0 (cQ lo' hi') a:=h.imp fun v ⟨i,e,a,b⟩=>⟨i,e,by omega,by omega⟩
theorem gn_drawm {i:Nat}{lo hi:Int} (hσ:σ[i]? = some (some (.ref t))) (hlo:0 < lo) (hhi:hi≤1000000) (ha:Gn t sl σ H0 (cQ lo hi) a):Gn t sl σ H0 (cQ 0 (hi - 1)) (tCall spDraw [] E0 (dX (d5 i) (dX a tNil))):=
 (gn_draw hσ hlo hhi ha).imp fun v ⟨r,m,e,a,b,c,d⟩=>⟨r,e,a,by omega⟩
end
section
variable {P:Program}{w:World}{K:PySem.W.Frag}{mg:Str→Option Value}{base:Heap}
noncomputable def spOuts (K:PySem.W.Frag):Sp:=fun args H Q _=>∃ (t sl:Addr) (n:Nat) (small:Bool),args=[.ref t,.int (n:Int),.bl small]∧eB H t sl∧1≤n∧n≤12∧
 ∀ (outs:List (Option Int×Int)) p H',Ext t sl H H'→outs≠[]→outs.length≤3→(∀ o∈outs,OutOk n o)→Is K H' (.tup (outs.map outD)) p→Q p H'
theorem sc__law_outs:FnScope ["tape","many","small","outs","k","target","parts"] ["tape","many","small"] (aL (bC 24)):=⟨rfl,rfl,rfl,by decide +kernel,rfl,by decide +kernel,by decide +kernel⟩
theorem ok__law_outs {f fD:Addr}{fd fdD:FuncData} (F:Fun K "_law_outs" "_law_outs" (bC 24) f fd) (T:Txt mg) (G__law_draw:Callee P w K mg base "_law_draw" ["tape","many"] 1 spDraw fD fdD):FnOk P w K mg base CX0 2 f fd ["tape","many","small"] (spOuts K):=by
 refine F.ok sc__law_outs (fun vs H Q E h=>?_) (fun cdv A outer s H vs Q E hr h=>?_)
 ·obtain⟨t,sl,n,small,rfl,_⟩:=h;rfl
 ·obtain⟨t,sl,n,small,rfl,tp,n1,n2,k⟩:=h
  have sc:=sc__law_outs
  refine⟨_,(aD (aS (i:=3) sc.nd rfl (Or.inl rfl) (bD aC))
   (aD (dH PassesOwn.never rfl (cD rfl T.b_range (aA (aX cU aG (aU (aM (K:=K) rfl) (bD (aA (pcG G__law_draw hr (aA (pv 0) (aA aG aC))) (aA (pcG G__law_draw hr (aA (pv 0) (aA aG aC))) aC))) (pcG G__law_draw hr (aA (pv 0) (aA aG aC))) (fun _ _=>rfl))) aC)) (aH (i:=4) sc.nd rfl (Or.inl rfl)) (aD (aS (i:=5) sc.nd rfl (Or.inl rfl) (aU (aM (K:=K) rfl) (bD (aA pe_non (aA (pcG G__law_draw hr (aA (pv 0) (aA (pv 1) aC))) (aA (pcG G__law_draw hr (aA (pv 0) (aA (pv 1) aC))) aC)))) (pcG G__law_draw hr (aA (pv 0) (aA aG aC))) (fun _ _=>rfl)))
   (aD (aS (i:=6) sc.nd rfl (Or.inl rfl) (aU (aM (K:=K) rfl) (bD (aA (pcG G__law_draw hr (aA (pv 0) (aA aG aC))) (aA (pcG G__law_draw hr (aA (pv 0) (aA (aU (aM (K:=K) rfl) (bD (aA aG (aA aG aC))) (b9 call_int1 rfl T.b_int bt_int (aA (pv 2) aC)) (fun _ _=>rfl)) aC))) aC))) (aX op_fdiv (pcG G__law_draw hr (aA (pv 0) (aA aG aC))) aG) (fun _ _=>rfl)))
   (aO (cY (pe_bmK (K:=K) rfl PySem.F.plainAttrs_list PySem.F.slot_list_append PySem.F.type_list_append cJ (pv 3) (aA (bS (aA (pv 5) (aA (aX cU aG (pv 6)) aC))) aC)))))))
   (aO (bV (b9 (cE (K:=K) rfl) rfl T.b_tuple cK (aA (pv 3) aC)))))),?_⟩
  refine⟨Nat.zero_le _,fun ol hol=>?_⟩
  have e0:Ext t sl H (upd H ol (.lst [])):=Ext.new ⟨eI.refl H,tp⟩ hol
  have no:ol≠t:=Ext.ne ⟨eI.refl H,tp⟩ hol
  refine gn_add (x:=1) (y:=2) (l:=0) (h:=3) (H0:=upd H ol (.lst [])) (t:=t) (sl:=sl) (gn_c ⟨1,rfl,by omega,by omega⟩)
   (gn_pick2 (gn_up (bP rfl (by decide) (by decide)) (Int.le_refl _) (by decide)) (bP rfl (by decide) (by decide)) (bP rfl (by decide) (by decide))) _ _ ⟨eI.refl _,e0.tp⟩ ?_
  rintro v H1 e1 _ ⟨m,rfl,m0,m1⟩
  refine⟨m,rfl,by omega,by omega,?_⟩
  refine dZ (lo:=0) (n:=m.toNat) (fun i σ' H'=>Ext t sl H H'∧∃ (outs:List (Option Int×Int)) (xs:List V),H' ol=some (.lst xs)∧IsL K H' (outs.map outD) xs∧outs.length=i∧(∀ o∈outs,OutOk n o)∧
   ∃ v4 v5 v6,σ'=[some (.ref t),some (.int (n:Int)),some (.bl small),some (.ref ol),v4,v5,v6]) ?_ ?_ ?_
  ·exact⟨⟨e0.bt.trans e1.bt,e1.tp⟩,[],[],e1.bt ol _ no aB,.nil,rfl,fun o ho=>(nomatch ho),none,none,none,rfl⟩
  ·rintro i σ' H2 hi ⟨e2,outs,xs,ho,hl,hlen,hok,v4,v5,v6,rfl⟩
   refine gn_pick3 (H0:=H2) (t:=t) (sl:=sl) (P:=fun v=>∃ o:Option Int,v=tgV o∧∀ z,o=some z→0≤z∧z < n) (gn_c ⟨none,rfl,fun z h=>nomatch h⟩)
    ((gn_drawv (m:=(n:Int)) rfl rfl (by omega) (by omega)).imp fun v ⟨r,e,a,b⟩=>⟨some r,e,fun z h=>by cases h;exact⟨a,by omega⟩⟩)
    ((gn_drawv (m:=(n:Int)) rfl rfl (by omega) (by omega)).imp fun v ⟨r,e,a,b⟩=>⟨some r,e,fun z h=>by cases h;exact⟨a,by omega⟩⟩) (bP rfl (by decide) (by decide)) _ _ ⟨eI.refl _,e2.tp⟩ ?_
   rintro v H3 e3 _ ⟨tg,rfl,htg⟩
   refine gn_pick2 (H0:=H3) (t:=t) (sl:=sl) (P:=cQ 0 60) (gn_up (bP rfl (by decide) (by decide)) (Int.le_refl _) (by decide))
    (gn_up (gn_drawm (lo:=3) (hi:=61) rfl (by decide) (by decide) (gn_menu rfl ⟨by decide,by decide⟩ ⟨by decide,by decide⟩)) (Int.le_refl _) (by decide)) (gn_half (bP rfl (by decide) (by decide))) _ _ ⟨eI.refl _,e3.tp⟩ ?_
   rintro v H4 e4 _ ⟨pt,rfl,p0,p1⟩
   have ho4:H4 ol=some (.lst xs):=e4.bt ol _ no (e3.bt ol _ no ho)
   refine⟨_,rfl,.inl ⟨rfl,_,bZ.of ho4⟩,_,rfl,_,rfl,_,_,rfl,rfl,(show 2≤sizeLine by decide),fun q hq=>?_⟩
   have nq:ol≠q:=aJ ho4 hq
   have hxl:xs.length=outs.length:=by rw[hl.length,List.length_map]
   have hm3:m.toNat≤3:=by omega
   refine⟨ol,xs,_,rfl,rfl,by rw[aI nq];exact ho4,aZ (by omega),?_⟩
   have e5:Ext t sl H2 (upd H4 q (.tup [tgV tg,.int (1+pt)])):=Ext.new ⟨e3.bt.trans e4.bt,e4.tp⟩ hq
   have ts:bJ K H2 (upd (upd H4 q (.tup [tgV tg,.int (1+pt)])) ol (.lst (xs++[.ref q]))):=bJ.put (e5.ts e2.tp) (.inr (by rw[aI nq,ho4];exact trivial))
   refine⟨⟨fun b o hb e=>?_,?_⟩,outs++[(tg,1+pt)],xs++[.ref q],aB,?_,by simp [hlen],?_,_,_,_,rfl⟩
   ·rw[aI (aJ e hol)];exact e5.bt b o hb (e2.bt b o hb e)
   ·exact e5.tp.put no (eB.ne_sl tp hol)
   ·rw[List.map_append]
    exact IsL.snoc (Is.tupOf (ds:=[tgD tg,.int (1+pt)]) (bJ.put (bJ.refl _) (.inr (by rw[aI nq,ho4];exact trivial)) _ _ (bT.of aB)) (.cons (Is.tgOf tg) (.cons (Is.i _) .nil))) (IsL.mono ts _ _ hl)
   ·intro o ho
    rcases List.mem_append.mp ho with ho | ho
    ·exact hok o ho
    ·rw[List.mem_singleton.mp ho]
     exact⟨fun z hz=>htg z hz,by show 1≤1+pt;omega,by show 1+pt≤60;omega⟩
  ·rintro σ' H2 ⟨e2,outs,xs,ho,hl,hlen,hok,v4,v5,v6,rfl⟩
   refine⟨_,rfl,ol,_,rfl,.inl ⟨bZ.of ho,fun l hlf=>?_⟩⟩
   refine k outs _ _ (e2.new hlf) (fun z=>by rw[z] at hlen;simp at hlen;omega) (by omega) hok (Is.tupOf (bT.of aB) (IsL.mono (aF.new hlf).ts _ _ hl))
end
end Tw
namespace L2
theorem if_by {c:TT}{a b:TS}{D:Ends}{σ:St}{H:Hp} (I:St→Hp→Prop) (h1:∀ D':Ends,(∀ σ' H',I σ' H'→D'.nx σ' H')→tIfS c a b D' σ H) (h2:∀ σ' H',I σ' H'→D.nx σ' H'):tIfS c a b D σ H:=h1 D h2
theorem seq_by {s R:TS}{D:Ends}{σ:St}{H:Hp} (I:St→Hp→Prop) (h1:∀ D':Ends,(∀ σ' H',I σ' H'→D'.nx σ' H')→s D' σ H) (h2:∀ σ' H',I σ' H'→R D σ' H'):tSeq s R D σ H:=h1 _ h2
end L2
namespace Tw
open PySem L2
section
variable {K:PySem.W.Frag}{t sl:Addr}{σ:St}{H0:Hp}{P:V→Prop}{a b c d:TE}
theorem if_draw0 {y c0:Int}{t' u':TS}{D':Ends}{H:Hp} (ha:Gn t sl σ H0 (cQ 0 y) a) (e:Ext t sl H0 H) (k:∀ (b:Bool) H',Ext t sl H0 H'→eI t H H'→if b=true then t' D' σ H' else u' D' σ H'):tIfS (tTest (tOp rEq a (tC (.int c0)))) t' u' D' σ H:=
 gn_eq0 ha H _ e fun v H' e' b ⟨c,hc⟩=>⟨c,hc,k c H' e' b⟩
theorem gn_mulnot {i:Nat}{s:Bool} (hσ:σ[i]? = some (some (.bl s))) (ha:Gn t sl σ H0 (cQ 0 2) a):Gn t sl σ H0 (cQ 0 2) (tOp (rI CMul fun i j=>.int (i * j)) a (tCB rInt1 (dX (tNotV (d5 i)) tNil))):=by
 intro H Q e k
 refine ha H _ e fun v1 H1 e1 b1 ⟨j,hj,j0,j1⟩=>⟨_,hσ,s,rfl,.inr ⟨!s,rfl,?_⟩⟩
 subst hj
 refine⟨j,_,rfl,rfl,.inl ⟨by omega,by omega⟩,k _ H1 e1 b1 ?_⟩
 cases s
 ·exact⟨j,by simp,j0,j1⟩
 ·exact⟨0,by simp,by omega,by omega⟩
theorem gn_subcv {j:Nat}{x y:Int} (hj:σ[j]? = some (some (.int y))):Gn t sl σ H0 (cQ (x - y) (x - y+1)) (tOp (rI0 fun i j=>.int (i - j)) (tC (.int x)) (d5 j)):=fun H Q e k=>
 ⟨_,hj,x,y,rfl,rfl,k _ H e (eI.refl H) ⟨_,rfl,by omega,by omega⟩⟩
theorem gn_addv {j:Nat}{y l h:Int} (hj:σ[j]? = some (some (.int y))) (hb:Gn t sl σ H0 (cQ l h) b):Gn t sl σ H0 (cQ (y+l) (y+h)) (tOp (rI0 fun i j=>.int (i+j)) (d5 j) b):=
 gn_up (gn_add (x:=y) (y:=y+1) (gn_v hj ⟨y,rfl,by omega,by omega⟩) hb) (by omega) (by omega)
end
section
variable {P:Program}{w:World}{K:PySem.W.Frag}{mg:Str→Option Value}{base:Heap}
structure VFull (i:Nat) (v:Vs):Prop where
 sz:v.size≤60
 br:v.size≤v.brim
 bh:v.brim≤200
 sp:∀ t,v.spill=some t→(i:Int) < t
structure NetFull (net:Net):Prop where
 vs:∀ i v,net.vs[i]? = some v→VFull i v
 sps:∀ s∈net.sps,0≤s.2.1∧s.2.1≤60
noncomputable def spVessel (K:PySem.W.Frag):Sp:=fun args H Q _=>∃ (t sl:Addr) (i n m:Nat) (small:Bool),args=[.ref t,.int (i:Int),.int (n:Int),.int (m:Int),.bl small]∧eB H t sl∧i < n∧n≤12∧m≤12∧
 ∀ (v:Vs) p H',Ext t sl H H'→VOk n m v→VFull i v→Is K H' (vsD v) p→Q p H'
theorem sc__law_vessel:FnScope ["tape","number","many","spouts","small","size","brim","spill","acts","k"] ["tape","number","many","spouts","small"] (aL (bC 25)):=⟨rfl,rfl,rfl,by decide +kernel,rfl,by decide +kernel,by decide +kernel⟩
theorem ok__law_vessel {f fD fO:Addr}{fd fdD fdO:FuncData} (F:Fun K "_law_vessel" "_law_vessel" (bC 25) f fd) (T:Txt mg) (G__law_draw:Callee P w K mg base "_law_draw" ["tape","many"] 1 spDraw fD fdD)
  (G__law_outs:Callee P w K mg base "_law_outs" ["tape","many","small"] 2 (spOuts K) fO fdO):FnOk P w K mg base CX0 3 f fd ["tape","number","many","spouts","small"] (spVessel K):=by
 refine F.ok sc__law_vessel (fun vs H Q E h=>?_) (fun cdv A outer s H vs Q E hr h=>?_)
 ·obtain⟨t,sl,i,n,m,small,rfl,_⟩:=h;rfl
 ·obtain⟨t,sl,i,n,m,small,rfl,tp,hi,hn,hm,k⟩:=h
  have sc:=sc__law_vessel
  refine⟨_,(aD (aS (i:=5) sc.nd rfl (Or.inl rfl) (aX cU aG (aU (aM (K:=K) rfl) (bD (aA (pcG G__law_draw hr (aA (pv 0) (aA (aU (aM (K:=K) rfl) (bD (aA aG (aA aG aC))) (b9 call_int1 rfl T.b_int bt_int (aA (pv 4) aC)) (fun _ _=>rfl)) aC))) (aA (pcG G__law_draw hr (aA (pv 0) (aA (aU (aM (K:=K) rfl) (bD (aA aG (aA aG aC))) (b9 call_int1 rfl T.b_int bt_int (aA (pv 4) aC)) (fun _ _=>rfl)) aC))) aC))) (aX op_fdiv (pcG G__law_draw hr (aA (pv 0) (aA aG aC))) aG) (fun _ _=>rfl))))
   (aD (aS (i:=6) sc.nd rfl (Or.inl rfl) (aX cU (pv 5) (aU (aM (K:=K) rfl) (bD (aA aG (aA (pcG G__law_draw hr (aA (pv 0) (aA (aX op_sub aG (pv 5)) aC))) aC))) (aX op_mul (pcG G__law_draw hr (aA (pv 0) (aA aG aC))) (b9 call_int1 rfl T.b_int bt_int (aA (pe_not (pv 4)) aC))) (fun _ _=>rfl))))
   (aD (dP (bR op_eq (pcG G__law_draw hr (aA (pv 0) (aA aG aC))) aG (bW _)) (aO (aS (i:=6) sc.nd rfl (Or.inl rfl) (aX cU (pv 5) (pcG G__law_draw hr (aA (pv 0) (aA aG aC)))))) bX)
   (aD (aS (i:=7) sc.nd rfl (Or.inl rfl) pe_non)
   (aD (dP (PW.pt (pw_and (bR op_lt (aX cU (pv 1) aG) (pv 2) (bW _)) (pw_and1 (bR op_eq (pcG G__law_draw hr (aA (pv 0) (aA aG aC))) aG (bW _))))) (aO (aS (i:=7) sc.nd rfl (Or.inl rfl) (aX cU (aX cU (pv 1) aG) (pcG G__law_draw hr (aA (pv 0) (aA (aX op_sub (aX op_sub (pv 2) (pv 1)) aG) aC)))))) bX)
   (aD (aS (i:=8) sc.nd rfl (Or.inl rfl) (bD aC))
   (aD (dP (bR op_gt (pv 3) aG (bW _)) (aO (dH PassesOwn.never rfl (cD rfl T.b_range (aA (aX op_fdiv (pcG G__law_draw hr (aA (pv 0) (aA aG aC))) aG) aC)) (aH (i:=9) sc.nd rfl (Or.inl rfl)) (aO (cY (pe_bmK (K:=K) rfl PySem.F.plainAttrs_list PySem.F.slot_list_append PySem.F.type_list_append cJ (pv 8) (aA (bS (aA (aU (aM (K:=K) rfl) (bD (aA dI (aA dI (aA dI aC)))) (pcG G__law_draw hr (aA (pv 0) (aA aG aC))) (fun _ _=>rfl)) (aA (pcG G__law_draw hr (aA (pv 0) (aA (pv 3) aC))) aC))) aC)))))) bX)
   (aO (bV (bS (aA (pv 5) (aA (pv 6) (aA (pcG G__law_outs hr (aA (pv 0) (aA (pv 2) (aA (pv 4) aC)))) (aA (pe_cmpR op_eq (pcG G__law_draw hr (aA (pv 0) (aA aG aC))) aG (bW _)) (aA (pv 7) (aA (b9 (cE (K:=K) rfl) rfl T.b_tuple cK (aA (pv 8) aC)) aC)))))))))))))))),?_⟩
  refine gn_add (t:=t) (sl:=sl) (H0:=H) (x:=1) (y:=2) (l:=0) (h:=60) (gn_c ⟨1,rfl,by omega,by omega⟩)
   (gn_pick2 (gn_up (gn_drawm (lo:=4) (hi:=10) rfl (by decide) (by decide) (gn_menu rfl ⟨by decide,by decide⟩ ⟨by decide,by decide⟩)) (Int.le_refl _) (by decide))
    (gn_up (gn_drawm (lo:=4) (hi:=61) rfl (by decide) (by decide) (gn_menu rfl ⟨by decide,by decide⟩ ⟨by decide,by decide⟩)) (Int.le_refl _) (by decide)) (gn_half (bP rfl (by decide) (by decide)))) _ _ ⟨eI.refl _,tp⟩ ?_
  rintro v H1 e1 _ ⟨size,rfl,s0,s1⟩
  refine gn_addv (t:=t) (sl:=sl) (H0:=H) (y:=size) (l:=0) (h:=201 - size) rfl (gn_pick2 (gn_c ⟨0,rfl,by omega,by omega⟩)
   (gn_up (gn_drawm (lo:=201 - size) (hi:=201 - size+1) rfl (by omega) (by omega) (gn_subcv rfl)) (Int.le_refl _) (by omega)) (gn_mulnot rfl (bP rfl (by decide) (by decide)))) _ _ e1 ?_
  rintro v H2 e2 _ ⟨brim,rfl,br0,br1⟩
  dsimp only [tSeq,tAsg,tC,gName]
  refine if_by (fun σ' H'=>Ext t sl H H'∧∃ brim,size≤brim∧brim≤200∧σ'=[some (.ref t),some (.int (i:Int)),some (.int (n:Int)),some (.int (m:Int)),some (.bl small),some (.int size),some (.int brim),none,none,none]) (fun D' hD=>?_) ?_
  ·refine if_draw0 (t:=t) (sl:=sl) (H0:=H) (bP rfl (by decide) (by decide)) e2 fun b H3 e3 _=>?_
   cases b with
   | false=>exact iteF (hD _ _ ⟨e3,brim,by omega,by omega,rfl⟩)
   | true=>
    refine iteT ?_
    refine gn_addv (t:=t) (sl:=sl) (H0:=H) (y:=size) (l:=0) (h:=3) rfl (bP rfl (by decide) (by decide)) _ _ e3 ?_
    rintro v H4 e4 _ ⟨b2,rfl,c0,c1⟩
    exact hD _ _ ⟨e4,b2,by omega,by omega,rfl⟩
  rintro σ3 H3 ⟨e3,brim,hb1,hb2,rfl⟩
  dsimp only [tSeq,tAsg,tC,gName]
  refine if_by (fun σ' H'=>Ext t sl H H'∧∃ sp:Option Int,(∀ z,sp=some z→(0≤z∧z < n)∧(i:Int) < z)∧σ'=[some (.ref t),some (.int (i:Int)),some (.int (n:Int)),some (.int (m:Int)),some (.bl small),some (.int size),some (.int brim),some (tgV sp),none,none]) (fun D' hD=>?_) ?_
  ·refine⟨_,rfl,_,_,rfl,rfl,_,rfl,_,_,rfl,rfl,_,rfl,?_⟩
   refine ite2 (fun hlt=>?_) (fun _=>iteF (hD _ _ ⟨e3,none,(fun z h=>nomatch h),rfl⟩))
   have hlt':(i:Int)+1 < n:=of_decide_eq_true hlt
   refine gn_eq0 (t:=t) (sl:=sl) (H0:=H) (bP rfl (by decide) (by decide)) _ _ e3 ?_
   rintro v H4 e4 _ ⟨b,rfl⟩
   refine⟨b,rfl,?_⟩
   cases b with
   | false=>exact iteF (hD _ _ ⟨e4,none,(fun z h=>nomatch h),rfl⟩)
   | true=>
    refine iteT ?_
    refine⟨_,rfl,_,_,rfl,rfl,_,rfl,_,rfl,_,rfl,_,_,rfl,rfl,_,_,rfl,rfl,t,sl,(n:Int) - i - 1,rfl,e4.tp,by omega,by omega,fun r H5 b5 t5 r0 r1=>⟨_,_,rfl,rfl,?_⟩⟩
    exact hD _ _ ⟨⟨e4.bt.trans b5,t5⟩,some ((i:Int)+1+r),fun z h=>by cases h;omega,rfl⟩
  rintro σ4 H4 ⟨e4,sp,hsp,rfl⟩
  refine⟨Nat.zero_le _,fun al hal=>?_⟩
  dsimp only [tSeq,tAsg,tC,gName]
  have fal:H al=none:=e4.bt.free (e4.ne hal) hal
  have nal:al≠t:=e4.ne hal
  refine if_by (fun σ' H'=>Ext t sl H H'∧∃ (acts:List (Str×Int)) (xs:List V),H' al=some (.lst xs)∧L2.IsL K H' (acts.map actD) xs∧acts.length≤3∧(∀ a∈acts,ActOk m a)∧
   ∃ v9,σ'=[some (.ref t),some (.int (i:Int)),some (.int (n:Int)),some (.int (m:Int)),some (.bl small),some (.int size),some (.int brim),some (tgV sp),some (.ref al),v9]) (fun D' hD=>?_) ?_
  ·refine⟨_,rfl,_,_,rfl,rfl,_,rfl,?_⟩
   refine ite2 (fun hlt=>?_) (fun _=>hD _ _ ⟨e4.new hal,[],[],aB,.nil,by simp,fun a ha=>(nomatch ha),none,rfl⟩)
   have hm0:(0:Int) < m:=of_decide_eq_true hlt
   refine gn_div (t:=t) (sl:=sl) (H0:=H) (by decide) (by decide) (bP (m:=11) rfl (by decide) (by decide)) _ _ (e4.new hal) ?_
   rintro v H5 e5 b5 ⟨c,rfl,c0,c1⟩
   refine⟨_,rfl,by omega,by omega,?_⟩
   refine dZ (lo:=0) (n:=(c / 3).toNat) (fun j σ' H'=>Ext t sl H H'∧∃ (acts:List (Str×Int)) (xs:List V),H' al=some (.lst xs)∧L2.IsL K H' (acts.map actD) xs∧acts.length=j∧(∀ a∈acts,ActOk m a)∧
    ∃ v9,σ'=[some (.ref t),some (.int (i:Int)),some (.int (n:Int)),some (.int (m:Int)),some (.bl small),some (.int size),some (.int brim),some (tgV sp),some (.ref al),v9]) ?_ ?_ ?_
   ·exact⟨e5,[],[],b5 al _ nal aB,.nil,rfl,fun a ha=>(nomatch ha),none,rfl⟩
   ·rintro j σ' H6 hj ⟨e6,acts,xs,ha,hl,hlen,hok,v9,rfl⟩
    refine⟨_,rfl,.inl ⟨rfl,_,bZ.of ha⟩,?_⟩
    refine gn_pick3 (t:=t) (sl:=sl) (H0:=H) (P:=fun v=>∃ wd:Str,v=.str wd∧(wd = "open" ∨ wd = "shut" ∨ wd = "turn")) (gn_c ⟨_,rfl,.inl rfl⟩) (gn_c ⟨_,rfl,.inr (.inl rfl)⟩) (gn_c ⟨_,rfl,.inr (.inr rfl)⟩) (bP rfl (by decide) (by decide)) _ _ e6 ?_
    rintro v H7 e7 b7 ⟨wd,rfl,hwd⟩
    refine gn_drawv (t:=t) (sl:=sl) (H0:=H) (m:=(m:Int)) rfl rfl hm0 (by omega) _ _ e7 ?_
    rintro v H8 e8 b8 ⟨r,rfl,r0,r1⟩
    refine⟨(show 2≤sizeLine by decide),fun q hq=>?_⟩
    have ha8:H8 al=some (.lst xs):=b8 al _ nal (b7 al _ nal ha)
    have nq:al≠q:=aJ ha8 hq
    have hxl:xs.length=acts.length:=by rw[hl.length,List.length_map]
    refine⟨al,xs,_,rfl,rfl,by rw[aI nq];exact ha8,aZ (by omega),?_⟩
    have e9:Ext t sl H (upd H8 q (.tup [.str wd,.int r])):=e8.new hq
    have mt:Mut (upd H8 q (.tup [.str wd,.int r]) al):=by rw[aI nq,ha8];exact trivial
    have ts:bJ K H6 (upd (upd H8 q (.tup [.str wd,.int r])) al (.lst (xs++[.ref q]))):=bJ.put (((b7.trans b8).trans (aF.new hq).but).ts e6.tp.mut) (.inr mt)
    refine⟨⟨fun b o hb e=>?_,e9.tp.put nal (eB.ne_sl tp fal)⟩,acts++[(wd,r)],xs++[.ref q],aB,?_,by simp [hlen],?_,_,rfl⟩
    ·rw[aI (aJ e fal)];exact e9.bt b o hb e
    ·rw[List.map_append]
     exact L2.IsL.snoc (Is.tupOf (ds:=[.str wd,.int r]) (bJ.put (bJ.refl _) (.inr mt) _ _ (bT.of aB)) (.cons (Is.s _) (.cons (Is.i _) .nil))) (L2.IsL.mono ts _ _ hl)
    ·intro a ha'
     rcases List.mem_append.mp ha' with ha' | ha'
     ·exact hok a ha'
     ·rw[List.mem_singleton.mp ha']
      exact⟨hwd,r0,r1⟩
   ·rintro σ' H6 ⟨e6,acts,xs,ha,hl,hlen,hok,v9,rfl⟩
    exact hD _ _ ⟨e6,acts,xs,ha,hl,by omega,hok,v9,rfl⟩
  rintro σ5 H5 ⟨e5,acts,xs,ha,hl,hlen,hok,v9,rfl⟩
  refine⟨_,rfl,_,rfl,_,rfl,_,rfl,_,rfl,t,sl,n,small,rfl,e5.tp,by omega,hn,fun outs p H6 e6 o1 o2 o3 hp=>?_⟩
  refine gn_eq0 (t:=t) (sl:=sl) (H0:=H) (bP rfl (by decide) (by decide)) _ _ ⟨e5.bt.trans e6.bt,e6.tp⟩ ?_
  rintro v H7 e7 b7 ⟨b,rfl⟩
  have ha7:H7 al=some (.lst xs):=b7 al _ nal (e6.bt al _ nal ha)
  have b57:eI t H5 H7:=e6.bt.trans b7
  refine⟨_,rfl,_,rfl,al,_,rfl,.inl ⟨bZ.of ha7,fun q hq=>⟨(show 6≤sizeLine by decide),fun r hr'=>?_⟩⟩⟩
  have m1:=aF.new (o:=HO.tup xs) hq
  have m2:aF (upd H7 q (.tup xs)) (upd (upd H7 q (.tup xs)) r (.tup [.int size,.int brim,p,.bl b,tgV sp,.ref q])):=aF.new hr'
  refine k ⟨size,brim,outs,b,sp,acts⟩ _ _ ((e7.new hq).new hr') ⟨s0,o1,o2,o3,fun z h=>(hsp z h).1,hlen,hok⟩ ⟨by show size≤60;omega,hb1,hb2,fun z h=>(hsp z h).2⟩ ?_
  refine Is.tupOf (bT.of aB) (.cons (Is.i _) (.cons (Is.i _) (.cons ?_ (.cons (Is.b _) (.cons (Is.tgOf _) (.cons ?_ .nil))))))
  ·exact Is.mono m2.ts _ _ (Is.mono m1.ts _ _ (Is.mono (b7.ts e6.tp.mut) _ _ hp))
  ·exact Is.mono m2.ts _ _ (Is.tupOf (bT.of aB) (L2.IsL.mono m1.ts _ _ (L2.IsL.mono (b57.ts e5.tp.mut) _ _ hl)))
end
end Tw
namespace Tw
open PySem L2
section
variable {P:Program}{w:World}{K:PySem.W.Frag}{mg:Str→Option Value}{base:Heap}
theorem Ext.put {t sl p:Addr}{H H':Hp}{o:HO} (e:Ext t sl H H') (tp:eB H t sl) (hp:H p=none):Ext t sl H (upd H' p o):=
 ⟨fun b u hb e1=>by rw[aI (aJ e1 hp)];exact e.bt b u hb e1,e.tp.put (fun z=>by obtain⟨o,h⟩:=tp.some;rw[z,h] at hp;cases hp) (eB.ne_sl tp hp)⟩
theorem Ext.trans {t sl:Addr}{H H1 H2:Hp} (a:Ext t sl H H1) (b:Ext t sl H1 H2):Ext t sl H H2:=⟨a.bt.trans b.bt,b.tp⟩
noncomputable def spNetM (K:PySem.W.Frag):Sp:=fun args H Q _=>∃ (t sl:Addr) (most:Int) (small:Bool),args=[.ref t,.int most,.bl small]∧1≤most∧most≤12∧eB H t sl∧
 ∀ (net:Net) p H',Ext t sl H H'→NetOk net→NetFull net→(net.vs.length:Int)≤most→Is K H' (netD net) p→Q p H'
theorem sc__law_net:FnScope ["tape","most","small","many","spouts","vessels","found","k","flow"] ["tape","most","small"] (aL (bC 26)):=⟨rfl,rfl,rfl,by decide +kernel,rfl,by decide +kernel,by decide +kernel⟩
theorem ok__law_netM {f fD fV:Addr}{fd fdD fdV:FuncData} (F:Fun K "_law_net" "_law_net" (bC 26) f fd) (T:Txt mg) (G__law_draw:Callee P w K mg base "_law_draw" ["tape","many"] 1 spDraw fD fdD)
  (G__law_vessel:Callee P w K mg base "_law_vessel" ["tape","number","many","spouts","small"] 3 (spVessel K) fV fdV):FnOk P w K mg base CX0 4 f fd ["tape","most","small"] (spNetM K):=by
 refine F.ok sc__law_net (fun vs H Q E h=>?_) (fun cdv A outer s H vs Q E hr h=>?_)
 ·obtain⟨t,sl,most,small,rfl,_⟩:=h;rfl
 ·obtain⟨t,sl,most,small,rfl,mo1,mo2,tp,k⟩:=h
  have sc:=sc__law_net
  refine⟨_,(aD (aS (i:=3) sc.nd rfl (Or.inr rfl) (aX cU aG (pcG G__law_draw hr (aA (pv 0) (aA (pv 1) aC)))))
   (aD (aS (i:=4) sc.nd rfl (Or.inr rfl) (aU (aM (K:=K) rfl) (bD (aA (pcG G__law_draw hr (aA (pv 0) (aA aG aC))) (aA (pcG G__law_draw hr (aA (pv 0) (aA aG aC))) aC))) (aX op_fdiv (pcG G__law_draw hr (aA (pv 0) (aA aG aC))) aG) (fun _ _=>rfl)))
   (aD (ps_set_lc (i:=5) sc.nd rfl rfl (fun _ _ h=>h) rfl (LcOk.mk (N':=["k","tape","many","spouts","small"]) (fr:=[none,some 0,some 3,some 4,some 2]) rfl ⟨rfl,rfl,rfl,rfl,trivial⟩ rfl rfl rfl rfl rfl ⟨⟨_,rfl,rfl,rfl,rfl⟩,⟨_,rfl,rfl,rfl,rfl⟩,⟨_,rfl,rfl,rfl,rfl⟩,⟨_,rfl,rfl,rfl,rfl⟩,trivial⟩) (cD rfl T.b_range (aA (pv 3) aC)) (fun _ _ _=>(aH (i:=0) (show (["k","tape","many","spouts","small"]:List Str).Nodup by decide +kernel) rfl (Or.inl rfl) (Or.inr rfl))) (fun _ _ _=>eE) (fun _ _ _=>(pcG G__law_vessel hr (aA (pv 1) (aA (pv 0) (aA (pv 2) (aA (pv 3) (aA (pv 4) aC))))))))
   (aD (aS (i:=6) sc.nd rfl (Or.inl rfl) (bD aC))
   (aD (dH PassesOwn.never rfl (cD rfl T.b_range (aA (pv 4) aC)) (aH (i:=7) sc.nd rfl (Or.inl rfl)) (aD (aS (i:=8) sc.nd rfl (Or.inl rfl) (aU (aM (K:=K) rfl) (bD (aA (pcG G__law_draw hr (aA (pv 0) (aA aG aC))) (aA (pcG G__law_draw hr (aA (pv 0) (aA (aU (aM (K:=K) rfl) (bD (aA aG (aA aG aC))) (b9 call_int1 rfl T.b_int bt_int (aA (pv 2) aC)) (fun _ _=>rfl)) aC))) aC))) (aX op_fdiv (pcG G__law_draw hr (aA (pv 0) (aA aG aC))) aG) (fun _ _=>rfl)))
   (aO (cY (pe_bmK (K:=K) rfl PySem.F.plainAttrs_list PySem.F.slot_list_append PySem.F.type_list_append cJ (pv 6) (aA (bS (aA (pcG G__law_draw hr (aA (pv 0) (aA (pv 3) aC))) (aA (pv 8) (aA (pe_cmpR op_gt (pcG G__law_draw hr (aA (pv 0) (aA aG aC))) aG (bW _)) aC)))) aC))))))
   (aO (bV (bS (aA (b9 (cE (K:=K) rfl) rfl T.b_tuple cK (aA (pv 5) aC)) (aA (b9 (cE (K:=K) rfl) rfl T.b_tuple cK (aA (pv 6) aC)) aC)))))))))),?_⟩
  refine gn_add (t:=t) (sl:=sl) (H0:=H) (x:=1) (y:=2) (l:=0) (h:=most) (gn_c ⟨1,rfl,by omega,by omega⟩) (gn_drawv (m:=most) rfl rfl (by omega) (by omega)) _ _ ⟨eI.refl _,tp⟩ ?_
  rintro v H1 e1 _ ⟨n',rfl,n0,n1⟩
  obtain⟨n,rfl⟩:=Int.eq_ofNat_of_zero_le (show 0≤n' by omega)
  refine gn_pick2 (t:=t) (sl:=sl) (H0:=H) (P:=cQ 0 13) (gn_up (bP rfl (by decide) (by decide)) (Int.le_refl _) (by decide)) (bP rfl (by decide) (by decide)) (gn_half (bP rfl (by decide) (by decide))) _ _ e1 ?_
  rintro v H2 e2 _ ⟨m',rfl,m0,m1⟩
  obtain⟨m,rfl⟩:=Int.eq_ofNat_of_zero_le m0
  refine⟨_,rfl,_,rfl,by omega,by omega,?_⟩
  refine lc_range (n:=n) (fun D i r σ' H'=>H2 D=none∧Ext t sl H H'∧H' D=some (.lst r)∧∃ vs:List Vs,vs.length=i∧L2.IsL K H' (vs.map vsD) r∧(∀ v∈vs,VOk n m v)∧(∀ i v,vs[i]? = some v→VFull i v)∧∃ v0,σ'=[v0,some (.ref t),some (.int (n:Int)),some (.int (m:Int)),some (.bl small)])
   (fun D hD=>⟨hD,e2.new hD,aB,[],rfl,.nil,(fun v hv=>nomatch hv),(fun i v hv=>by simp at hv),none,rfl⟩) ?_ ?_
  rotate_left
  ·rintro D i r σ' H3 hi ⟨hD,e3,hl,vs,hlen,hvl,hok,hfu,v0,rfl⟩
   refine name_yes ?_
   refine⟨_,rfl,_,rfl,_,rfl,_,rfl,_,rfl,t,sl,i,n,m,small,rfl,e3.tp,hi,by omega,by omega,fun v p H4 e4 vok vfu hp=>?_⟩
   have nD:D≠t:=e2.ne hD
   have fD:H D=none:=e2.bt.free nD hD
   have hl4:H4 D=some (.lst r):=e4.bt D _ nD hl
   have hrl:r.length=vs.length:=by rw[hvl.length,List.length_map]
   have mt:Mut (H4 D):=by rw[hl4];exact trivial
   refine⟨hl4,aZ (by omega),hD,(e3.trans e4).put tp fD,aB,vs++[v],by simp [hlen],?_,?_,?_,_,rfl⟩
   ·rw[List.map_append]
    exact L2.IsL.snoc (Is.mono (bJ.put (bJ.refl _) (.inr mt)) _ _ hp) (L2.IsL.mono (bJ.put (e4.bt.ts e3.tp.mut) (.inr mt)) _ _ hvl)
   ·intro u hu
    rcases List.mem_append.mp hu with hu | hu
    ·exact hok u hu
    ·rw[List.mem_singleton.mp hu];exact vok
   ·intro j u hu
    rcases Nat.lt_or_ge j vs.length with hj | hj
    ·rw[List.getElem?_append_left hj] at hu;exact hfu j u hu
    ·rw[List.getElem?_append_right hj] at hu
     have e0:j - vs.length=0:=by
      rcases Nat.eq_zero_or_pos (j - vs.length) with h | h
      ·exact h
      ·rw[List.getElem?_eq_none (show [v].length≤j - vs.length from h)] at hu;cases hu
     rw[e0] at hu
     have e1:j=i:=by omega
     cases hu
     rw[e1];exact vfu
  rintro D r σ' H3 ⟨hD,e3,hl,vs,hlen,hvl,hok,hfu,_⟩
  have nD:D≠t:=e2.ne hD
  have fD:H D=none:=e2.bt.free nD hD
  refine⟨Nat.zero_le _,fun fl hfl=>?_⟩
  have nf:fl≠t:=e3.ne hfl
  have ff:H fl=none:=e3.bt.free nf hfl
  have nDf:D≠fl:=aJ hl hfl
  refine⟨_,rfl,_,rfl,by omega,by omega,?_⟩
  refine dZ (lo:=0) (n:=m) (fun j σ' H'=>Ext t sl H H'∧H' D=some (.lst r)∧L2.IsL K H' (vs.map vsD) r∧∃ (sps:List Spt) (xs:List V),H' fl=some (.lst xs)∧L2.IsL K H' (sps.map spD) xs∧sps.length=j∧(∀ s∈sps,(0≤s.1∧s.1 < n)∧0≤s.2.1∧s.2.1≤60)∧
   ∃ v7 v8,σ'=[some (.ref t),some (.int most),some (.bl small),some (.int (n:Int)),some (.int (m:Int)),some (.ref D),some (.ref fl),v7,v8]) ?_ ?_ ?_
  ·exact⟨e3.new hfl,by rw[aI nDf];exact hl,L2.IsL.mono (aF.new hfl).ts _ _ hvl,[],[],aB,.nil,rfl,(fun s hs=>nomatch hs),none,none,rfl⟩
  ·rintro j σ' H4 hj ⟨e4,hl4,hv4,sps,xs,hf4,hs4,hslen,hsok,v7,v8,rfl⟩
   refine gn_pick2 (t:=t) (sl:=sl) (H0:=H) (P:=cQ 0 61) (gn_up (bP rfl (by decide) (by decide)) (Int.le_refl _) (by decide))
    (gn_up (gn_drawm (lo:=4) (hi:=62) rfl (by decide) (by decide) (gn_menu rfl ⟨by decide,by decide⟩ ⟨by decide,by decide⟩)) (Int.le_refl _) (by decide)) (gn_half (bP rfl (by decide) (by decide))) _ _ e4 ?_
   rintro v H5 e5 b5 ⟨flow,rfl,fl0,fl1⟩
   have hf5:H5 fl=some (.lst xs):=b5 fl _ nf hf4
   refine⟨_,rfl,.inl ⟨rfl,_,bZ.of hf5⟩,?_⟩
   refine gn_drawv (t:=t) (sl:=sl) (H0:=H) (m:=(n:Int)) rfl rfl (by omega) (by omega) _ _ e5 ?_
   rintro v H6 e6 b6 ⟨tg,rfl,tg0,tg1⟩
   refine⟨_,rfl,?_⟩
   refine gn_gt0 (t:=t) (sl:=sl) (H0:=H) (bP rfl (by decide) (by decide)) _ _ e6 ?_
   rintro v H7 e7 b7 ⟨dr,rfl⟩
   refine⟨(show 3≤sizeLine by decide),fun q hq=>?_⟩
   have b47:eI t H4 H7:=b5.trans (b6.trans b7)
   have hf7:H7 fl=some (.lst xs):=b47 fl _ nf hf4
   have hl7:H7 D=some (.lst r):=b47 D _ nD hl4
   have nq:fl≠q:=aJ hf7 hq
   have nDq:D≠q:=aJ hl7 hq
   have hxl:xs.length=sps.length:=by rw[hs4.length,List.length_map]
   refine⟨fl,xs,_,rfl,rfl,by rw[aI nq];exact hf7,aZ (by omega),?_⟩
   have mt:Mut (upd H7 q (.tup [.int tg,.int flow,.bl dr]) fl):=by rw[aI nq,hf7];exact trivial
   have ts:bJ K H4 (upd (upd H7 q (.tup [.int tg,.int flow,.bl dr])) fl (.lst (xs++[.ref q]))):=bJ.put ((b47.trans (aF.new hq).but).ts e4.tp.mut) (.inr mt)
   refine⟨(e7.new hq).put tp ff,by rw[aI nDf,aI nDq];exact hl7,L2.IsL.mono ts _ _ hv4,sps++[(tg,flow,dr)],xs++[.ref q],aB,?_,by simp [hslen],?_,_,_,rfl⟩
   ·rw[List.map_append]
    exact L2.IsL.snoc (Is.tupOf (ds:=[.int tg,.int flow,.bl dr]) (bJ.put (bJ.refl _) (.inr mt) _ _ (bT.of aB)) (.cons (Is.i _) (.cons (Is.i _) (.cons (Is.b _) .nil)))) (L2.IsL.mono ts _ _ hs4)
   ·intro s hs
    rcases List.mem_append.mp hs with hs | hs
    ·exact hsok s hs
    ·rw[List.mem_singleton.mp hs];exact⟨⟨tg0,tg1⟩,fl0,show flow≤60 by omega⟩
  ·rintro σ' H4 ⟨e4,hl4,hv4,sps,xs,hf4,hs4,hslen,hsok,v7,v8,rfl⟩
   refine⟨_,rfl,D,_,rfl,.inl ⟨bZ.of hl4,fun q1 hq1=>⟨_,rfl,fl,_,rfl,.inl ⟨bZ.of (aF.new hq1 _ _ hf4),fun q2 hq2=>⟨(show 2≤sizeLine by decide),fun q3 hq3=>?_⟩⟩⟩⟩⟩
   have m1:aF H4 (upd H4 q1 (.tup r)):=aF.new hq1
   have m2:aF (upd H4 q1 (.tup r)) (upd (upd H4 q1 (.tup r)) q2 (.tup xs)):=aF.new hq2
   have m3:aF (upd (upd H4 q1 (.tup r)) q2 (.tup xs)) (upd (upd (upd H4 q1 (.tup r)) q2 (.tup xs)) q3 (.tup [.ref q1,.ref q2])):=aF.new hq3
   refine k ⟨vs,sps⟩ _ _ (((e4.new hq1).new hq2).new hq3) ⟨by show 1≤vs.length;omega,by show vs.length≤12;omega,by show sps.length≤12;omega,fun v hv=>by rw[hlen,hslen];exact hok v hv,fun s hs=>by rw[hlen];exact (hsok s hs).1⟩ ⟨hfu,fun s hs=>(hsok s hs).2⟩ (by show (vs.length:Int)≤most;omega) ?_
   refine Is.tupOf (bT.of aB) (.cons (Is.tupOf (m3.tup (m2.tup (bT.of aB))) ?_) (.cons (Is.tupOf (m3.tup (bT.of aB)) ?_) .nil))
   ·exact L2.IsL.mono m3.ts _ _ (L2.IsL.mono m2.ts _ _ (L2.IsL.mono m1.ts _ _ hv4))
   ·exact L2.IsL.mono m3.ts _ _ (L2.IsL.mono m2.ts _ _ (L2.IsL.mono m1.ts _ _ hs4))
end
end Tw
namespace Tw
open PySem L2
section
variable {P:Program}{w:World}{K:PySem.W.Frag}{mg:Str→Option Value}{base:Heap}
theorem rep0:∀ n:Nat,(List.replicate n [V.int 0]).flatten=(List.replicate n (0:Int)).map V.int
 | 0=>rfl
 | n+1=>by rw[List.replicate_succ,List.replicate_succ,List.flatten_cons,rep0 n,List.map_cons];rfl
noncomputable def zeros (n:Nat):List Int:=List.replicate n 0
noncomputable def spFirst (K:PySem.W.Frag):Sp:=fun args H Q _=>∃ (x:V) (net:Net),args=[x]∧Is K H (netD net) x∧NetOk net∧
 ∀ p H',aF H H'→Is K H' (stD (zeros net.vs.length) (zeros net.vs.length) (net.sps.map (·.2.2))) p→Q p H'
theorem sc_first_state:FnScope ["net","vessels","spouts","empty"] ["net"] (aL (bC 8)):=⟨rfl,rfl,rfl,by decide +kernel,rfl,by decide +kernel,by decide +kernel⟩
theorem ok_first_state {f:Addr}{fd:FuncData} (F:Fun K "first_state" "first_state" (bC 8) f fd) (T:Txt mg):FnOk P w K mg base CX0 1 f fd ["net"] (spFirst K):=by
 refine F.ok sc_first_state (fun vs H Q E h=>?_) (fun cdv A outer s H vs Q E hr h=>?_)
 ·obtain⟨x,net,rfl,_⟩:=h;rfl
 ·obtain⟨x,net,rfl,hx,nok,k⟩:=h
  have sc:=sc_first_state
  refine⟨_,(aD (cS (pv 0) (bO (K:=K) (n:=2) rfl rfl (aK (aH (i:=1) sc.nd rfl (Or.inl rfl)) (aK (aH (i:=2) sc.nd rfl (Or.inl rfl)) bL))))
   (aD (aS (i:=3) sc.nd rfl (Or.inl rfl) (aX (op_repTK (K:=K) rfl) (bS (aA aG aC)) (bA (bQ (K:=K) rfl) rfl T.b_len PySem.boot_len (aA (pv 1) aC))))
   (aO (bV (bS (aA (pv 3) (aA (pv 3) (aA (b9 (cE (K:=K) rfl) rfl T.b_tuple cK (aA (pe_lc (fun _ _ h=>h) rfl (LcOk.mk (N':=["target","flow","door"]) (fr:=[none,none,none]) rfl trivial rfl rfl rfl rfl rfl trivial) (pi_tupK (K:=K) rfl (pv 2)) (fun _ _ _=>(bO (K:=K) (n:=3) rfl rfl (aK (aH (i:=0) (show (["target","flow","door"]:List Str).Nodup by decide +kernel) rfl (Or.inl rfl) (Or.inr rfl)) (aK (aH (i:=1) (show (["target","flow","door"]:List Str).Nodup by decide +kernel) rfl (Or.inl rfl) (Or.inr rfl)) (aK (aH (i:=2) (show (["target","flow","door"]:List Str).Nodup by decide +kernel) rfl (Or.inl rfl) (Or.inr rfl)) bL))))) (fun _ _ _=>eE) (fun _ _ _=>(pv 2))) aC)) aC)))))))),?_⟩
  obtain⟨a,b,c,xs,ys,rfl,q,q1,l1,q2,l2⟩:=net_un hx
  have exl:xs.length=net.vs.length:=by rw[l1.length,List.length_map]
  have eyl:ys.length=net.sps.length:=by rw[l2.length,List.length_map]
  have n1:=nok.lo
  have n2:=nok.hi
  have n3:=nok.sp
  refine⟨_,rfl,a,_,rfl,q,rfl,_,_,rfl,_,_,rfl,rfl,?_⟩
  refine⟨(show 1≤sizeLine by decide),fun z hz=>⟨_,rfl,b,xs,rfl,.inr ((aF.new hz).tup q1),z,_,[.int 0],rfl,rfl,bT.of aB,by omega,by omega,by simp,by simp,fun e H1 sm1 qe=>?_⟩⟩
  have s1:aF H H1:=(aF.new hz).trans sm1
  have en:((xs.length:Nat):Int).toNat=net.vs.length:=by rw[exl];simp
  rw[en,rep0] at qe
  refine⟨_,rfl,_,rfl,_,rfl,c,rfl,⟨_,s1.tup q2⟩,lc_tup (K:=K) (a:=c) (xs:=ys) (fun D i r σ' H'=>H1 D=none∧aF H1 H'∧H' D=some (.lst r)∧r=((net.sps.take i).map (·.2.2)).map V.bl∧∃ u v w,σ'=[u,v,w])
   (fun D i r σ' H' p=>p.2.1.tup (s1.tup q2)) (fun D hD=>⟨hD,aF.new hD,aB,by simp,none,none,none,rfl⟩) ?_ ?_⟩
  rotate_left
  ·rintro D i x r σ' H2 hx ⟨hD,sm,hDl,rfl,u,v,w',rfl⟩
   obtain⟨sp,hsi,sa,rfl,qs⟩:=sps_at l2 hx
   have hil:=(List.getElem?_eq_some_iff.mp hsi).1
   refine⟨sa,_,rfl,sm.tup (s1.tup qs),rfl,_,_,rfl,_,_,rfl,_,_,rfl,rfl,?_⟩
   refine yes_of ⟨_,rfl,hDl,aZ (by simp;omega),hD,sm.put hD,aB,?_,_,_,_,rfl⟩
   rw[aW hsi];simp
  ·rintro D r σ' H2 ⟨hD,sm,hDl,rfl,_⟩
   rw[eyl,List.take_length] at hDl
   refine⟨D,_,rfl,.inl ⟨bZ.of hDl,fun d hd=>⟨(show 3≤sizeLine by decide),fun r hr'=>?_⟩⟩⟩
   have m1:aF H2 (upd H2 d (.tup ((net.sps.map (·.2.2)).map V.bl))):=aF.new hd
   have m2:aF (upd H2 d (.tup ((net.sps.map (·.2.2)).map V.bl))) (upd (upd H2 d (.tup ((net.sps.map (·.2.2)).map V.bl))) r (.tup [.ref e,.ref e,.ref d])):=aF.new hr'
   refine k _ _ (((s1.trans sm).trans m1).trans m2) (st_of (bT.of aB) ?_ ?_ (m2.tup (bT.of aB)))
   ·exact m2.tup (m1.tup (sm.tup qe))
   ·exact m2.tup (m1.tup (sm.tup qe))
theorem sc__law_first:FnScope ["net","none"] ["net"] (aL (bC 27)):=⟨rfl,rfl,rfl,by decide +kernel,rfl,by decide +kernel,by decide +kernel⟩
theorem ok__law_first {f:Addr}{fd:FuncData} (F:Fun K "_law_first" "_law_first" (bC 27) f fd) (T:Txt mg):FnOk P w K mg base CX0 1 f fd ["net"] (spFirst K):=by
 refine F.ok sc__law_first (fun vs H Q E h=>?_) (fun cdv A outer s H vs Q E hr h=>?_)
 ·obtain⟨x,net,rfl,_⟩:=h;rfl
 ·obtain⟨x,net,rfl,hx,nok,k⟩:=h
  have sc:=sc__law_first
  refine⟨_,(aD (aS (i:=1) sc.nd rfl (Or.inl rfl) (aX (op_repTK (K:=K) rfl) (bS (aA aG aC)) (bA (bQ (K:=K) rfl) rfl T.b_len PySem.boot_len (aA (aU (aM (K:=K) rfl) (pv 0) aG (fun _ _=>rfl)) aC))))
   (aO (bV (bS (aA (pv 1) (aA (pv 1) (aA (b9 (cE (K:=K) rfl) rfl T.b_tuple cK (aA (pe_lc (fun _ _ h=>h) rfl (LcOk.mk (N':=["spout"]) (fr:=[none]) rfl trivial rfl rfl rfl rfl rfl trivial) (pi_tupK (K:=K) rfl (aU (aM (K:=K) rfl) (pv 0) aG (fun _ _=>rfl))) (fun _ _ _=>(aH (i:=0) (show (["spout"]:List Str).Nodup by decide +kernel) rfl (Or.inl rfl) (Or.inr rfl))) (fun _ _ _=>eE) (fun _ _ _=>(aU (aM (K:=K) rfl) (pv 0) aG (fun _ _=>rfl)))) aC)) aC))))))),?_⟩
  obtain⟨a,b,c,xs,ys,rfl,q,q1,l1,q2,l2⟩:=net_un hx
  have exl:xs.length=net.vs.length:=by rw[l1.length,List.length_map]
  have eyl:ys.length=net.sps.length:=by rw[l2.length,List.length_map]
  have n1:=nok.lo
  have n2:=nok.hi
  have n3:=nok.sp
  refine⟨(show 1≤sizeLine by decide),fun z hz=>⟨_,rfl,.inr (.inl ⟨a,_,0,_,rfl,rfl,(aF.new hz).tup q,rfl,b,xs,rfl,.inr ((aF.new hz).tup q1),z,_,[.int 0],rfl,rfl,bT.of aB,by omega,by omega,by simp,by simp,fun e H1 sm1 qe=>?_⟩)⟩⟩
  have s1:aF H H1:=(aF.new hz).trans sm1
  have en:((xs.length:Nat):Int).toNat=net.vs.length:=by rw[exl];simp
  rw[en,rep0] at qe
  refine⟨_,rfl,_,rfl,_,rfl,.inr (.inl ⟨a,_,1,_,rfl,rfl,s1.tup q,rfl,c,rfl,⟨_,s1.tup q2⟩,lc_tup (K:=K) (a:=c) (xs:=ys) (fun D i r σ' H'=>H1 D=none∧aF H1 H'∧H' D=some (.lst r)∧r=((net.sps.take i).map (·.2.2)).map V.bl∧∃ u,σ'=[u])
   (fun D i r σ' H' p=>p.2.1.tup (s1.tup q2)) (fun D hD=>⟨hD,aF.new hD,aB,by simp,none,rfl⟩) ?_ ?_⟩)⟩
  rotate_left
  ·rintro D i x r σ' H2 hx ⟨hD,sm,hDl,rfl,u,rfl⟩
   obtain⟨sp,hsi,sa,rfl,qs⟩:=sps_at l2 hx
   have hil:=(List.getElem?_eq_some_iff.mp hsi).1
   refine name_yes ?_
   refine⟨_,rfl,.inr (.inl ⟨sa,_,2,_,rfl,rfl,sm.tup (s1.tup qs),rfl,hDl,aZ (by simp;omega),hD,sm.put hD,aB,?_,_,rfl⟩)⟩
   rw[aW hsi];simp
  ·rintro D r σ' H2 ⟨hD,sm,hDl,rfl,_⟩
   rw[eyl,List.take_length] at hDl
   refine⟨D,_,rfl,.inl ⟨bZ.of hDl,fun d hd=>⟨(show 3≤sizeLine by decide),fun r hr'=>?_⟩⟩⟩
   have m1:aF H2 (upd H2 d (.tup ((net.sps.map (·.2.2)).map V.bl))):=aF.new hd
   have m2:aF (upd H2 d (.tup ((net.sps.map (·.2.2)).map V.bl))) (upd (upd H2 d (.tup ((net.sps.map (·.2.2)).map V.bl))) r (.tup [.ref e,.ref e,.ref d])):=aF.new hr'
   refine k _ _ (((s1.trans sm).trans m1).trans m2) (st_of (bT.of aB) ?_ ?_ (m2.tup (bT.of aB)))
   ·exact m2.tup (m1.tup (sm.tup qe))
   ·exact m2.tup (m1.tup (sm.tup qe))
end
end Tw
namespace Tw
end Tw
namespace Tw
open PySem L2
theorem depth_map {α:Type} (f:α→L2.D) (hf:∀ a,(f a).depth=0):∀ l:List α,dW (l.map f)=0
 | []=>by rw[List.map_nil,dW]
 | a::r=>by rw[List.map_cons,dW,hf,depth_map f hf r];rfl
theorem depth_int (i:Int):(L2.D.int i).depth=0:=by rw[L2.D.depth] <;> intros <;> (first | rfl | (intro z;cases z) | (rename_i z;cases z))
theorem depth_bl (i:Bool):(L2.D.bl i).depth=0:=by rw[L2.D.depth] <;> intros <;> (first | rfl | (intro z;cases z) | (rename_i z;cases z))
theorem depth_st (held coming:List Int) (doors:List Bool):dW [.tup (held.map L2.D.int),.tup (coming.map L2.D.int),.tup (doors.map L2.D.bl)]=1:=by
 simp only [dW,L2.D.depth,depth_map _ depth_int,depth_map _ depth_bl];rfl
theorem kit_ib (K:PySem.W.Frag):PySem.W.kitOne K (.type "int") (.type "bool")=some false:=by
 unfold PySem.W.kitOne
 rw[if_neg (by decide +kernel)]
 show (if PySem.W.kitMeta "bool" = true then PySem.W.subIn K (.type "int") (.type "bool") else none)=some false
 rw[if_pos (by decide +kernel)]
 show (PySem.fastBuiltinMro "int").map (·.contains (.type "bool"))=some false
 decide +kernel
section
variable {P:Program}{w:World}{K:PySem.W.Frag}{mg:Str→Option Value}{base:Heap}
end
end Tw
namespace L2
open PySem PySem.Spec PyProof.Rows TwZ
section
variable {X:Cx}{K:PySem.W.Frag}
theorem pe_globE {x:Str}{v:V}{pos:Pos} (hg:Gl X x) (h:∃ u,X.mg x=some u∧aY v u) (hd:(x == ("__debug__" : Str))=false:=by decide):PE X (.Name x pos) (tC v):=by
 obtain⟨u,e,r⟩:=h
 exact pe_glob hg e r hd
theorem op_inK (hK:X.K=K):OpR X (compareOp .In) (rIn K false):=by subst hK;exact op_in_seq
end
end L2
namespace Tw
open PySem L2
theorem kit_ii (K:PySem.W.Frag):PySem.W.kitOne K (.type "int") (.type "int")=some true:=by
 unfold PySem.W.kitOne;rw[if_pos (by decide +kernel)]
section
variable {P:Program}{w:World}{K:PySem.W.Frag}{mg:Str→Option Value}{base:Heap}{aw:Addr}
theorem sc_is_whole:FnScope ["thing","least","most"] ["thing","least","most"] (aL (bC 6)):=⟨rfl,rfl,rfl,by decide +kernel,rfl,by decide +kernel,by decide +kernel⟩
end
end Tw
namespace L2
open PySem PySem.Spec PyProof.Rows
noncomputable def gLst (K:PySem.W.Frag) (n:Nat) (t:TGs):TG:=fun v σ H Q=>∃ a xs,v=.ref a∧bZ K H a xs∧xs.length=n∧t xs σ H Q
theorem pg_lst {X:Cx}{pos:Pos}{es:List Expr}{k:Nat}{t:TGs}{n:Nat} (hc:X.calm=true) (h:PGs X es t)
  (hn:(assignEach es X.env).length=n:=by rfl) (hst:(assignEach es X.env).findIdx? (·.1)=none:=by rfl):PG X (.Tuple es k pos) (gLst X.K n t):=by
 intro pins s σ H v u Q I r hw
 obtain⟨a,xs,e1,hq,hl,hw⟩:=hw
 subst e1
 cases r
 obtain⟨its,rv,ht,hz⟩:=I.list hq
 rw[assign_Tuple]
 refine wpAny_bind (wpAny_standAt ?_)
 unfold unpack
 have e:(assignEach es X.env).length=its.toArray.size:=by simp [hn,← hl,rv.length]
 rw[e,hst]
 refine wpAny_bind (wpAny_holding (PySem.W.kun_itemsOf (I.ok.hd hc) ht.isList fun h' hx=>?_))
 have I1:Inv X pins σ H { s with heap:=h' }:=I.kept (t':=s.toks) fun b o e=>hx b o (Nat.ne_of_lt (Heap.lt_size e)) e
 exact h pins _ σ H xs _ Q I1 (by simpa using rv) hw
theorem pg_lstK {X:Cx}{K:PySem.W.Frag}{pos:Pos}{es:List Expr}{k:Nat}{t:TGs}{n:Nat} (hK:X.K=K) (hc:X.calm=true) (h:PGs X es t)
  (hn:(assignEach es X.env).length=n:=by rfl) (hst:(assignEach es X.env).findIdx? (·.1)=none:=by rfl):PG X (.Tuple es k pos) (gLst K n t):=by
 subst hK;exact pg_lst hc h hn hst
end L2
namespace L2
open PySem PySem.Spec PyProof.Rows TwZ
section
variable {X:Cx}{K:PySem.W.Frag}
theorem op_catTK (hK:X.K=K):OpR X (binaryOp .Add) (rCatT K):=by subst hK;exact op_catT
theorem tuple_mul_none (l:Addr) (items:Array Value) (n:Nat) (x:Int) (u:Tok) (dd:Option Addr) (sl:Array (Option Value)) (c0:¬ (decide (x < -(2 ^ 63)) || decide (x ≥ 2 ^ 63))=true) (c1:¬ (items.isEmpty || x == 1)=true)
  (c2:(decide (x≤0) || items.isEmpty)=true) :
  Meets (Builtin.«tuple.__mul__» ⟨[.ref l,.int x u],[]⟩) (fun _ R s=>s.heap.get? l=some { cls:=.type "tuple",dict:=dd,data:=.seq items n,slots:=sl }∧
   R (.ok (.ret (.ref s.heap.objs.size))) { s with heap:=s.heap.push { cls:=.type "tuple",data:=.seq #[] } }):=
 .of_wp fun prog w A R s h=>by
  obtain⟨hp,g,d,tk,os⟩:=s;obtain⟨hl,h⟩:=h
  wp_walk
  rw[if_neg c0]
  wp_walk
  all_goals (try rw[if_neg c1])
  wp_walk
  all_goals (try rw[if_pos c2])
  wp_walk
  exact⟨_,rfl,h⟩
noncomputable def rRepZ (K:PySem.W.Frag):R2:=fun x y H Q=>∃ (l:Addr) (k:Int) (xs:List V),x=.ref l∧y=.int k∧bT K H l xs∧0≤k∧k < 1000000∧xs≠[]∧xs.length≤10∧
 ∀ p H',aF H H'→bT K H' p (List.replicate k.toNat xs).flatten→Q (.ref p) H'
theorem op_repZ:OpR X (binaryOp .Mult) (rRepZ X.K):=by
 intro pins s σ H x y v u Q I rx ry h
 obtain⟨l,k,xs,rfl,rfl,hq,h1,h2,hne,hl10,q⟩:=h
 by_cases hk:1≤k
 ·exact op_repT pins s σ H _ _ v u Q I rx ry ⟨l,k,xs,rfl,rfl,hq,hk,h2,hne,hl10,q⟩
 ·have hk0:k=0:=by omega
  subst hk0
  cases rx
  obtain⟨t,rfl⟩:=ry
  obtain⟨its,r,ht,z⟩:=I.tuple hq
  have hlen:=r.length
  obtain⟨⟨cls,dd,data,sl⟩,e,hc,n,hd⟩:=id ht
  simp only at hc hd
  subst hc hd
  refine wpAny_binaryOp_repeat_ref (T := "tuple") (U := "int") (by decide) ⟨_,e,rfl⟩ (fun s'=>typeIs_int s' 0 t) noFill_tuple_mul F.fills_int_mul F.slot_int_rmul repeat_tuple F.slot_int_index.lookup
   (call_meets F.slot_int_rmul (typeIs_int s 0 t) F.entry_int_rmul (F.args_int_rmul_2 _ _) (int_rmul_tuple 0 t l its.toArray n dd sl) ⟨e,rfl,⟨_,e,rfl⟩,?_⟩)
  have hne':its≠[]:=fun z=>by rw[z] at hlen;exact hne (List.eq_nil_of_length_eq_zero hlen)
  have hemp:its.toArray.isEmpty=false:=by cases its with
   | nil=>exact absurd rfl hne'
   | cons a r=>rfl
  refine call_meets F.slot_tuple_mul ⟨_,e,rfl⟩ F.entry_tuple_mul (F.args_tuple_mul_2 _ _) (tuple_mul_none l its.toArray n 0 t dd sl (by decide) (by rw[hemp];decide) (by simp)) ⟨e,?_⟩
  have I1:=I.laid (a:=s.heap.objs.size) (o:=.tup []) (h':=s.heap.push { cls:=.type "tuple",data:=.seq #[] }) (t':=s.toks)
   (fun _ _ q=>Heap.get?_push_of_some _ q) (Nat.le_refl _) ⟨Nat.zero_le _,[],.nil,⟨_,Heap.get?_push_size _ rfl,rfl,0,rfl⟩⟩
  exact⟨.ref _,_,I1,rfl,q _ _ (aF.new I.fresh) (bT.of aB)⟩
theorem op_repZK (hK:X.K=K):OpR X (binaryOp .Mult) (rRepZ K):=by subst hK;exact op_repZ
end
end L2
namespace L2
open PySem PySem.Spec PyProof.Rows TwZ
section
variable {K:PySem.W.Frag}{g:TG}{tc:TT}{te:TE}{fr:List (Option Nat)}{σ:St}{H1:Hp}{Q:Addr→Hp→Prop}
end
end L2
namespace Tw
open PySem L2
section
variable {K:PySem.W.Frag}{C r dx R M T:Addr}{H H':Hp}{S:RunS}{fp:List Addr}{np mv:V}{ts:List Addr}{rs ms:List V}
end
section
variable {P:Program}{w:World}{K:PySem.W.Frag}{mg:Str→Option Value}{base:Heap}{C:Addr}
theorem sc_need_vessel:FnScope ["net","number","vessels","spouts"] ["net","number"] (aL (bC 5)):=⟨rfl,rfl,rfl,by decide +kernel,rfl,by decide +kernel,by decide +kernel⟩
noncomputable def spPouring (K:PySem.W.Frag):Sp:=fun vs H Q _=>∃ (x:V) (net:Net) (v:Int),vs=[x,.int v]∧Is K H (netD net) x∧NetOk net∧∀ p H',aF H H'→bT K H' p ((v::zeros (net.vs.length - 1)).map V.int)→Q (.ref p) H'
theorem sc_pouring:FnScope ["net","amount","vessels","spouts"] ["net","amount"] (aL (bC 9)):=⟨rfl,rfl,rfl,by decide +kernel,rfl,by decide +kernel,by decide +kernel⟩
theorem ok_pouring {f:Addr}{fd:FuncData} (F:Fun K "pouring" "pouring" (bC 9) f fd) (T:Txt mg):FnOk P w K mg base CX0 1 f fd ["net","amount"] (spPouring K):=by
 refine F.ok sc_pouring (fun vs H Q E h=>?_) (fun cdv A outer s H vs Q E hr h=>?_)
 ·obtain⟨x,net,v,rfl,_⟩:=h;rfl
 ·obtain⟨x,net,v,rfl,hx,nok,k⟩:=h
  have sc:=sc_pouring
  refine⟨_,(aD (cS (pv 0) (bO (K:=K) (n:=2) rfl rfl (aK (aH (i:=2) sc.nd rfl (Or.inl rfl)) (aK (aH (i:=3) sc.nd rfl (Or.inl rfl)) bL))))
   (aO (bV (aX (op_catTK (K:=K) rfl) (bS (aA (pv 1) aC)) (aX (op_repZK (K:=K) rfl) (bS (aA aG aC)) (aX op_sub (bA (bQ (K:=K) rfl) rfl T.b_len PySem.boot_len (aA (pv 2) aC)) aG)))))),?_⟩
  obtain⟨a,b,c,xs,ys,rfl,q,q1,l1,q2,l2⟩:=net_un hx
  have exl:xs.length=net.vs.length:=by rw[l1.length,List.length_map]
  have n1:=nok.lo
  have n2:=nok.hi
  refine⟨_,rfl,a,_,rfl,q,rfl,_,_,rfl,_,_,rfl,rfl,?_⟩
  refine⟨_,rfl,(show 1≤sizeLine by decide),fun y hy=>⟨(show 1≤sizeLine by decide),fun z hz=>?_⟩⟩
  have m1:=aF.new (o:=HO.tup [.int v]) hy
  have m2:=aF.new (o:=HO.tup [.int 0]) hz
  refine⟨_,rfl,b,xs,rfl,.inr (m2.tup (m1.tup q1)),_,_,rfl,rfl,z,_,[.int 0],rfl,rfl,bT.of aB,by omega,by omega,by simp,by simp,fun e H1 sm1 qe=>?_⟩
  have en:(((xs.length:Nat):Int) - 1).toNat=net.vs.length - 1:=by rw[exl];omega
  rw[en,rep0] at qe
  refine⟨y,e,[.int v],_,rfl,rfl,sm1.tup (m2.tup (bT.of aB)),qe,by simp,aZ (by simp;omega) |> Nat.le_of_lt,fun he=>?_,fun _ p hp=>?_⟩
  ·refine k _ _ ((m1.trans m2).trans sm1) ?_
   have e0:zeros (net.vs.length - 1)=[]:=List.map_eq_nil_iff.mp he
   rw[e0]
   exact sm1.tup (m2.tup (bT.of aB))
  ·exact k _ _ (((m1.trans m2).trans sm1).trans (aF.new hp)) (bT.of aB)
end
end Tw
namespace L2
open PySem PySem.Spec PyProof.Rows TwZ
section
variable {X:Cx}{pins:List (Addr×Obj)}{σ:St}{H:Hp}{s:Shared}
end
section
variable {K:PySem.W.Frag}{H:Hp}
end
end L2
namespace L2
open PySem PySem.Spec PyProof.Rows TwZ
theorem bU.some {P:Program}{w:World}{H:Hp}{h:Heap}{a:Addr}{o:HO} (x:bU P w H h a o):∃ ob,h.get? a=some ob:=by
 cases o with
 | lst xs=>obtain⟨_,_,_,_,e⟩:=x;exact⟨_,e⟩
 | tup xs=>obtain⟨_,_,_,ob,e,_⟩:=x;exact⟨_,e⟩
 | dK kvs=>obtain⟨_,_,_,_,o,_,_,e,_⟩:=x;exact⟨_,e⟩
 | dT kvs=>obtain⟨_,_,_,_,o,_,_,e,_⟩:=x;exact⟨_,e⟩
 | set S n=>obtain⟨o,_,_,_,e,_⟩:=x;exact⟨_,e⟩
 | ins C dx fs=>obtain⟨_,_,_,e,_⟩:=x;exact⟨_,e⟩
 | own y=>obtain⟨_,e⟩:=x;exact⟨_,e⟩
 | xd fs=>obtain⟨_,⟨_,_,_,e,_⟩,_⟩:=x;exact⟨_,e⟩
 | rng lo hi=>obtain⟨_,_,_,e⟩:=x;exact⟨_,e⟩
 | frz ob u=>obtain⟨e,_⟩:=x;exact⟨_,e⟩
 | tbl ps=>exact⟨_,(show h.get? a=Option.some _ from x)⟩
 | met f y=>exact⟨_,(show h.get? a=Option.some _ from x)⟩
 | ext φ=>obtain⟨_,⟨_,e⟩,_⟩:=x;exact⟨_,e⟩
structure Fly (P:Program) (w:World) (stack:List Env) (H:Hp) (h:Heap) (ea:Addr) (cls a0:Value) (H':Hp) (h' B:Heap):Prop where
 fl:Heap.FlyingW B stack ea cls a0 h'
 keep:∀ b o,h.get? b=some o→H b=none→b∉frs stack→B.get? b=some o
 slot:∀ b o,h.get? b=some o→H b=none→b∈frs stack→∃ sl,h'.get? b=some { o with slots:=sl }
 free:∀ b o,h.get? b=some o→H b=none→H' b=none
 there:∀ b o,h.get? b=some o→b∉frs stack→∃ o',B.get? b=some o'
 tups:∀ b xs,H b=some (.tup xs)→H' b=some (.tup xs)
 frzs:∀ b o u,H b=some (.frz o u)→H' b=some (.frz o u)
 tbls:∀ b ps,H b=some (.tbl ps)→∃ more,H' b=some (.tbl (ps++more))
 hok:HOk P w H' B
noncomputable def CXR (P:Program) (w:World):CXT:=fun outer H s E e s'=>∃ (ea:Addr) (cls a0:Value) (H':Hp) (B:Heap),e=.ref ea∧s'.os=s.os∧AllBare s'.gens∧Fly P w outer H s.heap ea cls a0 H' s'.heap B∧E cls none H'
structure Leaves (X:Cx) (E:XK):Prop where
 stk:X.stack=X.env::X.outer
 fr:X.env.frame=some X.env.locals
 ex:X.ex=[]
 xe:∀ e s',wpAny (model X.prog X.w) X.A (leaving X.env e) (fun _ s''=>CXR X.prog X.w X.outer X.H₀ X.s₀ E e s'') (fun e' s''=>CXR X.prog X.w X.outer X.H₀ X.s₀ E e' s'') s'→X.xe e s'
section
variable {X:Cx}{pins:List (Addr×Obj)}{σ:St}{H H':Hp}{s s':Shared}{E:XK}
theorem mem_frs {l:List Env}{b:Addr}{env:Env} (he:env∈l) (hf:env.frame=some b):b∈frs l:=List.mem_filterMap.mpr ⟨env,he,hf⟩
theorem mem_frs_cons {l:List Env}{b L:Addr}{env:Env} (hf:env.frame=some L) (h:b∈frs (env::l)):b=L∨b∈frs l:=by
 unfold frs at h ⊢
 rw[List.filterMap_cons,hf] at h
 exact List.mem_cons.1 h
theorem raise_xe {h':Heap}{ea:Addr}{cls:Value}{vs:List Value} (L:Leaves X E) (I:Inv X pins σ H s) (hx:Heap.MadeExcOf s.heap h' ea cls vs) (hE:E cls none H):X.xe (.ref ea) { s with heap:=h' }:=by
 refine L.xe _ _ ?_
 have fr:X.A.frames=some (X.env::X.outer):=by rw[← L.stk];exact I.ok.frames
 have hs:s.heap.FunFrames X.base (X.env::X.outer):=by rw[← L.stk];exact I.stack
 have hfree:∀ b∈frs (X.env::X.outer),H b=none:=by rw[← L.stk];exact I.stkFree
 have nex:∀ b:Addr,b∉X.ex:=fun b z=>by rw[L.ex] at z;cases z
 have out:∀ b o,X.s₀.heap.get? b=some o→b∉frs X.outer→b∉frs (X.env::X.outer):=fun b o e hb z=>by
  rcases mem_frs_cons L.fr z with z | z
  ·exact absurd (Nat.lt_of_lt_of_le (Heap.lt_size e) I.ok.above) (by rw[z];exact Nat.lt_irrefl _)
  ·exact hb z
 refine wpAny_leaves_madeW (base:=PySem.W.hideAll s.heap (frs (X.env::X.outer))) fr L.fr (fun b o q=>PySem.W.of_hideAll _ q) (PySem.W.funFrames_hide hs fun env he a hf=>mem_frs he hf) hx fun h2 t x1 x2 x3 x4=>?_
 refine⟨ea,cls,.ref t,H,_,rfl,I.os,I.bare,⟨x1,fun b o e n hb=>?_,fun b o e n hb=>?_,fun b o e n=>I.base.free b o e n (nex b),fun b o e hb=>?_,I.base.tups,I.base.frzs,I.base.tbls,fun a o e=>?_⟩,hE⟩
 ·exact PySem.W.hideAll_get _ (I.base.keep b o e n hb (nex b)) (out b o e hb)
 ·obtain⟨sl,e1⟩:=I.base.slot b o e n hb (nex b)
  obtain⟨_,o',ho',hd⟩:=I.ok.funs.mem hb
  rw[e] at ho'
  cases ho'
  obtain⟨sl',e2⟩:=x4 b _ (hx.keeps _ _ e1) hd
  exact⟨sl',e2⟩
 ·obtain⟨o',e1⟩:=I.base.there b o e (nex b)
  exact⟨o',PySem.W.hideAll_get _ e1 (out b o e hb)⟩
 ·refine (I.hok a o e).stay (fun b u hb q=>PySem.W.hideAll_get _ q fun z=>?_) (fun _ q=>q) fun _ _ q=>q
  have:=hfree b z
  rcases hb with rfl | hb
  ·rw[e] at this;cases this
  ·rw[hb] at this;cases this
theorem pass_xe (L:Leaves X E):Passes (CXR X.prog X.w) X E:=by
 intro pins σ H s e s' I h
 obtain⟨ea,cls,a0,H',B,rfl,os,bare,F,hE⟩:=h
 refine L.xe _ _ ?_
 have fr:X.A.frames=some (X.env::X.outer):=by rw[← L.stk];exact I.ok.frames
 have nex:∀ b:Addr,b∉X.ex:=fun b z=>by rw[L.ex] at z;cases z
 have out:∀ b o,X.s₀.heap.get? b=some o→b∉frs X.outer→b∉frs X.stack:=fun b o e hb z=>by
  rw[L.stk] at z
  rcases mem_frs_cons L.fr z with z | z
  ·exact absurd (Nat.lt_of_lt_of_le (Heap.lt_size e) I.ok.above) (by rw[z];exact Nat.lt_irrefl _)
  ·exact hb z
 have inn:∀ b,b∈frs X.outer→b∈frs X.stack:=fun b hb=>by
  rw[L.stk];unfold frs at hb ⊢;rw[List.filterMap_cons,L.fr];exact List.mem_cons_of_mem _ hb
 refine wpAny_leaves_onW fr L.fr (by rw[← L.stk];exact F.fl) fun h2 x1 x2=>?_
 refine⟨ea,cls,a0,H',B,rfl,os.trans I.os,bare,⟨x1,fun b o e n hb=>?_,fun b o e n hb=>?_,fun b o e n=>?_,fun b o e hb=>?_,fun b xs e=>F.tups b xs (I.base.tups b xs e),fun b o u e=>F.frzs b o u (I.base.frzs b o u e),fun b ps e=>?_,F.hok⟩,hE⟩
 ·exact F.keep b o (I.base.keep b o e n hb (nex b)) (I.base.free b o e n (nex b)) (out b o e hb)
 ·obtain⟨sl,e1⟩:=I.base.slot b o e n hb (nex b)
  obtain⟨sl',e2⟩:=F.slot b _ e1 (I.base.free b o e n (nex b)) (inn b hb)
  obtain⟨_,o',ho',hd⟩:=I.ok.funs.mem hb
  rw[e] at ho'
  cases ho'
  obtain⟨sl'',e3⟩:=x2 b _ e2 hd
  exact⟨sl'',e3⟩
 ·obtain⟨o',e1⟩:=I.base.there b o e (nex b)
  exact F.free b o' e1 (I.base.free b o e n (nex b))
 ·obtain⟨o',e1⟩:=I.base.there b o e (nex b)
  exact F.there b o' e1 (out b o e hb)
 ·obtain⟨m1,e1⟩:=I.base.tbls b ps e
  obtain⟨m2,e2⟩:=F.tbls b _ e1
  exact⟨m1++m2,by rw[e2,Array.append_assoc]⟩
noncomputable def excO (ea:Addr) (cls:Value):HO:=.ext fun h=>∃ o,h.get? ea=some o∧o.cls=cls
theorem Inv.caught {ea:Addr}{cls a0:Value}{B:Heap} (I:Inv X pins σ H s) (os:s'.os=s.os) (bare:AllBare s'.gens) (F:Fly X.prog X.w X.stack H s.heap ea cls a0 H' s'.heap B):H' ea=none∧Inv X pins σ (upd H' ea (excO ea cls)) s':=by
 obtain⟨ob,hob,hcls⟩:=F.fl.there
 obtain⟨oe,vs,hoe,_,hfd,_⟩:=F.fl.first
 have hea:H' ea=none:=by
  cases q:H' ea with
  | none=>rfl
  | some o=>
   obtain⟨o',e⟩:=(F.hok ea o q).some
   rw[F.fl.2.1] at e;cases e
 have frne:∀ b∈frs X.stack,b≠ea:=fun b hb z=>by
  obtain⟨_,o',ho',hd⟩:=F.fl.2.2.1.mem hb
  rw[z,hoe] at ho'
  cases ho'
  exact hd _ hfd
 have ne:∀ b o,s.heap.get? b=some o→b≠ea:=fun b o e z=>by
  by_cases hb:b∈frs X.stack
  ·exact frne b hb z
  ·obtain⟨o',e'⟩:=F.there b o e hb
   rw[z,F.fl.2.1] at e';cases e'
 have kb:∀ b u,B.get? b=some u→s'.heap.get? b=some u:=F.fl.1
 refine⟨hea,I.call' (ch:=[]) os ⟨fun b o e n hb _=>kb _ _ (F.keep b o e n hb),fun b o e n hb _=>F.slot b o e n hb,fun b o e n _=>?_,fun b o e _=>?_,fun b xs e=>?_,fun b o u e=>?_,fun b ps e=>?_⟩ (fun b u e=>?_) bare (fun b z=>absurd z (by simp))⟩
 ·rw[aI (ne b o e)];exact F.free b o e n
 ·by_cases hb:b∈frs X.stack
  ·obtain⟨_,o',ho',_⟩:=F.fl.2.2.1.mem hb
   exact⟨o',ho'⟩
  ·obtain⟨o',e'⟩:=F.there b o e hb
   exact⟨o',kb _ _ e'⟩
 ·have:=F.tups b xs e
  rw[aI (aJ this hea)];exact this
 ·have:=F.frzs b o u e
  rw[aI (aJ this hea)];exact this
 ·obtain⟨m,e1⟩:=F.tbls b ps e
  exact⟨m,by rw[aI (aJ e1 hea)];exact e1⟩
 ·by_cases hb:b=ea
  ·subst hb
   rw[aB] at e
   cases e
   exact⟨⟨ob,hob,hcls⟩,⟨ob,hob⟩,fun h1 h2 ⟨o,e1,e2⟩ k=>⟨o,k _ e1,e2⟩⟩
  ·rw[aI hb] at e
   exact (F.hok b u e).stay (fun c v _ q=>kb c v q) (fun c q=>by rw[aI (aJ q hea)];exact q) fun c xs q=>by rw[aI (aJ q hea)];exact q
noncomputable def tRaise (E:XK) (C:Addr) (t:TA):TS:=fun _ σ H=>t σ H fun vs H1=>vs.length≤100∧E (.ref C) none H1
theorem ps_raise {x:Str}{C:Addr}{bm:List Value}{newId initId B:String}{np cpos pos:Pos}{e₀:Expr}{rest:List Expr}{t:TA} (L:Leaves X E) (hc:X.calm=true) (hg:Gl X x) (O:PySem.W.excIn X.K C bm newId=true) (hm:PySem.W.nsIn X.K mainGlobals x=some (some (.ref C))) (FB:ExcBaseFacts B newId initId bm) (ha:PA X (e₀::rest) t)
  (he:starEach (e₀::rest) X.env=(false,eval e₀ X.env)::starEach rest X.env:=by rfl) (hplain:(backTo cpos (starEach rest X.env)).any (·.1)=false:=by rfl) (hd:(x == ("__debug__" : Str))=false:=by decide) :
  PS X (.Raise (some (.Call (.Name x np) (e₀::rest) [] cpos)) none pos) (tRaise E C t):=by
 intro pins s σ H D I h
 have G:X.mg x=some (.ref C):=PySem.W.mg_of I.ok.mod.kin I.ok.mod.glob hm
 have ocl:OwnCls x C bm newId X.mg X.base:=by
  refine⟨G,?_⟩
  have q:=O
  unfold PySem.W.excIn at q
  split at q
  ·rename_i dd cd sl ho
   split at q
   ·rename_i C' bm' k0 k1 k2 k3 n k5 hm' hs
    simp only [Bool.and_eq_true,Bool.not_eq_true',beq_iff_eq] at q;obtain⟨⟨⟨⟨⟨rfl,rfl⟩,hdel⟩,ht⟩,hok⟩,hni⟩:=q
    obtain⟨nm,bs,mro,ns,qn,hd',sn,sub,ab,col,del⟩:=cd
    dsimp only at hm' hdel hok hni
    subst hm' hdel
    have hsl:sl = #[k0,k1,k2,k3,some (.builtin n),k5]:=by obtain⟨l⟩:=sl;simp only at hs;rw[hs]
    subst hsl
    exact⟨bm',ns,nm,qn,bs,hd',sn,sub,ab,col,dd,k0,k1,k2,k3,k5,_,I.ok.mod.kin _ _ ho,.of_isNs (PySem.W.isNs_of_in I.ok.mod.kin hok),PySem.W.nsMap_none_of_in I.ok.mod.kin hok hni,PySem.W.tail_of_in I.ok.mod.kin ht⟩
   ·cases q
  ·cases q
 obtain⟨tl,N,nm,q,bs,hdct,sn,sub,ab,col,dd,k0,k1,k2,k3,k5,mN,hC,hN,hni,T⟩:=ocl.obj
 refine wpAny_Raise_call_subT (C:=C) (nm:=nm) (q:=q) (N:=N) (bs:=bs) (bm:=tl) (hdct:=hdct) (sn:=sn) (sub:=sub) (ab:=ab) (col:=col) (dd:=dd) (k0:=k0) (k1:=k1) (k2:=k2) (k3:=k3) (k5:=k5) FB (mN:=mN) (T.hasType FB.hasBase) (I.ok.hd hc) (by rw[he];show (false || (backTo cpos (starEach rest X.env)).any (·.1))=false;rw[hplain];rfl) hni (ld_glob I hg G ⟨rfl,?_⟩ hd)
 have ha':=ha cpos pins s σ H _ I h
 rw[he] at ha' ⊢
 refine Calls.evalArgs_plain (wpAny_mono ha' (fun us s₂ ⟨vs,H1,I1,r1,hlen,hE⟩=>⟨rfl,?_,I1.bk _ _ hC,hN.keeps I1.bk,T.keeps I1.bk,fun h' e hme=>raise_xe L I1 hme hE⟩) fun _ _ y=>y)
 have:=r1.length
 show us.length≤sizeLine
 rw[sizeLine_eq];omega
end
end L2
namespace L2
open PySem PySem.Spec PyProof.Rows TwZ
noncomputable abbrev Cx.within (X:Cx) (pn:List (Addr×Obj)) (E:Value→Shared→Prop):Cx:={ X with pn:=pn,xe:=E }
noncomputable abbrev Cx.caughtIn (X:Cx) (ea:Addr):Cx:={ X with A:=X.A.mark (some (.ref ea)),calm:=false,xe:=fun _ _=>False }
section
variable {X:Cx}{pins:List (Addr×Obj)}{σ:St}{H:Hp}{s:Shared}{pn:List (Addr×Obj)}{E:Value→Shared→Prop}{ea:Addr}
theorem Cx.Ok.within (ok:X.Ok):(X.within pn E).Ok:=
 ⟨ok.mod,ok.kind,ok.glob,ok.blt,ok.above,ok.inj,ok.has,ok.cab,ok.hd,ok.frames,ok.stk,ok.exf,ok.bs,ok.bsz,ok.noex,ok.exfs,ok.funs,ok.frf⟩
theorem Cx.Ok.unwithin (ok:(X.within pn E).Ok):X.Ok:=
 ⟨ok.mod,ok.kind,ok.glob,ok.blt,ok.above,ok.inj,ok.has,ok.cab,ok.hd,ok.frames,ok.stk,ok.exf,ok.bs,ok.bsz,ok.noex,ok.exfs,ok.funs,ok.frf⟩
theorem Inv.within (I:Inv X pins σ H s):Inv (X.within (X.pn++pins) E) [] σ H s:=
 ⟨I.ok.within,I.os,I.bare,I.base,I.loc,I.cell,I.free,I.freeC,fun p hp=>I.pin p (by simpa using hp),I.hok,I.len⟩
theorem Inv.unwithin {p2:List (Addr×Obj)} (I:Inv (X.within (X.pn++pins) E) p2 σ H s):Inv X pins σ H s:=
 ⟨I.ok.unwithin,I.os,I.bare,I.base,I.loc,I.cell,I.free,I.freeC,fun p hp=>I.pin p (List.mem_append_left _ hp),I.hok,I.len⟩
theorem Inv.mark (I:Inv X pins σ H s):Inv (X.caughtIn ea) pins σ H s:=
 ⟨⟨I.ok.mod,I.ok.kind,I.ok.glob,I.ok.blt,I.ok.above,I.ok.inj,I.ok.has,I.ok.cab,fun z=>Bool.noConfusion z,I.ok.frames,I.ok.stk,I.ok.exf,I.ok.bs,I.ok.bsz,I.ok.noex,I.ok.exfs,I.ok.funs,I.ok.frf⟩,I.os,I.bare,I.base,I.loc,I.cell,I.free,I.freeC,I.pin,I.hok,I.len⟩
theorem Inv.unmark (ok:X.Ok) (I:Inv (X.caughtIn ea) pins σ H s):Inv X pins σ H s:=
 ⟨ok,I.os,I.bare,I.base,I.loc,I.cell,I.free,I.freeC,I.pin,I.hok,I.len⟩
end
end L2
namespace L2
open PySem PySem.Spec PyProof.Rows TwZ PySem.Builtin PySem.Builtin.ObjectAttr PySem.Builtin.Getset_descriptor
section
variable {prog:Program}{w:World}{K:PySem.W.Frag}{x D:Addr}
end
section
variable {X:Cx}
end
end L2
namespace L2
open PySem PySem.Spec PyProof.Rows TwZ
section
variable {X:Cx}{K:PySem.W.Frag}
end
end L2
namespace L2
open PySem PySem.Spec PyProof.Rows TwZ
section
variable {P:Program}{w:World}{K:PySem.W.Frag}{mg:Str→Option Value}{base:Heap}
theorem Fun.okR {x qual:Str}{st:Stmt}{f:Addr}{fd:FuncData}{N ps:List Str}{k:Nat}{sp:Sp} (F:Fun K x qual st f fd) (S:FnScope N ps (aL st)) (len:∀ vs H Q E,sp vs H Q E→vs.length=ps.length)
  (hbody:∀ (cdv:Value) (A:Around) (outer:List Env) (s:Shared) (H:Hp) (vs:List V) (Q:VK) (E:XK),Room k (A.deeper (envOfC qual (aL st) s.heap.objs.size f cdv))→sp vs H Q E→
   Leaves (cxOf (CXR P w) P w K mg base N qual (aL st) f cdv A outer s H E) E→
   ∃ t,PSs (cxOf (CXR P w) P w K mg base N qual (aL st) f cdv A outer s H E) (b0 st) t∧t { nx:=fun _ H'=>Q .non H',rt:=Q } (start N vs) H):FnOk P w K mg base (CXR P w) (k+1) f fd ps sp:=by
 obtain⟨oc,od,kV,doc,pm,an,cdv,ct,osl,rfl,lk,hcd⟩:=F.ex
 exact fn_of lk hcd S len fun A outer s H vs Q E hr hsp=>hbody cdv A outer s H vs Q E hr hsp ⟨rfl,rfl,rfl,fun _ _ h=>h⟩
end
structure CalleeR (P:Program) (w:World) (K:PySem.W.Frag) (mg:Str→Option Value) (base:Heap) (x:Str) (ps:List Str) (k:Nat) (sp:Sp) (f:Addr) (fd:FuncData):Prop where
 ok:FnOk P w K mg base (CXR P w) k f fd ps sp
 mg:mg x=some (.ref f)
 kp:PySem.W.keepIn K (.ref f)=true
 bd:Binds K fd ps []
structure ExC (K:PySem.W.Frag) (x:Str) (C:Addr):Prop where
 ns:PySem.W.nsIn K mainGlobals x=some (some (.ref C))
 exc:PySem.W.excIn K C [.type "ValueError",.type "Exception",.type "BaseException",.type "object"] "ValueError.__new__" = true
end L2
namespace Tw
open PySem L2
section
variable {P:Program}{w:World}{K:PySem.W.Frag}{mg:Str→Option Value}{base:Heap}{C c_TipError c_NoNet c_NoVessel c_TooLong c_TooMany c_TooMuch c_Nothing c_NoText c_NoRow:Addr}
noncomputable def spWholeI:Sp:=fun vs H Q _=>∃ (n lo hi:Int),vs=[.int n,.int lo,.int hi]∧Q (.bl (decide (lo≤n) && decide (n≤hi))) H
theorem ok_is_wholeI {f:Addr}{fd:FuncData} (F:Fun K "is_whole" "is_whole" (bC 6) f fd) (T:Txt mg):FnOk P w K mg base CX0 1 f fd ["thing","least","most"] spWholeI:=by
 refine F.ok sc_is_whole (fun vs H Q E h=>?_) (fun cdv A outer s H vs Q E hr h=>?_)
 ·obtain⟨n,lo,hi,rfl,_⟩:=h;rfl
 ·obtain⟨n,lo,hi,rfl,k⟩:=h
  have sc:=sc_is_whole
  refine⟨_,(aO (bV (pe_and (bA (call_isiK (K:=K) rfl) rfl T.b_isinstance boot_isi (aA (pv 0) (aA (pe_bltn (v:=.ty "int") rfl T.b_int bt_int rfl) aC))) (pe_and (pe_not (bA (call_isiK (K:=K) rfl) rfl T.b_isinstance boot_isi (aA (pv 0) (aA (pe_bltn (v:=.ty "bool") rfl T.b_bool bt_bool rfl) aC)))) (pe_one (pe_chain op_le op_le (pv 1) (pv 0) (pv 2))))))),?_⟩
  refine⟨_,rfl,_,"int",_,true,rfl,.inl (.int _),kit_ii K,_,rfl,iteT ?_⟩
  refine⟨_,rfl,_,"bool",_,false,rfl,.inl (.int _),kit_ib K,_,rfl,_,rfl,iteT ?_⟩
  refine⟨_,rfl,_,rfl,_,_,rfl,rfl,_,rfl,ite2 (fun h1=>?_) fun h1=>?_⟩
  ·rw[h1,Bool.true_and] at k
   exact⟨_,rfl,_,_,rfl,rfl,k⟩
  ·rw[Bool.not_eq_true] at h1
   rw[h1,Bool.false_and] at k
   exact k
noncomputable def spNeedR (K:PySem.W.Frag) (cV:Addr):Sp:=fun vs H Q E=>∃ (x:V) (net:Net) (v:Int),vs=[x,.int v]∧Is K H (netD net) x∧((0≤v∧v < net.vs.length∧Q .non H)∨(¬ (0≤v∧v < net.vs.length)∧E (.ref cV) none H))
theorem ok_need_vesselR {f f1:Addr}{fd fd1:FuncData} (F:Fun K "need_vessel" "need_vessel" (bC 5) f fd) (T:Txt mg) (XC_NoVessel:ExC K "NoVessel" c_NoVessel) (G_is_whole:Callee P w K mg base "is_whole" ["thing","least","most"] 1 spWholeI f1 fd1) :
  FnOk P w K mg base (CXR P w) 2 f fd ["net","number"] (spNeedR K c_NoVessel):=by
 refine F.okR sc_need_vessel (fun vs H Q E h=>?_) (fun cdv A outer s H vs Q E hr h L=>?_)
 ·obtain⟨x,net,v,rfl,_⟩:=h;rfl
 ·obtain⟨x,net,v,rfl,hx,k⟩:=h
  have sc:=sc_need_vessel
  refine⟨_,(aD (cS (pv 0) (bO (K:=K) (n:=2) rfl rfl (aK (aH (i:=2) sc.nd rfl (Or.inl rfl)) (aK (aH (i:=3) sc.nd rfl (Or.inl rfl)) bL))))
   (aO (dP (pt_not (pt_val (pcG G_is_whole hr (aA (pv 1) (aA aG (aA (aX op_sub (bA (bQ (K:=K) rfl) rfl T.b_len PySem.boot_len (aA (pv 2) aC)) aG) aC)))))) (aO (ps_raise L rfl rfl XC_NoVessel.exc XC_NoVessel.ns PySem.F.excBase_ValueError (aA dI aC))) bX))),?_⟩
  obtain⟨a,b,c,xs,ys,rfl,q,q1,l1,q2,l2⟩:=net_un hx
  have exl:xs.length=net.vs.length:=by rw[l1.length,List.length_map]
  refine⟨_,rfl,a,_,rfl,q,rfl,_,_,rfl,_,_,rfl,rfl,?_⟩
  refine⟨_,rfl,_,rfl,b,xs,rfl,.inr q1,_,_,rfl,rfl,v,0,_,rfl,_,rfl,?_⟩
  rcases k with ⟨h0,h1,k⟩ | ⟨hn,k⟩
  ·rw[decide_eq_true h0,decide_eq_true (show v≤((xs.length:Nat):Int) - 1 by omega)]
   exact iteF k
  ·have:(decide (0≤v) && decide (v≤((xs.length:Nat):Int) - 1))=false:=by
    rw[Bool.eq_false_iff]
    intro z
    rw[Bool.and_eq_true,decide_eq_true_eq,decide_eq_true_eq] at z
    exact hn ⟨z.1,by omega⟩
   rw[this]
   exact iteT ⟨by show 1≤100;decide,k⟩
end
end Tw
namespace L2
open PySem PySem.Spec PyProof.Rows TwZ
mutual
noncomputable def eC (h:Heap):D→Value→Prop
 | .int i,v=>∃ t,v=.int i t
 | .bl b,v=>v=.bool b
 | .tup ds,v=>∃ a o items n,v=.ref a∧h.get? a=some o∧o.cls=.type "tuple" ∧ o.data=.seq items n∧d6 h ds items.toList
 | .non,_=>False
 | .str _,_=>False
noncomputable def d6 (h:Heap):List D→List Value→Prop
 | [],vs=>vs=[]
 | d::ds,vs=>∃ v r,vs=v::r∧eC h d v∧d6 h ds r
end
mutual
noncomputable def sh:D→D
 | .int _=>.int 0
 | .bl _=>.bl false
 | .tup ds=>.tup (shL ds)
 | d=>d
noncomputable def shL:List D→List D
 | []=>[]
 | d::ds=>sh d::shL ds
end
mutual
noncomputable def hashD:D→Int
 | .int i=>hashInt i
 | .bl b=>hashInt (if b=true then 1 else 0)
 | .tup ds=>reduceHash (Builtin.Tuple.tupleHashOf (dM ds))
 | _=>0
noncomputable def dM:List D→List Int
 | []=>[]
 | d::ds=>hashD d::dM ds
end
mutual
noncomputable def drawsD:D→Nat
 | .tup ds=>dA ds+1
 | _=>1
noncomputable def dA:List D→Nat
 | []=>0
 | d::ds=>drawsD d+dA ds
end
mutual
theorem eC.inj {h:Heap}:∀ {x y:D}{v:Value},sh x=sh y→eC h x v→eC h y v→x=y
 | .int i,.int j,v,_,hx,hy=>by
  rw[eC] at hx hy
  obtain⟨t,rfl⟩:=hx
  obtain⟨t',e⟩:=hy
  injection e with e _
  rw[e]
 | .bl i,.bl j,v,_,hx,hy=>by
  rw[eC] at hx hy
  subst hx
  injection hy with e
  rw[e]
 | .tup ds,.tup es,v,hs,hx,hy=>by
  rw[eC] at hx hy
  obtain⟨a,o,items,n,rfl,h1,h2,h3,l1⟩:=hx
  obtain⟨a',o',items',n',e,h1',h2',h3',l2⟩:=hy
  cases e
  rw[h1] at h1'
  cases h1'
  rw[h3] at h3'
  cases h3'
  rw[sh,sh] at hs
  injection hs with hs
  rw[d6.inj hs l1 l2]
 | .non,_,_,_,hx,_=>by rw[eC] at hx;exact hx.elim
 | .str _,_,_,_,hx,_=>by rw[eC] at hx;exact hx.elim
 | .int _,.bl _,_,hs,_,_=>by rw[sh,sh] at hs;cases hs
 | .int _,.tup _,_,hs,_,_=>by rw[sh,sh] at hs;cases hs
 | .int _,.non,_,_,_,hy=>by rw[eC] at hy;exact hy.elim
 | .int _,.str _,_,_,_,hy=>by rw[eC] at hy;exact hy.elim
 | .bl _,.int _,_,hs,_,_=>by rw[sh,sh] at hs;cases hs
 | .bl _,.tup _,_,hs,_,_=>by rw[sh,sh] at hs;cases hs
 | .bl _,.non,_,_,_,hy=>by rw[eC] at hy;exact hy.elim
 | .bl _,.str _,_,_,_,hy=>by rw[eC] at hy;exact hy.elim
 | .tup _,.int _,_,hs,_,_=>by rw[sh,sh] at hs;cases hs
 | .tup _,.bl _,_,hs,_,_=>by rw[sh,sh] at hs;cases hs
 | .tup _,.non,_,_,_,hy=>by rw[eC] at hy;exact hy.elim
 | .tup _,.str _,_,_,_,hy=>by rw[eC] at hy;exact hy.elim
theorem d6.inj {h:Heap}:∀ {x y:List D}{vs:List Value},shL x=shL y→d6 h x vs→d6 h y vs→x=y
 | [],[],_,_,_,_=>rfl
 | [],_::_,_,hs,_,_=>by rw[shL,shL] at hs;cases hs
 | _::_,[],_,hs,_,_=>by rw[shL,shL] at hs;cases hs
 | x::xs,y::ys,vs,hs,hx,hy=>by
  rw[d6] at hx hy
  obtain⟨v,r,rfl,h1,l1⟩:=hx
  obtain⟨v',r',e,h2,l2⟩:=hy
  cases e
  rw[shL,shL] at hs
  injection hs with e1 e2
  rw[eC.inj e1 h1 h2,d6.inj e2 l1 l2]
end
mutual
theorem eC.keeps {h h':Heap} (k:∀ a o items n,h.get? a=some o→o.data=.seq items n→h'.get? a=some o):∀ {x:D}{v:Value},eC h x v→eC h' x v
 | .int i,v,hx=>by rw[eC] at hx ⊢;exact hx
 | .bl i,v,hx=>by rw[eC] at hx ⊢;exact hx
 | .tup ds,v,hx=>by
  rw[eC] at hx ⊢
  obtain⟨a,o,items,n,e,h1,h2,h3,l1⟩:=hx
  exact⟨a,o,items,n,e,k a o items n h1 h3,h2,h3,d6.keeps k l1⟩
 | .non,_,hx=>by rw[eC] at hx;exact hx.elim
 | .str _,_,hx=>by rw[eC] at hx;exact hx.elim
theorem d6.keeps {h h':Heap} (k:∀ a o items n,h.get? a=some o→o.data=.seq items n→h'.get? a=some o):∀ {x:List D}{vs:List Value},d6 h x vs→d6 h' x vs
 | [],_,hx=>by rw[d6] at hx ⊢;exact hx
 | x::xs,vs,hx=>by
  rw[d6] at hx ⊢
  obtain⟨v,r,e,h1,l1⟩:=hx
  exact⟨v,r,e,eC.keeps k h1,d6.keeps k l1⟩
end
theorem d6.length {h:Heap}:∀ {x:List D}{vs:List Value},d6 h x vs→vs.length=x.length
 | [],_,hx=>by rw[d6] at hx;subst hx;rfl
 | x::xs,vs,hx=>by
  rw[d6] at hx
  obtain⟨v,r,rfl,_,l⟩:=hx
  rw[List.length_cons,List.length_cons,d6.length l]
theorem d6.get {h:Heap}:∀ {x:List D}{vs:List Value}{j:Nat}{d:D}{v:Value},d6 h x vs→x[j]? = some d→vs[j]? = some v→eC h d v
 | [],_,_,_,_,_,e,_=>by simp at e
 | d::ds,vs,0,d',v,hx,e1,e2=>by
  rw[d6] at hx
  obtain⟨v',r,rfl,h1,_⟩:=hx
  simp at e1 e2
  subst e1 e2
  exact h1
 | d::ds,vs,j+1,d',v,hx,e1,e2=>by
  rw[d6] at hx
  obtain⟨v',r,rfl,_,l⟩:=hx
  exact d6.get l (by simpa using e1) (by simpa using e2)
section
variable {prog:Program}{w:World}
theorem wpAny_pyHash_bool {A:Around}{E:Value→Shared→Prop}{s:Shared}{b:Bool}{Q:Int→Shared→Prop} (h:Q (hashInt (if b=true then 1 else 0)) { s with toks:=s.toks+1 }):wpAny (model prog w) A (pyHash (.bool b)) Q E s:=by
 have hT:s.TypeIs (.bool b) "bool" := rfl
 have hr:=rawHash_range (if b=true then 1 else 0)
 unfold pyHash;have hv:[Value.bool b].any Value.onHeap=false:=rfl
 refine wpAny_bind ?_;rw[cRoomFor,if_neg (by rw[hv];exact Bool.false_ne_true)];refine wpAny_pure (wpAny_bind (wpAny_specialOf hT F.slot_bool_hash.lookup ?_))
 show wpAny _ _ (if (some (Value.builtin "int.__hash__") == some Value.none)=true then _ else _) Q E s;rw[if_neg (by rw[beq_builtin_none];exact Bool.false_ne_true)]
 refine wpAny_bind (wpAny_specialOf hT F.slot_bool_hash.lookup ?_);show wpAny _ _ (callSpecialIfBoundUnlessNone? (.bool b) "__hash__" _ >>= _) Q E s
 refine wpAny_bind (wpAny_callSpecialIfBoundUnlessNone?_slot hT F.slot_bool_hash (wpAny_call_entry F.slot_bool_hash hT F.entry_int_hash (show wpAny _ _ (do ret (← mkInt (rawHash (if b=true then 1 else 0)))) _ _ s from wpAny_ret_mkInt ?_) (F.args_int_hash_1 _)))
 show wpAny _ _ (if (decide (-(2:Int) ^ 63≤rawHash (if b=true then 1 else 0)) && decide (rawHash (if b=true then 1 else 0) < 2 ^ 63))=true then _ else _) Q E _;rw[if_pos (by rw[decide_eq_true hr.1,decide_eq_true hr.2];rfl)]
 exact wpAny_pure h
theorem hashDL_append:∀ (a b:List D),dM (a++b)=dM a++dM b
 | [],b=>by rw[dM];rfl
 | d::a,b=>by rw[List.cons_append,dM,dM,hashDL_append a b];rfl
theorem drawsDL_append:∀ (a b:List D),dA (a++b)=dA a+dA b
 | [],b=>by rw[dA,List.nil_append,Nat.zero_add]
 | d::a,b=>by rw[List.cons_append,dA,dA,drawsDL_append a b,Nat.add_assoc]
theorem depth_mem:∀ (ds:List D) (d:D),d∈ds→d.depth≤dW ds:=by
 intro ds
 induction ds with
 | nil=>intro d h;cases h
 | cons e r ih=>
  intro d h
  rw[dW]
  rcases List.mem_cons.1 h with rfl | h
  ·omega
  ·have:=ih d h;omega
noncomputable def HashOk (prog:Program) (w:World) (d:D):Prop:=∀ (A:Around) (E:Value→Shared→Prop) (s:Shared) (v:Value) (Q:Int→Shared→Prop),A.units+d.depth < cLine→eC s.heap d v→Q (hashD d) { s with toks:=s.toks+drawsD d }→wpAny (model prog w) A (pyHash v) Q E s
mutual
theorem hash_D:∀ (d:D),HashOk prog w d
 | .int i=>fun A E s v Q _ hx h=>by
  rw[eC] at hx
  obtain⟨t,rfl⟩:=hx
  rw[hashD,drawsD] at h
  ·exact wpAny_pyHash_int h
  ·intros;contradiction
 | .bl b=>fun A E s v Q _ hx h=>by
  rw[eC] at hx
  subst hx
  rw[hashD,drawsD] at h
  ·exact wpAny_pyHash_bool h
  ·intros;contradiction
 | .tup ds=>fun A E s v Q hu hx h=>by
  have all:=hash_DL ds
  rw[eC] at hx
  obtain⟨a,o,items,n,rfl,ho,hc,hd,hi⟩:=hx
  have hT:s.TypeIs (.ref a) "tuple" := ⟨o,ho,hc⟩
  have hdep:D.depth (.tup ds)=dW ds+1:=by rw[D.depth]
  rw[hdep] at hu
  rw[hashD,drawsD] at h
  unfold pyHash
  first | unfold pyHashByItsType | skip
  first | refine wpAny_bind (wpAny_cRoomFor_or (.inr (by omega)) ?_) | skip
  refine wpAny_bind (wpAny_specialOf hT F.slot_tuple_hash.lookup ?_);show wpAny _ _ (if (some (Value.builtin "tuple.__hash__") == some Value.none)=true then _ else _) Q E s
  rw[if_neg (by rw[beq_builtin_none];exact Bool.false_ne_true)];refine wpAny_bind (wpAny_specialOf hT F.slot_tuple_hash.lookup ?_)
  show wpAny _ _ (callSpecialIfBoundUnlessNone? (.ref a) "__hash__" _ >>= _) Q E s;refine wpAny_bind (wpAny_callSpecialIfBoundUnlessNone?_slot hT F.slot_tuple_hash (wpAny_call_entry F.slot_tuple_hash hT F.entry_tuple_hash ?_ (F.args_tuple_hash_1 _)))
  show wpAny _ _ (Builtin.Tuple.tupleItemsOf (.ref a) >>= _) _ _ s;refine wpAny_bind (wpAny_tupleItemsOf ho hd (wpAny_bind ?_))
  rw[← Array.forIn_toList]
  refine wpAny_forIn_list _ (fun rest (b:Array Int) s'=>∃ done left,ds=done++left∧d6 s.heap left rest∧b.toList=dM done∧s'={ s with toks:=s.toks+dA done }) _ ?_ ?_ _ _ ⟨[],ds,rfl,hi,by rw[dM],by rw[dA];rfl⟩
  ·rintro x rest b s' ⟨done,left,rfl,hl,hb,rfl⟩
   cases left with
   | nil=>rw[d6] at hl;cases hl
   | cons k ks'=>
    rw[d6] at hl
    obtain⟨v',r',e,h1,l1⟩:=hl
    cases e
    have hk:=all k (by simp)
    have hdk:=depth_mem (done++k::ks') k (by simp)
    have fin:∃ done' left',done++k::ks'=done'++left'∧d6 s.heap left' rest∧(b.push (hashD k)).toList=dM done'∧({ s with toks:=s.toks+dA done+drawsD k }:Shared)={ s with toks:=s.toks+dA done' }:=
     ⟨done++[k],ks',by simp,l1,by rw[Array.toList_push,hb,hashDL_append,dM,dM],by rw[drawsDL_append,dA,dA,Nat.add_zero,Nat.add_assoc]⟩
    refine wpAny_bind (hk _ _ _ _ _ ?_ h1 ?_)
    ·have hin:A.in1.units=A.units+1:=rfl
     omega
    ·first
      | exact wpAny_pure fin
      | exact wpAny_bind (wpAny_pure (wpAny_pure fin))
  ·rintro b s' ⟨done,left,rfl,hl,hb,rfl⟩
   cases left with
   | cons k ks'=>rw[d6] at hl;obtain⟨_,_,e,_⟩:=hl;cases e
   | nil=>
    rw[List.append_nil] at h
    show wpAny _ _ (retInt (Builtin.Tuple.tupleHashOf b.toList)) _ _ _;rw[hb];refine wpAny_ret_mkInt ?_
    show wpAny _ _ (if (decide (-(2:Int) ^ 63≤Builtin.Tuple.tupleHashOf (dM done)) && decide (Builtin.Tuple.tupleHashOf (dM done) < 2 ^ 63))=true then _ else _) Q E _
    unfold reduceHash at h
    by_cases hr:(decide (-(2:Int) ^ 63≤Builtin.Tuple.tupleHashOf (dM done)) && decide (Builtin.Tuple.tupleHashOf (dM done) < 2 ^ 63))=true
    ·rw[if_pos hr] at h ⊢;exact wpAny_pure (by simpa [Nat.add_assoc] using h)
    ·rw[if_neg hr] at h ⊢;exact wpAny_bind (wpAny_rule (wpAny_pure (by simpa [Nat.add_assoc] using h)))
 | .non=>fun _ _ _ _ _ _ hx _=>by rw[eC] at hx;exact hx.elim
 | .str _=>fun _ _ _ _ _ _ hx _=>by rw[eC] at hx;exact hx.elim
theorem hash_DL:∀ (ds:List D),∀ d∈ds,HashOk prog w d
 | [],_,h=>(nomatch h)
 | e::es,d,h=>by
  have h0:=hash_D e
  have h1:=hash_DL es
  rcases List.mem_cons.1 h with z | z
  ·rw[z];exact h0
  ·exact h1 d z
end
end
noncomputable instance decD:DecidableEq D:=fun a b=>Classical.propDecidable (a=b)
mutual
theorem depth_sh:∀ (d:D),(sh d).depth=d.depth
 | .int _=>by rw[sh,D.depth,D.depth] <;> (intros;contradiction)
 | .bl _=>by rw[sh,D.depth,D.depth] <;> (intros;contradiction)
 | .tup ds=>by rw[sh,D.depth,D.depth,depth_shL ds]
 | .non=>by rw[sh] <;> (intros;contradiction)
 | .str _=>by rw[sh] <;> (intros;contradiction)
theorem depth_shL:∀ (ds:List D),dW (shL ds)=dW ds
 | []=>by rw[shL]
 | d::ds=>by rw[shL,dW,dW,depth_sh d,depth_shL ds]
end
theorem shL_len:∀ (ds:List D),(shL ds).length=ds.length
 | []=>by rw[shL]
 | d::ds=>by rw[shL,List.length_cons,List.length_cons,shL_len ds]
noncomputable def EqOk (x y:D):Prop:=∀ (A:Around) (s:Shared) (u v:Value),A.units+x.depth < cLine→eC s.heap x u→eC s.heap y v→SeqAt.EqAt A s u v (decide (x=y))
mutual
theorem eq_D:∀ (x y:D),sh x=sh y→EqOk x y
 | .int i,.int j,_=>fun A s u v _ hx hy=>by
  rw[eC] at hx hy
  obtain⟨t,rfl⟩:=hx
  obtain⟨t',rfl⟩:=hy
  have:=SeqAt.EqAt.int_int (A:=A) (s:=s) i t j t'
  have e:decide (D.int i=D.int j)=(i == j):=by
   rw[Bool.eq_iff_iff,decide_eq_true_eq,beq_iff_eq,D.int.injEq]
  rw[e];exact this
 | .bl i,.bl j,_=>fun A s u v _ hx hy=>by
  rw[eC] at hx hy
  subst hx hy
  have:=SeqAt.EqAt.bool_bool (A:=A) (s:=s) i j
  have e:decide (D.bl i=D.bl j)=(i == j):=by
   rw[Bool.eq_iff_iff,decide_eq_true_eq,beq_iff_eq,D.bl.injEq]
  rw[e];exact this
 | .tup ds,.tup es,hs=>fun A s u v hu hx hy=>by
  rw[sh,sh] at hs
  injection hs with hs
  have all:=eq_DL ds es hs
  have hl:ds.length=es.length:=by rw[← shL_len ds,hs,shL_len]
  have hinj:=fun (a:Value) (h1:eC s.heap (.tup ds) a) (h2:eC s.heap (.tup es) a)=>eC.inj (by rw[sh,sh,hs]) h1 h2
  have hx0:=hx
  have hy0:=hy
  rw[eC] at hx hy
  obtain⟨a,o,items,n,rfl,h1,h2,h3,l1⟩:=hx
  obtain⟨b,o',items',n',rfl,h1',h2',h3',l2⟩:=hy
  by_cases hab:a=b
  ·subst hab
   rw[decide_eq_true (hinj _ hx0 hy0)]
   exact SeqAt.EqAt.same _
  ·have hdep:D.depth (.tup ds)=dW ds+1:=by rw[D.depth]
   rw[hdep] at hu
   have hin:A.in1.units=A.units+1:=rfl
   have k1:=l1.length
   have k2:=l2.length
   have z1:items.size=ds.length:=by rw[← k1];simp
   have z2:items'.size=es.length:=by rw[← k2];simp
   have:=SeqAt.RcAt.tuples (A:=A) (s:=s) (e:=fun j=>match ds[j]?,es[j]? with | some x,some y=>decide (x=y) | _,_=>true) (show s.heap.IsTuple a items from ⟨o,h1,h2,n,h3⟩) (show s.heap.IsTuple b items' from ⟨o',h1',h2',n',h3'⟩) (by omega) fun j j1 j2=>by
    have i1:j < ds.length:=by omega
    have i2:j < es.length:=by omega
    rw[List.getElem?_eq_getElem i1,List.getElem?_eq_getElem i2]
    have hd:=depth_mem ds ds[j] (List.getElem_mem i1)
    exact all j ds[j] es[j] (by simp) (by simp) A.in1 s items[j] items'[j] (by omega) (d6.get (j:=j) l1 (by simp) (by simp)) (d6.get (j:=j) l2 (by simp) (by simp))
   have e5:((List.range (min items.size items'.size)).all (fun j=>match ds[j]?,es[j]? with | some x,some y=>decide (x=y) | _,_=>true) && items.size == items'.size)=decide (D.tup ds=D.tup es):=by
    have e0:(items.size == items'.size)=true:=by rw[beq_iff_eq];omega
    rw[e0,Bool.and_true,Bool.eq_iff_iff,decide_eq_true_eq,List.all_eq_true,D.tup.injEq]
    constructor
    ·intro h
     apply List.ext_getElem hl
     intro j j1 j2
     have:=h j (List.mem_range.mpr (by omega))
     rw[List.getElem?_eq_getElem j1,List.getElem?_eq_getElem j2] at this
     exact of_decide_eq_true this
    ·rintro rfl j hj
     cases ds[j]? with
     | none=>rfl
     | some x=>exact decide_eq_true rfl
   rw[e5] at this
   exact SeqAt.EqAt.of_refs hab this
 | .non,_,_=>fun _ _ _ _ _ hx _=>by rw[eC] at hx;exact hx.elim
 | .str _,_,_=>fun _ _ _ _ _ hx _=>by rw[eC] at hx;exact hx.elim
 | .int _,.bl _,hs=>by rw[sh,sh] at hs;cases hs
 | .int _,.tup _,hs=>by rw[sh,sh] at hs;cases hs
 | .int _,.non,_=>fun _ _ _ _ _ _ hy=>by rw[eC] at hy;exact hy.elim
 | .int _,.str _,_=>fun _ _ _ _ _ _ hy=>by rw[eC] at hy;exact hy.elim
 | .bl _,.int _,hs=>by rw[sh,sh] at hs;cases hs
 | .bl _,.tup _,hs=>by rw[sh,sh] at hs;cases hs
 | .bl _,.non,_=>fun _ _ _ _ _ _ hy=>by rw[eC] at hy;exact hy.elim
 | .bl _,.str _,_=>fun _ _ _ _ _ _ hy=>by rw[eC] at hy;exact hy.elim
 | .tup _,.int _,hs=>by rw[sh,sh] at hs;cases hs
 | .tup _,.bl _,hs=>by rw[sh,sh] at hs;cases hs
 | .tup _,.non,_=>fun _ _ _ _ _ _ hy=>by rw[eC] at hy;exact hy.elim
 | .tup _,.str _,_=>fun _ _ _ _ _ _ hy=>by rw[eC] at hy;exact hy.elim
theorem eq_DL:∀ (ds es:List D),shL ds=shL es→∀ (j:Nat) (x y:D),ds[j]? = some x→es[j]? = some y→EqOk x y
 | [],_,_,j,x,y,h,_=>by simp at h
 | _::_,[],_,j,x,y,_,h=>by simp at h
 | d::ds,e::es,hs,j,x,y,h1,h2=>by
  rw[shL,shL] at hs
  injection hs with s1 s2
  have k0:=eq_D d e s1
  have k1:=eq_DL ds es s2
  cases j with
  | zero=>simp at h1 h2;rw[← h1,← h2];exact k0
  | succ j=>exact k1 j x y (by simpa using h1) (by simpa using h2)
end
noncomputable def QuietOk (prog:Program) (w:World) (d:D):Prop:=∀ (n:Nat) (A:Around) (E:Value→Shared→Prop) (s:Shared) (v:Value) (Q:Bool→Shared→Prop),d.depth≤n→eC s.heap d v→Q true s→wpAny (model prog w) A (eqIsQuiet n v) Q E s
section
variable {prog:Program}{w:World}
mutual
theorem quiet_D:∀ (d:D),QuietOk prog w d
 | .int i=>fun n A E s v Q _ hx h=>by
  rw[eC] at hx
  obtain⟨t,rfl⟩:=hx
  rw[eqIsQuiet_byValue n (v:=.int i t) rfl]
  exact wpAny_pure h
 | .bl b=>fun n A E s v Q _ hx h=>by
  rw[eC] at hx
  subst hx
  rw[eqIsQuiet_byValue n (v:=.bool b) rfl]
  exact wpAny_pure h
 | .tup ds=>fun n A E s v Q hn hx h=>by
  have all:=quiet_DL ds
  have hdep:D.depth (.tup ds)=dW ds+1:=by rw[D.depth]
  rw[hdep] at hn
  rw[eC] at hx
  obtain⟨a,o,items,m,rfl,ho,hc,hd,hi⟩:=hx
  have hT:s.TypeIs (.ref a) "tuple" := ⟨o,ho,hc⟩
  obtain⟨n',rfl⟩:∃ n',n=n'+1:=⟨n - 1,by omega⟩
  unfold eqIsQuiet
  refine wpAny_bind (wpAny_specialOf hT F.slot_tuple_eq.lookup ?_);show wpAny _ _ (isInstance (.ref a) (.type "tuple") >>= _) _ _ s
  refine wpAny_bind (wpAny_isInstance hT isSubtype_tuple_tuple ?_);simp only [Bool.not_true,Bool.false_eq_true,if_false]
  refine wpAny_bind (wpAny_seqItems ho hd (wpAny_bind ?_));show wpAny _ _ (forIn items _ _) _ _ s
  rw[← Array.forIn_toList]
  refine wpAny_forIn_list _ (fun rest r s'=>r.1=none∧s'=s∧∃ left,d6 s.heap left rest∧∀ d∈left,d∈ds) _ ?_ ?_ _ _ ⟨rfl,rfl,ds,hi,fun _ z=>z⟩
  ·rintro v rest r s' ⟨hr,rfl,left,hl,hsub⟩
   cases left with
   | nil=>rw[d6] at hl;cases hl
   | cons k ks=>
    rw[d6] at hl
    obtain⟨v',r',e,h1,l1⟩:=hl
    cases e
    have hk:=hsub k (by simp)
    refine wpAny_bind (all k hk n' _ _ _ _ _ (by have:=depth_mem ds k hk;omega) h1 ?_)
    simp only [Bool.not_true,Bool.false_eq_true,if_false]
    exact wpAny_pure ⟨rfl,rfl,ks,l1,fun d hd=>hsub d (List.mem_cons_of_mem _ hd)⟩
  ·rintro⟨r1,r2⟩ s' ⟨hr,rfl,_⟩
   simp only at hr
   subst hr
   exact wpAny_pure h
 | .non=>fun _ _ _ _ _ _ _ hx _=>by rw[eC] at hx;exact hx.elim
 | .str _=>fun _ _ _ _ _ _ _ hx _=>by rw[eC] at hx;exact hx.elim
theorem quiet_DL:∀ (ds:List D),∀ d∈ds,QuietOk prog w d
 | [],_,h=>(nomatch h)
 | e::es,d,h=>by
  have h0:=quiet_D e
  have h1:=quiet_DL es
  rcases List.mem_cons.1 h with z | z
  ·rw[z];exact h0
  ·exact h1 d z
end
noncomputable def dY (prog:Program) (w:World) (S:D):HeapKind prog w D where
 is:=fun h d a=>sh d=S∧d.depth≤7∧eC h d (.ref a)
 hash:=hashD
 draws:=drawsD
 room:=fun A=>A.units+8 < cLine
 inj:=fun hx hy=>eC.inj (hx.1.trans hy.1.symm) hx.2.2 hy.2.2
 keeps:=fun {h h' k a d o es ep} x ho hd hs=>⟨x.1,x.2.1,eC.keeps (fun a' o' items n h1 h3=>by
  by_cases e:a'=d
  ·subst e
   rw[ho] at h1
   cases h1
   rw[hd] at h3
   cases h3
  ·exact (hs.2 a' e).trans h1) x.2.2⟩
 pyHash:=fun {A E s k a Q} hu hk h=>hash_D k A E s _ Q (by have:=hk.2.1;omega) hk.2.2 h
 eqBool:=fun {A E s x y a b Q} hu hx hy h=>eq_D x y (hx.1.trans hy.1.symm) A s _ _ (by have:=hx.2.1;omega) hx.2.2 hy.2.2 prog w E Q h
 quiet:=fun {A E s k a Q} hk h=>quiet_D k 8 A E s _ Q (by have:=hk.2.1;omega) hk.2.2 h
end
end L2
namespace L2
open PySem PySem.Spec PyProof.Rows TwZ
mutual
noncomputable def eG:D→Prop
 | .int _=>True
 | .bl _=>True
 | .tup ds=>dB ds
 | .non=>False
 | .str _=>False
noncomputable def dB:List D→Prop
 | []=>True
 | d::ds=>eG d∧dB ds
end
section
variable {X:Cx}{pins:List (Addr×Obj)}{σ:St}{H:Hp}{s:Shared}
mutual
theorem Is.toU (I:Inv X pins σ H s):∀ (d:D) (v:V) (u:Value),eG d→Is X.K H d v→aY v u→eC s.heap d u
 | .int i,v,u,_,h,r=>by rw[Is] at h;subst h;rw[eC];exact r
 | .bl b,v,u,_,h,r=>by rw[Is] at h;subst h;rw[eC];exact r
 | .tup ds,v,u,p,h,r=>by
  rw[Is] at h
  obtain⟨a,xs,rfl,q,l⟩:=h
  cases r
  obtain⟨its,rv,⟨o,e,c,n,d⟩,_⟩:=I.tuple q
  rw[eC]
  exact⟨a,o,its.toArray,n,rfl,e,c,d,by simpa using IsL.toU I ds xs its (by rw[eG] at p;exact p) l rv⟩
 | .non,_,_,p,_,_=>by rw[eG] at p;exact p.elim
 | .str _,_,_,p,_,_=>by rw[eG] at p;exact p.elim
theorem IsL.toU (I:Inv X pins σ H s):∀ (ds:List D) (vs:List V) (us:List Value),dB ds→IsL X.K H ds vs→bK vs us→d6 s.heap ds us
 | [],vs,us,_,h,r=>by rw[IsL] at h;subst h;cases r;rw[d6]
 | d::ds,vs,us,p,h,r=>by
  rw[IsL] at h
  obtain⟨x,xs,rfl,h1,h2⟩:=h
  rw[dB] at p
  cases r with
  | cons r1 r2=>
   rw[d6]
   exact⟨_,_,rfl,Is.toU I d x _ p.1 h1 r1,IsL.toU I ds xs _ p.2 h2 r2⟩
end
end
structure KeyD (K:PySem.W.Frag) (H:Hp) (S:D) (k:D) (v:V):Prop where
 sh:sh k=S
 dp:k.depth≤7
 pl:eG k
 is:Is K H k v
 tup:∃ b,v=.ref b
theorem KeyD.mono {K:PySem.W.Frag}{H H':Hp}{S k:D}{v:V} (h:KeyD K H S k v) (t:bJ K H H'):KeyD K H' S k v:=⟨h.sh,h.dp,h.pl,Is.mono t _ _ h.is,h.tup⟩
noncomputable def dictF (P:Program) (w:World) (S:D) (a:Addr) (xs:List (D×Addr×Value)) (h:Heap):Prop:=
 ∃ o es ep,h.get? a=some o∧o.ExactDict∧o.data=.dict es ep∧es.toList=xs.map (entryOfKey (dY P w S))∧(xs.map (·.1)).Nodup
noncomputable abbrev KD (K:PySem.W.Frag) (H:Hp) (S:D):List (D×V)→List (D×Addr×Value)→Prop:=Paired fun p q=>p.1=q.1∧KeyD K H S p.1 (.ref q.2.1)∧aY p.2 q.2.2
noncomputable def dR (P:Program) (w:World) (K:PySem.W.Frag) (H:Hp) (a:Addr) (S:D) (kvs:List (D×V)):Prop:=
 (H a=some (.dK [])∧kvs=[])∨∃ xs,H a=some (.ext (dictF P w S a xs))∧(a == sysModules)=false∧kvs.length≤sizeLine∧KD K H S kvs xs
section
variable {P:Program}{w:World}{K:PySem.W.Frag}{H H':Hp}{a:Addr}{S:D}{kvs:List (D×V)}
theorem KD.mono {xs:List (D×Addr×Value)} (h:KD K H S kvs xs) (t:bJ K H H'):KD K H' S kvs xs:=Paired.mapP h fun p q z=>⟨z.1,z.2.1.mono t,z.2.2⟩
theorem dR.mono (h:dR P w K H a S kvs) (t:bJ K H H') (e:∀ o,H a=some o→H' a=some o):dR P w K H' a S kvs:=by
 rcases h with ⟨h,z⟩ | ⟨xs,h,y,z,p⟩
 ·exact .inl ⟨e _ h,z⟩
 ·exact .inr ⟨xs,e _ h,y,z,KD.mono p t⟩
theorem dR.same (h:dR P w K H a S kvs) (m:aF H H'):dR P w K H' a S kvs:=h.mono m.ts fun o e=>m _ _ e
theorem dR.mut (h:dR P w K H a S kvs):Mut (H a):=by
 rcases h with ⟨h,_⟩ | ⟨_,h,_⟩ <;> (rw[h];exact trivial)
theorem dR.new (h:H a=Option.some (.dK [])):dR P w K H a S []:=.inl ⟨h,rfl⟩
theorem KD.val {xs:List (D×Addr×Value)} (k:D):∀ {kvs:List (D×V)},KD K H S kvs xs→RelO (dF kvs k) ((atKey xs k).map (·.2))
 | [],h=>by cases h;exact trivial
 | p::r,h=>by
  cases h with
  | cons h1 h2=>
   rename_i q m
   by_cases e:p.1=k
   ·rw[d0 e]
    have:atKey (q::m) k=Option.some q.2:=by unfold atKey;rw[List.find?_cons_of_pos (by rw[← h1.1];exact decide_eq_true e)];rfl
    rw[this];exact h1.2.2
   ·rw[d4 e]
    have:atKey (q::m) k=atKey m k:=by unfold atKey;rw[List.find?_cons_of_neg (by rw[← h1.1];simpa using e)]
    rw[this];exact KD.val k h2
theorem KD.put {xs:List (D×Addr×Value)}{k:D}{v:V}{b:Addr}{u:Value} (h:KD K H S kvs xs) (hk:KeyD K H S k (.ref b)) (r:aY v u):KD K H S (putK kvs k v) (storedH xs k b u):=by
 unfold putK storedH
 have e:(kvs.any fun kv=>decide (kv.1=k))=(atKey xs k).isSome:=by
  rw[valV_any,(KD.val k h).isSome_eq,Option.isSome_map]
 rw[e]
 by_cases c:(atKey xs k).isSome=true
 ·rw[if_pos c,if_pos c]
  clear e c
  induction h with
  | nil=>exact .nil
  | cons h1 h2 ih=>
   rename_i p q l m
   refine .cons ?_ ih
   unfold putAt
   dsimp only
   by_cases z:p.1=k
   ·rw[if_pos z,if_pos (by rw[← h1.1];exact z)];exact⟨h1.1,h1.2.1,r⟩
   ·rw[if_neg z,if_neg (by rw[← h1.1];exact z)];exact h1
 ·rw[if_neg c,if_neg c]
  clear e c
  induction h with
  | nil=>exact .cons ⟨rfl,hk,r⟩ .nil
  | cons h1 h2 ih=>exact .cons h1 ih
end
section
variable {X:Cx}{pins:List (Addr×Obj)}{σ:St}{H:Hp}{s:Shared}{a:Addr}{S:D}{kvs:List (D×V)}
theorem KD.keys (I:Inv X pins σ H s):∀ {kvs:List (D×V)}{xs:List (D×Addr×Value)},KD X.K H S kvs xs→∀ x∈xs,(dY X.prog X.w S).is s.heap x.1 x.2.1
 | _,_,.nil,x,hx=>by simp at hx
 | _,_,.cons h1 h2,x,hx=>by
  rcases List.mem_cons.mp hx with e | hx
  ·subst e
   have k:=h1.2.1
   rw[h1.1] at k
   exact⟨k.sh,k.dp,Is.toU I _ _ _ k.pl k.is rfl⟩
  ·exact KD.keys I h2 x hx
theorem dR.at (I:Inv X pins σ H s) (g:dR X.prog X.w X.K H a S kvs):(a == sysModules)=false∧kvs.length≤sizeLine∧∃ xs,KD X.K H S kvs xs∧s.heap.DictOfH (dY X.prog X.w S) a xs:=by
 rcases g with ⟨e,rfl⟩ | ⟨xs,e,y,z,p⟩
 ·obtain⟨z,hd,vs,rel,o,es,ep,h1,h2,h3,_,h4,_⟩:=dk_of I.hok e
  cases rel
  have e0:es.toList=[]:=by
   revert h4
   generalize es.toList=l
   intro h4
   cases h4
   rfl
  exact⟨hd,Nat.zero_le _,[],.nil,o,es,ep,h1,h2,h3,by rw[e0];rfl,fun x hx=>(nomatch hx),List.nodup_nil⟩
 ·obtain⟨⟨o,es,ep,h1,h2,h3,h4,h5⟩,_⟩:=(show bU X.prog X.w H s.heap a (.ext (dictF X.prog X.w S a xs)) from I.hok a _ e)
  exact⟨y,z,xs,p,o,es,ep,h1,h2,h3,h4,KD.keys I p,h5⟩
theorem KeyD.at (I:Inv X pins σ H s) {k:D}{b:Addr} (h:KeyD X.K H S k (.ref b)):(dY X.prog X.w S).is s.heap k b:=⟨h.sh,h.dp,Is.toU I _ _ _ h.pl h.is rfl⟩
noncomputable def rIxD (P:Program) (w:World) (K:PySem.W.Frag):R2:=fun x y H Q=>∃ a S kvs k v,x=.ref a∧dR P w K H a S kvs∧KeyD K H S k y∧dF kvs k=some v∧Q v H
theorem ix_D (hu:X.A.units+64 < cLine):IxR X (rIxD X.prog X.w X.K):=by
 intro value slice pins s σ H x y v u Q I rx ry h hs
 obtain⟨a,S,kvs,k,z,rfl,g,hk,hv,q⟩:=h
 obtain⟨b,rfl⟩:=hk.tup
 cases rx
 cases ry
 obtain⟨hd,hz,xs,p,dd⟩:=g.at I
 obtain⟨w',hw,rw'⟩:=RelO.some_of (v:=z) (o:=(atKey xs k).map (·.2)) (by rw[← hv];exact KD.val k p)
 obtain⟨pp,hp,hp2⟩:=Option.map_eq_some_iff.mp hw
 refine subscriptTail_builtinR (x:=w') dd.typeIs PySem.F.slot_dict_getitem.lookup
  (wpAny_getItem_heap (knd:=dY X.prog X.w S) (Q:=fun r s'=>r=w'∧EP X pins σ Q r s') (show X.A.in1.units+8 < cLine by show X.A.units+1+8 < cLine;omega) (hk.at I) dd hp ⟨hp2,?_⟩) hs
 rw[hp2]
 exact⟨z,H,I.tok _,rw',q⟩
noncomputable def sDPutD (P:Program) (w:World) (K:PySem.W.Frag) (td ty tv:TE):TS:=fun D σ H=>tv σ H fun v H1=>td σ H1 fun x H2=>ty σ H2 fun y H3=>∃ a S kvs k,x=.ref a∧dR P w K H3 a S kvs∧KeyD K H3 S k y∧kvs.length < sizeLine∧
 ∀ H4,eI a H3 H4→dR P w K H4 a S (putK kvs k v)→D.nx σ H4
theorem ps_dputD {o i value:Expr}{pos pos':Pos}{td ty tv:TE} (hu:X.A.units+64 < cLine) (ho:PE X o td) (hi:PE X i ty) (hv:PE X value tv) (hs:swapsWith value (some (.Subscript o i pos')) pos.line X.env=pure false) :
  PS X (.Assign [.Subscript o i pos'] value pos) (sDPutD X.prog X.w X.K td ty tv):=by
 intro pins s σ H D I h
 refine wpAny_Assign_Subscript (cI (hv pins s σ H _ I h) fun r s1 ⟨v,H1,I1,rv,q1⟩=>cI (ho pins s1 σ H1 _ I1 q1) fun u s2 ⟨x,H2,I2,rx,q2⟩=>cI (hi pins s2 σ H2 _ I2 q2) fun iv s3 ⟨y,H3,I3,ry,a,S,kvs,k,ex,g,hk,hl,q3⟩=>?_) hs
 subst ex
 obtain rfl:u=Value.ref a:=rx
 obtain⟨b,rfl⟩:=hk.tup
 cases ry
 obtain⟨hd,hz,xs,p,dd⟩:=g.at I3
 have hz':xs.length≤sizeLine:=by rw[← Paired.length p];exact hz
 have hlp:(putK kvs k v).length≤sizeLine:=by have:=length_putK kvs k v;omega
 refine wpAny_setItem_heap (knd:=dY X.prog X.w S) (hsz:=hz') (show X.A.in1.units+8 < cLine by show X.A.units+1+8 < cLine;omega) (hk.at I3) dd fun h' dd' hsb=>?_
 obtain⟨qo,es,ep,hq,h2,h3,h4,_,h5⟩:=dd'
 have mu:=g.mut
 have bt:eI a H3 (upd H3 a (.ext (dictF X.prog X.w S a (storedH xs k b r)))):=eI.upd
 have ts:=bt.ts (K:=X.K) mu
 refine⟨σ,_,d_write I3 mu hsb ⟨qo,hq⟩ (ob:=.ext (dictF X.prog X.w S a (storedH xs k b r))) ⟨⟨qo,es,ep,hq,h2,h3,h4,h5⟩,⟨qo,hq⟩,fun h1 h2' ⟨o',es',ep',z1,z⟩ kk=>⟨o',es',ep',kk _ z1,z⟩⟩,q3 _ bt (.inr ⟨_,aB,hd,hlp,KD.mono (KD.put p hk rv) ts⟩)⟩
theorem ix_DK {P:Program}{w:World}{K:PySem.W.Frag} (hP:X.prog=P) (hw:X.w=w) (hK:X.K=K) (hu:X.A.units+64 < cLine):IxR X (rIxD P w K):=by subst hP hw hK;exact ix_D hu
theorem ps_dputDK {P:Program}{w:World}{K:PySem.W.Frag}{o i value:Expr}{pos pos':Pos}{td ty tv:TE} (hP:X.prog=P) (hw:X.w=w) (hK:X.K=K) (hu:X.A.units+64 < cLine) (ho:PE X o td) (hi:PE X i ty) (hv:PE X value tv)
  (hs:swapsWith value (some (.Subscript o i pos')) pos.line X.env=pure false):PS X (.Assign [.Subscript o i pos'] value pos) (sDPutD P w K td ty tv):=by subst hP hw hK;exact ps_dputD hu ho hi hv hs
end
end L2
namespace Tw
open PySem L2
structure Sta where
 held:List Int
 coming:List Int
 doors:List Bool
noncomputable def sta0 (net:Net):Sta:=⟨zeros net.vs.length,zeros net.vs.length,net.sps.map (·.2.2)⟩
noncomputable def staD (s:Sta):L2.D:=stD s.held s.coming s.doors
theorem zeros_l (n:Nat):(zeros n).length=n:=by simp [zeros]
noncomputable def shN (net:Net):L2.D:=.tup [.tup (List.replicate net.vs.length (.int 0)),.tup (List.replicate net.vs.length (.int 0)),.tup (List.replicate net.sps.length (.bl false))]
theorem shL_ints:∀ xs:List Int,shL (xs.map L2.D.int)=List.replicate xs.length (.int 0)
 | []=>by rw[List.map_nil,shL];rfl
 | x::xs=>by rw[List.map_cons,shL,sh,shL_ints xs];rfl
theorem shL_bls:∀ xs:List Bool,shL (xs.map L2.D.bl)=List.replicate xs.length (.bl false)
 | []=>by rw[List.map_nil,shL];rfl
 | x::xs=>by rw[List.map_cons,shL,sh,shL_bls xs];rfl
theorem plainL_ints:∀ xs:List Int,dB (xs.map L2.D.int)
 | []=>by rw[List.map_nil,dB];trivial
 | x::xs=>by rw[List.map_cons,dB,eG];exact⟨trivial,plainL_ints xs⟩
theorem plainL_bls:∀ xs:List Bool,dB (xs.map L2.D.bl)
 | []=>by rw[List.map_nil,dB];trivial
 | x::xs=>by rw[List.map_cons,dB,eG];exact⟨trivial,plainL_bls xs⟩
theorem sh_sta {net:Net}{s:Sta} (ok:StOk net s.held s.coming s.doors):sh (staD s)=shN net:=by
 show sh (.tup [.tup (s.held.map L2.D.int),.tup (s.coming.map L2.D.int),.tup (s.doors.map L2.D.bl)])=_
 rw[sh,shL,shL,shL,shL,sh,sh,sh,shL_ints,shL_ints,shL_bls,ok.h,ok.c,ok.d];rfl
theorem plain_sta (s:Sta):eG (staD s):=by
 show eG (.tup [.tup (s.held.map L2.D.int),.tup (s.coming.map L2.D.int),.tup (s.doors.map L2.D.bl)])
 rw[eG,dB,dB,dB,dB,eG,eG,eG]
 exact⟨plainL_ints _,plainL_ints _,plainL_bls _,trivial⟩
theorem depth_sta (s:Sta):(staD s).depth≤7:=by
 show (L2.D.tup [.tup (s.held.map L2.D.int),.tup (s.coming.map L2.D.int),.tup (s.doors.map L2.D.bl)]).depth≤7
 rw[L2.D.depth,depth_st];decide
theorem key_sta {K:PySem.W.Frag}{H:Hp}{net:Net}{s:Sta}{v:V} (ok:StOk net s.held s.coming s.doors) (h:Is K H (staD s) v):KeyD K H (shN net) (staD s) v:=by
 refine⟨sh_sta ok,depth_sta s,plain_sta s,h,?_⟩
 obtain⟨a,xs,rfl,_⟩:=(show Is K H (.tup [.tup (s.held.map L2.D.int),.tup (s.coming.map L2.D.int),.tup (s.doors.map L2.D.bl)]) v from h).un
 exact⟨a,rfl⟩
end Tw
namespace Tw
open PySem L2
noncomputable abbrev Fs (α:Type):=List (α×List Int)
inductive BRes (α:Type) where
 | ends (row:List Int) (fs:Fs α)
 | many
 | on (fs:Fs α)
section
variable {α:Type} (dD:α→L2.D) (nxt:α→Int→α) (fin:α→Int→Bool) (most lim:Nat)
noncomputable def d9 (fs:Fs α) (k:L2.D):Option (List Int):=(fs.find? fun p=>decide (dD p.1=k)).map (·.2)
noncomputable def bIn (d:α) (r:List Int):Nat→Int→Fs α→BRes α
 | 0,_,fs=>.on fs
 | l+1,a,fs=>if fin d a=true then .ends (r++[a]) fs else if (d9 dD fs (dD (nxt d a))).isSome=true then bIn d r l (a+1) fs else if lim≤fs.length then .many else bIn d r l (a+1) (fs++[(nxt d a,r++[a])])
noncomputable def bOut:Nat→Nat→Fs α→BRes α
 | 0,_,fs=>.on fs
 | n+1,p,fs=>match fs[p]? with
  | none=>.on fs
  | some d=>match bIn dD nxt fin lim d.1 ((d9 dD fs (dD d.1)).getD []) (most+1) 0 fs with
   | .on fs'=>bOut n (p+1) fs'
   | r=>r
noncomputable def bfs (first:α):BRes α:=bOut dD nxt fin most lim (lim+1) 0 [(first,[])]
noncomputable def bCont (p:Nat):BRes α→BRes α
 | .on fs=>bOut dD nxt fin most lim (lim - p) (p+1) fs
 | r=>r
variable {dD nxt fin most lim}
theorem valF_snoc {fs:Fs α}{k:L2.D}{r:List Int} (q:α×List Int) (h:d9 dD fs k=some r):d9 dD (fs++[q]) k=some r:=by
 unfold d9 at h ⊢
 rw[List.find?_append]
 cases e:fs.find? fun p=>decide (dD p.1=k) with
 | none=>rw[e] at h;cases h
 | some x=>rw[e] at h;exact h
theorem valF_mem {fs:Fs α}{d:α}{r:List Int} (h:(d,r)∈fs):(d9 dD fs (dD d)).isSome=true:=by
 unfold d9
 rw[Option.isSome_map,List.find?_isSome]
 exact⟨_,h,by simp⟩
theorem valF_some {fs:Fs α}{k:L2.D} (h:(d9 dD fs k).isSome=true):∃ q∈fs,dD q.1=k:=by
 unfold d9 at h
 rw[Option.isSome_map,List.find?_isSome] at h
 obtain⟨q,hq,e⟩:=h
 exact⟨q,hq,by simpa using e⟩
theorem bIn_end {d:α}{r:List Int}{l:Nat}{a:Int}{fs:Fs α} (h:fin d a=true):bIn dD nxt fin lim d r (l+1) a fs=.ends (r++[a]) fs:=if_pos h
theorem bIn_old {d:α}{r:List Int}{l:Nat}{a:Int}{fs:Fs α} (h:fin d a=false) (h2:(d9 dD fs (dD (nxt d a))).isSome=true):bIn dD nxt fin lim d r (l+1) a fs=bIn dD nxt fin lim d r l (a+1) fs:=by
 rw[bIn,if_neg (by rw[h];decide),if_pos h2]
theorem bIn_many {d:α}{r:List Int}{l:Nat}{a:Int}{fs:Fs α} (h:fin d a=false) (h2:(d9 dD fs (dD (nxt d a))).isSome=false) (h3:lim≤fs.length):bIn dD nxt fin lim d r (l+1) a fs=.many:=by
 rw[bIn,if_neg (by rw[h];decide),if_neg (by rw[h2];decide),if_pos h3]
theorem bIn_new {d:α}{r:List Int}{l:Nat}{a:Int}{fs:Fs α} (h:fin d a=false) (h2:(d9 dD fs (dD (nxt d a))).isSome=false) (h3:fs.length < lim):bIn dD nxt fin lim d r (l+1) a fs=bIn dD nxt fin lim d r l (a+1) (fs++[(nxt d a,r++[a])]):=by
 rw[bIn,if_neg (by rw[h];decide),if_neg (by rw[h2];decide),if_neg (by omega)]
theorem bOut_stop {n p:Nat}{fs:Fs α} (h:fs.length≤p):bOut dD nxt fin most lim n p fs=.on fs:=by
 cases n with
 | zero=>rfl
 | succ n=>rw[bOut,List.getElem?_eq_none h]
theorem bOut_step {n p:Nat}{fs:Fs α}{d:α}{r r0:List Int} (h:fs[p]? = some (d,r0)) (hr:d9 dD fs (dD d)=some r) (hn:n=lim - p):bOut dD nxt fin most lim (n+1) p fs=bCont dD nxt fin most lim p (bIn dD nxt fin lim d r (most+1) 0 fs):=by
 subst hn
 rw[bOut,h]
 dsimp only
 rw[hr]
 show (match bIn dD nxt fin lim d r (most+1) 0 fs with | .on fs'=>_ | r=>r)=_
 cases bIn dD nxt fin lim d r (most+1) 0 fs <;> rfl
noncomputable def Shut (first:α) (fs:Fs α):Prop:=(∃ q∈fs,dD q.1=dD first)∧∀ q∈fs,∀ a:Nat,a≤most→fin q.1 a=false∧(d9 dD fs (dD (nxt q.1 a))).isSome=true
theorem bIn_on {d:α}{r:List Int}:∀ (l:Nat) (a:Nat) (fs fs':Fs α),bIn dD nxt fin lim d r l a fs=.on fs'→(∃ more,fs'=fs++more)∧(fs.length≤lim→fs'.length≤lim)∧∀ b:Nat,a≤b→b < a+l→fin d b=false∧(d9 dD fs' (dD (nxt d b))).isSome=true:=by
 intro l
 induction l with
 | zero=>
  intro a fs fs' h
  cases h
  exact⟨⟨[],by simp⟩,id,fun b h1 h2=>by omega⟩
 | succ l ih=>
  intro a fs fs' h
  cases hf:fin d a with
  | true=>rw[bIn_end hf] at h;cases h
  | false=>
   have grow:∀ {fs1:Fs α}{k:L2.D},(d9 dD fs1 k).isSome=true→(∃ more,fs'=fs1++more)→(d9 dD fs' k).isSome=true:=fun {fs1 k} h1 ⟨more,e⟩=>by
    subst e
    obtain⟨q,hq,e⟩:=valF_some h1
    have:=valF_mem (dD:=dD) (d:=q.1) (r:=q.2) (fs:=fs1++more) (List.mem_append_left _ hq)
    rw[e] at this;exact this
   cases hv:(d9 dD fs (dD (nxt d a))).isSome with
   | true=>
    rw[bIn_old hf hv] at h
    obtain⟨m,hl,hb⟩:=ih (a+1) fs fs' h
    refine⟨m,hl,fun b h1 h2=>?_⟩
    rcases (show b=a∨a+1≤b by omega) with rfl | h3
    ·exact⟨hf,grow hv m⟩
    ·exact hb b h3 (by omega)
   | false=>
    by_cases hl:lim≤fs.length
    ·rw[bIn_many hf hv hl] at h;cases h
    ·rw[bIn_new hf hv (by omega)] at h
     obtain⟨⟨more,m⟩,hl',hb⟩:=ih (a+1) _ fs' h
     refine⟨⟨_,by rw[m,List.append_assoc]⟩,fun _=>hl' (by simp;omega),fun b h1 h2=>?_⟩
     rcases (show b=a∨a+1≤b by omega) with rfl | h3
     ·refine⟨hf,grow (fs1:=fs++[(nxt d b,r++[(b:Int)])]) (valF_mem (r:=r++[(b:Int)]) (by simp)) ⟨more,m⟩⟩
     ·exact hb b h3 (by omega)
theorem bOut_on:∀ (n p:Nat) (fs fs':Fs α),lim < p+n→p≤fs.length→fs.length≤lim→(∀ (i:Nat) q,i < p→fs[i]? = some q→∀ a:Nat,a≤most→fin q.1 a=false∧(d9 dD fs (dD (nxt q.1 a))).isSome=true)→
  bOut dD nxt fin most lim n p fs=.on fs'→(∃ more,fs'=fs++more)∧∀ q∈fs',∀ a:Nat,a≤most→fin q.1 a=false∧(d9 dD fs' (dD (nxt q.1 a))).isSome=true:=by
 intro n
 induction n with
 | zero=>intro p fs fs' h1 h2 h3 _ _;omega
 | succ n ih=>
  intro p fs fs' h1 h2 h3 hi h
  rw[bOut] at h
  cases hd:fs[p]? with
  | none=>
   rw[hd] at h
   cases h
   have hp:=List.getElem?_eq_none_iff.mp hd
   refine⟨⟨[],by simp⟩,fun q hq=>?_⟩
   obtain⟨i,hi'⟩:=List.mem_iff_getElem?.1 hq
   have:=(List.getElem?_eq_some_iff.mp hi').1
   exact hi i q (by omega) hi'
  | some d=>
   rw[hd] at h
   dsimp only at h
   cases hb:bIn dD nxt fin lim d.1 ((d9 dD fs (dD d.1)).getD []) (most+1) 0 fs with
   | many=>rw[hb] at h;cases h
   | ends row f=>rw[hb] at h;cases h
   | on fs1=>
    rw[hb] at h
    obtain⟨⟨more,m⟩,hl,hq⟩:=bIn_on (most+1) 0 fs fs1 hb
    have hpl:=(List.getElem?_eq_some_iff.mp hd).1
    have grow:∀ {k:L2.D},(d9 dD fs k).isSome=true→(d9 dD fs1 k).isSome=true:=fun {k} h1=>by
     subst m
     obtain⟨q,hq,e⟩:=valF_some h1
     have:=valF_mem (dD:=dD) (d:=q.1) (r:=q.2) (fs:=fs++more) (List.mem_append_left _ hq)
     rw[e] at this;exact this
    have key:∀ (i:Nat) q,i < p+1→fs1[i]? = some q→∀ a:Nat,a≤most→fin q.1 a=false∧(d9 dD fs1 (dD (nxt q.1 a))).isSome=true:=fun i q h4 h5 a ha=>by
     rcases (show i < p∨i=p by omega) with h6 | rfl
     ·rw[m,List.getElem?_append_left (by omega)] at h5
      obtain⟨h7,h8⟩:=hi i q h6 h5 a ha
      exact⟨h7,grow h8⟩
     ·rw[m,List.getElem?_append_left hpl,hd] at h5
      cases h5
      exact hq a (Nat.zero_le _) (by omega)
    obtain⟨⟨more2,m2⟩,hc⟩:=ih (p+1) fs1 fs' (by omega) (by rw[m,List.length_append];omega) (hl h3) key h
    exact⟨⟨more++more2,by rw[m2,m,List.append_assoc]⟩,hc⟩
theorem bfs_shut {first:α}{fs:Fs α} (h1:1≤lim) (h:bfs dD nxt fin most lim first=.on fs):Shut (dD:=dD) (nxt:=nxt) (fin:=fin) (most:=most) first fs:=by
 obtain⟨⟨more,m⟩,hc⟩:=bOut_on (lim+1) 0 [(first,[])] fs (by omega) (by simp) (by simpa using h1) (fun i q h=>absurd h (Nat.not_lt_zero _)) h
 exact⟨⟨(first,[]),by rw[m];simp,rfl⟩,hc⟩
end
end Tw
namespace Tw
open PySem L2
noncomputable def lexL:List Int→List Int→Prop
 | a::as,b::bs=>a < b∨(a=b∧lexL as bs)
 | _,_=>False
theorem lexL_irr:∀ u:List Int,¬ lexL u u
 | [],h=>h
 | a::u,h=>by
  rcases h with h | ⟨_,h⟩
  ·omega
  ·exact lexL_irr u h
theorem lexL_trans:∀ {u v x:List Int},lexL u v→lexL v x→lexL u x
 | [],_,_,h,_=>h.elim
 | _::_,[],_,h,_=>h.elim
 | _::_,_::_,[],_,h=>h.elim
 | a::u,b::v,c::x,h1,h2=>by
  rcases h1 with h1 | ⟨rfl,h1⟩
  ·rcases h2 with h2 | ⟨rfl,h2⟩
   ·exact .inl (by omega)
   ·exact .inl h1
  ·rcases h2 with h2 | ⟨rfl,h2⟩
   ·exact .inl h2
   ·exact .inr ⟨rfl,lexL_trans h1 h2⟩
theorem lexL_tot:∀ {u v:List Int},u.length=v.length→lexL u v∨u=v∨lexL v u
 | [],[],_=>.inr (.inl rfl)
 | [],_::_,h=>by cases h
 | _::_,[],h=>by cases h
 | a::u,b::v,h=>by
  rcases (show a < b∨a=b∨b < a by omega) with c | rfl | c
  ·exact .inl (.inl c)
  ·rcases lexL_tot (u:=u) (v:=v) (by simpa using h) with d | rfl | d
   ·exact .inl (.inr ⟨rfl,d⟩)
   ·exact .inr (.inl rfl)
   ·exact .inr (.inr (.inr ⟨rfl,d⟩))
  ·exact .inr (.inr (.inl c))
theorem lexL_app:∀ {u v:List Int} (x y:List Int),lexL u v→lexL (u++x) (v++y)
 | [],_,_,_,h=>h.elim
 | _::_,[],_,_,h=>h.elim
 | a::u,b::v,x,y,h=>by
  rcases h with h | ⟨rfl,h⟩
  ·exact .inl h
  ·exact .inr ⟨rfl,lexL_app x y h⟩
theorem lexL_pre:∀ (u:List Int) {x y:List Int},lexL x y→lexL (u++x) (u++y)
 | [],_,_,h=>h
 | a::u,x,y,h=>.inr ⟨rfl,lexL_pre u h⟩
noncomputable def sLt (u v:List Int):Prop:=u.length < v.length∨(u.length=v.length∧lexL u v)
theorem eD (u:List Int):¬ sLt u u:=fun h=>by
 rcases h with h | ⟨_,h⟩
 ·omega
 ·exact lexL_irr u h
theorem d7 {u v x:List Int} (h1:sLt u v) (h2:sLt v x):sLt u x:=by
 rcases h1 with h1 | ⟨e1,h1⟩
 ·rcases h2 with h2 | ⟨e2,_⟩
  ·exact .inl (by omega)
  ·exact .inl (by omega)
 ·rcases h2 with h2 | ⟨e2,h2⟩
  ·exact .inl (by omega)
  ·exact .inr ⟨by omega,lexL_trans h1 h2⟩
theorem sLt_tot (u v:List Int):sLt u v∨u=v∨sLt v u:=by
 rcases (show u.length < v.length∨u.length=v.length∨v.length < u.length by omega) with h | h | h
 ·exact .inl (.inl h)
 ·rcases lexL_tot h with c | c | c
  ·exact .inl (.inr ⟨h,c⟩)
  ·exact .inr (.inl c)
  ·exact .inr (.inr (.inr ⟨h.symm,c⟩))
 ·exact .inr (.inr (.inl h))
theorem sLt_snoc {u v:List Int} (a b:Int) (h:sLt u v):sLt (u++[a]) (v++[b]):=by
 rcases h with h | ⟨e,h⟩
 ·exact .inl (by simp;omega)
 ·exact .inr ⟨by simp [e],lexL_app _ _ h⟩
theorem sLt_last (u:List Int) {a b:Int} (h:a < b):sLt (u++[a]) (u++[b]):=.inr ⟨by simp,lexL_pre u (.inl h)⟩
theorem sLt_init {u v:List Int}{a b:Int} (h:sLt (u++[a]) (v++[b])):sLt u v∨(u=v∧a < b):=by
 rcases sLt_tot u v with c | rfl | c
 ·exact .inl c
 ·refine .inr ⟨rfl,?_⟩
  rcases (show a < b∨a=b∨b < a by omega) with d | rfl | d
  ·exact d
  ·exact absurd h (eD _)
  ·exact absurd (d7 h (sLt_last u d)) (eD _)
 ·exact absurd (d7 h (sLt_snoc b a c)) (eD _)
theorem sLt_self (u:List Int) (a:Int):sLt u (u++[a]):=.inl (by simp)
noncomputable def sLe (u v:List Int):Prop:=u=v∨sLt u v
theorem sLe_lt {u v x:List Int} (h1:sLe u v) (h2:sLt v x):sLt u x:=by
 rcases h1 with rfl | h1
 ·exact h2
 ·exact d7 h1 h2
theorem sLe_trans {u v x:List Int} (h1:sLe u v) (h2:sLe v x):sLe u x:=by
 rcases h2 with rfl | h2
 ·exact h1
 ·exact .inr (sLe_lt h1 h2)
theorem sLe_snoc {u v:List Int} (a:Int) (h:sLe u v):sLe (u++[a]) (v++[a]):=by
 rcases h with rfl | h
 ·exact .inl rfl
 ·exact .inr (sLt_snoc a a h)
section
variable {α:Type} (nxt:α→Int→α) (fin:α→Int→Bool)
noncomputable def runR (s:α):List Int→α
 | []=>s
 | a::r=>runR (nxt s a) r
noncomputable def tipR (s:α) (b:Bool):List Int→Bool
 | []=>b
 | a::r=>tipR (nxt s a) (fin s a) r
variable {nxt fin}
theorem runR_snoc:∀ (s:α) (r:List Int) (a:Int),runR nxt s (r++[a])=nxt (runR nxt s r) a
 | s,[],a=>rfl
 | s,b::r,a=>runR_snoc (nxt s b) r a
theorem tipR_snoc:∀ (s:α) (b:Bool) (r:List Int) (a:Int),tipR nxt fin s b (r++[a])=fin (runR nxt s r) a
 | s,b,[],a=>rfl
 | s,b,c::r,a=>tipR_snoc (nxt s c) (fin s c) r a
noncomputable def eF (most:Nat) (u:List Int):Prop:=∀ a∈u,0≤a∧a≤most
theorem eF.init {most:Nat}{u:List Int}{a:Int} (h:eF most (u++[a])):eF most u∧0≤a∧a≤most:=⟨fun b hb=>h b (List.mem_append_left _ hb),h a (by simp)⟩
structure Seen (dD:α→L2.D) (nxt:α→Int→α) (fin:α→Int→Bool) (most:Nat) (first:α) (p:Nat) (r:List Int) (i:Nat) (fs:Fs α):Prop where
 zero:fs[0]? = some (first,[])
 sort:∀ (j k:Nat) (x y:α×List Int),j < k→fs[j]? = some x→fs[k]? = some y→sLt x.2 y.2
 low:∀ x∈fs,sLt x.2 (r++[(i:Int)])
 uniq:∀ (j k:Nat) (x y:α×List Int),fs[j]? = some x→fs[k]? = some y→dD x.1=dD y.1→j=k
 run:∀ x∈fs,runR nxt first x.2=x.1∧eF most x.2
 done:∀ (q:Nat) (x:α×List Int) (a:Nat),fs[q]? = some x→a≤most→(q < p∨(q=p∧a < i))→fin x.1 a=false∧∃ y∈fs,dD y.1=dD (nxt x.1 a)∧sLe y.2 (x.2++[(a:Int)])
theorem Seen.cover {dD:α→L2.D}{most:Nat}{first:α}{p i:Nat}{r:List Int}{fs:Fs α}{d:α} (inj:∀ x y,dD x=dD y→x=y) (S:Seen dD nxt fin most first p r i fs) (hp:fs[p]? = some (d,r)) :
  ∀ (n:Nat) (u:List Int),u.length=n→eF most u→sLt u (r++[(i:Int)])→∃ y∈fs,y.1=runR nxt first u∧sLe y.2 u:=by
 intro n
 induction n with
 | zero=>
  intro u hu _ _
  have:u=[]:=List.length_eq_zero_iff.mp hu
  subst this
  exact⟨_,List.mem_of_getElem? S.zero,rfl,.inl rfl⟩
 | succ n ih=>
  intro u hu hw hl
  obtain⟨u',a,rfl⟩:∃ u' a,u=u'++[a]:=⟨u.dropLast,u.getLast (by intro z;rw[z] at hu;cases hu),(List.dropLast_concat_getLast _).symm⟩
  obtain⟨hw',ha0,ha1⟩:=hw.init
  obtain⟨y,hy,e1,e2⟩:=ih u' (by simpa using hu) hw' (d7 (sLt_self u' a) hl)
  obtain⟨q,hq⟩:=List.mem_iff_getElem?.1 hy
  have hya:=sLe_lt (sLe_snoc a e2) hl
  have hdone:q < p∨(q=p∧a.toNat < i):=by
   rcases sLt_init hya with c | ⟨c,c2⟩
   ·refine .inl ?_
    rcases (show q < p∨q=p∨p < q by omega) with z | rfl | z
    ·exact z
    ·rw[hp] at hq;cases hq;exact absurd c (eD _)
    ·exact absurd (d7 c (S.sort p q _ _ z hp hq)) (eD _)
   ·rcases (show q < p∨q=p∨p < q by omega) with z | rfl | z
    ·have:=S.sort q p _ _ z hq hp
     rw[c] at this;exact absurd this (eD _)
    ·exact .inr ⟨rfl,by omega⟩
    ·have:=S.sort p q _ _ z hp hq
     rw[c] at this;exact absurd this (eD _)
  have ea:((a.toNat:Nat):Int)=a:=by omega
  obtain⟨_,z,hz,ez,lz⟩:=S.done q y a.toNat hq (by omega) hdone
  rw[ea] at ez lz
  refine⟨z,hz,?_,sLe_trans lz (sLe_snoc a e2)⟩
  rw[runR_snoc,← e1];exact inj _ _ ez
theorem Seen.none {dD:α→L2.D}{most:Nat}{first:α}{p i:Nat}{r:List Int}{fs:Fs α}{d:α} (inj:∀ x y,dD x=dD y→x=y) (S:Seen dD nxt fin most first p r i fs) (hp:fs[p]? = some (d,r)) {u:List Int} (hw:eF most u) (hl:sLt u (r++[(i:Int)])):tipR nxt fin first false u=false:=by
 by_cases hu:u=[]
 ·subst hu;rfl
 obtain⟨u',a,rfl⟩:∃ u' a,u=u'++[a]:=⟨u.dropLast,u.getLast hu,(List.dropLast_concat_getLast _).symm⟩
 obtain⟨hw',ha0,ha1⟩:=hw.init
 obtain⟨y,hy,e1,e2⟩:=S.cover inj hp _ u' rfl hw' (d7 (sLt_self u' a) hl)
 obtain⟨q,hq⟩:=List.mem_iff_getElem?.1 hy
 have hya:=sLe_lt (sLe_snoc a e2) hl
 have hdone:q < p∨(q=p∧a.toNat < i):=by
  rcases sLt_init hya with c | ⟨c,c2⟩
  ·refine .inl ?_
   rcases (show q < p∨q=p∨p < q by omega) with z | rfl | z
   ·exact z
   ·rw[hp] at hq;cases hq;exact absurd c (eD _)
   ·exact absurd (d7 c (S.sort p q _ _ z hp hq)) (eD _)
  ·rcases (show q < p∨q=p∨p < q by omega) with z | rfl | z
   ·have:=S.sort q p _ _ z hq hp
    rw[c] at this;exact absurd this (eD _)
   ·exact .inr ⟨rfl,by omega⟩
   ·have:=S.sort p q _ _ z hp hq
    rw[c] at this;exact absurd this (eD _)
 have ea:((a.toNat:Nat):Int)=a:=by omega
 obtain⟨hf,_⟩:=S.done q y a.toNat hq (by omega) hdone
 rw[ea] at hf
 rw[tipR_snoc,← e1];exact hf
theorem Seen.val {dD:α→L2.D}{most:Nat}{first:α}{p i q:Nat}{r r':List Int}{fs:Fs α}{d:α} (S:Seen dD nxt fin most first p r i fs) (hq:fs[q]? = some (d,r')):d9 dD fs (dD d)=some r':=by
 unfold d9
 cases e:fs.find? fun p=>decide (dD p.1=dD d) with
 | none=>
  rw[List.find?_eq_none] at e
  exact absurd (decide_eq_true rfl) (e _ (List.mem_of_getElem? hq))
 | some x=>
  have h1:=List.mem_of_find?_eq_some e
  have h2:dD x.1=dD d:=by have:=List.find?_some e;exact of_decide_eq_true this
  obtain⟨j,hj⟩:=List.mem_iff_getElem?.1 h1
  have:=S.uniq j q _ _ hj hq h2
  subst this
  rw[hq] at hj;cases hj;rfl
noncomputable def Good (nxt:α→Int→α) (fin:α→Int→Bool) (most:Nat) (first:α) (row:List Int):Prop:=tipR nxt fin first false row=true∧eF most row∧∀ u,eF most u→sLt u row→tipR nxt fin first false u=false
variable {dD:α→L2.D}{most lim:Nat}{first:α}
theorem Seen.old {p i:Nat}{r:List Int}{fs:Fs α}{d:α} (S:Seen dD nxt fin most first p r i fs) (hp:fs[p]? = some (d,r)) (hf:fin d i=false) (hv:(d9 dD fs (dD (nxt d i))).isSome=true):Seen dD nxt fin most first p r (i+1) fs:=by
 refine⟨S.zero,S.sort,fun x hx=>d7 (S.low x hx) (sLt_last r (by omega)),S.uniq,S.run,fun q x a hq ha h=>?_⟩
 rcases h with h | ⟨rfl,h⟩
 ·exact S.done q x a hq ha (.inl h)
 ·rcases (show a < i∨a=i by omega) with h2 | rfl
  ·exact S.done q x a hq ha (.inr ⟨rfl,h2⟩)
  ·rw[hp] at hq;cases hq
   obtain⟨y,hy,e⟩:=valF_some hv
   exact⟨hf,y,hy,e,.inr (S.low y hy)⟩
theorem Seen.new {p i:Nat}{r:List Int}{fs:Fs α}{d:α} (S:Seen dD nxt fin most first p r i fs) (hi:i≤most) (hp:fs[p]? = some (d,r)) (hf:fin d i=false) (hv:(d9 dD fs (dD (nxt d i))).isSome=false):Seen dD nxt fin most first p r (i+1) (fs++[(nxt d i,r++[(i:Int)])]):=by
 have hlen:0 < fs.length:=(List.getElem?_eq_some_iff.mp S.zero).1
 have hpl:=(List.getElem?_eq_some_iff.mp hp).1
 have at_:∀ {j:Nat}{x:α×List Int},(fs++[(nxt d i,r++[(i:Int)])])[j]? = some x→(j < fs.length∧fs[j]? = some x)∨(j=fs.length∧x=(nxt d i,r++[(i:Int)])):=fun {j x} h=>by
  rcases Nat.lt_or_ge j fs.length with c | c
  ·rw[List.getElem?_append_left c] at h;exact .inl ⟨c,h⟩
  ·have hl:=(List.getElem?_eq_some_iff.mp h).1
   rw[List.length_append,List.length_singleton] at hl
   have:j=fs.length:=by omega
   subst this
   rw[List.getElem?_append_right (Nat.le_refl _),Nat.sub_self] at h
   cases h;exact .inr ⟨rfl,rfl⟩
 have nov:∀ x∈fs,dD x.1≠dD (nxt d i):=fun x hx e=>by
  have:=valF_mem (dD:=dD) (d:=x.1) (r:=x.2) hx
  rw[e,hv] at this;cases this
 obtain⟨hrun,hwok⟩:=S.run _ (List.mem_of_getElem? hp)
 refine⟨by rw[List.getElem?_append_left hlen];exact S.zero,fun j k x y hjk hx hy=>?_,fun x hx=>?_,fun j k x y hx hy e=>?_,fun x hx=>?_,fun q x a hq ha h=>?_⟩
 ·rcases at_ hx with ⟨h1,h2⟩ | ⟨h1,rfl⟩
  ·rcases at_ hy with ⟨h3,h4⟩ | ⟨h3,rfl⟩
   ·exact S.sort j k x y hjk h2 h4
   ·exact S.low x (List.mem_of_getElem? h2)
  ·rcases at_ hy with ⟨h3,h4⟩ | ⟨h3,_⟩
   ·omega
   ·omega
 ·rcases List.mem_append.1 hx with h | h
  ·exact d7 (S.low x h) (sLt_last r (by omega))
  ·rw[List.mem_singleton] at h;subst h;exact sLt_last r (by omega)
 ·rcases at_ hx with ⟨h1,h2⟩ | ⟨h1,rfl⟩
  ·rcases at_ hy with ⟨h3,h4⟩ | ⟨h3,rfl⟩
   ·exact S.uniq j k x y h2 h4 e
   ·exact absurd e (nov x (List.mem_of_getElem? h2))
  ·rcases at_ hy with ⟨h3,h4⟩ | ⟨h3,rfl⟩
   ·exact absurd e.symm (nov y (List.mem_of_getElem? h4))
   ·omega
 ·rcases List.mem_append.1 hx with h | h
  ·exact S.run x h
  ·rw[List.mem_singleton] at h;subst h
   refine⟨by show runR nxt first (r++[(i:Int)])=nxt d i;rw[runR_snoc,hrun],fun a ha=>?_⟩
   rcases List.mem_append.1 ha with ha | ha
   ·exact hwok a ha
   ·rw[List.mem_singleton] at ha;subst ha;omega
 ·have hql:q < fs.length:=by omega
  rw[List.getElem?_append_left hql] at hq
  rcases h with h | ⟨rfl,h⟩
  ·obtain⟨h1,y,hy,h2⟩:=S.done q x a hq ha (.inl h)
   exact⟨h1,y,List.mem_append_left _ hy,h2⟩
  ·rcases (show a < i∨a=i by omega) with h2 | rfl
   ·obtain⟨h1,y,hy,h3⟩:=S.done q x a hq ha (.inr ⟨rfl,h2⟩)
    exact⟨h1,y,List.mem_append_left _ hy,h3⟩
   ·rw[hp] at hq;cases hq
    exact⟨hf,_,List.mem_append_right _ (List.mem_singleton_self _),rfl,.inl rfl⟩
theorem bIn_first (inj:∀ x y,dD x=dD y→x=y) {p:Nat}{d:α}{r:List Int}:∀ (l i:Nat) (fs:Fs α),i+l=most+1→Seen dD nxt fin most first p r i fs→fs[p]? = some (d,r)→
  (∀ row fs',bIn dD nxt fin lim d r l (i:Int) fs=.ends row fs'→Good nxt fin most first row)∧(∀ fs',bIn dD nxt fin lim d r l (i:Int) fs=.on fs'→Seen dD nxt fin most first p r (most+1) fs'∧fs'[p]? = some (d,r)):=by
 intro l
 induction l with
 | zero=>
  intro i fs h S hp
  have:i=most+1:=by omega
  subst this
  exact⟨(fun row fs' e=>by cases e),(fun fs' e=>by cases e;exact⟨S,hp⟩)⟩
 | succ l ih=>
  intro i fs h S hp
  cases hf:fin d i with
  | true=>
   rw[bIn_end hf]
   refine⟨fun row fs' e=>?_,(fun fs' e=>by cases e)⟩
   cases e
   obtain⟨hrun,hwok⟩:=S.run _ (List.mem_of_getElem? hp)
   refine⟨by rw[tipR_snoc,hrun];exact hf,fun a ha=>?_,fun u hu hl=>S.none inj hp hu hl⟩
   rcases List.mem_append.1 ha with ha | ha
   ·exact hwok a ha
   ·rw[List.mem_singleton] at ha;subst ha;omega
  | false=>
   cases hv:(d9 dD fs (dD (nxt d i))).isSome with
   | true=>
    rw[bIn_old hf hv]
    exact ih (i+1) fs (by omega) (S.old hp hf hv) hp
   | false=>
    by_cases hl:lim≤fs.length
    ·rw[bIn_many hf hv hl]
     exact⟨(fun row fs' e=>by cases e),(fun fs' e=>by cases e)⟩
    ·rw[bIn_new hf hv (by omega)]
     exact ih (i+1) _ (by omega) (S.new (by omega) hp hf hv) (by rw[List.getElem?_append_left (List.getElem?_eq_some_iff.mp hp).1];exact hp)
theorem bOut_first (inj:∀ x y,dD x=dD y→x=y):∀ (n p:Nat) (fs:Fs α),(∀ d r,fs[p]? = some (d,r)→Seen dD nxt fin most first p r 0 fs)→∀ row fs',bOut dD nxt fin most lim n p fs=.ends row fs'→Good nxt fin most first row:=by
 intro n
 induction n with
 | zero=>intro p fs _ row fs' h;cases h
 | succ n ih=>
  intro p fs hS row fs' h
  rw[bOut] at h
  cases hd:fs[p]? with
  | none=>rw[hd] at h;cases h
  | some x=>
   obtain⟨d,r⟩:=x
   rw[hd] at h
   dsimp only at h
   have S:=hS d r hd
   rw[S.val hd] at h
   obtain⟨b1,b2⟩:=bIn_first (lim:=lim) inj (most+1) 0 fs (by omega) S hd
   cases hb:bIn dD nxt fin lim d ((some r).getD []) (most+1) 0 fs with
   | many=>rw[hb] at h;cases h
   | ends row' f=>rw[hb] at h;cases h;exact b1 _ _ hb
   | on fs1=>
    rw[hb] at h
    obtain⟨S1,hp1⟩:=b2 fs1 hb
    refine ih (p+1) fs1 (fun d' r' h'=>?_) row fs' h
    have hlt:=S1.sort p (p+1) _ _ (by omega) hp1 h'
    refine⟨S1.zero,S1.sort,fun x hx=>d7 (S1.low x hx) (sLt_snoc _ _ hlt),S1.uniq,S1.run,fun q x a hq ha hh=>?_⟩
    rcases hh with hh | ⟨_,hh⟩
    ·rcases (show q < p∨q=p by omega) with z | rfl
     ·exact S1.done q x a hq ha (.inl z)
     ·exact S1.done q x a hq ha (.inr ⟨rfl,by omega⟩)
    ·omega
theorem bfs_first (inj:∀ x y,dD x=dD y→x=y) {row:List Int}{fs:Fs α} (h:bfs dD nxt fin most lim first=.ends row fs):Good nxt fin most first row:=by
 refine bOut_first inj (lim+1) 0 [(first,[])] (fun d r e=>?_) row fs h
 cases e
 refine⟨rfl,fun j k x y hjk hx hy=>?_,fun x hx=>?_,fun j k x y hx hy _=>?_,fun x hx=>?_,fun q x a hq ha hh=>by omega⟩
 ·have:=(List.getElem?_eq_some_iff.mp hy).1
  simp at this;omega
 ·rw[List.mem_singleton] at hx;subst hx;exact .inl (by simp)
 ·have h1:=(List.getElem?_eq_some_iff.mp hx).1
  have h2:=(List.getElem?_eq_some_iff.mp hy).1
  simp at h1 h2;omega
 ·rw[List.mem_singleton] at hx;subst hx;exact⟨rfl,fun a ha=>by cases ha⟩
theorem shut_none (inj:∀ x y,dD x=dD y→x=y) {fs:Fs α} (h:Shut (dD:=dD) (nxt:=nxt) (fin:=fin) (most:=most) first fs):∀ u,eF most u→tipR nxt fin first false u=false:=by
 have key:∀ (u:List Int) (s:α) (b:Bool),(∃ q∈fs,q.1=s)→b=false→eF most u→tipR nxt fin s b u=false:=by
  intro u
  induction u with
  | nil=>intro s b _ hb _;exact hb
  | cons a u ih=>
   rintro s b ⟨q,hq,rfl⟩ hb hw
   obtain⟨h0,h1⟩:=hw a List.mem_cons_self
   have ea:((a.toNat:Nat):Int)=a:=by omega
   obtain⟨hf,hv⟩:=h.2 q hq a.toNat (by omega)
   rw[ea] at hf hv
   obtain⟨y,hy,e⟩:=valF_some hv
   exact ih (nxt q.1 a) (fin q.1 a) ⟨y,hy,inj _ _ e⟩ hf fun c hc=>hw c (List.mem_cons_of_mem _ hc)
 intro u hu
 obtain⟨q,hq,e⟩:=h.1
 exact key u first false ⟨q,hq,inj _ _ e⟩ rfl hu
end
end Tw
namespace L2
open PySem PySem.Spec PyProof.Rows TwZ
section
variable {X:Cx}
noncomputable def rNinD (P:Program) (w:World) (K:PySem.W.Frag):R2:=fun x y H Q=>∃ a S kvs k,y=.ref a∧dR P w K H a S kvs∧KeyD K H S k x∧Q (.bl (!(dF kvs k).isSome)) H
theorem op_ninD (hu:X.A.units+64 < cLine):OpR X (compareOp .NotIn) (rNinD X.prog X.w X.K):=by
 intro pins s σ H x y v u Q I rx ry h
 obtain⟨a,S,kvs,k,rfl,g,hk,q⟩:=h
 obtain⟨b,rfl⟩:=hk.tup
 cases rx
 cases ry
 obtain⟨hd,hz,xs,p,dd⟩:=g.at I
 refine wpAny_notIn_heap (knd:=dY X.prog X.w S) (show X.A.in1.units+8 < cLine by show X.A.units+1+8 < cLine;omega) (hk.at I) hd dd ?_
 have e:=(KD.val k p).isSome_eq
 rw[Option.isSome_map] at e
 rw[← e]
 exact⟨.bl _,H,I.tok _,rfl,q⟩
theorem op_ninDK {P:Program}{w:World}{K:PySem.W.Frag} (hP:X.prog=P) (hw:X.w=w) (hK:X.K=K) (hu:X.A.units+64 < cLine):OpR X (compareOp .NotIn) (rNinD P w K):=by subst hP hw hK;exact op_ninD hu
noncomputable def one1 (R:V→V→Hp→Prop):List (V×V)→Hp→Prop
 | [(x,v)],H=>R x v H
 | _,_=>False
noncomputable def tDisp1 (P:Program) (w:World) (K:PySem.W.Frag) (tk tv:TE):TE:=fun σ H Q=>∀ p,H p=none→tk σ (upd H p (.dK [])) fun x H1=>tv σ H1 fun v H2=>H2 p=some (.dK [])∧∃ S k,KeyD K H2 S k x∧∀ H3,eI p H2 H3→dR P w K H3 p S [(k,v)]→Q (.ref p) H3
theorem pe_disp1 {k v:Expr}{pos:Pos}{tk tv:TE} (hu:X.A.units+64 < cLine) (hk:PE X k tk) (hv:PE X v tv):PE X (.Dict [some k] [v] pos) (tDisp1 X.prog X.w X.K tk tv):=by
 intro pins s σ H Q I q
 have hn:=I.hok.fresh (Nat.le_refl s.heap.objs.size)
 have I1:=I.laid (a:=s.heap.objs.size) (o:=.dK []) (h':=s.heap.push { cls:=.type "dict",data:=.dict #[] }) (t':=s.toks) (fun _ _ q=>Heap.get?_push_of_some _ q) (Nat.le_refl _) (dk_empty s.heap I.big)
 have hp:PPs X pos [some k] [v] [(tk,tv)]:=pps_cons hk hv pps_nil
 refine wpAny_Dict_any rfl rfl (by simp) (show 1≤15 by decide) (cI (hp pins _ σ _ (one1 fun x v H2=>H2 s.heap.objs.size=some (.dK [])∧∃ S k,KeyD X.K H2 S k x∧∀ H3,eI s.heap.objs.size H2 H3→dR X.prog X.w X.K H3 s.heap.objs.size S [(k,v)]→Q (.ref s.heap.objs.size) H3) I1 (q _ hn)) fun ws s2 ⟨ps,H2,I2,rel,h⟩=>?_)
 obtain _ | ⟨⟨x,y⟩,_ | ⟨_,_⟩⟩:=ps
 ·exact h.elim
 ·obtain⟨e0,S,k',hk',q2⟩:=h
  cases rel with
  | @cons _ wv _ _ r0 r1=>
   cases r1
   obtain⟨u,r⟩:=wv
   obtain⟨b,rfl⟩:=hk'.tup
   have ru:aY (.ref b) u:=r0.1
   have rr:aY y r:=r0.2
   cases ru
   have g:dR X.prog X.w X.K H2 s.heap.objs.size S []:=dR.new e0
   obtain⟨hd,hz,xs,p,dd⟩:=g.at I2
   cases p
   refine wpAny_bind (wpAny_bind (wpAny_dictSet_heap (knd:=dY X.prog X.w S) (hsz:=Nat.zero_le _) (show X.A.units+8 < cLine by omega) (hk'.at I2) dd fun h' dd' hsb=>wpAny_pure ?_))
   obtain⟨qo,es,ep,hq,h2,h3,h4,_,h5⟩:=dd'
   have mu:=g.mut
   have bt:eI s.heap.objs.size H2 (upd H2 s.heap.objs.size (.ext (dictF X.prog X.w S s.heap.objs.size (storedH [] k' b r)))):=eI.upd
   have ts:=bt.ts (K:=X.K) mu
   refine wpAny_pure (show EP X pins σ Q _ _ from ⟨.ref s.heap.objs.size,_,d_write I2 mu hsb ⟨qo,hq⟩ (ob:=.ext (dictF X.prog X.w S s.heap.objs.size (storedH [] k' b r))) ⟨⟨qo,es,ep,hq,h2,h3,h4,h5⟩,⟨qo,hq⟩,fun h1 h2' ⟨o',es',ep',z1,z⟩ kk=>⟨o',es',ep',kk _ z1,z⟩⟩,rfl,q2 _ bt (.inr ⟨_,aB,hd,(by rw[sizeLine_eq];show 1≤_;decide),KD.mono (KD.put (kvs:=[]) .nil hk' rr) ts⟩)⟩)
 ·exact h.elim
theorem pe_disp1K {P:Program}{w:World}{K:PySem.W.Frag}{k v:Expr}{pos:Pos}{tk tv:TE} (hP:X.prog=P) (hw:X.w=w) (hK:X.K=K) (hu:X.A.units+64 < cLine) (hk:PE X k tk) (hv:PE X v tv):PE X (.Dict [some k] [v] pos) (tDisp1 P w K tk tv):=by subst hP hw hK;exact pe_disp1 hu hk hv
noncomputable def tPar3 (i j k:Nat) (ta:TA):TS:=fun D σ H=>ta σ H fun vs H1=>∃ v w z,vs=[v,w,z]∧D.nx (((σ.set i (some v)).set j (some w)).set k (some z)) H1
theorem ps_par3 {i j k:Nat}{x y z:Str}{a b c:Expr}{ta:TA}{pos px py pz pt:Pos}{kt k2 pt2} (hc:X.calm=true) (hN:X.N.Nodup) (hi:X.N[i]? = some x) (hj:X.N[j]? = some y) (hk:X.N[k]? = some z) (hij:i≠j) (hik:i≠k) (hjk:j≠k)
  (hx:X.env.scope.names.lookup x=some .local) (hy:X.env.scope.names.lookup y=some .local) (hz:X.env.scope.names.lookup z=some .local) (ha:PA X [a,b,c] ta)
  (hw:swappedStores [.Tuple [.Name x px,.Name y py,.Name z pz] kt pt] (.Tuple [a,b,c] k2 pt2) X.env=pure (some [x,y,z]))
  (hs:swapsWithSole [.Tuple [.Name x px,.Name y py,.Name z pz] kt pt] (.Tuple [a,b,c] k2 pt2) pos.line X.env=pure false:=by rfl) :
  PS X (.Assign [.Tuple [.Name x px,.Name y py,.Name z pz] kt pt] (.Tuple [a,b,c] k2 pt2) pos) (tPar3 i j k ta):=by
 intro pins s σ H D I h
 rw[exec_Assign_arm]
 refine wpAny_bind (wpAny_standAt ?_)
 rw[hs]
 refine wpAny_bind (wpAny_pure ?_)
 rw[if_neg (by decide)]
 refine wpAny_bind (Tuple_ (cI (ha _ pins s σ H _ I h) fun us s1 ⟨vs,H1,I1,r1,q1⟩=>?_))
 obtain⟨v,w,w2,e1,q1⟩:=q1
 subst e1
 obtain⟨u1,u2,u3,rfl,rv,rw',rz⟩:∃ u1 u2 u3,us=[u1,u2,u3]∧aY v u1∧aY w u2∧aY w2 u3:=by
  cases r1 with
  | cons p q=>
   cases q with
   | cons p' q'=>
    cases q' with
    | cons p2 q2=>
     cases q2
     exact⟨_,_,_,rfl,p,p',p2⟩
 refine wpAny_newObj_type ?_ (by show 3≤sizeLine;decide)
 have I2:Inv X pins σ H1 { s1 with heap:=s1.heap.push { cls:=.type "tuple",data:=.seq [u1,u2,u3].toArray } }:=I1.kept (t':=s1.toks) fun b o e=>Heap.get?_push_of_some _ e
 rw[hw]
 refine wpAny_bind (wpAny_pure ?_)
 show wpAny (model X.prog X.w) X.A (do rule "assign.swapped-stores";let items ← unpackItems (.ref s1.heap.objs.size) 3 none;assignInOrder [fun v=>bindName X.env z v,fun v=>bindName X.env y v,fun v=>bindName X.env x v] items.reverse;pure Flow.next) _ _ _
 refine wpAny_bind (wpAny_rule (wpAny_bind (unpackItems_tuple (items:=#[u1,u2,u3]) (I.ok.hd hc) (IsTup.new s1.heap _) fun h' hx'=>?_)))
 have I3:=I2.kept (h':=h') (t':=s1.toks) fun b o e=>hx' b o (Nat.ne_of_lt (Heap.lt_size e)) e
 show wpAny _ _ (assignInOrder [fun v=>bindName X.env z v,fun v=>bindName X.env y v,fun v=>bindName X.env x v] [u3,u2,u1] >>= fun _=>pure Flow.next) _ _ _
 refine wpAny_bind (assignInOrder_cons (wpAny_bindName (store_ok I3 hN hk (.inl hz) rz (fun s2 I4=>?_) (.inr hz))))
 refine assignInOrder_cons (wpAny_bindName (store_ok I4 hN hj (.inl hy) rw' (fun s3 I5=>?_) (.inr hy)))
 refine assignInOrder_cons (wpAny_bindName (store_ok I5 hN hi (.inl hx) rv (fun s4 I6=>assignInOrder_nil (wpAny_pure ?_)) (.inr hx)))
 have e6:((σ.set k (some w2)).set j (some w)).set i (some v)=((σ.set i (some v)).set j (some w)).set k (some w2):=by
  rw[List.set_comm _ _ (Ne.symm hij),List.set_comm (some w2) (some v) (Ne.symm hik),List.set_comm (some w2) (some w) (Ne.symm hjk)]
 rw[e6] at I6
 exact⟨_,H1,I6,q1⟩
end
end L2
namespace L2
open PySem PySem.Spec PyProof.Rows TwZ
section
variable {X:Cx}
end
end L2
namespace L2
open PySem PySem.Spec PyProof.Rows TwZ
noncomputable abbrev SpS:=Shared→List Env→Sp
structure FnOkS (P:Program) (w:World) (K:PySem.W.Frag) (mg:Str→Option Value) (base:Heap) (CX:CXT) (k:Nat) (f:Addr) (fd:FuncData) (ps:List Str) (sp:SpS):Prop where
 len:∀ s o vs H Q E,sp s o vs H Q E→vs.length=ps.length
 run:∀ (A:Around) (outer:List Env) (s:Shared) (H:Hp) (args:Args) (us:List Value) (vs:List V) (Q:VK) (E:XK),Room k A→Env0 P w K mg base A outer s H→BindsTo s fd args (ps.zip us)→bK vs us→sp s outer vs H Q E→
  codeAny (model P w) A (.call (.ref f) args) (CR CX outer P w H s Q E) s
theorem fn_ofS {CX:CXT}{P:Program}{w:World}{K:PySem.W.Frag}{mg:Str→Option Value}{base:Heap}{k:Nat}{f:Addr}{name qual:Str}{params:Arguments}{body:List Stmt}{scope:Scope}{dV kV doc pm cdv ct oc:Value}{an od:Option Addr}
  {osl:Array (Option Value)}{N ps:List Str}{sp:SpS} (lk:K.lookup f=some ⟨oc,od,.func (PySem.W.fnOf name qual params body scope dV kV doc pm an cdv ct),osl⟩) (hcd:PySem.W.codeIn K cdv qual=true) (S:FnScope N ps scope)
  (len:∀ s o vs H Q E,sp s o vs H Q E→vs.length=ps.length)
  (hbody:∀ (A:Around) (outer:List Env) (s:Shared) (H:Hp) (vs:List V) (Q:VK) (E:XK),Room k (A.deeper (envOfC qual scope s.heap.objs.size f cdv))→Env0 P w K mg base A outer s H→sp s outer vs H Q E→
   ∃ t,PSs (cxOf CX P w K mg base N qual scope f cdv A outer s H E) body t∧t { nx:=fun _ H'=>Q .non H',rt:=Q } (start N vs) H) :
  FnOkS P w K mg base CX (k+1) f (PySem.W.fnOf name qual params body scope dV kV doc pm an cdv ct) ps sp:=by
 refine⟨len,fun A outer s H args us vs Q E hr e0 hb r hsp=>?_⟩
 have hl:=len _ _ _ _ _ _ hsp
 have KX:K.In s.heap:=e0.mod.kin.keeps fun b o e=>(e0.bs b o e).1
 have lim:s.heap.NoLimit:=e0.mod.nolimit.keeps fun b o e=>(e0.bs b o e).1
 have hkind:∀ y∈ps.zip us,scope.names.lookup y.1=some .local∨(scope.names.lookup y.1=some .cell∧((cellsFrom (s.heap.objs.size+1) scope.names []).lookup y.1).isSome=true):=fun ⟨n,v⟩ hy=>by
  rcases S.par n (List.of_mem_zip hy).1 with q | q
  ·exact .inl q
  ·exact .inr ⟨q,PySem.W.cellsFrom_some _ _ _ (.inl q)⟩
 refine codeAny_call_function hr.depth (KX _ _ lk) rfl S.co S.gen rfl (PySem.W.codeRec_of KX hcd) (hb _ _ _ _ ?_)
 refine wpAny_newFunctionEnv_cells S.kind hkind fun env he s1 x=>?_
 subst he
 refine⟨lim.keeps x.toInCall.keep,codeAny_func ?_⟩
 obtain⟨t,ht,hq⟩:=hbody A outer s H vs Q E (hr.deeper _) e0 hsp
 have I:Inv (cxOf CX P w K mg base N qual scope f cdv A outer s H E) [] (start N vs) H s1:=inv_start S hr.hd e0 hl r x
 refine wpAny_mono (ht [] s1 (start N vs) H _ I hq) (fun fl s' hs=>?_) fun e s' hs=>hs
 have fin:∀ {σ':St}{H':Hp}{v:V}{u:Value},Inv (cxOf CX P w K mg base N qual scope f cdv A outer s H E) [] σ' H' s'→aY v u→Q v H'→CE outer P w H s Q u s':=
  fun {σ' H' v u} J rv q=>⟨v,H',J.os,J.bare,J.base,J.hok,rv,q⟩
 cases fl with
 | ret u=>
  obtain⟨v,σ',H',J,rv,q⟩:=hs
  exact fin J rv q
 | next=>
  obtain⟨σ',H',J,q⟩:=hs
  exact fin (v:=V.non) (u:=Value.none) J rfl q
 | brk=>
  obtain⟨_,_,_,q⟩:=hs
  exact False.elim q
 | cont=>
  obtain⟨_,_,_,q⟩:=hs
  exact False.elim q
structure FnH (H:Hp) (f c:Addr) (ob oc:Obj):Prop where
 fn:H f=some (.frz ob (.own f))
 cd:H c=some (.frz oc (.own c))
theorem FnH.same {H H':Hp}{f c:Addr}{ob oc:Obj} (h:FnH H f c ob oc) (s:aF H H'):FnH H' f c ob oc:=⟨s _ _ h.fn,s _ _ h.cd⟩
structure CellsK (cl:List (Str×Addr)) (s s':Shared) (H':Hp) (outer:List Env):Prop where
 keep:∀ c∈cl.map (·.2),∀ o,s.heap.get? c=some o→s'.heap.get? c=some o
 free:∀ c∈cl.map (·.2),H' c=none
 out:∀ c∈cl.map (·.2),c∉frs outer
noncomputable def RunsS (P:Program) (w:World) (K:PySem.W.Frag) (mg:Str→Option Value) (base:Heap) (k:Nat) (f c:Addr) (ob oc:Obj) (cl:List (Str×Addr)) (sp:Sp) (s:Shared):Prop:=
 ∀ (A:Around) (outer:List Env) (s':Shared) (H':Hp) (us:List Value) (vs:List V) (Q:VK),Room k A→Env0 P w K mg base A outer s' H'→FnH H' f c ob oc→CellsK cl s s' H' outer→bK vs us→sp vs H' Q E0→
  codeAny (model P w) A (.call (.ref f) ⟨us,[]⟩) (CR CX0 outer P w H' s' Q E0) s'
section
variable {X:Cx}{k:Nat}{f c:Addr}{ob oc:Obj}{cl:List (Str×Addr)}{sp:Sp}{x:Str}{p pos:Pos}{e:Expr}{es:List Expr}{t:TA}{i:Nat}
noncomputable def tCallV (i:Nat) (f c:Addr) (ob oc:Obj) (sp:Sp) (t:TA):TE:=fun σ H Q=>σ[i]? = some (some (.ref f))∧FnH H f c ob oc∧t σ H fun vs H1=>FnH H1 f c ob oc∧sp vs H1 Q E0
theorem pe_callV (R:RunsS X.prog X.w X.K X.mg X.base k f c ob oc cl sp X.s₀) (hfn:∃ cls od fd sl,ob=⟨cls,od,.func fd,sl⟩) (hr:Room k X.A)
  (hc:∀ c∈cl.map (·.2),X.H₀ c=none∧c∉X.fs∧c∉X.ex∧c < X.s₀.heap.objs.size∧∃ o,X.s₀.heap.get? c=some o)
  (hN:X.N[i]? = some x) (hv:Vis X.env.scope x) (ha:PA X (e::es) t) (hstk:X.stack=X.env::X.outer)
  (hfr:X.env.frame=some X.env.locals)
  (hd:(x == ("__debug__" : Str))=false:=by decide) (hcd:(x == ("__classdict__" : Str))=false:=by decide) (he:starEach (e::es) X.env=(false,eval e X.env)::starEach es X.env:=by rfl) (hpl:(backTo pos (starEach es X.env)).any (·.1)=false:=by rfl) :
  PE X (.Call (.Name x p) (e::es) [] pos) (tCallV i f c ob oc sp t):=by
 intro pins s σ H Q I h
 obtain⟨hσ,hf,h⟩:=h
 have fnAt:∀ {s':Shared}{H':Hp},Inv X pins σ H' s'→FnH H' f c ob oc→PySem.W.FnAt f s'.heap:=fun I' hf'=>by
  obtain⟨cls,od,fd,sl,rfl⟩:=hfn
  obtain⟨e1,_⟩:=(show bU X.prog X.w _ _ f (.frz _ (.own f)) from I'.hok f _ hf'.fn)
  exact⟨cls,od,fd,sl,e1⟩
 refine wpAny_Call_Name_kw ?_
 refine cI ((pe_var hN hv hd hcd) pins s σ H (fun v H'=>v=V.ref f∧H'=H) I ⟨_,hσ,rfl,rfl⟩) fun u s0 ⟨v,H0,I0,rv,q⟩=>?_
 obtain⟨rfl,rfl⟩:=q
 obtain rfl:u=Value.ref f:=rv
 refine PySem.W.callWith_F (fnAt I0 hf) (cI (ha pos pins s0 σ H0 _ I0 h) fun us s1 ⟨vs,H1,I1,r,hf1,q⟩=>⟨fnAt I1 hf1,?_⟩) he hpl
 refine wpAny_call (codeAny_mono (R X.A X.stack s1 H1 us vs Q hr I1.env0 hf1 ⟨fun c' hc' o ho=>?_,fun c' hc'=>?_,fun c' hc' z=>?_⟩ r q) fun r s' hq=>?_)
 ·obtain⟨h1,h2,h3,_⟩:=hc c' hc'
  exact I1.base.keep c' o ho h1 h2 h3
 ·obtain⟨h1,h2,h3,_,o,ho⟩:=hc c' hc'
  exact I1.base.free c' o ho h1 h3
 ·obtain⟨h1,h2,h3,h4,_⟩:=hc c' hc'
  rw[hstk] at z
  have z':c'∈frs (X.env::X.outer):=z
  unfold frs at z'
  rw[List.filterMap_cons_some hfr] at z'
  rcases List.mem_cons.1 z' with z' | z'
  ·have:=I1.ok.above
   rw[← z'] at this
   exact absurd (Nat.lt_of_lt_of_le h4 this) (Nat.lt_irrefl _)
  ·exact h2 z'
 ·cases r with
  | error e=>exact hq.elim
  | ok fl=>
   cases fl with
   | ret u=>exact I1.after hq
   | next=>exact False.elim hq
   | brk=>exact False.elim hq
   | cont=>exact False.elim hq
end
end L2
namespace L2
open PySem PySem.Spec PyProof.Rows TwZ
open PySem.W (envX kla_obj kla_fn)
noncomputable def cxLam (P:Program) (w:World) (K:PySem.W.Frag) (mg:Str→Option Value) (base:Heap) (N:List Str) (qual:Str) (scope:Scope) (f:Addr) (cd:Value) (cl:List (Str×Addr)) (A:Around) (outer:List Env) (s:Shared) (H:Hp):Cx where
 prog:=P
 w:=w
 K:=K
 mg:=mg
 base:=base
 A:=A.deeper (envX qual scope s.heap.objs.size f cd cl)
 N:=N
 s₀:=s
 H₀:=H
 env:=envX qual scope s.heap.objs.size f cd cl
 outer:=outer
 stack:=envX qual scope s.heap.objs.size f cd cl::outer
 ex:=[]
 calm:=true
 fn:=fun _=>false
 pn:=[]
 xe:=fun _ _=>False
structure LamScope (N ps:List Str) (sc:Scope) (cl:List (Str×Addr)):Prop where
 kind:sc.kind=.function
 co:sc.isCoroutine=false
 gen:sc.isGenerator=false
 nd:N.Nodup
 pre:N.take ps.length=ps
 par:∀ x∈ps,sc.names.lookup x=some .local
 nocell:∀ y∈sc.names,y.2≠.cell
 frees:∀ y,sc.names.lookup y=some .free→∃ c,cl.lookup y=some c
 apart:cl.Pairwise fun x y=>x.2≠y.2
theorem lookup_zip_rev:∀ {P:List Str}{us:List Value}{i:Nat}{x:Str}{u:Value},P.Nodup→P[i]? = some x→us[i]? = some u→((P.zip us).reverse).lookup x=some u:=by
 intro P us i x u nd h1 h2
 have hm:(x,u)∈(P.zip us).reverse:=by
  rw[List.mem_reverse]
  exact List.mem_iff_getElem?.2 ⟨i,by rw[List.getElem?_zip_eq_some];exact⟨h1,h2⟩⟩
 have hu:∀ v,(x,v)∈(P.zip us).reverse→v=u:=fun v hv=>by
  rw[List.mem_reverse] at hv
  obtain⟨j,hj⟩:=List.mem_iff_getElem?.1 hv
  rw[List.getElem?_zip_eq_some] at hj
  have e1:=List.getElem?_eq_some_iff.mp h1
  have e2:=List.getElem?_eq_some_iff.mp hj.1
  have:j=i:=(List.getElem_inj (h₀:=e2.1) (h₁:=e1.1) nd).1 (by rw[e2.2,e1.2])
  subst this
  rw[h2] at hj
  exact (Option.some.inj hj.2).symm
 generalize (P.zip us).reverse=l at hm hu
 clear h1 h2 nd
 induction l with
 | nil=>exact absurd hm (by simp)
 | cons q l ih=>
  obtain⟨y,v⟩:=q
  rw[List.lookup_cons]
  by_cases c:x=y
  ·subst c
   have:=hu v List.mem_cons_self
   subst this
   simp
  ·have:(x == y)=false:=by simpa using c
   rw[this]
   refine ih ?_ fun v hv=>hu v (List.mem_cons_of_mem _ hv)
   rcases List.mem_cons.1 hm with z | z
   ·injection z with z1 z2;exact absurd z1 c
   ·exact z
section
variable {P:Program}{w:World}{K:PySem.W.Frag}{mg:Str→Option Value}{base:Heap}{k:Nat}{f c:Addr}{name qual:Str}{params:Arguments}{body:Expr}{scope:Scope}{cl:List (Str×Addr)}{pm ctv:Value}{oc:Obj}{sp:Sp}{s:Shared}{N ps:List Str}{fv:List V}
theorem lam_runs (S:LamScope N ps scope cl) (len:∀ vs H Q,sp vs H Q E0→vs.length=ps.length) (hl:N.length=ps.length+fv.length)
  (hoc:∃ vs t,oc.data=.fields vs∧vs[1]? = some (.str qual t)) (hbind:∀ us:List Value,us.length=ps.length→bindArgs (kla_fn name qual params body scope cl pm (.ref c) ctv) ⟨us,[]⟩=pure (ps.zip us))
  (hcells:∀ y c,cl.lookup y=some c→∃ v,s.heap.IsCell c v) (hfv:∀ (i:Nat) (y:Str) (v:V),N[ps.length+i]? = some y→fv[i]? = some v→scope.names.lookup y=some .free∧∃ c u,cl.lookup y=some c∧s.heap.IsCell c (some u)∧aY v u)
  (hbody:∀ (A:Around) (outer:List Env) (s':Shared) (H':Hp) (vs:List V) (Q:VK),Room k (A.deeper (envX qual scope s'.heap.objs.size f (.ref c) cl))→sp vs H' Q E0→
   ∃ te,PE (cxLam P w K mg base N qual scope f (.ref c) cl A outer s' H') body te∧te (vs.map some++fv.map some) H' Q) :
  RunsS P w K mg base (k+1) f c (kla_obj name qual params body scope cl pm c ctv) oc cl sp s:=by
 intro A outer s' H' us vs Q hr e0 hf ck r hsp
 have hlen:=len _ _ _ hsp
 have hul:us.length=ps.length:=by rw[← r.length];exact hlen
 obtain⟨ef,_⟩:=(show bU P w H' s'.heap f (.frz _ (.own f)) from e0.hok f _ hf.fn)
 obtain⟨ec,_⟩:=(show bU P w H' s'.heap c (.frz _ (.own c)) from e0.hok c _ hf.cd)
 have lim:s'.heap.NoLimit:=e0.mod.nolimit.keeps fun b o e=>(e0.bs b o e).1
 have cellK:∀ {y:Str}{a:Addr}{v:Option Value},cl.lookup y=some a→s.heap.IsCell a v→s'.heap.IsCell a v:=fun {y a v} h1 h2=>by
  have hm:a∈cl.map (·.2):=List.mem_map.2 ⟨(y,a),PySem.mem_of_lookup h1,rfl⟩
  obtain⟨o,e1,e2⟩:=h2
  exact⟨o,ck.keep a hm o e1,e2⟩
 obtain⟨vs0,t0,hd0,hv0⟩:=hoc
 refine PySem.W.kla_callFunE hr.depth ef rfl S.co S.gen rfl ⟨c,oc,vs0,t0,rfl,ec,hd0,hv0⟩ ?_
 rw[hbind us hul]
 have ndP:ps.Nodup:=by rw[← S.pre];exact S.nd.sublist (List.take_sublist _ _)
 refine wpAny_pure (wpAny_newFunctionEnv S.nocell (fun y hy=>S.par _ (List.of_mem_zip hy).1) (fun h₁ hns hsb=>⟨lim.fresh _ hsb,?_⟩) S.kind)
 show codeAny _ _ (.expr body (envX qual scope s'.heap.objs.size f (.ref c) cl)) _ _
 have hk₁:∀ b o,s'.heap.get? b=some o→h₁.get? b=some o:=fun b o e=>hsb.extBut b o (Nat.ne_of_lt (Heap.lt_size e)) (Heap.get?_push_of_some _ e)
 obtain⟨te,hte,hq⟩:=hbody A outer s' H' vs Q (hr.deeper _) hsp
 have I:Inv (cxLam P w K mg base N qual scope f (.ref c) cl A outer s' H') [] (vs.map some++fv.map some) H' { s' with heap:=h₁,toks:=s'.toks+(ps.zip us).length }:=by
  have noA:∀ b:Addr,b∉(cxLam P w K mg base N qual scope f (.ref c) cl A outer s' H').ex:=fun b z=>absurd (show b∈([]:List Addr) from z) (by simp)
  refine⟨⟨e0.mod,S.kind,rfl,rfl,Nat.le_refl _,fun y z a h1 h2=>?_,fun y hy=>?_,fun y a h _=>absurd (show (false:Bool)=true from h) Bool.false_ne_true,fun _=>hr.hd,Around.frames_deeper e0.frames,.inr ⟨rfl,rfl⟩,fun b z=>absurd z (noA b),e0.bs,e0.bsz,fun b _ _=>noA b,fun b z=>absurd z (noA b),e0.funs,e0.frf⟩,
   rfl,e0.bare,Un.kept hk₁,⟨_,hns,fun i y v h1 h2 h3=>?_⟩,fun y a h=>?_,e0.hok.fresh (Nat.le_refl _),fun y a h=>?_,fun p hp=>absurd (show p∈([]:List (Addr×Obj)) from hp) (by simp),e0.hok.kept hk₁,?_⟩
  ·exact name_of_addr S.apart (PySem.mem_of_lookup h1) (PySem.mem_of_lookup h2)
  ·have hy:scope.names.lookup y=some .cell∨scope.names.lookup y=some .free:=hy
   rcases hy with hy | hy
   ·exact absurd rfl (S.nocell _ (PySem.mem_of_lookup hy))
   ·exact S.frees y hy
  ·by_cases hi:i < vs.length
   ·rw[List.getElem?_append_left (by simpa using hi),List.getElem?_map] at h2
    obtain⟨a,ha,e⟩:=Option.map_eq_some_iff.mp h2
    cases e
    obtain⟨u,hu,rv⟩:=r.get ha
    have hp:ps[i]? = some y:=by
     rw[← S.pre,List.getElem?_take_of_lt (by omega)];exact h1
    exact⟨u,rv,.inl ⟨S.par y (List.mem_of_getElem? hp),lookup_zip_rev ndP hp hu⟩⟩
   ·rw[List.getElem?_append_right (by simpa using hi),List.length_map,List.getElem?_map] at h2
    obtain⟨a,ha,e⟩:=Option.map_eq_some_iff.mp h2
    cases e
    obtain⟨hk,a,u,h4,h5,rv⟩:=hfv (i - vs.length) y v (by rw[show ps.length+(i - vs.length)=i by omega];exact h1) ha
    obtain⟨o,e1,e2⟩:=cellK h4 h5
    exact⟨u,rv,.inr ⟨.inr hk,a,h4,o,hk₁ _ _ e1,e2⟩⟩
  ·obtain⟨v,hv⟩:=hcells y a h
   obtain⟨o,e1,e2⟩:=cellK h hv
   exact⟨v,o,hk₁ _ _ e1,e2⟩
  ·exact ck.free a (List.mem_map.2 ⟨(y,a),PySem.mem_of_lookup h,rfl⟩)
  ·show _=N.length
   rw[List.length_append,List.length_map,List.length_map]
   omega
 refine PySem.W.kla_codeExpr (wpAny_mono (hte [] _ _ H' _ I hq) (fun u s'' ⟨v,H'',J,rv,q⟩=>⟨v,H'',J.os,J.bare,J.base,J.hok,rv,q⟩) fun e s'' z=>z.elim)
end
end L2
namespace L2
open PySem PySem.Spec PyProof.Rows TwZ
open PySem.W (envX kla_obj kla_fn CodeHd tabObj)
structure NestB (mg:Str→Option Value) (base:Heap) (c Pt:Addr):Prop where
 hd:CodeHd base c Pt
 bm:∃ bm ob,mg "__builtins__" = some (.ref bm)∧bm≠builtinsNs∧bm≠mainGlobals∧base.get? bm=some ob∧ob.cls=.type "module" ∧ ob.dict=some builtinsNs∧ob.data=.plain
noncomputable def dN (H:Hp) (Pt:Addr) (pos:Pos) (q:Str):Prop:=H Pt=some (.tbl #[])∨∃ (c:Addr) (oc:Obj) (vs:Array Value) (t:Tok),H Pt=some (.tbl #[rawInt pos.line,rawInt pos.col,.ref c])∧H c=some (.frz oc (.own c))∧oc.data=.fields vs∧vs[1]? = some (.str q t)
noncomputable def ButT (Pt:Addr) (H H':Hp):Prop:=∀ b o,b≠Pt→H b=some o→H' b=some o
theorem dN.same {H H':Hp}{Pt:Addr}{pos:Pos}{q:Str} (h:dN H Pt pos q) (s:aF H H'):dN H' Pt pos q:=by
 rcases h with h | ⟨c,oc,vs,t,h1,h2,h3⟩
 ·exact .inl (s _ _ h)
 ·exact .inr ⟨c,oc,vs,t,s _ _ h1,s _ _ h2,h3⟩
theorem dN.some {H:Hp}{Pt:Addr}{pos:Pos}{q:Str} (h:dN H Pt pos q):∃ ps,H Pt=some (.tbl ps):=by
 rcases h with h | ⟨c,oc,vs,t,h1,_⟩
 ·exact⟨_,h⟩
 ·exact⟨_,h1⟩
noncomputable def tLam (Pt:Addr) (pos:Pos) (q:Str) (mk:Addr→Value→Obj):TE:=fun σ H Q=>dN H Pt pos q∧∀ (f c:Addr) (oc:Obj) (ctv:Value) (H':Hp),H f=none→ButT Pt H H'→dN H' Pt pos q→FnH H' f c (mk c ctv) oc→(∃ vs t,oc.data=.fields vs∧vs[1]? = some (.str q t))→Q (.ref f) H'
section
variable {X:Cx}
theorem Inv.frzNew {pins:List (Addr×Obj)}{σ:St}{H:Hp}{s:Shared} (I:Inv X pins σ H s) {h':Heap}{tk:Nat}{ob:Obj} (k:∀ b o,s.heap.get? b=some o→h'.get? b=some o) (hsz:s.heap.objs.size≤h'.objs.size) (hfr:ob.isFreed=false:=by rfl) :
  Inv X pins σ (upd H h'.objs.size (.frz ob (.own h'.objs.size))) { s with heap:=h'.push ob,toks:=tk }:=
 I.laid (t':=tk) (a:=h'.objs.size) (fun b o e=>Heap.get?_push_of_some _ (k b o e)) hsz (show bU X.prog X.w _ _ _ (.frz ob (.own h'.objs.size)) from ⟨Heap.get?_push_size _ hfr,ob,Heap.get?_push_size _ hfr⟩)
theorem pe_lam {params:Arguments}{body:Expr}{scope:Scope}{pos:Pos}{c Pt:Addr}{clos:List (Str×Addr)} (hdef:defaultsOf params X.env=([],[])) (hcl:closureFor scope X.env=pure clos) (hcode:X.env.code=.ref c) (NB:NestB X.mg X.base c Pt) :
  PE X (.Lambda params body scope pos) (tLam Pt pos (X.env.qual ++ "<lambda>") fun c' ctv=>kla_obj "<lambda>" (X.env.qual ++ "<lambda>") params body scope clos ((X.mg "__name__").getD .none) c' ctv):=by
 intro pins s σ H Q I h
 obtain⟨tab,h⟩:=h
 refine PySem.W.kla_eval hdef ?_
 have tf:∃ ps,H Pt=some (.tbl ps):=tab.some
 have neB:∀ b o,X.base.get? b=some o→b≠Pt:=fun b o e z=>by
  obtain⟨ps,hp⟩:=tf
  have:=(I.bs b o e).2
  rw[z,hp] at this;cases this
 have hgs:=I.mod.glob.keeps I.bk
 have hgP:mainGlobals≠Pt:=by
  obtain⟨o,es,ep,e,_⟩:=I.mod.glob
  exact neB _ _ e
 obtain⟨bm,ob,b1,b2,b3,b4,b5,b6,b7⟩:=NB.bm
 have hb:s.heap.BuiltinsAt X.mg Pt:=⟨bm,ob,b1,b2,b3,neB _ _ b4,I.bk _ _ b4,b5,b6,b7⟩
 rcases tab with e | ⟨c',oc,vs,t,e,ec,d1,d2⟩
 ·have hP:s.heap.get? Pt=some (tabObj #[]):=(show bU X.prog X.w H s.heap Pt (.tbl #[]) from I.hok Pt _ e)
  refine PySem.W.kla_makeFunction (mg:=X.mg) hcl I.ok.glob hgs hcode (NB.hd.keeps I.bk) hP trivial rfl hgP hb fun c' ctv h' tk hx hge hlt hrec htb=>?_
  obtain⟨c2,oc,vs,t,e2,hoc,d1,d2⟩:=hrec
  cases e2
  have hcn:H c'=none:=I.hok.fresh hge
  have hPc:Pt≠c':=fun z=>by rw[← z,e] at hcn;cases hcn
  have htb':h'.get? Pt=some (tabObj #[rawInt pos.line,rawInt pos.col,.ref c']):=by simpa using htb
  have J:Inv X pins σ (upd (upd H Pt (.tbl #[rawInt pos.line,rawInt pos.col,.ref c'])) c' (.frz oc (.own c'))) { s with heap:=h',toks:=tk }:=by
   have oth:∀ {b:Addr}{o:HO},H b=some o→b≠Pt→upd (upd H Pt (.tbl #[rawInt pos.line,rawInt pos.col,.ref c'])) c' (.frz oc (.own c')) b=some o:=fun {b o} q hb=>by
    rw[aI (aJ q hcn),aI hb];exact q
   refine I.call (h':=h') (g':=s.gens) (d':=s.drawn) (t':=tk) (ch:=[]) ?_ ?_ I.bare (fun b z=>absurd z (by simp))
   ·refine⟨fun b o q n _ _=>hx b o (fun z=>by rw[z,e] at n;cases n) q,fun b o q n _ _=>⟨o.slots,hx b o (fun z=>by rw[z,e] at n;cases n) q⟩,fun b o q n _=>?_,fun b o q _=>?_,fun b xs q=>oth q (fun z=>by rw[z,e] at q;cases q),fun b o u q=>oth q (fun z=>by rw[z,e] at q;cases q),fun b ps q=>?_⟩
    ·rw[aI (Nat.ne_of_lt (Nat.lt_of_lt_of_le (Heap.lt_size q) hge)),aI (fun z=>by rw[z,e] at n;cases n)];exact n
    ·by_cases hb':b=Pt
     ·subst hb';exact⟨_,htb'⟩
     ·exact⟨o,hx b o hb' q⟩
    ·by_cases hb':b=Pt
     ·subst hb'
      rw[e] at q
      cases q
      exact⟨#[rawInt pos.line,rawInt pos.col,.ref c'],by rw[aI hPc,aB];simp⟩
     ·exact⟨#[],by rw[oth q hb'];simp⟩
   ·intro b u q
    by_cases hbc:b=c'
    ·subst hbc
     rw[aB] at q;cases q
     exact⟨hoc,oc,hoc⟩
    ·rw[aI hbc] at q
     by_cases hb':b=Pt
     ·subst hb'
      rw[aB] at q;cases q
      exact htb'
     ·rw[aI hb'] at q
      refine (I.hok b u q).stay (fun d o hd r=>hx d o (fun z=>?_) r) (fun d r=>oth r (fun z=>by rw[z,e] at r;cases r)) fun d xs r=>oth r (fun z=>by rw[z,e] at r;cases r)
      rcases hd with rfl | hd
      ·exact hb' z
      ·rw[z,e] at hd;cases hd
  have J2:=Inv.frzNew (tk:=tk) (ob:=kla_obj "<lambda>" (X.env.qual ++ "<lambda>") params body scope clos ((X.mg "__name__").getD .none) c' ctv) J (h':=h') (fun b o q=>q) (Nat.le_refl _)
  have hfc:c'≠h'.objs.size:=Nat.ne_of_lt hlt
  have hfP:Pt≠h'.objs.size:=Nat.ne_of_lt (Heap.lt_size htb')
  have hfn:H h'.objs.size=none:=I.hok.fresh (Nat.le_trans hge (Nat.le_of_lt hlt))
  refine⟨.ref h'.objs.size,_,J2,rfl,h h'.objs.size c' oc ctv _ hfn (fun b o hb' q=>?_) (.inr ⟨c',oc,vs,t,?_,?_,d1,d2⟩) ⟨aB,?_⟩ ⟨vs,t,d1,d2⟩⟩
  ·rw[aI (aJ q hfn),aI (aJ q hcn),aI hb'];exact q
  ·rw[aI hfP,aI hPc,aB]
  ·rw[aI hfc,aB]
  ·rw[aI hfc,aB]
 ·have hP:s.heap.get? Pt=some (tabObj #[rawInt pos.line,rawInt pos.col,.ref c']):=(show bU X.prog X.w H s.heap Pt (.tbl #[rawInt pos.line,rawInt pos.col,.ref c']) from I.hok Pt _ e)
  refine PySem.W.kla_makeFunctionHit (mg:=X.mg) hcl I.ok.glob hgs hcode (NB.hd.keeps I.bk) hP (show TriplesOk [rawInt pos.line,rawInt pos.col,.ref c'] from trivial) (show codeAmong pos [rawInt pos.line,rawInt pos.col,.ref c']=some (.ref c') by simp [codeAmong,rawInt]) hb fun ctv h' tk hk hsz=>?_
  have J2:=Inv.frzNew (tk:=tk) (ob:=kla_obj "<lambda>" (X.env.qual ++ "<lambda>") params body scope clos ((X.mg "__name__").getD .none) c' ctv) I (h':=h') hk hsz
  have hfn:H h'.objs.size=none:=I.hok.fresh hsz
  have s1:=aF.new (o:=HO.frz (kla_obj "<lambda>" (X.env.qual ++ "<lambda>") params body scope clos ((X.mg "__name__").getD .none) c' ctv) (.own h'.objs.size)) hfn
  exact⟨.ref h'.objs.size,_,J2,rfl,h h'.objs.size c' oc ctv _ hfn (fun b o _ q=>s1 _ _ q) (.inr ⟨c',oc,vs,t,s1 _ _ e,s1 _ _ ec,d1,d2⟩) ⟨aB,s1 _ _ ec⟩ ⟨vs,t,d1,d2⟩⟩
end
end L2
namespace L2
open PySem PySem.Spec PyProof.Rows TwZ
open PySem.W (envX kla_obj kla_fn CodeHd tabObj)
structure CellF (X:Cx) (σ:St) (H:Hp) (s:Shared):Prop where
 val:∀ (i:Nat) (x:Str) (v:V),X.N[i]? = some x→σ[i]? = some (some v)→X.env.scope.names.lookup x=some .cell→∃ c u,X.env.cells.lookup x=some c∧s.heap.IsCell c (some u)∧aY v u
 cell:∀ x c,X.env.cells.lookup x=some c→∃ v,s.heap.IsCell c v
 out:∀ x c,X.env.cells.lookup x=some c→H c=none∧c∉frs X.stack∧c < s.heap.objs.size
 inj:∀ x y c,X.env.cells.lookup x=some c→X.env.cells.lookup y=some c→x=y
section
variable {X:Cx}{CX:CXT}{k:Nat}{f:Addr}{fd:FuncData}{ps:List Str}{sp:SpS}{E:XK}{x:Str}{p pos:Pos}{e:Expr}{es:List Expr}{t:TA}
theorem Inv.cellF {pins:List (Addr×Obj)}{σ:St}{H:Hp}{s:Shared} (I:Inv X pins σ H s) (hstk:X.stack=X.env::X.outer) (hfr:X.env.frame=some X.env.locals) (hfn:∀ x,X.fn x=true):CellF X σ H s:=by
 refine⟨fun i x v h1 h2 h3=>?_,I.cell,fun x c hc=>⟨I.freeC x c hc,fun z=>?_,?_⟩,I.ok.inj⟩
 ·obtain⟨m,hn,hl⟩:=I.loc
  obtain⟨u,r,l⟩:=hl i x v h1 h2 (.inr (.inl h3))
  rcases l with ⟨hk,_⟩ | ⟨_,c,hc,hcell⟩
  ·have hk:X.env.scope.names.lookup x=some .local:=hk
   rw[h3] at hk;cases hk
  ·exact⟨c,u,hc,hcell,r⟩
 ·obtain⟨v,o,e1,e2⟩:=I.cell x c hc
  rw[hstk] at z
  unfold frs at z
  rw[List.filterMap_cons_some hfr] at z
  rcases List.mem_cons.1 z with z | z
  ·obtain⟨m,⟨oL,es,ep,eL,dL,_⟩,_⟩:=I.loc
   rw[← z,e1] at eL
   cases eL
   rw[e2] at dL;cases dL
  ·have h1:=I.ok.cab x c (hfn x) hc
   obtain⟨_,⟨ob,hb,_⟩⟩:=I.ok.funs.mem (show c∈frs X.outer from z)
   exact absurd (Nat.lt_of_lt_of_le (Heap.lt_size hb) h1) (Nat.lt_irrefl _)
 ·obtain⟨v,o,e1,e2⟩:=I.cell x c hc
  exact Heap.lt_size e1
noncomputable def tCallS (X:Cx) (sp:SpS) (E:XK) (t:TA):TE:=fun σ H Q=>t σ H fun vs H1=>∀ s1:Shared,CellF X σ H1 s1→sp s1 X.stack vs H1 Q E
theorem pe_callS (F:FnOkS X.prog X.w X.K X.mg X.base CX k f fd ps sp) (hr:Room k X.A) (hg:Gl X x) (hm:X.mg x=some (.ref f)) (hk:PySem.W.keepIn X.K (.ref f)=true) (hb:Binds X.K fd ps []) (hx:Passes CX X E)
  (hstk:X.stack=X.env::X.outer) (hfr:X.env.frame=some X.env.locals) (hfn:∀ x,X.fn x=true)
  (ha:PA X (e::es) t) (hdb:(x == ("__debug__" : Str))=false:=by decide) (he:starEach (e::es) X.env=(false,eval e X.env)::starEach es X.env:=by rfl) (hpl:(backTo pos (starEach es X.env)).any (·.1)=false:=by rfl) :
  PE X (.Call (.Name x p) (e::es) [] pos) (tCallS X sp E t):=by
 intro pins s σ H Q I h
 refine wpAny_Call_Name_kw (ld_glob I hg hm ?_ hdb)
 refine PySem.W.callWith_K (h₀:=X.base) I.ok.mod.kin hk (cI (ha pos pins s σ H _ I h) fun us s1 ⟨vs,H1,I1,r,q⟩=>⟨I1.kIn,?_⟩) he hpl
 have q1:=q s1 (I1.cellF hstk hfr hfn)
 have hl:us.length=ps.length:=by rw[← r.length];exact F.len _ _ _ _ _ _ q1
 have hb1:=hb s1 us I1.kIn (by rw[List.append_nil];exact hl)
 rw[List.append_nil] at hb1
 refine wpAny_call (codeAny_mono (F.run X.A X.stack s1 H1 ⟨us,[]⟩ us vs Q E hr I1.env0 hb1 r q1) fun r s' hq=>?_)
 cases r with
 | error e=>exact hx pins σ H1 s1 e s' I1 hq
 | ok fl=>
  cases fl with
  | ret u=>exact I1.after hq
  | next=>exact False.elim hq
  | brk=>exact False.elim hq
  | cont=>exact False.elim hq
end
structure CalleeS (P:Program) (w:World) (K:PySem.W.Frag) (mg:Str→Option Value) (base:Heap) (x:Str) (ps:List Str) (k:Nat) (sp:SpS) (f:Addr) (fd:FuncData):Prop where
 ok:FnOkS P w K mg base (CXR P w) k f fd ps sp
 mg:mg x=some (.ref f)
 kp:PySem.W.keepIn K (.ref f)=true
 bd:Binds K fd ps []
section
variable {P:Program}{w:World}{K:PySem.W.Frag}{mg:Str→Option Value}{base:Heap}
theorem Fun.okS {x qual:Str}{st:Stmt}{f:Addr}{fd:FuncData}{N ps:List Str}{k:Nat}{sp:SpS} (F:Fun K x qual st f fd) (S:FnScope N ps (aL st)) (len:∀ s o vs H Q E,sp s o vs H Q E→vs.length=ps.length)
  (hbody:∀ (cdv:Value) (A:Around) (outer:List Env) (s:Shared) (H:Hp) (vs:List V) (Q:VK) (E:XK),Room k (A.deeper (envOfC qual (aL st) s.heap.objs.size f cdv))→Env0 P w K mg base A outer s H→sp s outer vs H Q E→
   Leaves (cxOf (CXR P w) P w K mg base N qual (aL st) f cdv A outer s H E) E→
   ∃ t,PSs (cxOf (CXR P w) P w K mg base N qual (aL st) f cdv A outer s H E) (b0 st) t∧t { nx:=fun _ H'=>Q .non H',rt:=Q } (start N vs) H):FnOkS P w K mg base (CXR P w) (k+1) f fd ps sp:=by
 obtain⟨oc,od,kV,doc,pm,an,cdv,ct,osl,rfl,lk,hcd⟩:=F.ex
 exact fn_ofS lk hcd S len fun A outer s H vs Q E hr e0 hsp=>hbody cdv A outer s H vs Q E hr e0 hsp ⟨rfl,rfl,rfl,fun _ _ h=>h⟩
end
end L2
namespace L2
open PySem PySem.Spec PyProof.Rows TwZ
open PySem.W (CodeHd tabObj OpenLaw)
noncomputable def OnlyT (tabs:List (Addr×Addr)) (H:Hp):Prop:=∀ b,H b=none∨(∃ o xs,H b=some (.frz o (.lst xs)))∨∃ q∈tabs,b=q.2
theorem law_callT {P:Program}{w:World}{K:PySem.W.Frag}{mg mb:Str→Option Value}{CX:CXT}{k:Nat}{fa a:Addr}{fd:FuncData}{x:Str}{sp:Sp}{s₁:Shared}{vs:List Value}{ns:List Int}{tabs:List (Addr×Addr)}
  (KX:K.In s₁.heap) (hns:s₁.heap.Ns mainGlobals mg) (hb:s₁.heap.Ns builtinsNs mb) (hbb:∀ x:Str,x ≠ "__name__" → mb x=bootBuiltins x) (hlim:s₁.heap.NoLimit) (hg:s₁.gens = #[])
  (hbm:∃ bm ob,mg "__builtins__" = some (.ref bm)∧bm≠builtinsNs∧s₁.heap.get? bm=some ob∧ob.cls=.type "module" ∧ ob.dict=some builtinsNs∧ob.data=.plain)
  (hT:∀ q∈tabs,s₁.heap.get? q.2=some (tabObj #[])) (hC:∀ q∈tabs,CodeHd s₁.heap q.1 q.2) (hKt:∀ q∈tabs,K.lookup q.2=none)
  (ha:s₁.heap.get? a=some { cls:=.type "list",data:=.seq vs.toArray }) (hi:IntsAre vs ns) (hl:ns.length≤sizeLine) (hr:Room k callerA)
  (F:∀ base:Heap,K.In base→base.Ns mainGlobals mg→(∀ q∈tabs,NestB mg base q.1 q.2)→FnOk P w K mg base CX k fa fd [x] sp) (hbind:∀ (s:Shared) (u:Value),BindsTo s fd ⟨[u],[]⟩ [(x,u)])
  (hsp:∀ H:Hp,OnlyT tabs H→bZ K H a (ns.map V.int)→(∀ q∈tabs,H q.2=some (.tbl #[]))→sp [.ref a] H (fun v _=>v=.bl true) fun _ _ _=>False)
  (hCX:∀ H e s',CX [] H s₁ (fun _ _ _=>False) e s'→False) :
  codeAny (model P w) callerA (.call (.ref fa) ⟨[.ref a],[]⟩) (fun r s'=>r=.ok (.ret (.bool true))∧OldK s₁.heap s'.heap∧s'.os=s₁.os∧AllBare s'.gens) s₁:=by
 have rv:=vals_ints hi
 have lenV:=hi.length
 have aT:∀ q∈tabs,q.2≠a:=fun q hq z=>by
  have:=hT q hq
  rw[z,ha] at this;cases this
 have core:∀ H:Hp,OnlyT tabs H→bZ K H a (ns.map V.int)→HOk P w H s₁.heap→(∀ b,H b≠none→b=a∨∃ q∈tabs,b=q.2)→(H a≠none→K.lookup a=none)→(∀ q∈tabs,H q.2=some (.tbl #[]))→
   codeAny (model P w) callerA (.call (.ref fa) ⟨[.ref a],[]⟩) (fun r s'=>r=.ok (.ret (.bool true))∧OldK s₁.heap s'.heap∧s'.os=s₁.os∧AllBare s'.gens) s₁:=by
  intro H hO hS hok hA hK hTb
  have base_of:∀ {b:Addr}{o:Obj},s₁.heap.get? b=some o→H b=none→(hidT s₁.heap H).get? b=some o:=fun e n=>hidT_get e n
  have noO:∀ {b:Addr}{o:Obj},s₁.heap.get? b=some o→o≠{ cls:=.type "list",data:=.seq vs.toArray }→o≠tabObj #[]→H b=none:=fun {b o} e d1 d2=>by
   cases q:H b with
   | none=>rfl
   | some u=>
    rcases hA b (by rw[q];simp) with e' | ⟨q',hq',e'⟩
    ·subst e'
     rw[ha] at e;exact absurd (Option.some.inj e).symm d1
    ·subst e'
     rw[hT q' hq'] at e;exact absurd (Option.some.inj e).symm d2
  have nsK:∀ {b:Addr}{m:Str→Option Value},s₁.heap.Ns b m→(hidT s₁.heap H).Ns b m:=fun {b m} ⟨o,es,ep,e,d,r⟩=>⟨o,es,ep,base_of e (noO e (fun z=>by rw[z] at d;cases d) (fun z=>by rw[z] at d;cases d)),d,r⟩
  have hKb:K.In (hidT s₁.heap H):=fun b o e=>base_of (KX b o e) (by
   cases q:H b with
   | none=>rfl
   | some u=>
    rcases hA b (by rw[q];simp) with e' | ⟨q',hq',e'⟩
    ·subst e'
     rw[hK (by rw[q];simp)] at e;cases e
    ·subst e'
     rw[hKt q' hq'] at e;cases e)
  have hM:Mod K mg (hidT s₁.heap H):=⟨hKb,nsK hns,⟨mb,nsK hb,hbb⟩,let ⟨mc,h1,h2⟩:=hlim;⟨mc,nsK h1,h2⟩⟩
  have e0:Env0 P w K mg (hidT s₁.heap H) callerA [] s₁ H:=⟨rfl,hM,fun b o e=>of_hidT e,Nat.le_of_eq (hidT_size _ _),trivial,fun b hb=>absurd (show b∈([]:List Addr) from hb) (by simp),hok,.of_eq hg⟩
  have hN:∀ q∈tabs,NestB mg (hidT s₁.heap H) q.1 q.2:=fun q hq=>by
   obtain⟨o,vs',file,tf,flags,tg,inF,text,tt,e1,r1,r2,r3,r4,r5,r6,r7,r8,hne⟩:=hC q hq
   obtain⟨bm,ob,b1,b2,b3,b4,b5,b6⟩:=hbm
   refine⟨⟨o,vs',file,tf,flags,tg,inF,text,tt,base_of e1 (noO e1 (fun z=>absurd (r1.symm.trans (congrArg Obj.cls z)) (by show ¬ (Value.type "code" = Value.type "list");decide)) (fun z=>absurd (r1.symm.trans (congrArg Obj.cls z)) (by decide))),r1,r2,r3,r4,r5,r6,r7,r8,hne⟩,bm,ob,b1,b2,fun z=>?_,base_of b3 (noO b3 (fun z=>absurd (b4.symm.trans (congrArg Obj.cls z)) (by show ¬ (Value.type "module" = Value.type "list");decide)) (fun z=>absurd (b4.symm.trans (congrArg Obj.cls z)) (by decide))),b4,b5,b6⟩
   obtain⟨og,es,ep,eg,dg,_⟩:=hns
   rw[z,eg] at b3;cases b3
   rw[dg] at b6;cases b6
  refine codeAny_mono ((F _ hKb (nsK hns) hN).run callerA [] s₁ H ⟨[.ref a],[]⟩ [.ref a] [.ref a] _ _ hr e0 (hbind s₁ (.ref a)) (.cons rfl .nil) (hsp H hO hS hTb)) fun r s' h=>?_
  cases r with
  | error e=>exact (hCX H e s' h).elim
  | ok fl=>
   cases fl with
   | next=>exact False.elim h
   | brk=>exact False.elim h
   | cont=>exact False.elim h
   | ret u=>
    obtain⟨v,H',os,bare,un,hok',r',q⟩:=h
    have q':v=.bl true:=q
    subst q'
    obtain rfl:u=Value.bool true:=r'
    have nofs:∀ b:Addr,b∉frs ([]:List Env):=fun b z=>absurd (show b∈([]:List Addr) from z) (by simp)
    have fin:∀ b o,s₁.heap.get? b=some o→s'.heap.get? b=some o∨∃ q∈tabs,b=q.2∧o=tabObj #[]∧∃ ps,s'.heap.get? b=some (tabObj ps):=fun b o e=>by
     cases q:H b with
     | none=>exact .inl (un.keep b o e q (nofs b) (by simp))
     | some u=>
      rcases hO b with z | ⟨ob,xs,z⟩ | ⟨q',hq',e'⟩
      ·rw[q] at z;cases z
      ·have z2:=un.frzs b ob _ z
       obtain⟨e1,_⟩:=hok b _ z
       obtain⟨e2,_⟩:=hok' b _ z2
       rw[e] at e1;cases e1
       exact .inl e2
      ·subst e'
       obtain⟨more,z2⟩:=un.tbls _ _ (hTb q' hq')
       have e2:s'.heap.get? q'.2=some (tabObj (#[]++more)):=hok' _ _ z2
       rw[hT q' hq'] at e
       exact .inr ⟨q',hq',rfl,(Option.some.inj e).symm,_,e2⟩
    refine⟨rfl,⟨fun b o e=>?_,fun b o e=>?_⟩,os,bare⟩
    ·rcases fin b o e with z | ⟨q',hq',rfl,rfl,ps,z⟩
     ·exact .inl z
     ·exact .inr (.inl ⟨((hC q' hq').tab (hT q' hq')).isCodeTable,rfl,#[],ps,rfl,by rw[Array.empty_append];exact z⟩)
    ·rcases fin b o e with z | ⟨q',hq',rfl,rfl,ps,z⟩
     ·exact⟨o,z⟩
     ·exact⟨_,z⟩
 have tb:∀ (G:Hp),(∀ b u,G b=some u→bU P w G s₁.heap b u)→(∀ b,G b≠none→b=a)→(G a≠none→∃ o xs,G a=some (.frz o (.lst xs)))→
   HOk P w (fun b=>if b∈tabs.map (·.2) then some (.tbl #[]) else G b) s₁.heap:=fun G hG hA hL b u z=>by
  by_cases hb':b∈tabs.map (·.2)
  ·have z':some (HO.tbl #[])=some u:=by rw[← z];exact (if_pos hb').symm
   cases z'
   obtain⟨q,hq,rfl⟩:=List.mem_map.1 hb'
   exact hT q hq
  ·have z':G b=some u:=by rw[← z];exact (if_neg hb').symm
   have e':=hA b (by rw[z'];simp)
   subst e'
   obtain⟨o,xs,e2⟩:=hL (by rw[z'];simp)
   rw[z'] at e2
   cases e2
   exact hG b _ z'
 have tIn:∀ q∈tabs,q.2∈tabs.map (·.2):=fun q hq=>List.mem_map.2 ⟨q,hq,rfl⟩
 have aN:a∉tabs.map (·.2):=fun z=>by
  obtain⟨q,hq,e⟩:=List.mem_map.1 z
  exact aT q hq e
 cases hk:K.lookup a with
 | some o=>
  have e:=KX a o hk
  rw[ha] at e
  cases e
  refine core (fun b=>if b∈tabs.map (·.2) then some (.tbl #[]) else none) (fun b=>?_) (.inr ⟨_,vs.toArray,_,hk,rfl,rfl,rfl,by rw[List.size_toArray,lenV];exact hl,by simpa using rv⟩) (tb (fun _=>none) (fun b u z=>by have z':(none:Option HO)=some u:=z;cases z') (fun b z=>absurd rfl z) fun z=>absurd rfl z) (fun b z=>?_) (fun z=>absurd (if_neg aN) z) fun q hq=>if_pos (tIn q hq)
  ·by_cases hb':b∈tabs.map (·.2)
   ·obtain⟨q,hq,e⟩:=List.mem_map.1 hb'
    exact .inr (.inr ⟨q,hq,e.symm⟩)
   ·exact .inl (if_neg hb')
  ·by_cases hb':b∈tabs.map (·.2)
   ·obtain⟨q,hq,e⟩:=List.mem_map.1 hb'
    exact .inr ⟨q,hq,e.symm⟩
   ·exact absurd (if_neg hb') z
 | none=>
  refine core (fun b=>if b∈tabs.map (·.2) then some (.tbl #[]) else if b=a then some (.frz { cls:=.type "list",data:=.seq vs.toArray } (.lst (ns.map V.int))) else none) (fun b=>?_) (.inl (.inr ⟨{ cls:=.type "list",data:=.seq vs.toArray },(if_neg aN).trans (if_pos rfl)⟩))
   (tb (fun b=>if b=a then some (.frz { cls:=.type "list",data:=.seq vs.toArray } (.lst (ns.map V.int))) else none) (fun b u z=>?_) (fun b z=>?_) fun _=>⟨_,_,if_pos rfl⟩) (fun b z=>?_) (fun _=>hk) fun q hq=>if_pos (tIn q hq)
  ·by_cases hb':b∈tabs.map (·.2)
   ·obtain⟨q,hq,e⟩:=List.mem_map.1 hb'
    exact .inr (.inr ⟨q,hq,e.symm⟩)
   ·by_cases hb2:b=a
    ·exact .inr (.inl ⟨_,_,(if_neg hb').trans (if_pos hb2)⟩)
    ·exact .inl ((if_neg hb').trans (if_neg hb2))
  ·by_cases hb2:b=a
   ·have z':=(if_pos hb2).symm.trans z
    cases z'
    subst hb2
    exact⟨ha,by rw[List.length_map];exact hl,vs,_,rv,ha⟩
   ·have z':=(if_neg hb2).symm.trans z
    cases z'
  ·by_cases hb2:b=a
   ·exact hb2
   ·exact absurd (if_neg hb2) z
  ·by_cases hb':b∈tabs.map (·.2)
   ·obtain⟨q,hq,e⟩:=List.mem_map.1 hb'
    exact .inr ⟨q,hq,e.symm⟩
   ·by_cases hb2:b=a
    ·exact .inl hb2
    ·exact absurd ((if_neg hb').trans (if_neg hb2)) z
theorem walk_ofT {l:OpenLaw}{n k:Nat}{q:Program}{loose:List Str}{XP:(Str→Option Value)→Heap→Prop}{YP:World→Heap→Prop}{d:DefRec}{K:Params→PySem.W.Frag}{sp:PySem.W.Frag→List (Addr×Addr)→Sp}{x:Str}{ts:List Addr}
  (hn:l.most=some n) (hn2:n≤sizeLine) (hdf:d.params.defaults=[]) (hr:Room k callerA)
  (hY:∀ (w:World) (h:Heap),YP w h→(K w.params).In h) (hYt:∀ (w:World) (h:Heap),YP w h→∀ P∈ts,h.get? P=some (tabObj #[]))
  (F:∀ (w:World) (mg:Str→Option Value) (fa:Addr) (h:Heap),(K w.params).In h→h.Ns mainGlobals mg→mg d.name=some (.ref fa)→
   ∃ (fd:FuncData) (tabs:List (Addr×Addr)),(∀ q∈tabs,q.2∈ts∧(K w.params).lookup q.2=none∧PySem.W.codeHdIn (K w.params) q.1 q.2=true)∧(∀ (s:Shared) (u:Value),BindsTo s fd ⟨[u],[]⟩ [(x,u)])∧
    ∀ base:Heap,(K w.params).In base→base.Ns mainGlobals mg→(∀ q∈tabs,NestB mg base q.1 q.2)→FnOk l.prog w (K w.params) mg base CX0 k fa fd [x] (sp (K w.params) tabs))
  (hsp:∀ (K:PySem.W.Frag) (tabs:List (Addr×Addr)) (H:Hp) (a:Addr) (ns:List Int),ns.length≤n→OnlyT tabs H→bZ K H a (ns.map V.int)→(∀ q∈tabs,H q.2=some (.tbl #[]))→sp K tabs [.ref a] H (fun v _=>v=.bl true) fun _ _ _=>False) :
  PySem.W.WalkO q loose XP YP l.row.toRowW d [] (fun f vs=>PySem.call f vs):=by
 refine Att.attach_call hn hdf fun w s₀ s₁ mg mb fa o pm cd doc a vs ns G Y ho hd hcd hmg hobj hints hlen hg=>?_
 have KX:=hY w _ Y
 obtain⟨fd,tabs,ht,hb,hF⟩:=F w mg fa _ KX G.T.g hmg
 exact law_callT KX G.T.g G.T.b G.T.builtins G.T.nolimit hg G.T.bmain (fun q hq=>hYt w _ Y q.2 (ht q hq).1) (fun q hq=>PySem.W.codeHd_of_K KX (ht q hq).2.2) (fun q hq=>(ht q hq).2.1) hobj hints (Nat.le_trans hlen hn2) hr hF hb
  (fun H hO hS hT=>hsp _ tabs H a ns hlen hO hS hT) fun H e s' z=>z
end L2
namespace Tw
open PySem L2
section
variable {P:Program}{w:World}{K:PySem.W.Frag}{α:Type}{dD:α→L2.D}{S:L2.D}
structure BfsAt (P:Program) (w:World) (K:PySem.W.Frag) (dD:α→L2.D) (S:L2.D) (H:Hp) (fl sd:Addr) (us:List V) (kvs:List (L2.D×V)) (fs:Fs α):Prop where
 lst:H fl=some (.lst us)
 its:Paired (fun (p:α×List Int) v=>KeyD K H S (dD p.1) v) fs us
 dic:dR P w K H sd S kvs
 row:Paired (fun (p:α×List Int) (q:L2.D×V)=>dD p.1=q.1∧∃ a,q.2=.ref a∧a≠fl∧H a=some (.lst (p.2.map V.int))) fs kvs
variable {H H':Hp}{fl sd:Addr}{us:List V}{kvs:List (L2.D×V)}{fs:Fs α}
theorem BfsAt.ne (B:BfsAt P w K dD S H fl sd us kvs fs):fl≠sd:=fun z=>by
 have h:=B.lst
 rcases B.dic with ⟨e,_⟩ | ⟨xs,e,_⟩
 ·rw[z,e] at h;cases h
 ·rw[z,e] at h;cases h
theorem BfsAt.rne (B:BfsAt P w K dD S H fl sd us kvs fs) {a:Addr}{xs:List V} (h:H a=some (.lst xs)):a≠sd:=fun z=>by
 rcases B.dic with ⟨e,_⟩ | ⟨xs,e,_⟩
 ·rw[z,e] at h;cases h
 ·rw[z,e] at h;cases h
theorem BfsAt.same (B:BfsAt P w K dD S H fl sd us kvs fs) (s:aF H H'):BfsAt P w K dD S H' fl sd us kvs fs:=
 ⟨s _ _ B.lst,Paired.mapP B.its fun _ _ h=>h.mono s.ts,B.dic.same s,Paired.mapP B.row fun _ _ ⟨h1,a,h2,h3,h4⟩=>⟨h1,a,h2,h3,s _ _ h4⟩⟩
theorem Paired.get' {α β:Type}{F:α→β→Prop}:∀ {l₁:List α}{l₂:List β},Paired F l₁ l₂→∀ {i:Nat}{a:α},l₁[i]? = some a→∃ b,l₂[i]? = some b∧F a b:=by
 intro l₁ l₂ r
 induction r with
 | nil=>intro i a h;simp at h
 | cons h t ih=>
  intro i a e
  cases i with
  | zero=>cases e;exact⟨_,rfl,h⟩
  | succ i=>exact ih e
theorem Paired.snoc {α β:Type}{F:α→β→Prop}{l₁:List α}{l₂:List β}{a:α}{b:β} (r:Paired F l₁ l₂) (h:F a b):Paired F (l₁++[a]) (l₂++[b]):=by
 induction r with
 | nil=>exact .cons h .nil
 | cons h' t ih=>exact .cons h' ih
theorem BfsAt.val (B:BfsAt P w K dD S H fl sd us kvs fs) (k:L2.D):(d9 dD fs k=none∧dF kvs k=none)∨∃ r a,d9 dD fs k=some r∧dF kvs k=some (.ref a)∧a≠fl∧H a=some (.lst (r.map V.int)):=by
 have r:=B.row
 clear B
 unfold d9 dF
 induction r with
 | nil=>exact .inl ⟨rfl,rfl⟩
 | @cons p q ps qs h t ih=>
  obtain⟨e,a,e2,n,hl⟩:=h
  by_cases c:dD p.1=k
  ·refine .inr ⟨p.2,a,?_,?_,n,hl⟩
   ·rw[List.find?_cons_of_pos (by simpa using c)];rfl
   ·rw[List.find?_cons_of_pos (by simpa using e ▸ c)];rw[Option.map_some,e2]
  ·rw[List.find?_cons_of_neg (by simpa using c),List.find?_cons_of_neg (by rw[← e];simpa using c)]
   exact ih
theorem BfsAt.isSome (B:BfsAt P w K dD S H fl sd us kvs fs) (k:L2.D):(dF kvs k).isSome=(d9 dD fs k).isSome:=by
 rcases B.val k with ⟨h1,h2⟩ | ⟨r,a,h1,h2,_⟩
 ·rw[h1,h2];rfl
 ·rw[h1,h2];rfl
theorem BfsAt.lenU (B:BfsAt P w K dD S H fl sd us kvs fs):us.length=fs.length:=(Paired.length B.its).symm
theorem BfsAt.lenK (B:BfsAt P w K dD S H fl sd us kvs fs):kvs.length=fs.length:=(Paired.length B.row).symm
theorem BfsAt.put {d:α}{r:List Int}{v:V}{ra:Addr} (B:BfsAt P w K dD S H fl sd us kvs fs) (hn:(d9 dD fs (dD d)).isSome=false) (hk:KeyD K H S (dD d) v) (hr:H ra=some (.lst (r.map V.int))) (hne:ra≠fl) (bt:eI sd H H') (dd:dR P w K H' sd S (putK kvs (dD d) (.ref ra))) :
  BfsAt P w K dD S (upd H' fl (.lst (us++[v]))) fl sd (us++[v]) (kvs++[(dD d,.ref ra)]) (fs++[(d,r)])∧Mut (H' fl):=by
 have mu:=B.dic.mut
 have ts1:=bt.ts (K:=K) mu
 have e1:H' fl=some (.lst us):=bt _ _ B.ne B.lst
 have mu2:Mut (H' fl):=by rw[e1];exact trivial
 have b2:eI fl H' (upd H' fl (.lst (us++[v]))):=eI.upd
 have ts2:=b2.ts (K:=K) mu2
 have hv:dF kvs (dD d)=none:=by
  have:=B.isSome (dD d)
  rw[hn] at this
  cases q:dF kvs (dD d) with
  | none=>rfl
  | some _=>rw[q] at this;cases this
 rw[putK_new _ hv] at dd
 refine⟨⟨aB,Paired.snoc (Paired.mapP B.its fun _ _ h=>(h.mono ts1).mono ts2) ((hk.mono ts1).mono ts2),dd.mono ts2 fun o e=>b2 _ _ (Ne.symm B.ne) e,Paired.snoc (Paired.mapP B.row fun p q ⟨h1,a,h2,h3,h4⟩=>⟨h1,a,h2,h3,b2 _ _ h3 (bt _ _ (B.rne h4) h4)⟩) ⟨rfl,ra,rfl,hne,b2 _ _ hne (bt _ _ (B.rne hr) hr)⟩⟩,mu2⟩
end
end Tw
namespace Tw
open PySem L2
theorem small1M' {n:Nat} (h:n≤10000000):n < sizeLine:=by rw[sizeLine_eq];omega
end Tw
namespace Tw
open PySem L2
section
variable {P:Program}{w:World}{K:PySem.W.Frag}{mg:Str→Option Value}{base:Heap}{c_TipError c_NoNet c_NoVessel c_TooLong c_TooMany c_TooMuch c_Nothing c_NoText c_NoRow:Addr}
variable {α:Type}{dD:α→L2.D}{nxt:α→Int→α}{fin:α→Int→Bool}{ok:α→Prop}{G:Hp→Prop}{S:L2.D}
noncomputable def spStep (K:PySem.W.Frag) (dD:α→L2.D) (nxt:α→Int→α) (fin:α→Int→Bool) (ok:α→Prop) (G:Hp→Prop) (most:Nat):Sp:=fun vs H Q _=>∃ (x:V) (d:α) (a:Nat),vs=[x,.int a]∧Is K H (dD d) x∧ok d∧a≤most∧G H∧
 ∀ p y H',aF H H'→bT K H' p [y,.bl (fin d a)]→Is K H' (dD (nxt d a)) y→Q (.ref p) H'
structure Goes (K:PySem.W.Frag) (dD:α→L2.D) (nxt:α→Int→α) (ok:α→Prop) (G:Hp→Prop) (S:L2.D) (most:Nat):Prop where
 next:∀ d (a:Nat),ok d→a≤most→ok (nxt d a)
 key:∀ d,ok d→∀ H v,Is K H (dD d) v→KeyD K H S (dD d) v
 stay:∀ H H',bJ K H H'→G H→G H'
noncomputable def spGoT (P:Program) (w:World) (K:PySem.W.Frag) (mg:Str→Option Value) (base:Heap) (cT:Addr) (dD:α→L2.D):SpS:=fun s outer vs H Q E=>∃ (nxt:α→Int→α) (fin:α→Int→Bool) (ok:α→Prop) (G:Hp→Prop) (S:L2.D) (x:V) (f c:Addr) (ob oc:Obj) (cl:List (Str×Addr)) (most lim:Nat) (first:α),
 vs=[x,.ref f,.int most,.int lim]∧1≤lim∧lim≤1000∧most≤1000∧Is K H (dD first) x∧ok first∧Goes K dD nxt ok G S most∧G H∧FnH H f c ob oc∧(∃ cls od fd sl,ob=⟨cls,od,.func fd,sl⟩)∧RunsS P w K mg base 6 f c ob oc cl (spStep K dD nxt fin ok G most) s∧
 (∀ c∈cl.map (·.2),H c=none∧c∉frs outer∧c < s.heap.objs.size∧∃ o,s.heap.get? c=some o)∧
 (∀ row fs,bfs dD nxt fin most lim first=.ends row fs→∀ p rl fl H',aF H H'→bT K H' p [.ref rl,.ref fl]→H' rl=some (.lst (row.map V.int))→H rl=none→row.length≤2000→Q (.ref p) H')∧
 (bfs dD nxt fin most lim first=.many→∀ H',aF H H'→E (.ref cT) none H')∧
 (∀ fs,bfs dD nxt fin most lim first=.on fs→∀ p fl us H',aF H H'→bT K H' p [.non,.ref fl]→H' fl=some (.lst us)→H fl=none→Paired (fun (p:α×List Int) v=>KeyD K H' S (dD p.1) v) fs us→(∀ q∈fs,ok q.1)→fs.length≤lim→Q (.ref p) H')
theorem sc_go_through:FnScope ["first","step","most","limit","found","rows","place","here","amount","row","behind","is_end"] ["first","step","most","limit"] (aL (bC 18)):=⟨rfl,rfl,rfl,by decide +kernel,rfl,by decide +kernel,by decide +kernel⟩
theorem ok_go_through {f:Addr}{fd:FuncData} (F:Fun K "go_through" "go_through" (bC 18) f fd) (T:Txt mg) (XC_TooMany:ExC K "TooMany" c_TooMany) :
  FnOkS P w K mg base (CXR P w) 7 f fd ["first","step","most","limit"] (spGoT P w K mg base c_TooMany dD):=by
 refine F.okS sc_go_through (fun s o vs H Q E h=>?_) (fun cdv A outer s H vs Q E hr e0 h L=>?_)
 ·obtain⟨nxt,fin,ok,G,S,x,f,c,ob,oc,cl,most,lim,first,rfl,_⟩:=h;rfl
 ·obtain⟨nxt,fin,ok,G,S,x,f',c,ob,oc,cl,most,lim,first,rfl,hl1,hl2,hm,hx,hok,gs,hG,hF,RF,RS,hc,kE,kM,kO⟩:=h
  have sc:=sc_go_through
  have RC:∀ c∈cl.map (·.2),H c=none∧c∉frs outer∧c∉([]:List Addr)∧c < s.heap.objs.size∧∃ o,s.heap.get? c=some o:=fun c hc'=>by
   obtain⟨h1,h2,h3⟩:=hc c hc'
   exact⟨h1,h2,by simp,h3⟩
  refine⟨_,(aD (ps_par3 (i:=4) (j:=5) (k:=6) rfl sc.nd rfl rfl rfl (by decide) (by decide) (by decide) rfl rfl rfl (aA (bD (aA (pv 0) aC)) (aA (pe_disp1K (P:=P) (w:=w) (K:=K) rfl rfl rfl hr.units (pv 0) (bD aC)) (aA aG aC))) rfl)
   (aD (ps_while PassesOwn.leaving (bR op_lt (pv 6) (bA (bQ (K:=K) rfl) rfl T.b_len PySem.boot_len (aA (pv 4) aC)) (bW _)) (aD (aS (i:=7) sc.nd rfl (Or.inl rfl) (aU (aM (K:=K) rfl) (pv 4) (pv 6) (fun _ _=>rfl)))
   (aD (dH PassesOwn.leaving rfl (cD rfl T.b_range (aA (aX cU (pv 2) aG) aC)) (aH (i:=8) sc.nd rfl (Or.inl rfl)) (aD (aS (i:=9) sc.nd rfl (Or.inl rfl) (aX op_cat (aU (ix_DK (P:=P) (w:=w) (K:=K) rfl rfl rfl hr.units) (pv 5) (pv 7) (fun _ _=>rfl)) (bD (aA (pv 8) aC))))
   (aD (cS (pe_callV RS RF (hr.mono (by decide)) RC (i:=1) rfl (.inl rfl) (aA (pv 7) (aA (pv 8) aC)) rfl rfl) (bO (K:=K) (n:=2) rfl rfl (aK (aH (i:=10) sc.nd rfl (Or.inl rfl)) (aK (aH (i:=11) sc.nd rfl (Or.inl rfl)) bL))))
   (aD (dP (pt_val (pv 11)) (aO (bV (bS (aA (pv 9) (aA (pv 4) aC))))) bX)
   (aO (dP (bR (op_ninDK (P:=P) (w:=w) (K:=K) rfl rfl rfl hr.units) (pv 10) (pv 5) (by rfl)) (aD (dP (bR op_ge (bA (bQ (K:=K) rfl) rfl T.b_len PySem.boot_len (aA (pv 4) aC)) (pv 3) (bW _)) (aO (ps_raise L rfl rfl XC_TooMany.exc XC_TooMany.ns PySem.F.excBase_ValueError (aA dI aC))) bX)
   (aD (ps_dputDK (P:=P) (w:=w) (K:=K) rfl rfl rfl hr.units (pv 5) (pv 10) (pv 9) rfl)
   (aO (cY (pe_bmK (K:=K) rfl PySem.F.plainAttrs_list PySem.F.slot_list_append PySem.F.type_list_append cJ (pv 4) (aA (pv 10) aC)))))) bX))))))
   (aO (ps_aug (i:=6) sc.nd rfl (Or.inl rfl) aG ip_add)))))
   (aO (bV (bS (aA pe_non (aA (pv 4) aC))))))),?_⟩
  refine⟨_,rfl,(show 1≤sizeLine by decide),fun fl hfl=>fun sd hsd=>⟨_,rfl,Nat.zero_le _,fun r0 hr0=>?_⟩⟩
  have nfs:fl≠sd:=aJ (show upd H fl (.lst [x]) fl=_ from aB) hsd
  have nsr:sd≠r0:=aJ (show upd (upd H fl (.lst [x])) sd (.dK []) sd=_ from aB) hr0
  have nfr:fl≠r0:=aJ (show upd (upd H fl (.lst [x])) sd (.dK []) fl=_ by rw[aI nfs];exact aB) hr0
  have s1:aF H (upd (upd (upd H fl (.lst [x])) sd (.dK [])) r0 (.lst [])):=((aF.new hfl).trans (aF.new hsd)).trans (aF.new hr0)
  have ff:H fl=none:=hfl
  have fsd:H sd=none:=(aF.new hfl).free hsd
  have g1:upd (upd (upd H fl (.lst [x])) sd (.dK [])) r0 (.lst []) fl=some (.lst [x]):=by rw[aI nfr,aI nfs];exact aB
  have g2:upd (upd (upd H fl (.lst [x])) sd (.dK [])) r0 (.lst []) sd=some (.dK []):=by rw[aI nsr];exact aB
  have g3:upd (upd (upd H fl (.lst [x])) sd (.dK [])) r0 (.lst []) r0=some (.lst []):=aB
  generalize upd (upd (upd H fl (.lst [x])) sd (.dK [])) r0 (.lst [])=H1 at s1 g1 g2 g3 ⊢
  have key1:=gs.key first hok H1 x (Is.mono s1.ts _ _ hx)
  refine⟨g2,S,dD first,key1,fun H3 b3 d3=>⟨_,_,_,rfl,?_⟩⟩
  have mu2:Mut (H1 sd):=by rw[g2];exact trivial
  have ts3:=b3.ts (K:=K) mu2
  have B3:BfsAt P w K dD S H3 fl sd [x] [(dD first,.ref r0)] [(first,[])]:=⟨b3 _ _ nfs g1,.cons (key1.mono ts3) .nil,d3,.cons ⟨rfl,r0,rfl,Ne.symm nfr,b3 _ _ (Ne.symm nsr) g3⟩ .nil⟩
  have s3:aF H H3:=fun b o e=>b3 b o (aJ e fsd) (s1 b o e)
  have F3:FnH H3 f' c ob oc:=hF.same s3
  have G3:G H3:=gs.stay _ _ s3.ts hG
  clear g1 g2 g3
  refine⟨fun m σ' H'=>aF H H'∧∃ (p:Nat) (fs:Fs α) (us:List V) (kvs:List (L2.D×V)) (v7 v8 v9 v10 v11:Option V),m=lim+1 - p∧BfsAt P w K dD S H' fl sd us kvs fs∧p≤fs.length∧fs.length≤lim∧(∀ q∈fs,ok q.1∧q.2.length < fs.length)∧bOut dD nxt fin most lim (lim+1 - p) p fs=bfs dD nxt fin most lim first∧
    σ'=[some x,some (.ref f'),some (.int most),some (.int lim),some (.ref fl),some (.ref sd),some (.int (p:Int)),v7,v8,v9,v10,v11],
   ⟨_,s3,0,_,_,_,_,_,_,_,_,rfl,B3,Nat.zero_le _,by simpa using hl1,fun q hq=>by rw[List.mem_singleton] at hq;subst hq;exact⟨hok,(show 0 < 1 by decide)⟩,rfl,rfl⟩,?_⟩
  clear B3 F3 G3 d3 ts3 b3 mu2
  rintro m σ' H4 ⟨s4,p,fs,us,kvs,v7,v8,v9,v10,v11,rfl,B4,hp,hlf,hoks,hb,rfl⟩
  have eul:=B4.lenU
  have lm:lim≤10000000:=by omega
  refine⟨_,rfl,_,rfl,fl,us,rfl,.inl (bZ.of B4.lst),_,_,rfl,rfl,_,rfl,ite2 (fun hT=>?_) fun hN=>?_⟩
  ·have hT:(p:Int) < us.length:=by simpa using hT
   have hpl:p < fs.length:=by omega
   refine⟨fun σ' H'=>aF H H'∧∃ (p':Nat) (fs:Fs α) (us:List V) (kvs:List (L2.D×V)) (v7 v8 v9 v10 v11:Option V),p'=p+1∧BfsAt P w K dD S H' fl sd us kvs fs∧p'≤fs.length∧fs.length≤lim∧(∀ q∈fs,ok q.1∧q.2.length < fs.length)∧bOut dD nxt fin most lim (lim+1 - p') p' fs=bfs dD nxt fin most lim first∧
    σ'=[some x,some (.ref f'),some (.int most),some (.int lim),some (.ref fl),some (.ref sd),some (.int (p':Int)),v7,v8,v9,v10,v11],fun σ' H' ⟨h1,p',fs',us',kvs',w7,w8,w9,w10,w11,h2,h⟩=>⟨lim+1 - p',by omega,h1,p',fs',us',kvs',w7,w8,w9,w10,w11,rfl,h⟩,?_⟩
   obtain⟨⟨d,r0'⟩,hq⟩:∃ q,fs[p]? = some q:=⟨_,List.getElem?_eq_getElem hpl⟩
   obtain⟨v,hv,kv⟩:=Paired.get' B4.its hq
   have okd:ok d:=(hoks _ (List.mem_of_getElem? hq)).1
   obtain⟨r,er⟩:=Option.isSome_iff_exists.mp (valF_mem (dD:=dD) (List.mem_of_getElem? hq))
   refine⟨_,rfl,_,rfl,.inl ⟨fl,us,(p:Int),v,rfl,rfl,bZ.of B4.lst,cL hv,?_⟩⟩
   refine⟨_,rfl,_,_,rfl,rfl,_,rfl,by omega,by omega,?_⟩
   rw[show ((most:Int)+1).toNat=most+1 by omega]
   refine dZ (lo:=0) (n:=most+1) (fun i σ' H'=>aF H H'∧∃ (fs:Fs α) (us:List V) (kvs:List (L2.D×V)) (v8 v9 v10 v11:Option V),BfsAt P w K dD S H' fl sd us kvs fs∧p < fs.length∧fs.length≤lim∧(∀ q∈fs,ok q.1∧q.2.length < fs.length)∧d9 dD fs (dD d)=some r∧r.length < fs.length∧
    bCont dD nxt fin most lim p (bIn dD nxt fin lim d r (most+1 - i) (i:Nat) fs)=bfs dD nxt fin most lim first∧KeyD K H' S (dD d) v∧
    σ'=[some x,some (.ref f'),some (.int most),some (.int lim),some (.ref fl),some (.ref sd),some (.int (p:Int)),some v,v8,v9,v10,v11]) ?_ ?_ ?_
   ·refine⟨s4,fs,us,kvs,_,_,_,_,B4,hpl,hlf,hoks,er,?_,?_,kv,rfl⟩
    ·obtain⟨q,hq1,hq2⟩:∃ q∈fs,q.2=r:=by
      unfold d9 at er
      obtain⟨q,e1,e2⟩:=Option.map_eq_some_iff.mp er
      exact⟨q,List.mem_of_find?_eq_some e1,e2⟩
     rw[← hq2];exact (hoks q hq1).2
    ·rw[← hb,show lim+1 - p=(lim - p)+1 by omega]
     exact (bOut_step hq er rfl).symm
   ·rintro i σ' H5 hi ⟨s5,fs,us,kvs,w8,w9,w10,w11,B5,hpl5,hlf5,hoks5,er5,hrl,hb5,kv5,rfl⟩
    rw[Int.zero_add]
    have eul5:=B5.lenU
    dsimp only [tSeq]
    rcases B5.val (dD d) with ⟨z,_⟩ | ⟨r',ra0,z1,z2,z3,z4⟩
    ·rw[er5] at z;cases z
    rw[er5] at z1;cases z1
    refine⟨_,rfl,_,rfl,sd,S,kvs,dD d,.ref ra0,rfl,B5.dic,kv5,z2,_,rfl,(show 1≤sizeLine by decide),fun la hla=>⟨ra0,la,r.map V.int,[.int i],rfl,rfl,aF.new hla _ _ z4,aB,by rw[List.length_map,sizeLine_eq];show r.length+1≤_;omega,fun ra hra=>?_⟩⟩
    have s6:aF H5 (upd (upd H5 la (.lst [.int i])) ra (.lst (r.map V.int++[.int i]))):=(aF.new hla).trans (aF.new hra)
    have g6:upd (upd H5 la (.lst [.int i])) ra (.lst (r.map V.int++[.int i])) ra=some (.lst ((r++[(i:Int)]).map V.int)):=by rw[aB,List.map_append];rfl
    have nra:ra≠fl:=fun z=>by
     have:=(aF.new hla).free hra
     rw[z,B5.lst] at this;cases this
    have fra:H ra=none:=(s5.trans (aF.new hla)).free hra
    generalize upd (upd H5 la (.lst [.int i])) ra (.lst (r.map V.int++[.int i]))=H6 at s6 g6 ⊢
    have B6:=B5.same s6
    have F6:FnH H6 f' c ob oc:=hF.same (s5.trans s6)
    refine⟨rfl,F6,_,rfl,_,rfl,F6,v,d,i,rfl,(kv5.mono s6.ts).is,okd,by omega,gs.stay _ _ (s5.trans s6).ts hG,fun pp y H7 s7 qp iy=>?_⟩
    refine⟨pp,_,rfl,qp,rfl,_,_,rfl,_,_,rfl,rfl,?_⟩
    have B7:=B6.same s7
    have ok':ok (nxt d i):=gs.next d i okd (by omega)
    have ky:=gs.key _ ok' H7 y iy
    have hla1:most+1 - i=(most - i)+1:=by omega
    rw[hla1] at hb5
    refine⟨_,rfl,_,rfl,?_⟩
    cases hf:fin d i with
    | true=>
     refine iteT ?_
     rw[bIn_end hf] at hb5
     have e5:bfs dD nxt fin most lim first=.ends (r++[(i:Int)]) fs:=hb5.symm
     refine⟨_,rfl,_,rfl,(show 2≤sizeLine by decide),fun tp htp=>?_⟩
     have s8:=aF.new (o:=HO.tup [.ref ra,.ref fl]) htp
     exact kE _ _ e5 tp ra fl _ (((s5.trans s6).trans s7).trans s8) (bT.of aB) (s8 _ _ (s7 _ _ g6)) fra (by rw[List.length_append,List.length_singleton];omega)
    | false=>
     refine iteF ?_
     refine⟨_,rfl,_,rfl,sd,S,kvs,dD (nxt d i),rfl,B7.dic,ky,_,rfl,?_⟩
     rw[B7.isSome]
     cases hv':(d9 dD fs (dD (nxt d i))).isSome with
     | true=>
      refine iteF ?_
      rw[bIn_old hf hv'] at hb5
      exact⟨(s5.trans s6).trans s7,fs,us,kvs,_,_,_,_,B7,hpl5,hlf5,hoks5,er5,hrl,by rw[show most+1 - (i+1)=most - i by omega];exact hb5,kv5.mono (s6.trans s7).ts,rfl⟩
     | false=>
      refine iteT ?_
      refine⟨_,rfl,fl,us,rfl,.inl (bZ.of B7.lst),_,rfl,_,_,rfl,rfl,_,rfl,ite2 (fun hT2=>?_) fun hN2=>?_⟩
      ·have hT2:(us.length:Int) ≥ lim:=by simpa using hT2
       rw[bIn_many hf hv' (by omega)] at hb5
       exact⟨by show 1≤100;decide,kM hb5.symm _ ((s5.trans s6).trans s7)⟩
      ·have hN2:¬ (us.length:Int) ≥ lim:=by simpa using hN2
       have hlt:fs.length < lim:=by omega
       rw[bIn_new hf hv' hlt] at hb5
       refine⟨_,rfl,_,rfl,_,rfl,sd,S,kvs,dD (nxt d i),rfl,B7.dic,ky,small1M' (by rw[B7.lenK];omega),fun H8 b8 d8=>?_⟩
       obtain⟨B9,mu8⟩:=B7.put hv' ky (s7 _ _ g6) nra b8 d8
       have hfl8:H8 fl=some (.lst us):=b8 _ _ B7.ne B7.lst
       refine⟨_,rfl,.inl ⟨rfl,_,bZ.of hfl8⟩,_,rfl,fl,us,_,rfl,rfl,hfl8,small1M' (by omega),?_⟩
       have s8:aF H H8:=fun b o e=>b8 b o (aJ e fsd) (((s5.trans s6).trans s7) b o e)
       have bt9:eI fl H8 (upd H8 fl (.lst (us++[y]))):=eI.upd
       refine⟨s8.put ff,_,_,_,_,_,_,_,B9,by rw[List.length_append];omega,by rw[List.length_append,List.length_singleton];omega,fun q hq=>?_,valF_snoc _ er5,by rw[List.length_append];omega,by rw[show most+1 - (i+1)=most - i by omega];exact hb5,((kv5.mono (s6.trans s7).ts).mono (b8.ts B7.dic.mut)).mono (bt9.ts mu8),rfl⟩
       rw[List.length_append,List.length_singleton]
       rcases List.mem_append.1 hq with hq | hq
       ·obtain⟨h1,h2⟩:=hoks5 q hq
        exact⟨h1,by omega⟩
       ·rw[List.mem_singleton] at hq
        subst hq
        exact⟨ok',by show (r++[(i:Int)]).length < _;rw[List.length_append,List.length_singleton];omega⟩
   ·
    rintro σ' H5 ⟨s5,fs,us,kvs,w8,w9,w10,w11,B5,hpl5,hlf5,hoks5,er5,hrl,hb5,kv5,rfl⟩
    rw[Nat.sub_self] at hb5
    refine⟨_,rfl,_,_,rfl,rfl,s5,p+1,fs,us,kvs,_,_,_,_,_,rfl,B5,hpl5,hlf5,hoks5,?_,rfl⟩
    rw[← hb5]
    show bOut dD nxt fin most lim (lim+1 - (p+1)) (p+1) fs=bOut dD nxt fin most lim (lim - p) (p+1) fs
    rw[show lim+1 - (p+1)=lim - p by omega]
  ·
   have hN:¬ (p:Int) < us.length:=by simpa using hN
   rw[bOut_stop (by omega)] at hb
   refine⟨_,rfl,(show 2≤sizeLine by decide),fun tp htp=>?_⟩
   have s8:=aF.new (o:=HO.tup [.non,.ref fl]) htp
   have B8:=B4.same s8
   exact kO fs hb.symm tp fl us _ (s4.trans s8) (bT.of aB) B8.lst ff B8.its (fun q hq=>(hoks q hq).1) hlf
end
end Tw
namespace L2
open PySem PySem.Spec PyProof.Rows TwZ
inductive G where
 | non
 | bl (b:Bool)
 | int (i:Int)
 | str (z:Str)
 | tup (gs:List G)
 | lst (gs:List G)
mutual
noncomputable def aV (K:PySem.W.Frag) (H:Hp):G→V→Prop
 | .non,v=>v=.non
 | .bl b,v=>v=.bl b
 | .int i,v=>v=.int i
 | .str z,v=>v=.str z
 | .tup gs,v=>∃ a xs,v=.ref a∧bT K H a xs∧dC K H gs xs
 | .lst gs,v=>∃ a xs,v=.ref a∧bZ K H a xs∧dC K H gs xs
noncomputable def dC (K:PySem.W.Frag) (H:Hp):List G→List V→Prop
 | [],vs=>vs=[]
 | g::gs,vs=>∃ v r,vs=v::r∧aV K H g v∧dC K H gs r
end
mutual
noncomputable def bG:G→G→Bool
 | .non,.non=>true
 | .bl a,.bl b=>a == b
 | .bl a,.int b=>(if a then 1 else 0) == b
 | .int a,.bl b=>a == (if b then 1 else 0)
 | .int a,.int b=>a == b
 | .str a,.str b=>a == b
 | .tup a,.tup b=>eqGL a b
 | .lst a,.lst b=>eqGL a b
 | _,_=>false
noncomputable def eqGL:List G→List G→Bool
 | [],[]=>true
 | a::as,b::bs=>bG a b && eqGL as bs
 | _,_=>false
end
mutual
noncomputable def depG:G→Nat
 | .tup gs=>depGL gs+1
 | .lst gs=>depGL gs+1
 | _=>0
noncomputable def depGL:List G→Nat
 | []=>0
 | g::gs=>max (depG g) (depGL gs)
end
mutual
theorem eqG_refl:∀ g:G,bG g g=true
 | .non=>by rw[bG]
 | .bl b=>by rw[bG];simp
 | .int i=>by rw[bG];simp
 | .str z=>by rw[bG];simp
 | .tup gs=>by rw[bG];exact eqGL_refl gs
 | .lst gs=>by rw[bG];exact eqGL_refl gs
theorem eqGL_refl:∀ gs:List G,eqGL gs gs=true
 | []=>by rw[eqGL]
 | g::gs=>by rw[eqGL,eqG_refl g,eqGL_refl gs];rfl
end
theorem dC.length {K:PySem.W.Frag}{H:Hp}:∀ {gs:List G}{xs:List V},dC K H gs xs→xs.length=gs.length
 | [],_,h=>by rw[dC] at h;subst h;rfl
 | g::gs,_,h=>by rw[dC] at h;obtain⟨v,r,rfl,_,h⟩:=h;rw[List.length_cons,List.length_cons,dC.length h]
theorem dC.get {K:PySem.W.Frag}{H:Hp}:∀ {gs:List G}{xs:List V}{i:Nat}{g:G},dC K H gs xs→gs[i]? = some g→∃ x,xs[i]? = some x∧aV K H g x
 | [],_,_,_,_,e=>by simp at e
 | g::gs,_,0,g',h,e=>by rw[dC] at h;obtain⟨v,r,rfl,h1,_⟩:=h;simp at e;subst e;exact⟨v,by simp,h1⟩
 | g::gs,_,i+1,g',h,e=>by
  rw[dC] at h;obtain⟨v,r,rfl,_,h⟩:=h
  obtain⟨x,h1,h2⟩:=dC.get h (i:=i) (by simpa using e)
  exact⟨x,by simpa using h1,h2⟩
theorem depGL_mem {g:G}:∀ {gs:List G},g∈gs→depG g≤depGL gs
 | [],h=>by cases h
 | a::gs,h=>by
  rw[depGL]
  rcases List.mem_cons.1 h with rfl | h
  ·omega
  ·have:=depGL_mem h;omega
noncomputable def eAt (gs hs:List G) (j:Nat):Bool:=match gs[j]?,hs[j]? with
 | some g,some h=>bG g h
 | _,_=>true
theorem range_all_succ (n:Nat) (e:Nat→Bool):(List.range (n+1)).all e=(e 0 && (List.range n).all fun j=>e (j+1)):=by
 rw[List.range_succ_eq_map,List.all_cons,List.all_map];rfl
theorem all_eAt:∀ (gs hs:List G),gs.length=hs.length→(List.range gs.length).all (eAt gs hs)=eqGL gs hs
 | [],[],_=>by rw[eqGL];rfl
 | [],_::_,h=>by simp at h
 | _::_,[],h=>by simp at h
 | g::gs,h::hs,hl=>by
  rw[List.length_cons,range_all_succ,eqGL,← all_eAt gs hs (by simpa using hl)]
  congr 1
theorem all_eAtT:∀ (gs hs:List G),((List.range (min gs.length hs.length)).all (eAt gs hs) && gs.length == hs.length)=eqGL gs hs
 | [],[]=>by rw[eqGL];rfl
 | [],_::_=>by simp [eqGL]
 | _::_,[]=>by simp [eqGL]
 | g::gs,h::hs=>by
  have e1:min (g::gs).length (h::hs).length=min gs.length hs.length+1:=by rw[List.length_cons,List.length_cons];omega
  have e2:((g::gs).length == (h::hs).length)=(gs.length == hs.length):=by simp
  rw[e1,e2,range_all_succ,eqGL,← all_eAtT gs hs,Bool.and_assoc]
  congr 1
theorem eqGL_len:∀ (gs hs:List G),gs.length≠hs.length→eqGL gs hs=false
 | [],[],h=>absurd rfl h
 | [],_::_,_=>by simp [eqGL]
 | _::_,[],_=>by simp [eqGL]
 | g::gs,h::hs,hl=>by rw[eqGL,eqGL_len gs hs (by simpa using hl),Bool.and_false]
theorem isTuple_uniq {h:Heap}{a:Addr}{xs ys:Array Value} (h1:h.IsTuple a xs) (h2:h.IsTuple a ys):xs=ys:=by
 obtain⟨o,e,_,n,d⟩:=h1
 obtain⟨o',e',_,n',d'⟩:=h2
 rw[e] at e'
 cases e'
 rw[d] at d'
 injection d'
theorem isList_uniq {h:Heap}{a:Addr}{xs ys:Array Value} (h1:h.IsList a xs) (h2:h.IsList a ys):xs=ys:=by
 obtain⟨o,e,_,n,d⟩:=h1
 obtain⟨o',e',_,n',d'⟩:=h2
 rw[e] at e'
 cases e'
 rw[d] at d'
 injection d'
section
variable {X:Cx}{pins:List (Addr×Obj)}{σ:St}{H:Hp}{s:Shared}
mutual
theorem uniqG (I:Inv X pins σ H s):∀ (g h:G) (x y:V) (u:Value),aV X.K H g x→aV X.K H h y→aY x u→aY y u→g=h
 | .non,h,x,y,u,hx,hy,rx,ry=>by
  rw[aV] at hx;subst hx;cases rx
  cases h <;> rw[aV] at hy
  ·subst hy;cases ry
  ·subst hy;obtain⟨_,e⟩:=ry;cases e
  ·subst hy;obtain⟨_,e⟩:=ry;cases e
  ·obtain⟨_,_,rfl,_⟩:=hy;cases ry
  ·obtain⟨_,_,rfl,_⟩:=hy;cases ry
 | .bl b,h,x,y,u,hx,hy,rx,ry=>by
  rw[aV] at hx;subst hx;cases rx
  cases h <;> rw[aV] at hy
  ·subst hy;cases ry
  ·subst hy;injection ry with e;rw[e]
  ·subst hy;obtain⟨_,e⟩:=ry;cases e
  ·subst hy;obtain⟨_,e⟩:=ry;cases e
  ·obtain⟨_,_,rfl,_⟩:=hy;cases ry
  ·obtain⟨_,_,rfl,_⟩:=hy;cases ry
 | .int b,h,x,y,u,hx,hy,rx,ry=>by
  rw[aV] at hx;subst hx;obtain⟨t,rfl⟩:=rx
  cases h <;> rw[aV] at hy
  ·subst hy;cases ry
  ·subst hy;cases ry
  ·subst hy;obtain⟨_,e⟩:=ry;injection e with e;rw[e]
  ·subst hy;obtain⟨_,e⟩:=ry;cases e
  ·obtain⟨_,_,rfl,_⟩:=hy;cases ry
  ·obtain⟨_,_,rfl,_⟩:=hy;cases ry
 | .str b,h,x,y,u,hx,hy,rx,ry=>by
  rw[aV] at hx;subst hx;obtain⟨t,rfl⟩:=rx
  cases h <;> rw[aV] at hy
  ·subst hy;cases ry
  ·subst hy;cases ry
  ·subst hy;obtain⟨_,e⟩:=ry;cases e
  ·subst hy;obtain⟨_,e⟩:=ry;injection e with e;rw[e]
  ·obtain⟨_,_,rfl,_⟩:=hy;cases ry
  ·obtain⟨_,_,rfl,_⟩:=hy;cases ry
 | .tup gs,h,x,y,u,hx,hy,rx,ry=>by
  rw[aV] at hx;obtain⟨a,xs,rfl,q1,l1⟩:=hx;cases rx
  cases h <;> rw[aV] at hy
  ·subst hy;cases ry
  ·subst hy;cases ry
  ·subst hy;obtain⟨_,e⟩:=ry;cases e
  ·subst hy;obtain⟨_,e⟩:=ry;cases e
  ·obtain⟨b,ys,rfl,q2,l2⟩:=hy;cases ry
   obtain⟨us,r1,p1,_⟩:=I.tuple q1
   obtain⟨vs,r2,p2,_⟩:=I.tuple q2
   have e:=isTuple_uniq p1 p2
   have e':us=vs:=by simpa using e
   subst e'
   rw[uniqGL I gs _ xs ys us l1 l2 r1 r2]
  ·obtain⟨b,ys,rfl,q2,l2⟩:=hy;cases ry
   obtain⟨us,r1,p1,_⟩:=I.tuple q1
   obtain⟨vs,r2,p2,_⟩:=I.list q2
   exact absurd rfl (SeqAt.ne_of_list_tuple p2.isList p1)
 | .lst gs,h,x,y,u,hx,hy,rx,ry=>by
  rw[aV] at hx;obtain⟨a,xs,rfl,q1,l1⟩:=hx;cases rx
  cases h <;> rw[aV] at hy
  ·subst hy;cases ry
  ·subst hy;cases ry
  ·subst hy;obtain⟨_,e⟩:=ry;cases e
  ·subst hy;obtain⟨_,e⟩:=ry;cases e
  ·obtain⟨b,ys,rfl,q2,l2⟩:=hy;cases ry
   obtain⟨us,r1,p1,_⟩:=I.list q1
   obtain⟨vs,r2,p2,_⟩:=I.tuple q2
   exact absurd rfl (SeqAt.ne_of_list_tuple p1.isList p2)
  ·obtain⟨b,ys,rfl,q2,l2⟩:=hy;cases ry
   obtain⟨us,r1,p1,_⟩:=I.list q1
   obtain⟨vs,r2,p2,_⟩:=I.list q2
   have e:=isList_uniq p1.isList p2.isList
   have e':us=vs:=by simpa using e
   subst e'
   rw[uniqGL I gs _ xs ys us l1 l2 r1 r2]
theorem uniqGL (I:Inv X pins σ H s):∀ (gs hs:List G) (xs ys:List V) (us:List Value),dC X.K H gs xs→dC X.K H hs ys→bK xs us→bK ys us→gs=hs
 | [],hs,xs,ys,us,h1,h2,r1,r2=>by
  rw[dC] at h1;subst h1;cases r1;cases r2
  cases hs with
  | nil=>rfl
  | cons h hs=>rw[dC] at h2;obtain⟨_,_,e,_⟩:=h2;cases e
 | g::gs,hs,xs,ys,us,h1,h2,r1,r2=>by
  rw[dC] at h1;obtain⟨x,r,rfl,i1,l1⟩:=h1
  cases r1 with
  | cons ra rb=>
   cases hs with
   | nil=>rw[dC] at h2;subst h2;cases r2
   | cons h hs=>
    rw[dC] at h2;obtain⟨y,r',rfl,i2,l2⟩:=h2
    cases r2 with
    | cons ra' rb'=>rw[uniqG I g h _ _ _ i1 i2 ra ra',uniqGL I gs hs _ _ _ l1 l2 rb rb']
end
theorem get_arr {us:List Value}{j:Nat}{w:Value} (h1:j < us.toArray.size) (h:us[j]? = some w):us.toArray[j]=w:=by
 have:us[j]? = some us.toArray[j]:=by simp
 rw[this] at h;exact Option.some.inj h
theorem el_eqAt {n:Nat}{gs hs:List G}{xs ys:List V}{us vs:List Value}{A:Around}
  (ih:∀ (g h:G) (x y:V) (u v:Value),g∈gs→aV X.K H g x→aV X.K H h y→aY x u→aY y v→SeqAt.EqAt A s u v (bG g h))
  (l1:dC X.K H gs xs) (l2:dC X.K H hs ys) (r1:bK xs us) (r2:bK ys vs) (j:Nat) (h1:j < us.toArray.size) (h2:j < vs.toArray.size):SeqAt.EqAt A s us.toArray[j] vs.toArray[j] (eAt gs hs j):=by
 have e1:=r1.length
 have e2:=r2.length
 have e3:=l1.length
 have e4:=l2.length
 have j1:j < gs.length:=by rw[← e3,e1];simpa using h1
 have j2:j < hs.length:=by rw[← e4,e2];simpa using h2
 obtain⟨x,gx,ix⟩:=l1.get (i:=j) (g:=gs[j]) (by simp)
 obtain⟨y,gy,iy⟩:=l2.get (i:=j) (g:=hs[j]) (by simp)
 obtain⟨w1,g1,t1⟩:=r1.get gx
 obtain⟨w2,g2,t2⟩:=r2.get gy
 rw[get_arr h1 g1,get_arr h2 g2]
 have:eAt gs hs j=bG gs[j] hs[j]:=by unfold eAt;simp [j1,j2]
 rw[this]
 exact ih _ _ x y w1 w2 (List.getElem_mem j1) ix iy t1 t2
end
section
variable {X:Cx}{pins:List (Addr×Obj)}{σ:St}{H:Hp}{s:Shared}
theorem eqAtG (I:Inv X pins σ H s):∀ (n:Nat) (g h:G) (A:Around) (x y:V) (u v:Value),depG g≤n→A.units+n < cLine→aV X.K H g x→aV X.K H h y→aY x u→aY y v→SeqAt.EqAt A s u v (bG g h)
 | n,.non,.non,A,x,y,u,v,hd,hu,hx,hy,rx,ry=>by
  rw[aV] at hx;subst hx;cases rx
  rw[aV] at hy;subst hy;cases ry
  rw[bG];exact SeqAt.EqAt.same _
 | n,.non,.bl gy,A,x,y,u,v,hd,hu,hx,hy,rx,ry=>by
  rw[aV] at hx;subst hx;cases rx
  rw[aV] at hy;subst hy;cases ry
  rw[show bG (.non) (.bl gy)=false from by simp [bG]];exact SeqAt.EqAt.none_bool gy
 | n,.non,.int gy,A,x,y,u,v,hd,hu,hx,hy,rx,ry=>by
  rw[aV] at hx;subst hx;cases rx
  rw[aV] at hy;subst hy;obtain⟨ty,rfl⟩:=ry
  rw[show bG (.non) (.int gy)=false from by simp [bG]];exact SeqAt.EqAt.none_int gy ty
 | n,.non,.str gy,A,x,y,u,v,hd,hu,hx,hy,rx,ry=>by
  rw[aV] at hx;subst hx;cases rx
  rw[aV] at hy;subst hy;obtain⟨ty,rfl⟩:=ry
  rw[show bG (.non) (.str gy)=false from by simp [bG]];exact SeqAt.EqAt.none_str gy ty
 | n,.non,.tup gy,A,x,y,u,v,hd,hu,hx,hy,rx,ry=>by
  rw[aV] at hx;subst hx;cases rx
  rw[aV] at hy;obtain⟨ay,xsy,rfl,qy,ly⟩:=hy;cases ry;obtain⟨usy,vy,py,_⟩:=I.tuple qy
  rw[show bG (.non) (.tup gy)=false from by simp [bG]];exact SeqAt.EqAt.none_tuple py (by omega)
 | n,.non,.lst gy,A,x,y,u,v,hd,hu,hx,hy,rx,ry=>by
  rw[aV] at hx;subst hx;cases rx
  rw[aV] at hy;obtain⟨ay,xsy,rfl,qy,ly⟩:=hy;cases ry;obtain⟨usy,vy,py,_⟩:=I.list qy
  rw[show bG (.non) (.lst gy)=false from by simp [bG]];exact SeqAt.EqAt.none_list py.isList (by omega)
 | n,.bl gx,.non,A,x,y,u,v,hd,hu,hx,hy,rx,ry=>by
  rw[aV] at hx;subst hx;cases rx
  rw[aV] at hy;subst hy;cases ry
  rw[show bG (.bl gx) (.non)=false from by simp [bG]];exact SeqAt.EqAt.bool_none gx
 | n,.bl gx,.bl gy,A,x,y,u,v,hd,hu,hx,hy,rx,ry=>by
  rw[aV] at hx;subst hx;cases rx
  rw[aV] at hy;subst hy;cases ry
  rw[bG];exact SeqAt.EqAt.bool_bool gx gy
 | n,.bl gx,.int gy,A,x,y,u,v,hd,hu,hx,hy,rx,ry=>by
  rw[aV] at hx;subst hx;cases rx
  rw[aV] at hy;subst hy;obtain⟨ty,rfl⟩:=ry
  rw[bG];exact SeqAt.EqAt.bool_int gx gy ty
 | n,.bl gx,.str gy,A,x,y,u,v,hd,hu,hx,hy,rx,ry=>by
  rw[aV] at hx;subst hx;cases rx
  rw[aV] at hy;subst hy;obtain⟨ty,rfl⟩:=ry
  rw[show bG (.bl gx) (.str gy)=false from by simp [bG]];exact SeqAt.EqAt.bool_str gx gy ty
 | n,.bl gx,.tup gy,A,x,y,u,v,hd,hu,hx,hy,rx,ry=>by
  rw[aV] at hx;subst hx;cases rx
  rw[aV] at hy;obtain⟨ay,xsy,rfl,qy,ly⟩:=hy;cases ry;obtain⟨usy,vy,py,_⟩:=I.tuple qy
  rw[show bG (.bl gx) (.tup gy)=false from by simp [bG]];exact SeqAt.EqAt.bool_tuple gx py (by omega)
 | n,.bl gx,.lst gy,A,x,y,u,v,hd,hu,hx,hy,rx,ry=>by
  rw[aV] at hx;subst hx;cases rx
  rw[aV] at hy;obtain⟨ay,xsy,rfl,qy,ly⟩:=hy;cases ry;obtain⟨usy,vy,py,_⟩:=I.list qy
  rw[show bG (.bl gx) (.lst gy)=false from by simp [bG]];exact SeqAt.EqAt.bool_list gx py.isList (by omega)
 | n,.int gx,.non,A,x,y,u,v,hd,hu,hx,hy,rx,ry=>by
  rw[aV] at hx;subst hx;obtain⟨tx,rfl⟩:=rx
  rw[aV] at hy;subst hy;cases ry
  rw[show bG (.int gx) (.non)=false from by simp [bG]];exact SeqAt.EqAt.int_none gx tx
 | n,.int gx,.bl gy,A,x,y,u,v,hd,hu,hx,hy,rx,ry=>by
  rw[aV] at hx;subst hx;obtain⟨tx,rfl⟩:=rx
  rw[aV] at hy;subst hy;cases ry
  rw[bG];exact SeqAt.EqAt.int_bool gx tx gy
 | n,.int gx,.int gy,A,x,y,u,v,hd,hu,hx,hy,rx,ry=>by
  rw[aV] at hx;subst hx;obtain⟨tx,rfl⟩:=rx
  rw[aV] at hy;subst hy;obtain⟨ty,rfl⟩:=ry
  rw[bG];exact SeqAt.EqAt.int_int gx tx gy ty
 | n,.int gx,.str gy,A,x,y,u,v,hd,hu,hx,hy,rx,ry=>by
  rw[aV] at hx;subst hx;obtain⟨tx,rfl⟩:=rx
  rw[aV] at hy;subst hy;obtain⟨ty,rfl⟩:=ry
  rw[show bG (.int gx) (.str gy)=false from by simp [bG]];exact SeqAt.EqAt.int_str gx tx gy ty
 | n,.int gx,.tup gy,A,x,y,u,v,hd,hu,hx,hy,rx,ry=>by
  rw[aV] at hx;subst hx;obtain⟨tx,rfl⟩:=rx
  rw[aV] at hy;obtain⟨ay,xsy,rfl,qy,ly⟩:=hy;cases ry;obtain⟨usy,vy,py,_⟩:=I.tuple qy
  rw[show bG (.int gx) (.tup gy)=false from by simp [bG]];exact SeqAt.EqAt.int_tuple gx tx py (by omega)
 | n,.int gx,.lst gy,A,x,y,u,v,hd,hu,hx,hy,rx,ry=>by
  rw[aV] at hx;subst hx;obtain⟨tx,rfl⟩:=rx
  rw[aV] at hy;obtain⟨ay,xsy,rfl,qy,ly⟩:=hy;cases ry;obtain⟨usy,vy,py,_⟩:=I.list qy
  rw[show bG (.int gx) (.lst gy)=false from by simp [bG]];exact SeqAt.EqAt.int_list gx tx py.isList (by omega)
 | n,.str gx,.non,A,x,y,u,v,hd,hu,hx,hy,rx,ry=>by
  rw[aV] at hx;subst hx;obtain⟨tx,rfl⟩:=rx
  rw[aV] at hy;subst hy;cases ry
  rw[show bG (.str gx) (.non)=false from by simp [bG]];exact SeqAt.EqAt.str_none gx tx
 | n,.str gx,.bl gy,A,x,y,u,v,hd,hu,hx,hy,rx,ry=>by
  rw[aV] at hx;subst hx;obtain⟨tx,rfl⟩:=rx
  rw[aV] at hy;subst hy;cases ry
  rw[show bG (.str gx) (.bl gy)=false from by simp [bG]];exact SeqAt.EqAt.str_bool gx tx gy
 | n,.str gx,.int gy,A,x,y,u,v,hd,hu,hx,hy,rx,ry=>by
  rw[aV] at hx;subst hx;obtain⟨tx,rfl⟩:=rx
  rw[aV] at hy;subst hy;obtain⟨ty,rfl⟩:=ry
  rw[show bG (.str gx) (.int gy)=false from by simp [bG]];exact SeqAt.EqAt.str_int gx tx gy ty
 | n,.str gx,.str gy,A,x,y,u,v,hd,hu,hx,hy,rx,ry=>by
  rw[aV] at hx;subst hx;obtain⟨tx,rfl⟩:=rx
  rw[aV] at hy;subst hy;obtain⟨ty,rfl⟩:=ry
  rw[bG];exact SeqAt.EqAt.str_str gx tx gy ty
 | n,.str gx,.tup gy,A,x,y,u,v,hd,hu,hx,hy,rx,ry=>by
  rw[aV] at hx;subst hx;obtain⟨tx,rfl⟩:=rx
  rw[aV] at hy;obtain⟨ay,xsy,rfl,qy,ly⟩:=hy;cases ry;obtain⟨usy,vy,py,_⟩:=I.tuple qy
  rw[show bG (.str gx) (.tup gy)=false from by simp [bG]];exact SeqAt.EqAt.str_tuple gx tx py (by omega)
 | n,.str gx,.lst gy,A,x,y,u,v,hd,hu,hx,hy,rx,ry=>by
  rw[aV] at hx;subst hx;obtain⟨tx,rfl⟩:=rx
  rw[aV] at hy;obtain⟨ay,xsy,rfl,qy,ly⟩:=hy;cases ry;obtain⟨usy,vy,py,_⟩:=I.list qy
  rw[show bG (.str gx) (.lst gy)=false from by simp [bG]];exact SeqAt.EqAt.str_list gx tx py.isList (by omega)
 | n,.tup gx,.non,A,x,y,u,v,hd,hu,hx,hy,rx,ry=>by
  rw[aV] at hx;obtain⟨ax,xsx,rfl,qx,lx⟩:=hx;cases rx;obtain⟨usx,vx,px,_⟩:=I.tuple qx
  rw[aV] at hy;subst hy;cases ry
  rw[show bG (.tup gx) (.non)=false from by simp [bG]];exact SeqAt.EqAt.tuple_none px (by omega)
 | n,.tup gx,.bl gy,A,x,y,u,v,hd,hu,hx,hy,rx,ry=>by
  rw[aV] at hx;obtain⟨ax,xsx,rfl,qx,lx⟩:=hx;cases rx;obtain⟨usx,vx,px,_⟩:=I.tuple qx
  rw[aV] at hy;subst hy;cases ry
  rw[show bG (.tup gx) (.bl gy)=false from by simp [bG]];exact SeqAt.EqAt.tuple_bool gy px (by omega)
 | n,.tup gx,.int gy,A,x,y,u,v,hd,hu,hx,hy,rx,ry=>by
  rw[aV] at hx;obtain⟨ax,xsx,rfl,qx,lx⟩:=hx;cases rx;obtain⟨usx,vx,px,_⟩:=I.tuple qx
  rw[aV] at hy;subst hy;obtain⟨ty,rfl⟩:=ry
  rw[show bG (.tup gx) (.int gy)=false from by simp [bG]];exact SeqAt.EqAt.tuple_int gy ty px (by omega)
 | n,.tup gx,.str gy,A,x,y,u,v,hd,hu,hx,hy,rx,ry=>by
  rw[aV] at hx;obtain⟨ax,xsx,rfl,qx,lx⟩:=hx;cases rx;obtain⟨usx,vx,px,_⟩:=I.tuple qx
  rw[aV] at hy;subst hy;obtain⟨ty,rfl⟩:=ry
  rw[show bG (.tup gx) (.str gy)=false from by simp [bG]];exact SeqAt.EqAt.tuple_str gy ty px (by omega)
 | 0,.tup gx,.tup gy,A,x,y,u,v,hd,_,_,_,_,_=>by rw[depG] at hd;omega
 | n+1,.tup gx,.tup gy,A,x,y,u,v,hd,hu,hx,hy,rx,ry=>by
  rw[aV] at hx;obtain⟨ax,xsx,rfl,qx,lx⟩:=hx;cases rx;obtain⟨usx,vx,px,_⟩:=I.tuple qx
  rw[aV] at hy;obtain⟨ay,xsy,rfl,qy,ly⟩:=hy;cases ry;obtain⟨usy,vy,py,_⟩:=I.tuple qy
  by_cases hab:ax=ay
  ·subst hab
   have e:=uniqG I (.tup gx) (.tup gy) (.ref ax) (.ref ax) _ (by rw[aV];exact⟨_,_,rfl,qx,lx⟩) (by rw[aV];exact⟨_,_,rfl,qy,ly⟩) rfl rfl
   rw[e,eqG_refl];exact SeqAt.EqAt.same _
  have e1:=vx.length
  have e2:=vy.length
  have e3:=lx.length
  have e4:=ly.length
  rw[show bG (.tup gx) (.tup gy)=eqGL gx gy from by rw[bG],← all_eAtT gx gy]
  have ex:gx.length=usx.toArray.size:=by rw[← e3,e1,List.size_toArray]
  have ey:gy.length=usy.toArray.size:=by rw[← e4,e2,List.size_toArray]
  rw[ex,ey]
  refine SeqAt.EqAt.of_refs hab ?_;exact SeqAt.RcAt.tuples px py (by omega) (fun j h1 h2=>el_eqAt (n:=0) (fun g h x y u v hm ix iy tx ty=>eqAtG I n g h A.in1 x y u v (by have:=depGL_mem hm;rw[depG] at hd;omega) (by show A.units+1+n < cLine;omega) ix iy tx ty) lx ly vx vy j h1 h2)
 | n,.tup gx,.lst gy,A,x,y,u,v,hd,hu,hx,hy,rx,ry=>by
  rw[aV] at hx;obtain⟨ax,xsx,rfl,qx,lx⟩:=hx;cases rx;obtain⟨usx,vx,px,_⟩:=I.tuple qx
  rw[aV] at hy;obtain⟨ay,xsy,rfl,qy,ly⟩:=hy;cases ry;obtain⟨usy,vy,py,_⟩:=I.list qy
  rw[show bG (.tup gx) (.lst gy)=false from by simp [bG]];exact SeqAt.EqAt.tuple_list px py.isList (by omega)
 | n,.lst gx,.non,A,x,y,u,v,hd,hu,hx,hy,rx,ry=>by
  rw[aV] at hx;obtain⟨ax,xsx,rfl,qx,lx⟩:=hx;cases rx;obtain⟨usx,vx,px,_⟩:=I.list qx
  rw[aV] at hy;subst hy;cases ry
  rw[show bG (.lst gx) (.non)=false from by simp [bG]];exact SeqAt.EqAt.list_none px.isList (by omega)
 | n,.lst gx,.bl gy,A,x,y,u,v,hd,hu,hx,hy,rx,ry=>by
  rw[aV] at hx;obtain⟨ax,xsx,rfl,qx,lx⟩:=hx;cases rx;obtain⟨usx,vx,px,_⟩:=I.list qx
  rw[aV] at hy;subst hy;cases ry
  rw[show bG (.lst gx) (.bl gy)=false from by simp [bG]];exact SeqAt.EqAt.list_bool gy px.isList (by omega)
 | n,.lst gx,.int gy,A,x,y,u,v,hd,hu,hx,hy,rx,ry=>by
  rw[aV] at hx;obtain⟨ax,xsx,rfl,qx,lx⟩:=hx;cases rx;obtain⟨usx,vx,px,_⟩:=I.list qx
  rw[aV] at hy;subst hy;obtain⟨ty,rfl⟩:=ry
  rw[show bG (.lst gx) (.int gy)=false from by simp [bG]];exact SeqAt.EqAt.list_int gy ty px.isList (by omega)
 | n,.lst gx,.str gy,A,x,y,u,v,hd,hu,hx,hy,rx,ry=>by
  rw[aV] at hx;obtain⟨ax,xsx,rfl,qx,lx⟩:=hx;cases rx;obtain⟨usx,vx,px,_⟩:=I.list qx
  rw[aV] at hy;subst hy;obtain⟨ty,rfl⟩:=ry
  rw[show bG (.lst gx) (.str gy)=false from by simp [bG]];exact SeqAt.EqAt.list_str gy ty px.isList (by omega)
 | n,.lst gx,.tup gy,A,x,y,u,v,hd,hu,hx,hy,rx,ry=>by
  rw[aV] at hx;obtain⟨ax,xsx,rfl,qx,lx⟩:=hx;cases rx;obtain⟨usx,vx,px,_⟩:=I.list qx
  rw[aV] at hy;obtain⟨ay,xsy,rfl,qy,ly⟩:=hy;cases ry;obtain⟨usy,vy,py,_⟩:=I.tuple qy
  rw[show bG (.lst gx) (.tup gy)=false from by simp [bG]];exact SeqAt.EqAt.list_tuple px.isList py (by omega)
 | 0,.lst gx,.lst gy,A,x,y,u,v,hd,_,_,_,_,_=>by rw[depG] at hd;omega
 | n+1,.lst gx,.lst gy,A,x,y,u,v,hd,hu,hx,hy,rx,ry=>by
  rw[aV] at hx;obtain⟨ax,xsx,rfl,qx,lx⟩:=hx;cases rx;obtain⟨usx,vx,px,_⟩:=I.list qx
  rw[aV] at hy;obtain⟨ay,xsy,rfl,qy,ly⟩:=hy;cases ry;obtain⟨usy,vy,py,_⟩:=I.list qy
  by_cases hab:ax=ay
  ·subst hab
   have e:=uniqG I (.lst gx) (.lst gy) (.ref ax) (.ref ax) _ (by rw[aV];exact⟨_,_,rfl,qx,lx⟩) (by rw[aV];exact⟨_,_,rfl,qy,ly⟩) rfl rfl
   rw[e,eqG_refl];exact SeqAt.EqAt.same _
  have e1:=vx.length
  have e2:=vy.length
  have e3:=lx.length
  have e4:=ly.length
  rw[show bG (.lst gx) (.lst gy)=eqGL gx gy from by rw[bG]]
  have ex:gx.length=usx.toArray.size:=by rw[← e3,e1,List.size_toArray]
  have ey:gy.length=usy.toArray.size:=by rw[← e4,e2,List.size_toArray]
  by_cases hl:gx.length=gy.length
  ·rw[← all_eAt gx gy hl,ex]
   refine SeqAt.EqAt.of_refs hab ?_;exact SeqAt.RcAt.lists px.isList py.isList (by omega) (by omega) (fun j h1 h2=>el_eqAt (n:=0) (fun g h x y u v hm ix iy tx ty=>eqAtG I n g h A.in1 x y u v (by have:=depGL_mem hm;rw[depG] at hd;omega) (by show A.units+1+n < cLine;omega) ix iy tx ty) lx ly vx vy j h1 h2)
  ·rw[eqGL_len gx gy hl]
   refine SeqAt.EqAt.of_refs hab ?_;exact SeqAt.RcAt.lists_lengths px.isList py.isList (by rw[← ex,← ey];simpa using hl) (by omega)
theorem rneG (I:Inv X pins σ H s) {A:Around} (hu:A.units+40 < cLine):∀ (g h:G) (x y:V) (u v:Value),depG g≤30→aV X.K H g x→aV X.K H h y→aY x u→aY y v→SeqAt.RcNeAt A s u v (!bG g h)
 | .non,.non,x,y,u,v,hd,hx,hy,rx,ry=>by
  rw[aV] at hx;subst hx;cases rx
  rw[aV] at hy;subst hy;cases ry
  rw[bG];exact SeqAt.RcNeAt.none_none
 | .non,.bl gy,x,y,u,v,hd,hx,hy,rx,ry=>by
  rw[aV] at hx;subst hx;cases rx
  rw[aV] at hy;subst hy;cases ry
  rw[show bG (.non) (.bl gy)=false from by simp [bG]];exact SeqAt.RcNeAt.none_bool gy
 | .non,.int gy,x,y,u,v,hd,hx,hy,rx,ry=>by
  rw[aV] at hx;subst hx;cases rx
  rw[aV] at hy;subst hy;obtain⟨ty,rfl⟩:=ry
  rw[show bG (.non) (.int gy)=false from by simp [bG]];exact SeqAt.RcNeAt.none_int gy ty
 | .non,.str gy,x,y,u,v,hd,hx,hy,rx,ry=>by
  rw[aV] at hx;subst hx;cases rx
  rw[aV] at hy;subst hy;obtain⟨ty,rfl⟩:=ry
  rw[show bG (.non) (.str gy)=false from by simp [bG]];exact SeqAt.RcNeAt.none_str gy ty
 | .non,.tup gy,x,y,u,v,hd,hx,hy,rx,ry=>by
  rw[aV] at hx;subst hx;cases rx
  rw[aV] at hy;obtain⟨ay,xsy,rfl,qy,ly⟩:=hy;cases ry;obtain⟨usy,vy,py,_⟩:=I.tuple qy
  rw[show bG (.non) (.tup gy)=false from by simp [bG]];exact SeqAt.RcNeAt.none_tuple py (by omega)
 | .non,.lst gy,x,y,u,v,hd,hx,hy,rx,ry=>by
  rw[aV] at hx;subst hx;cases rx
  rw[aV] at hy;obtain⟨ay,xsy,rfl,qy,ly⟩:=hy;cases ry;obtain⟨usy,vy,py,_⟩:=I.list qy
  rw[show bG (.non) (.lst gy)=false from by simp [bG]];exact SeqAt.RcNeAt.none_list py.isList (by omega)
 | .bl gx,.non,x,y,u,v,hd,hx,hy,rx,ry=>by
  rw[aV] at hx;subst hx;cases rx
  rw[aV] at hy;subst hy;cases ry
  rw[show bG (.bl gx) (.non)=false from by simp [bG]];exact SeqAt.RcNeAt.bool_none gx
 | .bl gx,.bl gy,x,y,u,v,hd,hx,hy,rx,ry=>by
  rw[aV] at hx;subst hx;cases rx
  rw[aV] at hy;subst hy;cases ry
  rw[bG];exact SeqAt.RcNeAt.bool_bool gx gy
 | .bl gx,.int gy,x,y,u,v,hd,hx,hy,rx,ry=>by
  rw[aV] at hx;subst hx;cases rx
  rw[aV] at hy;subst hy;obtain⟨ty,rfl⟩:=ry
  rw[bG];exact SeqAt.RcNeAt.bool_int gx gy ty
 | .bl gx,.str gy,x,y,u,v,hd,hx,hy,rx,ry=>by
  rw[aV] at hx;subst hx;cases rx
  rw[aV] at hy;subst hy;obtain⟨ty,rfl⟩:=ry
  rw[show bG (.bl gx) (.str gy)=false from by simp [bG]];exact SeqAt.RcNeAt.bool_str gx gy ty
 | .bl gx,.tup gy,x,y,u,v,hd,hx,hy,rx,ry=>by
  rw[aV] at hx;subst hx;cases rx
  rw[aV] at hy;obtain⟨ay,xsy,rfl,qy,ly⟩:=hy;cases ry;obtain⟨usy,vy,py,_⟩:=I.tuple qy
  rw[show bG (.bl gx) (.tup gy)=false from by simp [bG]];exact SeqAt.RcNeAt.bool_tuple gx py (by omega)
 | .bl gx,.lst gy,x,y,u,v,hd,hx,hy,rx,ry=>by
  rw[aV] at hx;subst hx;cases rx
  rw[aV] at hy;obtain⟨ay,xsy,rfl,qy,ly⟩:=hy;cases ry;obtain⟨usy,vy,py,_⟩:=I.list qy
  rw[show bG (.bl gx) (.lst gy)=false from by simp [bG]];exact SeqAt.RcNeAt.bool_list gx py.isList (by omega)
 | .int gx,.non,x,y,u,v,hd,hx,hy,rx,ry=>by
  rw[aV] at hx;subst hx;obtain⟨tx,rfl⟩:=rx
  rw[aV] at hy;subst hy;cases ry
  rw[show bG (.int gx) (.non)=false from by simp [bG]];exact SeqAt.RcNeAt.int_none gx tx
 | .int gx,.bl gy,x,y,u,v,hd,hx,hy,rx,ry=>by
  rw[aV] at hx;subst hx;obtain⟨tx,rfl⟩:=rx
  rw[aV] at hy;subst hy;cases ry
  rw[bG];exact SeqAt.RcNeAt.int_bool gx tx gy
 | .int gx,.int gy,x,y,u,v,hd,hx,hy,rx,ry=>by
  rw[aV] at hx;subst hx;obtain⟨tx,rfl⟩:=rx
  rw[aV] at hy;subst hy;obtain⟨ty,rfl⟩:=ry
  rw[bG];exact SeqAt.RcNeAt.int_int gx tx gy ty
 | .int gx,.str gy,x,y,u,v,hd,hx,hy,rx,ry=>by
  rw[aV] at hx;subst hx;obtain⟨tx,rfl⟩:=rx
  rw[aV] at hy;subst hy;obtain⟨ty,rfl⟩:=ry
  rw[show bG (.int gx) (.str gy)=false from by simp [bG]];exact SeqAt.RcNeAt.int_str gx tx gy ty
 | .int gx,.tup gy,x,y,u,v,hd,hx,hy,rx,ry=>by
  rw[aV] at hx;subst hx;obtain⟨tx,rfl⟩:=rx
  rw[aV] at hy;obtain⟨ay,xsy,rfl,qy,ly⟩:=hy;cases ry;obtain⟨usy,vy,py,_⟩:=I.tuple qy
  rw[show bG (.int gx) (.tup gy)=false from by simp [bG]];exact SeqAt.RcNeAt.int_tuple gx tx py (by omega)
 | .int gx,.lst gy,x,y,u,v,hd,hx,hy,rx,ry=>by
  rw[aV] at hx;subst hx;obtain⟨tx,rfl⟩:=rx
  rw[aV] at hy;obtain⟨ay,xsy,rfl,qy,ly⟩:=hy;cases ry;obtain⟨usy,vy,py,_⟩:=I.list qy
  rw[show bG (.int gx) (.lst gy)=false from by simp [bG]];exact SeqAt.RcNeAt.int_list gx tx py.isList (by omega)
 | .str gx,.non,x,y,u,v,hd,hx,hy,rx,ry=>by
  rw[aV] at hx;subst hx;obtain⟨tx,rfl⟩:=rx
  rw[aV] at hy;subst hy;cases ry
  rw[show bG (.str gx) (.non)=false from by simp [bG]];exact SeqAt.RcNeAt.str_none gx tx
 | .str gx,.bl gy,x,y,u,v,hd,hx,hy,rx,ry=>by
  rw[aV] at hx;subst hx;obtain⟨tx,rfl⟩:=rx
  rw[aV] at hy;subst hy;cases ry
  rw[show bG (.str gx) (.bl gy)=false from by simp [bG]];exact SeqAt.RcNeAt.str_bool gx tx gy
 | .str gx,.int gy,x,y,u,v,hd,hx,hy,rx,ry=>by
  rw[aV] at hx;subst hx;obtain⟨tx,rfl⟩:=rx
  rw[aV] at hy;subst hy;obtain⟨ty,rfl⟩:=ry
  rw[show bG (.str gx) (.int gy)=false from by simp [bG]];exact SeqAt.RcNeAt.str_int gx tx gy ty
 | .str gx,.str gy,x,y,u,v,hd,hx,hy,rx,ry=>by
  rw[aV] at hx;subst hx;obtain⟨tx,rfl⟩:=rx
  rw[aV] at hy;subst hy;obtain⟨ty,rfl⟩:=ry
  rw[bG];exact SeqAt.RcNeAt.str_str gx tx gy ty
 | .str gx,.tup gy,x,y,u,v,hd,hx,hy,rx,ry=>by
  rw[aV] at hx;subst hx;obtain⟨tx,rfl⟩:=rx
  rw[aV] at hy;obtain⟨ay,xsy,rfl,qy,ly⟩:=hy;cases ry;obtain⟨usy,vy,py,_⟩:=I.tuple qy
  rw[show bG (.str gx) (.tup gy)=false from by simp [bG]];exact SeqAt.RcNeAt.str_tuple gx tx py (by omega)
 | .str gx,.lst gy,x,y,u,v,hd,hx,hy,rx,ry=>by
  rw[aV] at hx;subst hx;obtain⟨tx,rfl⟩:=rx
  rw[aV] at hy;obtain⟨ay,xsy,rfl,qy,ly⟩:=hy;cases ry;obtain⟨usy,vy,py,_⟩:=I.list qy
  rw[show bG (.str gx) (.lst gy)=false from by simp [bG]];exact SeqAt.RcNeAt.str_list gx tx py.isList (by omega)
 | .tup gx,.non,x,y,u,v,hd,hx,hy,rx,ry=>by
  rw[aV] at hx;obtain⟨ax,xsx,rfl,qx,lx⟩:=hx;cases rx;obtain⟨usx,vx,px,_⟩:=I.tuple qx
  rw[aV] at hy;subst hy;cases ry
  rw[show bG (.tup gx) (.non)=false from by simp [bG]];exact SeqAt.RcNeAt.tuple_none px (by omega)
 | .tup gx,.bl gy,x,y,u,v,hd,hx,hy,rx,ry=>by
  rw[aV] at hx;obtain⟨ax,xsx,rfl,qx,lx⟩:=hx;cases rx;obtain⟨usx,vx,px,_⟩:=I.tuple qx
  rw[aV] at hy;subst hy;cases ry
  rw[show bG (.tup gx) (.bl gy)=false from by simp [bG]];exact SeqAt.RcNeAt.tuple_bool gy px (by omega)
 | .tup gx,.int gy,x,y,u,v,hd,hx,hy,rx,ry=>by
  rw[aV] at hx;obtain⟨ax,xsx,rfl,qx,lx⟩:=hx;cases rx;obtain⟨usx,vx,px,_⟩:=I.tuple qx
  rw[aV] at hy;subst hy;obtain⟨ty,rfl⟩:=ry
  rw[show bG (.tup gx) (.int gy)=false from by simp [bG]];exact SeqAt.RcNeAt.tuple_int gy ty px (by omega)
 | .tup gx,.str gy,x,y,u,v,hd,hx,hy,rx,ry=>by
  rw[aV] at hx;obtain⟨ax,xsx,rfl,qx,lx⟩:=hx;cases rx;obtain⟨usx,vx,px,_⟩:=I.tuple qx
  rw[aV] at hy;subst hy;obtain⟨ty,rfl⟩:=ry
  rw[show bG (.tup gx) (.str gy)=false from by simp [bG]];exact SeqAt.RcNeAt.tuple_str gy ty px (by omega)
 | .tup gx,.tup gy,x,y,u,v,hd,hx,hy,rx,ry=>by
  rw[aV] at hx;obtain⟨ax,xsx,rfl,qx,lx⟩:=hx;cases rx;obtain⟨usx,vx,px,_⟩:=I.tuple qx
  rw[aV] at hy;obtain⟨ay,xsy,rfl,qy,ly⟩:=hy;cases ry;obtain⟨usy,vy,py,_⟩:=I.tuple qy
  have e1:=vx.length
  have e2:=vy.length
  have e3:=lx.length
  have e4:=ly.length
  rw[show bG (.tup gx) (.tup gy)=eqGL gx gy from by rw[bG],← all_eAtT gx gy]
  have ex:gx.length=usx.toArray.size:=by rw[← e3,e1,List.size_toArray]
  have ey:gy.length=usy.toArray.size:=by rw[← e4,e2,List.size_toArray]
  rw[ex,ey]
  exact SeqAt.RcNeAt.tuples px py (by omega) (fun j h1 h2=>el_eqAt (n:=0) (fun g h x y u v hm ix iy tx ty=>eqAtG I 30 g h A.in1 x y u v (by have:=depGL_mem hm;rw[depG] at hd;omega) (by show A.units+1+30 < cLine;omega) ix iy tx ty) lx ly vx vy j h1 h2)
 | .tup gx,.lst gy,x,y,u,v,hd,hx,hy,rx,ry=>by
  rw[aV] at hx;obtain⟨ax,xsx,rfl,qx,lx⟩:=hx;cases rx;obtain⟨usx,vx,px,_⟩:=I.tuple qx
  rw[aV] at hy;obtain⟨ay,xsy,rfl,qy,ly⟩:=hy;cases ry;obtain⟨usy,vy,py,_⟩:=I.list qy
  rw[show bG (.tup gx) (.lst gy)=false from by simp [bG]];exact SeqAt.RcNeAt.tuple_list px py.isList (by omega)
 | .lst gx,.non,x,y,u,v,hd,hx,hy,rx,ry=>by
  rw[aV] at hx;obtain⟨ax,xsx,rfl,qx,lx⟩:=hx;cases rx;obtain⟨usx,vx,px,_⟩:=I.list qx
  rw[aV] at hy;subst hy;cases ry
  rw[show bG (.lst gx) (.non)=false from by simp [bG]];exact SeqAt.RcNeAt.list_none px.isList (by omega)
 | .lst gx,.bl gy,x,y,u,v,hd,hx,hy,rx,ry=>by
  rw[aV] at hx;obtain⟨ax,xsx,rfl,qx,lx⟩:=hx;cases rx;obtain⟨usx,vx,px,_⟩:=I.list qx
  rw[aV] at hy;subst hy;cases ry
  rw[show bG (.lst gx) (.bl gy)=false from by simp [bG]];exact SeqAt.RcNeAt.list_bool gy px.isList (by omega)
 | .lst gx,.int gy,x,y,u,v,hd,hx,hy,rx,ry=>by
  rw[aV] at hx;obtain⟨ax,xsx,rfl,qx,lx⟩:=hx;cases rx;obtain⟨usx,vx,px,_⟩:=I.list qx
  rw[aV] at hy;subst hy;obtain⟨ty,rfl⟩:=ry
  rw[show bG (.lst gx) (.int gy)=false from by simp [bG]];exact SeqAt.RcNeAt.list_int gy ty px.isList (by omega)
 | .lst gx,.str gy,x,y,u,v,hd,hx,hy,rx,ry=>by
  rw[aV] at hx;obtain⟨ax,xsx,rfl,qx,lx⟩:=hx;cases rx;obtain⟨usx,vx,px,_⟩:=I.list qx
  rw[aV] at hy;subst hy;obtain⟨ty,rfl⟩:=ry
  rw[show bG (.lst gx) (.str gy)=false from by simp [bG]];exact SeqAt.RcNeAt.list_str gy ty px.isList (by omega)
 | .lst gx,.tup gy,x,y,u,v,hd,hx,hy,rx,ry=>by
  rw[aV] at hx;obtain⟨ax,xsx,rfl,qx,lx⟩:=hx;cases rx;obtain⟨usx,vx,px,_⟩:=I.list qx
  rw[aV] at hy;obtain⟨ay,xsy,rfl,qy,ly⟩:=hy;cases ry;obtain⟨usy,vy,py,_⟩:=I.tuple qy
  rw[show bG (.lst gx) (.tup gy)=false from by simp [bG]];exact SeqAt.RcNeAt.list_tuple px.isList py (by omega)
 | .lst gx,.lst gy,x,y,u,v,hd,hx,hy,rx,ry=>by
  rw[aV] at hx;obtain⟨ax,xsx,rfl,qx,lx⟩:=hx;cases rx;obtain⟨usx,vx,px,_⟩:=I.list qx
  rw[aV] at hy;obtain⟨ay,xsy,rfl,qy,ly⟩:=hy;cases ry;obtain⟨usy,vy,py,_⟩:=I.list qy
  have e1:=vx.length
  have e2:=vy.length
  have e3:=lx.length
  have e4:=ly.length
  rw[show bG (.lst gx) (.lst gy)=eqGL gx gy from by rw[bG]]
  have ex:gx.length=usx.toArray.size:=by rw[← e3,e1,List.size_toArray]
  have ey:gy.length=usy.toArray.size:=by rw[← e4,e2,List.size_toArray]
  by_cases hl:gx.length=gy.length
  ·rw[← all_eAt gx gy hl,ex]
   exact SeqAt.RcNeAt.lists px.isList py.isList (by omega) (by omega) (fun j h1 h2=>el_eqAt (n:=0) (fun g h x y u v hm ix iy tx ty=>eqAtG I 30 g h A.in1 x y u v (by have:=depGL_mem hm;rw[depG] at hd;omega) (by show A.units+1+30 < cLine;omega) ix iy tx ty) lx ly vx vy j h1 h2)
  ·rw[eqGL_len gx gy hl]
   exact SeqAt.RcNeAt.lists_lengths px.isList py.isList (by rw[← ex,← ey];simpa using hl) (by omega)
noncomputable def rNeG (K:PySem.W.Frag):R2:=fun x y H Q=>∃ g h,depG g≤30∧aV K H g x∧aV K H h y∧Q (.bl (!bG g h)) H
theorem op_neG (hu:X.A.units+64 < cLine):OpR X (compareOp .NotEq) (rNeG X.K):=by
 intro pins s σ H x y v u Q I rx ry h
 obtain⟨g,h,hd,ix,iy,q⟩:=h
 exact rneG I (by omega) g h x y v u hd ix iy rx ry X.prog X.w X.xe _ ⟨.bl _,H,I,rfl,q⟩
theorem op_neGK {K:PySem.W.Frag} (hK:X.K=K) (hu:X.A.units+64 < cLine):OpR X (compareOp .NotEq) (rNeG K):=by subst hK;exact op_neG hu
end
section
variable {K:PySem.W.Frag}{H:Hp}
theorem dC.nil:dC K H [] []:=by rw[dC]
theorem dC.cons {g:G}{gs:List G}{x:V}{xs:List V} (h1:aV K H g x) (h2:dC K H gs xs):dC K H (g::gs) (x::xs):=by rw[dC];exact⟨x,xs,rfl,h1,h2⟩
theorem aV.i (i:Int):aV K H (.int i) (.int i):=by rw[aV]
theorem aV.s (i:Str):aV K H (.str i) (.str i):=by rw[aV]
theorem aV.t {a:Addr}{gs:List G}{xs:List V} (q:bT K H a xs) (l:dC K H gs xs):aV K H (.tup gs) (.ref a):=by rw[aV];exact⟨a,xs,rfl,q,l⟩
theorem aV.l {a:Addr}{gs:List G}{xs:List V} (q:bZ K H a xs) (l:dC K H gs xs):aV K H (.lst gs) (.ref a):=by rw[aV];exact⟨a,xs,rfl,q,l⟩
theorem dC.ints:∀ ns:List Int,dC K H (ns.map G.int) (ns.map V.int)
 | []=>.nil
 | n::ns=>.cons (.i n) (dC.ints ns)
theorem depGL_ints:∀ ns:List Int,depGL (ns.map G.int)=0
 | []=>by rw[List.map_nil,depGL]
 | n::ns=>by rw[List.map_cons,depGL,depGL_ints ns];simp [depG]
end
end L2
namespace L2
open PySem PySem.Spec PyProof.Rows TwZ
section
variable {X:Cx}
end
end L2
namespace L2
open PySem PySem.Spec PyProof.Rows TwZ
section
variable {X:Cx}{K:PySem.W.Frag}
noncomputable def Pl (H:Hp) (a:Addr) (xs:List V):Prop:=∃ o:Obj,H a=some (.frz o (.tup xs))∧o.dict=none
theorem Pl.sq {H:Hp}{a:Addr}{xs:List V} (h:Pl H a xs):bT K H a xs:=by obtain⟨o,h,_⟩:=h;exact .inl (.inr ⟨o,h⟩)
noncomputable def rTupF (K:PySem.W.Frag):List V→Hp→VK→Prop:=fun xs H Q=>∃ p ys,xs=[.ref p]∧bZ K H p ys∧∀ (l:Addr) (o:Obj),H l=none→o.dict=none→Q (.ref l) (upd H l (.frz o (.tup ys)))
theorem call_tupF:CallR X (.type "tuple") (rTupF X.K):=by
 intro pins s σ H xs us Q I r h
 obtain⟨p,ys,rfl,hq,q⟩:=h
 obtain⟨u,rfl,rx⟩:=vals1 r
 cases rx
 obtain⟨its,r',pl,hz⟩:=I.list hq
 have hlen:=r'.length
 refine call_tuple_list pl.isList (fun h' kp=>?_) (by simp only [List.size_toArray] <;> omega)
 have I1:Inv X pins σ H { s with heap:=h' }:=I.kept (t':=s.toks) kp
 have I2:Inv X pins σ (upd H h'.objs.size (.frz { cls:=.type "tuple",data:=.seq its.toArray } (.tup ys))) { s with heap:=h'.push { cls:=.type "tuple",data:=.seq its.toArray } }:=
  I1.laid (t':=s.toks) (fun b o e=>Heap.get?_push_of_some _ e) (Nat.le_refl _) (show bU X.prog X.w _ _ _ (.frz _ (.tup ys)) from ⟨Heap.get?_push_size _ rfl,hz,its,r',IsTup.new _ _⟩)
 exact⟨.ref h'.objs.size,_,I2,rfl,q _ _ (I1.hok.fresh (Nat.le_refl _)) rfl⟩
theorem call_tupFK (hK:X.K=K):CallR X (.type "tuple") (rTupF K):=by subst hK;exact call_tupF
end
end L2
namespace Tw
open PySem L2
section
variable {P:Program}{w:World}{K:PySem.W.Frag}{mg:Str→Option Value}{base:Heap}
noncomputable def TickP (K:PySem.W.Frag) (H:Hp) (t:Tick) (v:V):Prop:=∃ (f:Addr) (st:V) (tp:Addr),v=.ref f∧bT K H f [st,.ref tp,.int t.ground]∧Is K H (stD t.held t.coming t.doors) st∧Pl H tp (t.tip.map fun (j:Nat)=>V.int (j:Int))
noncomputable def spTickP (K:PySem.W.Frag):Sp:=fun args H Q _=>∃ (x y:V) (z:Addr) (net:Net) (held coming poured:List Int) (doors:List Bool),args=[x,y,.ref z]∧Is K H (netD net) x∧Is K H (stD held coming doors) y∧bT K H z (poured.map V.int)∧
 NetOk net∧StOk net held coming doors∧poured.length=net.vs.length∧∀ (v:V) H',aF H H'→TickP K H' (tickOf net held coming poured doors) v→Q v H'
theorem ok_tick_behindP {f fF fS fD:Addr}{fd fdF fdS fdD:FuncData} (F:Fun K "tick_behind" "tick_behind" (bC 10) f fd) (T:Txt mg) (G_filled:Callee P w K mg base "filled" ["spouts","state","poured"] 1 (spFilled K) fF fdF)
  (G_settle:Callee P w K mg base "settle" ["vessel","has","sent"] 3 (spSettle K) fS fdS) (G_doors_behind:Callee P w K mg base "doors_behind" ["vessels","doors","tipped"] 1 (spDoors K) fD fdD):FnOk P w K mg base CX0 4 f fd ["net","state","poured"] (spTickP K):=by
 refine F.ok sc_tick_behind (fun vs H Q E h=>?_) (fun cdv A outer s H vs Q E hr h=>?_)
 ·obtain⟨x,y,z,net,held,coming,poured,doors,rfl,_⟩:=h;rfl
 ·obtain⟨x,y,z,net,held,coming,poured,doors,rfl,hx,hy,qz,nok,sok,lp,k⟩:=h
  have sc:=sc_tick_behind
  have hu:=hu_of hr
  refine⟨_,(aD (cS (pv 0) (bO (K:=K) (n:=2) rfl rfl (aK (aH (i:=3) sc.nd rfl (Or.inl rfl)) (aK (aH (i:=4) sc.nd rfl (Or.inl rfl)) bL))))
   (aD (cS (bS (aA (bD aC) (aA (bD aC) (aA pe_dnewK aC)))) (bO (K:=K) (n:=3) rfl rfl (aK (aH (i:=5) sc.nd rfl (Or.inl rfl)) (aK (aH (i:=6) sc.nd rfl (Or.inl rfl)) (aK (aH (i:=7) sc.nd rfl (Or.inr rfl)) bL)))))
   (aD (dH PassesOwn.never rfl (pi_enumK (K:=K) rfl rfl T.b_enumerate (aA (pcG G_filled hr (aA (pv 4) (aA (pv 1) (aA (pv 2) aC)))) aC)) (bO (K:=K) (n:=2) rfl rfl (aK (aH (i:=8) sc.nd rfl (Or.inl rfl)) (aK (aH (i:=9) sc.nd rfl (Or.inl rfl)) bL))) (aD (cS (pcG G_settle hr (aA (aU (aM (K:=K) rfl) (pv 3) (pv 8) (fun _ _=>rfl)) (aA (pv 9) (aA (pv 7) aC)))) (bO (K:=K) (n:=2) rfl rfl (aK (aH (i:=10) sc.nd rfl (Or.inl rfl)) (aK (aH (i:=11) sc.nd rfl (Or.inl rfl)) bL))))
   (aD (cY (pe_bmK (K:=K) rfl PySem.F.plainAttrs_list PySem.F.slot_list_append PySem.F.type_list_append cJ (pv 5) (aA (pv 10) aC)))
   (aO (dP (pt_val (pv 11)) (aO (cY (pe_bmK (K:=K) rfl PySem.F.plainAttrs_list PySem.F.slot_list_append PySem.F.type_list_append cJ (pv 6) (aA (pv 8) aC)))) bX)))))
   (aD (ps_set_lc (i:=12) sc.nd rfl rfl (fun _ _ h=>h) rfl (LcOk.mk (N':=["number","sent"]) (fr:=[none,some 7]) rfl ⟨rfl,trivial⟩ rfl rfl rfl rfl rfl ⟨⟨_,rfl,rfl,rfl,rfl⟩,trivial⟩) (cD rfl T.b_range (aA (bA (bQ (K:=K) rfl) rfl T.b_len PySem.boot_len (aA (pv 3) aC)) aC)) (fun _ _ _=>(aH (i:=0) (show (["number","sent"]:List Str).Nodup by decide +kernel) rfl (Or.inl rfl) (Or.inr rfl))) (fun _ _ _=>eE) (fun _ _ _=>(pe_dget2 hu (pv 1) (pv 0) aG ⟨rfl,rfl,rfl,rfl⟩)))
   (aD (aS (i:=13) sc.nd rfl (Or.inl rfl) (pcG G_doors_behind hr (aA (pv 3) (aA (aU (aM (K:=K) rfl) (pv 1) aG (fun _ _=>rfl)) (aA (pv 6) aC)))))
   (aO (bV (bS (aA (bS (aA (b9 (cE (K:=K) rfl) rfl T.b_tuple cK (aA (pv 5) aC)) (aA (b9 (cE (K:=K) rfl) rfl T.b_tuple cK (aA (pv 12) aC)) (aA (pv 13) aC)))) (aA (b9 (call_tupFK (K:=K) rfl) rfl T.b_tuple cK (aA (pv 6) aC)) (aA (pe_dget2 hu (pv 7) pe_non aG ⟨rfl,rfl,rfl,rfl⟩) aC))))))))))),?_⟩
  obtain⟨ax,av,as,xs,ys,rfl,qx,qv,lv,qs,ls⟩:=net_un hx
  obtain⟨ay,b1,b2,b3,rfl,qy,q1,q2,q3⟩:=st_un hy
  have exl:xs.length=net.vs.length:=by rw[lv.length,List.length_map]
  refine⟨_,rfl,ax,_,rfl,qx,rfl,_,_,rfl,_,_,rfl,rfl,?_⟩
  refine⟨Nat.zero_le _,fun hl hhl=>⟨Nat.zero_le _,fun tl htl=>fun sd hsd=>⟨(show 3≤sizeLine by decide),fun tp htp=>⟨tp,_,rfl,bT.of aB,rfl,_,_,rfl,_,_,rfl,_,_,rfl,rfl,?_⟩⟩⟩⟩
  have n1:hl≠tl:=aJ (show upd H hl (.lst []) hl=_ from aB) htl
  have fh:H hl=none:=hhl
  have ft:H tl=none:=aF.free (aF.new hhl) htl
  have fs:H sd=none:=aF.free ((aF.new hhl).trans (aF.new htl)) hsd
  have n2:hl≠sd:=aJ (by rw[aI n1];exact aB) hsd
  have n3:tl≠sd:=aJ (show upd (upd H hl (.lst [])) tl (.lst []) tl=_ from aB) hsd
  have sm0:aF H (upd (upd (upd (upd H hl (.lst [])) tl (.lst [])) sd (.dK [])) tp (.tup [.ref hl,.ref tl,.ref sd])):=(((aF.new hhl).trans (aF.new htl)).trans (aF.new hsd)).trans (aF.new htp)
  have g1:upd (upd (upd (upd H hl (.lst [])) tl (.lst [])) sd (.dK [])) tp (.tup [.ref hl,.ref tl,.ref sd]) hl=some (.lst []):=aF.new htp _ _ (by rw[aI n2,aI n1];exact aB)
  have g2:upd (upd (upd (upd H hl (.lst [])) tl (.lst [])) sd (.dK [])) tp (.tup [.ref hl,.ref tl,.ref sd]) tl=some (.lst []):=aF.new htp _ _ (by rw[aI n3];exact aB)
  have g3:upd (upd (upd (upd H hl (.lst [])) tl (.lst [])) sd (.dK [])) tp (.tup [.ref hl,.ref tl,.ref sd]) sd=some (.dK []):=aF.new htp _ _ aB
  generalize upd (upd (upd (upd H hl (.lst [])) tl (.lst [])) sd (.dK [])) tp (.tup [.ref hl,.ref tl,.ref sd])=H0 at sm0 g1 g2 g3 ⊢
  refine⟨_,rfl,_,rfl,_,rfl,.ref as,.ref ay,z,net.sps,held,coming,poured,doors,net.vs.length,rfl,Is.tupOf (sm0.tup qs) (IsL.mono sm0.ts _ _ ls),Is.mono sm0.ts _ _ hy,sm0.tup qz,sok.h,sok.c,lp,sok.d,nok.hi,nok.sps,fun ha H1 sm1 fha hha=>?_⟩
  have hsl:(aP net held coming poured doors).length=net.vs.length:=by
   unfold aP;rw[fillL_len,add3_len sok.h sok.c lp]
  have g1':=sm1 _ _ g1
  have g2':=sm1 _ _ g2
  have g3':=sm1 _ _ g3
  have na1:hl≠ha:=aJ g1 fha
  have na2:tl≠ha:=aJ g2 fha
  have na3:sd≠ha:=aJ g3 fha
  have fa:H ha=none:=sm0.free fha
  refine⟨false,ha,rfl,⟨_,bZ.of hha⟩,for_enum (K:=K) (t:=false) (a:=ha) (xs:=(aP net held coming poured doors).map V.int)
   (fun i σ' H'=>aF H H'∧H' ha=some (.lst ((aP net held coming poured doors).map V.int))∧H' hl=some (.lst ((cX (net.vs.take i) ((aP net held coming poured doors).take i)).map V.int))∧
    H' tl=some (.lst ((bE 0 (net.vs.take i) ((aP net held coming poured doors).take i)).map fun (j:Nat)=>V.int (j:Int)))∧DictG H' sd (bY (net.vs.take i) ((aP net held coming poured doors).take i))∧
    ∃ v8 v9 v10 v11,σ'=[some (.ref ax),some (.ref ay),some (.ref z),some (.ref av),some (.ref as),some (.ref hl),some (.ref tl),some (.ref sd),v8,v9,v10,v11,none,none])
   (fun i σ' H' p=>bZ.of p.2.1) ⟨sm0.trans sm1,hha,by simpa [cX] using g1',by simpa [bE] using g2',⟨[],g3',by simp,fun k=>rfl⟩,none,none,none,none,rfl⟩ ?_ ?_⟩
  rotate_left
  ·rintro i x0 σ' H2 Tt hx0 ⟨sm2,p1,p2,p3,p4,v8,v9,v10,v11,rfl⟩ hT
   rw[List.getElem?_map] at hx0
   obtain⟨hi,hhi,rfl⟩:=Option.map_eq_some_iff.mp hx0
   have hil:i < net.vs.length:=by rw[← hsl];exact (List.getElem?_eq_some_iff.mp hhi).1
   have hv:net.vs[i]? = some net.vs[i]:=by simp [hil]
   have vok:=nok.vs _ (List.getElem_mem hil)
   obtain⟨xv,hxv,ixv⟩:=lv.get (i:=i) (d:=vsD net.vs[i]) (by rw[List.getElem?_map,hv];rfl)
   have smT:=aF.new (o:=HO.tup [.int (i:Int),.int hi]) hT
   refine⟨Tt,_,rfl,bT.of aB,rfl,_,_,rfl,_,_,rfl,rfl,?_⟩
   have sm3:aF H (upd H2 Tt (.tup [.int (i:Int),.int hi])):=sm2.trans smT
   obtain⟨kvs,d1,d2,d3⟩:=p4
   have hgl:=goesL_len (net.vs.take i) ((aP net held coming poured doors).take i) fun v hv'=>nok.vs v (List.mem_of_mem_take hv')
   have htk:(net.vs.take i).length≤12:=by rw[List.length_take];have:=nok.hi;omega
   refine⟨_,rfl,_,rfl,.inr (.inl ⟨av,xs,i,_,rfl,rfl,sm3.tup qv,cL hxv,_,rfl,_,rfl,xv,sd,hi,net.vs[i],_,_,_,rfl,Is.mono sm3.ts _ _ ixv,⟨kvs,smT _ _ d1,d2,d3⟩,by omega,vok,fun p H3 bt dg qp=>?_⟩)⟩
   refine⟨p,_,rfl,qp,rfl,_,_,rfl,_,_,rfl,rfl,?_⟩
   have e1:=bt hl _ n2 (smT _ _ p2)
   have e2:=bt tl _ n3 (smT _ _ p3)
   have e3:=bt ha _ (Ne.symm na3) (smT _ _ p1)
   have sm4:aF H H3:=fun b o e=>bt b o (aJ e fs) (sm3 b o e)
   have stl:(cX (net.vs.take i) ((aP net held coming poured doors).take i)).length≤12:=by
    rw[staysL_len _ _ (by rw[List.length_take,List.length_take,hsl])];exact htk
   have tpl:=tipsL_len (net.vs.take i) ((aP net held coming poured doors).take i) 0
   refine⟨_,rfl,.inl ⟨rfl,_,bZ.of e1⟩,_,rfl,hl,_,_,rfl,rfl,e1,aZ (by simp;omega),?_⟩
   have f1:upd H3 hl (.lst ((cX (net.vs.take i) ((aP net held coming poured doors).take i)).map V.int++[.int (vStay net.vs[i] hi)])) tl=some (.lst ((bE 0 (net.vs.take i) ((aP net held coming poured doors).take i)).map fun (j:Nat)=>V.int (j:Int))):=by rw[aI (Ne.symm n1)];exact e2
   have s1:=staysL_snoc net.vs (aP net held coming poured doors) i _ _ hv hhi
   have s2:=tipsL_snoc net.vs (aP net held coming poured doors) i 0 _ _ hv hhi
   have s3:=goesL_snoc net.vs (aP net held coming poured doors) i _ _ hv hhi
   have dgo:∀ {Hx:Hp},Hx sd=H3 sd→DictG Hx sd (bY (net.vs.take (i+1)) ((aP net held coming poured doors).take (i+1))):=fun {Hx} e=>by
    obtain⟨kv,a1,a2,a3⟩:=dg
    rw[s3]
    exact⟨kv,e.trans a1,a2,a3⟩
   refine⟨_,rfl,_,rfl,?_⟩
   cases ht:vTips net.vs[i] hi with
   | false=>
    refine iteF ?_
    rw[ht] at s2
    refine⟨sm4.put fh,by rw[aI (Ne.symm na1)];exact e3,by rw[aB,s1,List.map_append];rfl,by rw[s2];simpa using f1,dgo (by rw[aI (Ne.symm n2)]),_,_,_,_,rfl⟩
   | true=>
    refine iteT ?_
    rw[ht] at s2
    refine⟨_,rfl,.inl ⟨rfl,_,bZ.of f1⟩,_,rfl,tl,_,_,rfl,rfl,f1,aZ (by simp;omega),?_⟩
    refine⟨(sm4.put fh).put ft,by rw[aI (Ne.symm na2),aI (Ne.symm na1)];exact e3,by rw[aI n1,aB,s1,List.map_append];rfl,?_,dgo (by rw[aI (Ne.symm n3),aI (Ne.symm n2)]),_,_,_,_,rfl⟩
    rw[aB,s2]
    simp
  ·rintro σ' H2 ⟨sm2,p1,p2,p3,p4,v8,v9,v10,v11,rfl⟩
   rw[List.length_map,hsl] at p2 p3 p4
   have ek:net.vs.take net.vs.length=net.vs:=List.take_length
   have ek2:(aP net held coming poured doors).take net.vs.length=aP net held coming poured doors:=by rw[← hsl,List.take_length]
   rw[ek,ek2] at p2 p3 p4
   obtain⟨kvs,d1,d2,d3⟩:=p4
   refine⟨_,rfl,av,xs,rfl,.inr (sm2.tup qv),_,rfl,by omega,by have:=nok.hi;omega,?_⟩
   have hn:((xs.length:Nat):Int).toNat=net.vs.length:=by rw[exl];simp
   rw[hn]
   refine lc_range (n:=net.vs.length) (fun D i r σ' H'=>H2 D=none∧aF H2 H'∧H' D=some (.lst r)∧r=((dJ net.vs.length (bY net.vs (aP net held coming poured doors))).take i).map V.int∧∃ v,σ'=[v,some (.ref sd)])
    (fun D hD=>⟨hD,aF.new hD,aB,by simp,none,rfl⟩) ?_ ?_
   rotate_left
   ·rintro D i r σ' H' hi ⟨hD,sm,hDl,rfl,v,rfl⟩
    refine name_yes ?_
    have hg:=DGet.k (k:=keyO (some (i:Int))) (sm _ _ d1)
    refine⟨_,rfl,sd,rfl,.inl ⟨kvs,.inl (sm _ _ d1)⟩,_,rfl,_,hg,hDl,aZ (by simp [dJ];have:=nok.hi;omega),hD,sm.put hD,aB,?_,_,rfl⟩
    have e:(dJ net.vs.length (bY net.vs (aP net held coming poured doors)))[i]? = some (cO (some (i:Int)) (bY net.vs (aP net held coming poured doors))):=by
     unfold dJ;simp [hi]
    rw[aW e,List.map_append]
    show _++[(dF kvs (keyO (some (i:Int)))).getD (.int 0)]=_
    rw[d3];rfl
   ·rintro D r σ' H3 ⟨hD,sm,hDl,rfl,_⟩
    have ll:(dJ net.vs.length (bY net.vs (aP net held coming poured doors))).length=net.vs.length:=by unfold dJ;simp
    rw[List.take_of_length_le (Nat.le_of_eq ll)] at hDl
    have sm3:aF H H3:=sm2.trans sm
    refine⟨_,rfl,_,rfl,.inr (.inl ⟨ay,_,2,_,rfl,rfl,sm3.tup qy,rfl,_,rfl,.ref av,.ref b3,tl,net.vs,doors,bE 0 net.vs (aP net held coming poured doors),net.vs.length,rfl,Is.tupOf (sm3.tup qv) (IsL.mono sm3.ts _ _ lv),Is.tupOf (sm3.tup q3) (IsL.of_bools _),bZ.of (sm _ _ p3),fun j hj=>by have:=tipsL_lt _ _ _ _ hj;omega,fun v hv=>by rw[sok.d];exact nok.vs v hv,by rw[sok.d];exact nok.sp,fun dp H4 sm4 hdp=>?_⟩)⟩
    obtain⟨da,dxs,rfl,qd,ld⟩:=hdp.un
    have c1:=sm4 _ _ (sm _ _ p2)
    have c2:=sm4 _ _ hDl
    have c3:=sm4 _ _ (sm _ _ p3)
    have c4:=sm4 _ _ (sm _ _ d1)
    refine⟨_,rfl,hl,_,rfl,.inl ⟨bZ.of c1,fun t1 ht1=>?_⟩⟩
    have m1:=aF.new (o:=HO.tup ((cX net.vs (aP net held coming poured doors)).map V.int)) ht1
    refine⟨_,rfl,D,_,rfl,.inl ⟨bZ.of (m1 _ _ c2),fun t2 ht2=>?_⟩⟩
    have m2:=aF.new (o:=HO.tup ((dJ net.vs.length (bY net.vs (aP net held coming poured doors))).map V.int)) ht2
    refine⟨_,rfl,(show 3≤sizeLine by decide),fun t3 ht3=>?_⟩
    have m3:=aF.new (o:=HO.tup [.ref t1,.ref t2,.ref da]) ht3
    refine⟨_,rfl,tl,_,rfl,bZ.of (m3 _ _ (m2 _ _ (m1 _ _ c3))),fun t4 ob ht4 hob=>?_⟩
    have m4:=aF.new (o:=HO.frz ob (.tup ((bE 0 net.vs (aP net held coming poured doors)).map fun (j:Nat)=>V.int (j:Int)))) ht4
    have c4':=m4 _ _ (m3 _ _ (m2 _ _ (m1 _ _ c4)))
    have hg:=DGet.k (k:=keyO none) c4'
    refine⟨_,rfl,sd,rfl,.inl ⟨kvs,.inl c4'⟩,_,hg,(show 3≤sizeLine by decide),fun t5 ht5=>?_⟩
    have m5:aF _ _:=aF.new (o:=HO.tup [.ref t3,.ref t4,(dF kvs (keyO none)).getD (.int 0)]) ht5
    have eg:(dF kvs (keyO none)).getD (.int 0)=.int (cO none (bY net.vs (aP net held coming poured doors))):=d3 none
    rw[eg] at m5 ⊢
    have e1:((bE 0 net.vs (aP net held coming poured doors)).map fun (i:Nat)=>L2.D.int (i:Int))=((bE 0 net.vs (aP net held coming poured doors)).map fun (i:Nat)=>(i:Int)).map L2.D.int:=by rw[List.map_map];rfl
    refine k _ _ ((((((sm3.trans sm4).trans m1).trans m2).trans m3).trans m4).trans m5) ⟨t5,.ref t3,t4,rfl,bT.of aB,?_,ob,m5 _ _ aB,hob⟩
    exact Is.mono m5.ts _ _ (Is.mono m4.ts _ _ (st_of (bT.of aB) (m3.tup (m2.tup (bT.of aB))) (m3.tup (bT.of aB)) (by
      have:=ld.bools;rw[this] at qd;exact m3.tup (m2.tup (m1.tup qd)))))
end
end Tw
namespace Tw
open PySem L2
section
variable {P:Program}{w:World}{K:PySem.W.Frag}{mg:Str→Option Value}{base:Heap}
noncomputable def Sq2 (K:PySem.W.Frag) (H:Hp) (a:Addr) (xs:List V):Prop:=bT K H a xs∨bZ K H a xs
theorem Sq2.same {H H':Hp}{a:Addr}{xs:List V} (h:Sq2 K H a xs) (s:aF H H'):Sq2 K H' a xs:=h.elim (fun h=>.inl (s.tup h)) fun h=>.inr (s.seq h)
theorem ix2 {H:Hp}{z:Addr}{xs:List V}{i:Int}{v:V}{Q:VK} (h:Sq2 K H z xs) (e:atI xs i=some v) (k:Q v H):rIx K (.ref z) (.int i) H Q:=h.elim (fun h=>.inr (.inl ⟨z,xs,i,v,rfl,rfl,h,e,k⟩)) fun h=>.inl ⟨z,xs,i,v,rfl,rfl,h,e,k⟩
noncomputable def spFilledL (K:PySem.W.Frag):Sp:=fun args H Q _=>∃ (x y:V) (z:Addr) (net:Net) (held coming poured:List Int) (doors:List Bool),args=[x,y,.ref z]∧Is K H (netD net) x∧Is K H (stD held coming doors) y∧Sq2 K H z (poured.map V.int)∧
 NetOk net∧StOk net held coming doors∧poured.length=net.vs.length∧∀ p H',aF H H'→H p=none→H' p=some (.lst ((aP net held coming poured doors).map V.int))→Q (.ref p) H'
theorem sc__law_filled:FnScope ["net","state","poured","has","k"] ["net","state","poured"] (aL (bC 28)):=⟨rfl,rfl,rfl,by decide +kernel,rfl,by decide +kernel,by decide +kernel⟩
theorem ok__law_filled {f:Addr}{fd:FuncData} (F:Fun K "_law_filled" "_law_filled" (bC 28) f fd) (T:Txt mg):FnOk P w K mg base CX0 1 f fd ["net","state","poured"] (spFilledL K):=by
 refine F.ok sc__law_filled (fun vs H Q E h=>?_) (fun cdv A outer s H vs Q E hr h=>?_)
 ·obtain⟨x,y,z,net,held,coming,poured,doors,rfl,_⟩:=h;rfl
 ·obtain⟨x,y,z,net,held,coming,poured,doors,rfl,hx,hy,qz,nok,sok,hpl,k⟩:=h
  have sc:=sc__law_filled
  refine⟨_,(aD (ps_set_lc (i:=3) sc.nd rfl rfl (fun _ _ h=>h) rfl (LcOk.mk (N':=["k","poured","state"]) (fr:=[none,some 2,some 1]) rfl ⟨rfl,rfl,trivial⟩ rfl rfl rfl rfl rfl ⟨⟨_,rfl,rfl,rfl,rfl⟩,⟨_,rfl,rfl,rfl,rfl⟩,trivial⟩) (cD rfl T.b_range (aA (bA (bQ (K:=K) rfl) rfl T.b_len PySem.boot_len (aA (aU (aM (K:=K) rfl) (pv 0) aG (fun _ _=>rfl)) aC)) aC)) (fun _ _ _=>(aH (i:=0) (show (["k","poured","state"]:List Str).Nodup by decide +kernel) rfl (Or.inl rfl) (Or.inr rfl))) (fun _ _ _=>eE) (fun _ _ _=>(aX cU (aX cU (aU (aM (K:=K) rfl) (aU (aM (K:=K) rfl) (pv 2) aG (fun _ _=>rfl)) (pv 0) (fun _ _=>rfl)) (aU (aM (K:=K) rfl) (aU (aM (K:=K) rfl) (pv 2) aG (fun _ _=>rfl)) (pv 0) (fun _ _=>rfl))) (aU (aM (K:=K) rfl) (pv 1) (pv 0) (fun _ _=>rfl)))))
   (aD (dH PassesOwn.never rfl (cD rfl T.b_range (aA (bA (bQ (K:=K) rfl) rfl T.b_len PySem.boot_len (aA (aU (aM (K:=K) rfl) (pv 0) aG (fun _ _=>rfl)) aC)) aC)) (aH (i:=4) sc.nd rfl (Or.inl rfl)) (aO (dP (pt_val (aU (aM (K:=K) rfl) (aU (aM (K:=K) rfl) (pv 1) aG (fun _ _=>rfl)) (pv 4) (fun _ _=>rfl))) (aO (cS (aX cU (aU (aM (K:=K) rfl) (pv 3) (aU (aM (K:=K) rfl) (aU (aM (K:=K) rfl) (aU (aM (K:=K) rfl) (pv 0) aG (fun _ _=>rfl)) (pv 4) (fun _ _=>rfl)) aG (fun _ _=>rfl)) (fun _ _=>rfl)) (aU (aM (K:=K) rfl) (aU (aM (K:=K) rfl) (aU (aM (K:=K) rfl) (pv 0) aG (fun _ _=>rfl)) (pv 4) (fun _ _=>rfl)) aG (fun _ _=>rfl))) (pg_sub (pv 3) (aU (aM (K:=K) rfl) (aU (aM (K:=K) rfl) (aU (aM (K:=K) rfl) (pv 0) aG (fun _ _=>rfl)) (pv 4) (fun _ _=>rfl)) aG (fun _ _=>rfl)) set_list))) bX)))
   (aO (bV (pv 3))))),?_⟩
  obtain⟨a,b,c,xs,ys,rfl,q,q1,l1,q2,l2⟩:=net_un hx
  obtain⟨ay,a1,a2,a3,rfl,qy,p1,p2,p3⟩:=st_un hy
  have exl:xs.length=net.vs.length:=by rw[l1.length,List.length_map]
  have eyl:ys.length=net.sps.length:=by rw[l2.length,List.length_map]
  have n1:=nok.lo
  have n2:=nok.hi
  have n3:=nok.sp
  have la:=add3_len sok.h sok.c hpl
  refine⟨_,rfl,.inr (.inl ⟨a,_,0,_,rfl,rfl,q,rfl,b,xs,rfl,.inr q1,_,rfl,by omega,by omega,?_⟩)⟩
  have hn:((xs.length:Nat):Int).toNat=net.vs.length:=by rw[exl];simp
  rw[hn]
  refine lc_range (n:=net.vs.length) (fun D i r σ' H'=>H D=none∧aF H H'∧H' D=some (.lst r)∧r=((add3 held coming poured).take i).map V.int∧∃ v,σ'=[v,some (.ref z),some (.ref ay)])
   (fun D hD=>⟨hD,aF.new hD,aB,by simp,none,rfl⟩) ?_ ?_
  rotate_left
  ·rintro D i r σ' H' hi ⟨hD,sm,hDl,rfl,v,rfl⟩
   refine name_yes ?_
   have g1:held[i]? = some (held[i]'(by rw[sok.h];exact hi)):=by simp
   have g2:coming[i]? = some (coming[i]'(by rw[sok.c];exact hi)):=by simp
   have g3:poured[i]? = some (poured[i]'(by rw[hpl];exact hi)):=by simp
   have g4:=add3_get g1 g2 g3
   have m1:∀ {l:List Int}{u:Int},l[i]? = some u→(l.map V.int)[i]? = some (.int u):=fun e=>by rw[List.getElem?_map,e];rfl
   refine⟨_,rfl,.inr (.inl ⟨ay,_,0,_,rfl,rfl,sm.tup qy,rfl,_,rfl,.inr (.inl ⟨a1,_,(i:Int),_,rfl,rfl,sm.tup p1,cL (m1 g1),?_⟩)⟩)⟩
   refine⟨_,rfl,.inr (.inl ⟨ay,_,1,_,rfl,rfl,sm.tup qy,rfl,_,rfl,.inr (.inl ⟨a2,_,(i:Int),_,rfl,rfl,sm.tup p2,cL (m1 g2),?_⟩)⟩)⟩
   refine⟨_,_,rfl,rfl,_,rfl,_,rfl,ix2 (qz.same sm) (cL (m1 g3)) ⟨_,_,rfl,rfl,hDl,aZ (by simp;omega),hD,sm.put hD,aB,?_,_,rfl⟩⟩
   rw[aW g4,List.map_append];rfl
  rintro D r σ' H1 ⟨hD,sm,hDl,rfl,_⟩
  rw[← la,List.take_length] at hDl
  refine⟨_,rfl,.inr (.inl ⟨a,_,1,_,rfl,rfl,sm.tup q,rfl,c,ys,rfl,.inr (sm.tup q2),_,rfl,by omega,by omega,?_⟩)⟩
  have hm:((ys.length:Nat):Int).toNat=net.sps.length:=by rw[eyl];simp
  rw[hm]
  refine dZ (lo:=0) (n:=net.sps.length) (fun i σ' H'=>aF H H'∧H' D=some (.lst ((eA (add3 held coming poured) (net.sps.take i) (doors.take i)).map V.int))∧
   ∃ v4,σ'=[some (.ref a),some (.ref ay),some (.ref z),some (.ref D),v4]) ⟨sm,by cases net.sps <;> exact hDl,none,rfl⟩ ?_ ?_
  ·rintro i σ' H2 hi ⟨sm2,h2,v4,rfl⟩
   rw[Int.zero_add]
   have hsi:net.sps[i]? = some net.sps[i]:=by simp [hi]
   have hdi:doors[i]? = some (doors[i]'(by rw[sok.d];exact hi)):=by simp
   obtain⟨xv,hxv,ixv⟩:=l2.get (i:=i) (d:=spD net.sps[i]) (by rw[List.getElem?_map,hsi];rfl)
   obtain⟨sp,hsi',sa,rfl,qs⟩:=sps_at l2 hxv
   rw[hsi] at hsi'
   cases hsi'
   have snoc:=fillL_snoc net.sps doors i (add3 held coming poured) _ _ hsi hdi
   have hs:=nok.sps net.sps[i] (List.getElem_mem hi)
   have hdm:(doors.map V.bl)[i]? = some (.bl (doors[i]'(by rw[sok.d];exact hi))):=by rw[List.getElem?_map,hdi];rfl
   refine⟨_,rfl,.inr (.inl ⟨ay,_,2,_,rfl,rfl,sm2.tup qy,rfl,_,rfl,.inr (.inl ⟨a3,_,(i:Int),_,rfl,rfl,sm2.tup p3,cL hdm,_,rfl,?_⟩)⟩)⟩
   cases hdr:(doors[i]'(by rw[sok.d];exact hi)) with
   | false=>
    rw[hdr] at snoc
    refine iteF ?_
    exact⟨sm2,by rw[snoc];exact h2,_,rfl⟩
   | true=>
    rw[hdr] at snoc
    refine iteT ?_
    have hlen:(eA (add3 held coming poured) (net.sps.take i) (doors.take i)).length=net.vs.length:=by rw[fillL_len,la]
    have hlt:net.sps[i].1.toNat < (eA (add3 held coming poured) (net.sps.take i) (doors.take i)).length:=by rw[hlen];omega
    have hg:((eA (add3 held coming poured) (net.sps.take i) (doors.take i)).map V.int)[net.sps[i].1.toNat]? = some (.int ((eA (add3 held coming poured) (net.sps.take i) (doors.take i)).getD net.sps[i].1.toNat 0)):=by
     rw[List.getElem?_map,List.getD_eq_getElem?_getD];simp [hlt]
    refine⟨_,rfl,_,rfl,.inr (.inl ⟨a,_,1,_,rfl,rfl,sm2.tup q,rfl,_,rfl,.inr (.inl ⟨c,ys,(i:Int),_,rfl,rfl,sm2.tup q2,cL hxv,.inr (.inl ⟨sa,_,0,_,rfl,rfl,sm2.tup qs,rfl,.inl ⟨D,_,_,_,rfl,rfl,bZ.of h2,atI_int hs.1 hg,?_⟩⟩)⟩)⟩)⟩
    refine⟨_,rfl,.inr (.inl ⟨a,_,1,_,rfl,rfl,sm2.tup q,rfl,_,rfl,.inr (.inl ⟨c,ys,(i:Int),_,rfl,rfl,sm2.tup q2,cL hxv,.inr (.inl ⟨sa,_,1,_,rfl,rfl,sm2.tup qs,rfl,_,_,rfl,rfl,?_⟩)⟩)⟩)⟩
    refine⟨_,rfl,_,rfl,.inr (.inl ⟨a,_,1,_,rfl,rfl,sm2.tup q,rfl,_,rfl,.inr (.inl ⟨c,ys,(i:Int),_,rfl,rfl,sm2.tup q2,cL hxv,.inr (.inl ⟨sa,_,0,_,rfl,rfl,sm2.tup qs,rfl,D,_,_,net.sps[i].1.toNat,rfl,rfl,h2,ixN_nat hs.1 (by rw[List.length_map,hlen];omega),?_⟩)⟩)⟩)⟩
    refine⟨sm2.put hD,?_,_,rfl⟩
    rw[aB,snoc,fill1,if_pos rfl,List.map_set]
  ·rintro σ' H2 ⟨sm2,h2,v4,rfl⟩
   rw[← sok.d,List.take_length,sok.d,List.take_length] at h2
   exact⟨_,rfl,k D H2 sm2 hD h2⟩
end
end Tw
namespace L2
open PySem PySem.Spec PyProof.Rows
theorem cf_at:∀ (names:List (Str×NameKind)) (h:Heap) (acc:List (Str×Addr)) (x:Str) (c:Addr),(cellsFrom h.objs.size names acc).lookup x=some c→
  (h.objs.size≤c∧(x,NameKind.cell)∈names∧(pushCells h names).IsCell c none)∨acc.lookup x=some c
 | [],h,acc,x,c,e=>.inr e
 | (name,kind)::r,h,acc,x,c,e=>by
  unfold cellsFrom at e
  unfold pushCells
  cases hk:kind == NameKind.cell with
  | true=>
   rw[hk,if_pos rfl] at e
   rw[if_pos rfl]
   have hk':kind=.cell:=by simpa using hk
   have ih:=cf_at r (h.push { cls:=.type "cell",data:=.cell none }) ((name,h.objs.size)::acc) x c (by rw[Heap.size_push];exact e)
   rw[Heap.size_push] at ih
   rcases ih with ⟨a,b,d⟩ | ih
   ·exact .inl ⟨Nat.le_of_succ_le a,List.mem_cons_of_mem _ b,d⟩
   ·cases hx:x == name with
    | true=>
     simp only [List.lookup_cons,hx] at ih
     cases ih
     have e':x=name:=by simpa using hx
     subst e' hk'
     exact .inl ⟨Nat.le_refl _,List.mem_cons_self,_,pushCells_keeps _ _ _ _ (Heap.get?_push_size _ rfl),rfl⟩
    | false=>
     simp only [List.lookup_cons,hx] at ih
     exact .inr ih
  | false=>
   rw[hk,if_neg Bool.false_ne_true] at e
   rw[if_neg Bool.false_ne_true]
   rcases cf_at r h acc x c e with ⟨a,b,d⟩ | ih
   ·exact .inl ⟨a,List.mem_cons_of_mem _ b,d⟩
   ·exact .inr ih
theorem cf_own:∀ (names:List (Str×NameKind)) (n m:Nat) (acc:List (Str×Addr)) (x:Str),m≤n→((x,NameKind.cell)∈names∨∃ c,m≤c∧acc.lookup x=some c)→∃ c,m≤c∧(cellsFrom n names acc).lookup x=some c
 | [],n,m,acc,x,_,h=>by
  rcases h with h | h
  ·simp at h
  ·exact h
 | (name,kind)::r,n,m,acc,x,hm,h=>by
  unfold cellsFrom
  cases hk:kind == NameKind.cell with
  | true=>
   rw[if_pos rfl]
   have hk':kind=.cell:=by simpa using hk
   refine cf_own r (n+1) m _ x (by omega) ?_
   cases hx:x == name with
   | true=>exact .inr ⟨n,hm,by simp only [List.lookup_cons,hx]⟩
   | false=>
    have ne:x≠name:=fun z=>by rw[z] at hx;simp at hx
    rcases h with h | ⟨c,h1,h2⟩
    ·rcases List.mem_cons.mp h with h | h
     ·exact absurd (by injection h) ne
     ·exact .inl h
    ·exact .inr ⟨c,h1,by simp only [List.lookup_cons,hx];exact h2⟩
  | false=>
   rw[if_neg Bool.false_ne_true]
   refine cf_own r n m _ x hm ?_
   rcases h with h | h
   ·rcases List.mem_cons.mp h with h | h
    ·injection h with h1 h2
     rw[← h2] at hk;simp at hk
    ·exact .inl h
   ·exact .inr h
theorem cf_acc:∀ (names:List (Str×NameKind)) (n:Nat) (acc:List (Str×Addr)) (x:Str),(x,NameKind.cell)∉names→(cellsFrom n names acc).lookup x=acc.lookup x
 | [],_,_,_,_=>rfl
 | (name,kind)::r,n,acc,x,h=>by
  unfold cellsFrom
  have hr:(x,NameKind.cell)∉r:=fun z=>h (List.mem_cons_of_mem _ z)
  cases hk:kind == NameKind.cell with
  | true=>
   rw[if_pos rfl,cf_acc r (n+1) _ x hr]
   have hk':kind=.cell:=by simpa using hk
   have hx:(x == name)=false:=by
    cases hx:x == name with
    | false=>rfl
    | true=>
     have e':x=name:=by simpa using hx
     subst e' hk'
     exact absurd List.mem_cons_self h
   simp only [List.lookup_cons,hx]
  | false=>rw[if_neg Bool.false_ne_true,cf_acc r n _ x hr]
theorem cf_inj:∀ (names:List (Str×NameKind)) (n:Nat) (acc:List (Str×Addr)),(∀ x y c,acc.lookup x=some c→acc.lookup y=some c→x=y)→(∀ x c,acc.lookup x=some c→c < n)→
  ∀ x y c,(cellsFrom n names acc).lookup x=some c→(cellsFrom n names acc).lookup y=some c→x=y
 | [],_,_,h,_=>h
 | (name,kind)::r,n,acc,h,hb=>by
  unfold cellsFrom
  split
  ·refine cf_inj r (n+1) _ (fun x y c e1 e2=>?_) fun x c e=>?_
   ·cases hx:x == name <;> cases hy:y == name <;> simp only [List.lookup_cons,hx,hy] at e1 e2
    ·exact h x y c e1 e2
    ·cases e2;exact absurd (hb x _ e1) (Nat.lt_irrefl _)
    ·cases e1;exact absurd (hb y _ e2) (Nat.lt_irrefl _)
    ·have a:x=name:=by simpa using hx
     have b:y=name:=by simpa using hy
     rw[a,b]
   ·cases hx:x == name <;> simp only [List.lookup_cons,hx] at e
    ·exact Nat.lt_succ_of_lt (hb x c e)
    ·cases e;exact Nat.lt_succ_self _
  ·exact cf_inj r n acc h hb
section
variable {M:Model}{A:Around}{E:Value→Shared→Prop}{s:Shared}
theorem wpAny_newEnvC {scope:Scope}{globals:Addr}{cl:List (Str×Addr)}{qual:Str}{func:Option Addr}{code:Value}{env:Env}{builtins:Addr}{Q:Env→Shared→Prop}
  (h:Q { scope,locals:=s.heap.objs.size,globals,cells:=cellsFrom (s.heap.objs.size+1) scope.names cl,qual,func,code:=env.code,frame:=env.frame,builtins:=env.builtins }
   { s with heap:=pushCells (s.heap.push { cls:=.type "dict",data:=.dict #[] }) scope.names }):wpAny M A (newFunctionEnv scope globals cl [] qual func code (some env) builtins) Q E s:=by
 simp only [newFunctionEnv,Option.isSome_some,if_true]
 refine wpAny_bind (wpAny_alloc ?_)
 refine wpAny_bind (wpAny_layCells _ (fun name kind cells=>by cases hkc:kind == NameKind.cell <;> simp [hkc]) _ _ _ _ ?_)
 rw[show ({ s with heap:=s.heap.push { cls:=.type "dict",data:=.dict #[] } }:Shared).heap.objs.size=s.heap.objs.size+1 from Heap.size_push ..]
 rw[List.forIn_nil]
 exact wpAny_bind (wpAny_pure (wpAny_pure h))
end
structure LcOk2 (X:Cx) (scope:Scope) (cl:List (Str×Addr)) (N':List Str) (fr:List (Option Nat)):Prop where
 clos:closureFor scope X.env=pure cl
 cls:ClOk X.env cl
 kind:scope.kind=.function
 owns:(scope.names.all fun p=>p.2 != NameKind.cell || scope.names.lookup p.1 == some NameKind.cell)=true
 locs:(scope.names.all fun p=>p.2 != NameKind.local || scope.names.lookup p.1 == some NameKind.local)=true
 frees:(scope.names.all fun p=>p.2 != NameKind.free || (cl.lookup p.1).isSome)=true
 len:fr.length=N'.length
 fr:FrOk X scope N' fr 0
noncomputable def cxD (X:Cx) (N':List Str) (scope:Scope) (cl:List (Str×Addr)) (fp:List Addr) (s:Shared) (H:Hp):Cx:=
 { X with N:=N',s₀:=s,H₀:=H,env:=compEnvC scope (cellsFrom (s.heap.objs.size+1) scope.names cl) s.heap.objs.size X.env,outer:=X.stack,ex:=fp,fn:=fun x=>scope.names.lookup x == some .cell,pn:=[] }
section
variable {X:Cx}
theorem LcOk2.cells {scope:Scope}{cl:List (Str×Addr)}{N':List Str}{fr:List (Option Nat)} (S:LcOk2 X scope cl N' fr) {s:Shared}{o:Obj}{x:Str}{c:Addr} (e:(cellsFrom (s.heap.objs.size+1) scope.names cl).lookup x=some c) :
  (s.heap.objs.size < c∧(x,NameKind.cell)∈scope.names∧(pushCells (s.heap.push o) scope.names).IsCell c none)∨X.env.cells.lookup x=some c:=by
 have:=cf_at scope.names (s.heap.push o) cl x c (by rw[Heap.size_push];exact e)
 rw[Heap.size_push] at this
 rcases this with ⟨a,b,d⟩ | h
 ·exact .inl ⟨a,b,d⟩
 ·exact .inr (S.cls.get x c h)
theorem LcOk2.invC {scope:Scope}{cl:List (Str×Addr)}{N':List Str}{fr:List (Option Nat)}{pins:List (Addr×Obj)}{σ:St}{H:Hp}{s:Shared}{o:Obj}{fp:List Addr}{m1:Str→Option Value}{tk:Nat}
  (S:LcOk2 X scope cl N' fr) (I:Inv X pins σ H s) (hf:∀ b∈fp,FpOk X pins H b) (hfo:∀ b∈fp,b < s.heap.objs.size)
  (hn:(pushCells (s.heap.push o) scope.names).Ns s.heap.objs.size m1):Inv (cxD X N' scope cl fp s H) [] (frσ fr σ) H { s with heap:=pushCells (s.heap.push o) scope.names,toks:=tk }:=by
 have hfree:=S.frees
 have hown:=S.owns
 rw[List.all_eq_true] at hfree hown
 have k:∀ b o',s.heap.get? b=some o'→(pushCells (s.heap.push o) scope.names).get? b=some o':=fun b o' e=>pushCells_keeps _ _ b o' (Heap.get?_push_of_some _ e)
 have fresh:H s.heap.objs.size=none:=I.hok.fresh (Nat.le_refl _)
 have clg:=S.cls.get
 have cg:=fun x c e=>S.cells (s:=s) (o:=o) (x:=x) (c:=c) e
 have clt:∀ x c,cl.lookup x=some c→c < s.heap.objs.size:=fun x c e=>by
  obtain⟨v,oc,hoc,hd⟩:=I.cell x c (clg x c e)
  exact Heap.lt_size hoc
 have notown:∀ x,scope.names.lookup x=some .free→(x,NameKind.cell)∉scope.names:=fun x e hm=>by
  have:=hown _ hm
  simp only [bne_self_eq_false,Bool.false_or,beq_iff_eq] at this
  rw[e] at this;cases this
 refine⟨⟨I.ok.mod,S.kind,I.ok.glob,I.ok.blt,Nat.le_refl _,cf_inj scope.names _ cl (fun x y c e1 e2=>I.ok.inj x y c (clg x c e1) (clg y c e2)) (fun x c e=>Nat.lt_succ_of_lt (clt x c e)),fun x hx=>?_,fun x c e1 e2=>?_,I.ok.hd,I.ok.frames,.inl rfl,fun b hb=>⟨Nat.ne_of_lt (hfo b hb),fun x c e=>?_⟩,
  I.bs,Nat.le_trans I.ok.bsz I.sz,fun b o e hb=>?_,fun b hb hz=>?_,I.stack,I.stkFree⟩,rfl,I.bare,Un.kept k,⟨m1,hn,fun i x v e1 e2 e3=>?_⟩,fun x c e=>?_,fresh,fun x c e=>?_,fun p hp=>absurd (show p∈([]:List (Addr×Obj)) from hp) (by simp),I.hok.kept k,?_⟩
 ·
  have hm:∃ k',(x,k')∈scope.names∧(k'=NameKind.free∨k'=NameKind.cell):=by
   have hx':(relabel scope X.env).names.lookup x=some .cell∨(relabel scope X.env).names.lookup x=some .free:=hx
   obtain⟨k',e,hk'⟩:∃ k',(relabel scope X.env).names.lookup x=some k'∧(k'=.cell∨k'=.free):=by
    rcases hx' with e | e
    ·exact⟨_,e,.inl rfl⟩
    ·exact⟨_,e,.inr rfl⟩
   have hmem:=PySem.mem_of_lookup e
   obtain⟨⟨n,kn⟩,hp,he⟩:=List.mem_map.mp hmem
   dsimp only at he
   split at he
   ·rename_i hc
    cases he
    have:kn=.free:=by
     simp only [Bool.and_eq_true,beq_iff_eq] at hc
     exact hc.1.1
    exact⟨kn,hp,.inl this⟩
   ·cases he
    rcases hk' with e' | e'
    ·exact⟨_,hp,.inr e'⟩
    ·exact⟨_,hp,.inl e'⟩
  obtain⟨k',hp,hk'⟩:=hm
  by_cases hc:(x,NameKind.cell)∈scope.names
  ·obtain⟨c,_,e⟩:=cf_own scope.names (s.heap.objs.size+1) 0 cl x (Nat.zero_le _) (.inl hc)
   exact⟨c,e⟩
  ·rcases hk' with rfl | rfl
   ·have:=hfree _ hp
    simp only [bne_self_eq_false,Bool.false_or] at this
    obtain⟨c,e⟩:=Option.isSome_iff_exists.mp this
    exact⟨c,by show (cellsFrom _ _ _).lookup x=_;rw[cf_acc _ _ _ _ hc];exact e⟩
   ·exact absurd hp hc
 ·have e1':scope.names.lookup x=some .cell:=by simpa using (show (scope.names.lookup x == some NameKind.cell)=true from e1)
  obtain⟨c',hc',e'⟩:=cf_own scope.names (s.heap.objs.size+1) (s.heap.objs.size+1) cl x (Nat.le_refl _) (.inl (PySem.mem_of_lookup e1'))
  have e2':(cellsFrom (s.heap.objs.size+1) scope.names cl).lookup x=some c:=e2
  rw[e'] at e2'
  cases e2'
  exact Nat.le_of_succ_le hc'
 ·rcases cg x c e with ⟨a,_⟩ | e'
  ·exact Ne.symm (Nat.ne_of_lt (Nat.lt_trans (hfo b hb) a))
  ·exact (hf b hb).2.2.2.2.1 x c e'
 ·rcases (hf b hb).2.2.2.1 with z | z
  ·exact I.ok.noex b o e z
  ·have:=Heap.lt_size e
   exact absurd (Nat.lt_of_lt_of_le this (Nat.le_trans I.ok.bsz z)) (Nat.lt_irrefl _)
 ·obtain⟨_,f1,f2,_⟩:=hf b hb
  rcases List.mem_cons.mp (I.stkSub b hz) with e | e
  ·exact f1 e
  ·exact f2 e
 ·
  unfold frσ at e2
  rw[List.getElem?_map] at e2
  cases ef:fr[i]? with
  | none=>rw[ef] at e2;cases e2
  | some o=>
   rw[ef] at e2
   cases o with
   | none=>simp at e2
   | some j=>
    have e2':(σ[j]?).join=some v:=by simpa using e2
    obtain⟨x',h1',h2',h3',h4'⟩:=S.fr.get i j ef
    rw[Nat.zero_add] at h1'
    have ex:x'=x:=by
     have:N'[i]? = some x:=e1
     rw[h1'] at this
     exact Option.some.inj this
    subst ex
    have e2'':σ[j]? = some (some v):=by
     cases q:σ[j]? with
     | none=>rw[q] at e2';cases e2'
     | some z=>rw[q] at e2';simp at e2';rw[e2']
    obtain⟨m,hm,hl⟩:=I.loc
    obtain⟨u,r,lk⟩:=hl j x' v h2' e2'' (.inr (.inl h4'))
    refine⟨u,r,?_⟩
    rcases lk with ⟨q,_⟩ | ⟨_,c,hc,z⟩
    ·rw[h4'] at q;cases q
    ·have hcl:∃ c',cl.lookup x'=some c':=by
      have:=hfree _ (PySem.mem_of_lookup h3')
      simp only [bne_self_eq_false,Bool.false_or] at this
      exact Option.isSome_iff_exists.mp this
     obtain⟨c',hc'⟩:=hcl
     have e':=clg x' c' hc'
     rw[hc] at e'
     cases e'
     obtain⟨oc,hoc,hd⟩:=z
     refine .inr ⟨.inl ?_,c,?_,oc,k c oc hoc,hd⟩
     ·exact dU I.ok.kind h3' h4'
     ·show (cellsFrom _ _ _).lookup x'=_
      rw[cf_acc _ _ _ _ (notown x' h3')];exact hc'
 ·rcases cg x c e with ⟨_,_,z⟩ | e'
  ·exact⟨_,z⟩
  ·obtain⟨v,oc,hoc,hd⟩:=I.cell x c e'
   exact⟨v,oc,k c oc hoc,hd⟩
 ·rcases cg x c e with ⟨a,_⟩ | e'
  ·exact I.hok.fresh (Nat.le_of_lt a)
  ·exact I.freeC x c e'
 ·show (frσ fr σ).length=N'.length
  unfold frσ
  rw[List.length_map,S.len]
theorem Inv.outD {scope:Scope}{cl:List (Str×Addr)}{N':List Str}{pins pins':List (Addr×Obj)}{σ σ':St}{H H':Hp}{s s':Shared}{fp:List Addr} (I:Inv X pins σ H s) (J:Inv (cxD X N' scope cl fp s H) pins' σ' H' s')
  (hf:∀ b∈fp,FpOk X pins H b):Inv X pins σ H' s':=
 I.call' (ch:=fp) J.os J.base J.hok J.bare fun b hb=>by
  obtain⟨_,f1,_,f3,f4,f5⟩:=hf b hb
  exact⟨f3,f1,f4,f5⟩
theorem lc_blockD {elt tg iter:Expr}{ifs:List Expr}{scope:Scope}{pos:Pos}{N':List Str}{fr:List (Option Nat)}{cl:List (Str×Addr)}{g:TG}{tc:TT}{te:TE}
  {pins:List (Addr×Obj)}{σ:St}{H:Hp}{s:Shared}{J:It}{fp:List Addr}{it:Addr}{tn:Nat→Heap→Prop}{Q:Addr→Hp→Prop}{RR:Value→Addr→Result→Shared→Prop}{E:Value→Shared→Prop}
  (hx:∀ e s,¬ X.xe e s) (hc:X.calm=true) (S:LcOk2 X scope cl N' fr)
  (hg:∀ fp s H,PG (cxD X N' scope cl fp s H) tg g) (ht:∀ fp s H,PIf (cxD X N' scope cl fp s H) ifs tc) (he:∀ fp s H,PE (cxD X N' scope cl fp s H) elt te)
  (I:Inv X pins σ H s) (T:Turn X.prog X.w X.K tg J fp it tn) (st:tn 0 s.heap) (hf:∀ b∈fp,FpOk X pins H b) (h:lcRest J g tc te fr σ H Q)
  (hRR:∀ D C H' s' m',Inv X pins σ H' s'→Q D H'→s'.heap.Ns C m'→FpOk X pins H' C→RR (.ref D) C (.ok .next) s') :
  wpAny (model X.prog X.w) X.A (newList []) (fun acc s₃=>wpAny (model X.prog X.w) X.A (newFunctionEnv scope X.env.globals cl [] X.env.qual none .none (some X.env)) (fun cenv s₄=>
   codeAny (model X.prog X.w) X.A (.compStart (.ListComp elt [⟨tg,iter,ifs,0⟩] scope pos) 0 (.ref it) acc { cenv with scope:=relabel scope X.env }) (RR acc cenv.locals) s₄) E s₃) E s:=by
 refine wpAny_newObj_type (wpAny_newEnvC ?_)
 dsimp only
 have fresh:H s.heap.objs.size=none:=I.hok.fresh (Nat.le_refl _)
 have I3:Inv X pins σ (upd H s.heap.objs.size (.lst [])) { s with heap:=s.heap.push { cls:=.type "list",data:=.seq ([]:List Value).toArray },toks:=s.toks }:=I.lnew (ys:=[]) (its:=[]) .nil (Nat.zero_le _)
 have hf3:∀ b∈fp,FpOk X pins (upd H s.heap.objs.size (.lst [])) b:=fun b hb=>by
  obtain⟨o,ho,_⟩:=T.obj _ _ st b hb
  exact⟨by rw[aI (Nat.ne_of_lt (Heap.lt_size ho))];exact (hf b hb).1,(hf b hb).2⟩
 generalize hs3:({ s with heap:=s.heap.push { cls:=.type "list",data:=.seq ([]:List Value).toArray },toks:=s.toks }:Shared)=s3 at I3
 have e3:s3.heap=s.heap.push { cls:=.type "list",dict:=none,data:=.seq ([]:List Value).toArray }:=by rw[← hs3]
 have e3s:({ s with heap:=s.heap.push { cls:=.type "list",dict:=none,data:=.seq ([]:List Value).toArray } }:Shared)=s3:=hs3
 have hsz3:s3.heap.objs.size=s.heap.objs.size+1:=by rw[e3,Heap.size_push]
 have hfo:∀ b∈fp,b < s3.heap.objs.size:=fun b hb=>by
  obtain⟨o,ho,_⟩:=T.obj _ _ st b hb
  rw[hsz3]
  exact Nat.lt_succ_of_lt (Heap.lt_size ho)
 rw[← e3]
 generalize hh1:pushCells (s3.heap.push { cls:=.type "dict",data:=.dict #[] }) scope.names=h₁
 have hns₁:(pushCells (s3.heap.push { cls:=.type "dict",data:=.dict #[] }) scope.names).Ns s3.heap.objs.size (fun _=>none):=(Heap.Ns.new s3.heap (.type "dict")).keeps (pushCells_keeps _ _)
 have old3:∀ b o,s3.heap.get? b=some o→h₁.get? b=some o:=fun b o e=>by rw[← hh1];exact pushCells_keeps _ _ b o (Heap.get?_push_of_some _ e)
 have old:∀ b o,s.heap.get? b=some o→s3.heap.get? b=some o:=fun b o e=>by rw[e3];exact Heap.get?_push_of_some _ e
 have I4:=S.invC (tk:=s3.toks) I3 hf3 hfo hns₁
 rw[hh1] at I4
 obtain⟨W,⟨m0,w0⟩,turn⟩:=h s.heap.objs.size fresh
 have stat:∀ {H':Hp},(∀ b∈fp,H' b=none)→∀ b∈fp,FpOk (cxD X N' scope cl fp s3 (upd H s.heap.objs.size (.lst []))) [] H' b:=fun hn b hb=>by
  refine⟨hn b hb,Nat.ne_of_lt (hfo b hb),?_,.inl hb,fun x c e=>?_,fun p hp=>absurd (show p∈([]:List (Addr×Obj)) from hp) (by simp)⟩
  ·intro hz
   obtain⟨_,f1,f2,_⟩:=hf b hb
   rcases List.mem_cons.mp (I.stkSub b hz) with e | e
   ·exact f1 e
   ·exact f2 e
  ·rcases S.cells (s:=s3) (o:={ cls:=.type "dict",data:=.dict #[] }) e with ⟨a,_⟩ | e'
   ·exact Ne.symm (Nat.ne_of_lt (Nat.lt_trans (hfo b hb) a))
   ·exact (hf b hb).2.2.2.2.1 x c e'
 have loop:∀ s4:Shared,s4={ s3 with heap:=h₁,toks:=s3.toks }→
   codeAny (model X.prog X.w) X.A (.compLoop (.ListComp elt [⟨tg,iter,ifs,0⟩] scope pos) 0 (.ref it) (.ref s.heap.objs.size) (compEnvC scope (cellsFrom (s3.heap.objs.size+1) scope.names cl) s3.heap.objs.size X.env)) (RR (.ref s.heap.objs.size) s3.heap.objs.size) s4:=by
  intro s4 hs4
  refine compLoop_any (fun n s'=>∃ i ys σ' H',Inv (cxD X N' scope cl fp s3 (upd H s.heap.objs.size (.lst []))) [] σ' H' s'∧tn i s'.heap∧(∀ b∈fp,H' b=none)∧W i n ys σ' H') ?_ m0
   ⟨0,[],frσ fr σ,_,by rw[hs4];exact I4,by rw[hs4];exact T.keep _ _ _ st fun b _ o e=>old3 b o (old b o e),fun b hb=>(hf3 b hb).1,w0⟩
  rintro n s5 ⟨i,ys,σ5,H5,I5,st5,fr5,w5⟩
  rcases turn i n ys σ5 H5 w5 with ⟨stop,qn⟩ | ⟨go,N,hN,step⟩
  ·refine cI (T.done (cxD X N' scope cl fp s3 (upd H s.heap.objs.size (.lst []))) rfl rfl rfl hc i [] s5 σ5 H5 _ I5 (stat fr5) st5 stop) fun r s6 ⟨hr,I6⟩=>?_
   subst hr
   obtain⟨m',hm',_⟩:=I6.loc
   exact hRR _ _ H5 s6 m' (I3.outD I6 hf3) qn hm' (I3.fpOk (Nat.le_refl _) I6.free)
  ·refine cI (T.item (cxD X N' scope cl fp s3 (upd H s.heap.objs.size (.lst []))) rfl rfl rfl hc i [] s5 σ5 H5 _ I5 (stat fr5) st5 go) fun r s6 ⟨u,hr,h6⟩=>?_
   subst hr
   refine cI h6 fun _ s7 ⟨x,H7,I7,r7,y7,st7,fr7⟩=>?_
   have I7':=I7.pinned (stat fr7) (T.obj _ _ st7)
   refine wpAny_mono (hg fp s3 _ _ s7 σ5 H7 x u _ I7' r7 (step x H7 y7)) (fun _ s8 ⟨σ8,H8,I8,q8⟩=>?_) fun e s' z=>(hx e s' z).elim
   refine wpAny_mono (ht fp s3 _ _ s8 σ8 H8 _ I8 q8) (fun ok s9 ⟨H9,I9,q9⟩=>?_) fun e s' z=>(hx e s' z).elim
   have again:∀ {s10:Shared}{H10:Hp}{ys':List V},Inv (cxD X N' scope cl fp s3 (upd H s.heap.objs.size (.lst []))) ([]++pinsAt fp s7.heap) σ8 H10 s10→N ys' σ8 H10→
     ∃ m,m < n∧∃ i ys σ' H',Inv (cxD X N' scope cl fp s3 (upd H s.heap.objs.size (.lst []))) [] σ' H' s10∧tn i s10.heap∧(∀ b∈fp,H' b=none)∧W i m ys σ' H':=fun {s10 H10 ys'} I10 n10=>by
    obtain⟨m',hm,w10⟩:=hN ys' σ8 H10 n10
    refine⟨m',hm,i+1,ys',σ8,H10,I10.unpinned,T.keep _ _ _ st7 fun b hb o e=>(I10.pin (b,o) (List.mem_append_right _ (List.mem_append_right _ (mem_pinsAt hb e)))).1,fun b hb=>?_,w10⟩
    obtain⟨o,e,d⟩:=T.obj _ _ st7 b hb
    exact (I10.pin (b,o) (List.mem_append_right _ (List.mem_append_right _ (mem_pinsAt hb e)))).2.1
   cases ok with
   | false=>
    rw[if_neg Bool.false_ne_true] at q9 ⊢
    exact again I9 q9
   | true=>
    rw[if_pos rfl] at q9 ⊢
    refine wpAny_mono (he fp s3 _ _ s9 σ8 H9 _ I9 q9) (fun y s10 ⟨yv,H10,I10,r10,hD,hlen,q10⟩=>?_) fun e s' z=>(hx e s' z).elim
    refine wpAny_mono (cJ (X:=cxD X N' scope cl fp s3 (upd H s.heap.objs.size (.lst []))) _ s10 σ8 H10 (.ref s.heap.objs.size) [yv] (.ref s.heap.objs.size) [y] (fun _ H11=>H11=upd H10 s.heap.objs.size (.lst (ys++[yv]))) I10 rfl (.cons r10 .nil)
     ⟨_,ys,yv,rfl,rfl,hD,hlen,rfl⟩) (fun _ s11 ⟨_,H11,I11,_,e11⟩=>?_) fun e s' z=>(hx e s' z).elim
    subst e11
    exact again I11 q10
 exact codeAny_compStart_list (loop _ (by rw[← e3s])) (T.self X.A 0 _ _ _ (T.keep _ _ _ st fun b _ o e=>old3 b o (old b o e)) (loop _ (by rw[← e3s])))
theorem ps_set_lcD {i:Nat}{y:Str}{py:Pos}{spos:Pos}{elt tg iter:Expr}{ifs:List Expr}{scope:Scope}{pos:Pos}{N':List Str}{fr:List (Option Nat)}{cl:List (Str×Addr)}{wi:TI}{g:TG}{tc:TT}{te:TE}
  (hN:X.N.Nodup) (hy:X.N[i]? = some y) (hk:X.env.scope.names.lookup y=some .local)
  (hx:∀ e s,¬ X.xe e s) (hc:X.calm=true) (S:LcOk2 X scope cl N' fr) (hi:PI X tg iter wi)
  (hg:∀ fp s H,PG (cxD X N' scope cl fp s H) tg g) (ht:∀ fp s H,PIf (cxD X N' scope cl fp s H) ifs tc) (he:∀ fp s H,PE (cxD X N' scope cl fp s H) elt te)
  (hsw:swapsWith (.ListComp elt [⟨tg,iter,ifs,0⟩] scope pos) (some (.Name y py)) spos.line X.env=pure true:=by rfl)
  (hs:∀ x,foldedSetIterable iter X.env x=pure x:=by intro _;rfl):PS X (.Assign [.Name y py] (.ListComp elt [⟨tg,iter,ifs,0⟩] scope pos) spos) (tAsg (tLC wi fr g tc te) (gName i)):=by
 intro pins s σ H D I h
 have hloc:=S.locs
 rw[List.all_eq_true] at hloc
 rw[exec_Assign_Name_used _ _ _ _ hsw]
 refine wpAny_bind (wpAny_standAt (wpAny_bind ?_))
 show wpAny _ X.A (do let _ ← comprehension (.ListComp elt [⟨tg,iter,ifs,0⟩] scope pos) scope X.env _ (newList []) false (eval iter X.env) (some (assign (.Name y py) X.env))) _ _ s
 refine wpAny_bind (wpAny_mono (wpAny_comprehension_free (use:=some (assign (.Name y py) X.env)) (Q:=fun _ s'=>SP X pins D .next s') rfl hs S.clos S.kind (fun x hx' hl=>by have:=hloc x hx';rw[hl] at this;simpa using this)
  (cI (hi pins s σ H _ I h) fun v s1 h1=>cI h1 fun itv s2 h2=>?_)) (fun _ s' hq=>wpAny_pure (wpAny_pure hq)) fun _ _ e=>e)
 obtain⟨it,fp,tn,J,H2,e,I2,T,st2,f2,rest⟩:=h2
 subst e
 refine lc_blockD (RR:=fun acc C=>compPost (model X.prog X.w) X.A X.xe (some (assign (.Name y py) X.env)) (fun _ s'=>SP X pins D .next s') acc C) hx hc S hg ht he I2 T st2 f2 rest ?_
 intro Da C H' s' m' I' q hn f
 show wpAny _ X.A (assign (.Name y py) X.env (.ref Da)) _ _ _
 refine wpAny_assign_Name (store_ok2 I' hN hy (.inl hk) (v:=.ref Da) rfl (fun s'' I'' hch=>?_) (.inr hk))
 obtain⟨a,hsb,ha⟩:=hch
 have haC:a≠C:=by
  rcases ha with e | e
  ·rw[e];exact Ne.symm f.2.1
  ·exact f.2.2.2.2.1 _ _ e
 exact⟨m',hn.sameBut hsb (Ne.symm haC),fun h' hs'=>⟨_,H',I''.letgo f hs',q⟩⟩
end
end L2
namespace Tw
open PySem L2
noncomputable def amts (k:Option Int) (gs:List (Option Int×Int)):List Int:=(gs.filter fun g=>decide (g.1=k)).map (·.2)
theorem amts_sum (k:Option Int):∀ gs:List (Option Int×Int),(amts k gs).sum=cO k gs
 | []=>rfl
 | g::r=>by
  have ih:=amts_sum k r
  unfold amts at ih ⊢
  unfold cO
  by_cases h:g.1=k
  ·simp [h,← ih]
  ·simp [h,← ih]
theorem amts_snoc (k:Option Int) (gs:List (Option Int×Int)) (g:Option Int×Int):amts k (gs++[g])=amts k gs++(if g.1=k then [g.2] else []):=by
 unfold amts
 rw[List.filter_append,List.map_append]
 by_cases h:g.1=k <;> simp [h]
theorem amts_len (k:Option Int) (gs:List (Option Int×Int)):(amts k gs).length≤gs.length:=by
 unfold amts;rw[List.length_map];exact List.length_filter_le _ _
section
variable {P:Program}{w:World}{K:PySem.W.Frag}{mg:Str→Option Value}{base:Heap}
theorem word_ix {wd:Str} (h:wd = "open" ∨ wd = "shut" ∨ wd = "turn"):∃ j:Nat,j < 3∧(∀ z,[V.str "turn",V.str "open",V.str "shut"][j]? = some z→eqV z (.str wd)=true)∧(∀ i z,i < j→[V.str "turn",V.str "open",V.str "shut"][i]? = some z→eqV z (.str wd)=false)∧
  ∀ old:Bool,[V.bl (!old),V.bl true,V.bl false][j]? = some (.bl (if wd = "open" then true else if wd = "turn" then !old else false)):=by
 rcases h with rfl | rfl | rfl
 ·refine⟨1,by decide,fun z hz=>by cases hz;rfl,fun i z hi hz=>?_,fun old=>rfl⟩
  have:i=0:=by omega
  subst this;cases hz;rfl
 ·refine⟨2,by decide,fun z hz=>by cases hz;rfl,fun i z hi hz=>?_,fun old=>rfl⟩
  rcases (show i=0∨i=1 by omega) with rfl | rfl <;> cases hz <;> rfl
 ·exact⟨0,by decide,fun z hz=>by cases hz;rfl,fun i z hi hz=>absurd hi (Nat.not_lt_zero _),fun old=>rfl⟩
theorem IsL.append {H:Hp}:∀ {ds es:List L2.D}{xs ys:List V},L2.IsL K H ds xs→L2.IsL K H es ys→L2.IsL K H (ds++es) (xs++ys)
 | [],es,xs,ys,h1,h2=>by rw[h1.un0];exact h2
 | d::ds,es,xs,ys,h1,h2=>by
  obtain⟨x,r,rfl,hx,hr⟩:=h1.un
  exact .cons hx (IsL.append hr h2)
theorem goes_put {H1 H2:Hp}{gl gq:Addr}{gs:List (Option Int×Int)}{gxs:List V} (sm:aF H1 H2) (fg:H1 gl=none) (hg:H2 gl=some (.lst gxs)) (ig:L2.IsL K H2 (gs.map outD) gxs) (hq:H2 gq=none) (t:Option Int) (n:Int) :
  aF H1 (upd (upd H2 gq (.tup [tgV t,.int n])) gl (.lst (gxs++[.ref gq])))∧upd (upd H2 gq (.tup [tgV t,.int n])) gl (.lst (gxs++[.ref gq])) gl=some (.lst (gxs++[.ref gq]))∧
  L2.IsL K (upd (upd H2 gq (.tup [tgV t,.int n])) gl (.lst (gxs++[.ref gq]))) ((gs++[(t,n)]).map outD) (gxs++[.ref gq])∧∀ p o,p≠gl→H2 p=some o→upd (upd H2 gq (.tup [tgV t,.int n])) gl (.lst (gxs++[.ref gq])) p=some o:=by
 have nq:gl≠gq:=aJ hg hq
 have mt:Mut (upd H2 gq (.tup [tgV t,.int n]) gl):=by rw[aI nq,hg];exact trivial
 refine⟨fun b o e=>by rw[aI (aJ e fg)];exact aF.new hq b o (sm b o e),aB,?_,fun p o hp e=>by rw[aI hp];exact aF.new hq p o e⟩
 rw[List.map_append]
 exact L2.IsL.snoc (Is.tupOf (ds:=[tgD t,.int n]) (bJ.put (bJ.refl _) (.inr mt) _ _ (bT.of aB)) (.cons (Is.tgOf _) (.cons (Is.i _) .nil))) (L2.IsL.mono (bJ.put (aF.new hq).ts (.inr mt)) _ _ ig)
noncomputable def spTickL (K:PySem.W.Frag):Sp:=fun args H Q _=>∃ (x y:V) (z:Addr) (net:Net) (held coming poured:List Int) (doors:List Bool),args=[x,y,.ref z,.non]∧Is K H (netD net) x∧Is K H (stD held coming doors) y∧Sq2 K H z (poured.map V.int)∧
 NetOk net∧StOk net held coming doors∧poured.length=net.vs.length∧∀ (l:Addr) (p1 p2:V) H',aF H H'→H' l=some (.lst [p1,p2,.int (tickOf net held coming poured doors).ground])→
  Is K H' (stD (tickOf net held coming poured doors).held (tickOf net held coming poured doors).coming (tickOf net held coming poured doors).doors) p1→
  Is K H' (.tup ((tickOf net held coming poured doors).tip.map fun (i:Nat)=>D.int (i:Int))) p2→Q (.ref l) H'
theorem sc__law_tick:FnScope ["net","state","poured","fast","has","goes","tipped","stays","number","size","brim","outs","holds","spill","acts","here","whole","doors","word","spout","later","ground"] ["net","state","poured","fast"] (aL (bC 29)):=⟨rfl,rfl,rfl,by decide +kernel,rfl,by decide +kernel,by decide +kernel⟩
theorem ok__law_tick {f fF:Addr}{fd fdF:FuncData} (F:Fun K "_law_tick" "_law_tick" (bC 29) f fd) (T:Txt mg) (G__law_filled:Callee P w K mg base "_law_filled" ["net","state","poured"] 1 (spFilledL K) fF fdF):FnOk P w K mg base CX0 2 f fd ["net","state","poured","fast"] (spTickL K):=by
 refine F.ok sc__law_tick (fun vs H Q E h=>?_) (fun cdv A outer s H vs Q E hr h=>?_)
 ·obtain⟨x,y,z,net,held,coming,poured,doors,rfl,_⟩:=h;rfl
 ·obtain⟨x,y,z,net,held,coming,poured,doors,rfl,hx,hy,qz,nok,sok,hpl,k⟩:=h
  have sc:=sc__law_tick
  refine⟨_,(aD (aS (i:=4) sc.nd rfl (Or.inl rfl) (pcG G__law_filled hr (aA (pv 0) (aA (pv 1) (aA (pv 2) aC)))))
   (aD (aS (i:=5) sc.nd rfl (Or.inr rfl) (bD aC))
   (aD (aS (i:=6) sc.nd rfl (Or.inl rfl) (bD aC))
   (aD (aS (i:=7) sc.nd rfl (Or.inl rfl) (bD aC))
   (aD (dH PassesOwn.never rfl (cD rfl T.b_range (aA (bA (bQ (K:=K) rfl) rfl T.b_len PySem.boot_len (aA (aU (aM (K:=K) rfl) (pv 0) aG (fun _ _=>rfl)) aC)) aC)) (aH (i:=8) sc.nd rfl (Or.inl rfl)) (aD (cS (aU (aM (K:=K) rfl) (aU (aM (K:=K) rfl) (pv 0) aG (fun _ _=>rfl)) (pv 8) (fun _ _=>rfl)) (bO (K:=K) (n:=6) rfl rfl (aK (aH (i:=9) sc.nd rfl (Or.inl rfl)) (aK (aH (i:=10) sc.nd rfl (Or.inl rfl)) (aK (aH (i:=11) sc.nd rfl (Or.inl rfl)) (aK (aH (i:=12) sc.nd rfl (Or.inl rfl)) (aK (aH (i:=13) sc.nd rfl (Or.inl rfl)) (aK (aH (i:=14) sc.nd rfl (Or.inl rfl)) bL))))))))
   (aD (aS (i:=15) sc.nd rfl (Or.inr rfl) (bA (call_min2 rfl) rfl T.b_min PyProof.Rows.boot_min (aA (aU (aM (K:=K) rfl) (pv 4) (pv 8) (fun _ _=>rfl)) (aA (pv 10) aC))))
   (aD (cY (pe_bmK (K:=K) rfl PySem.F.plainAttrs_list PySem.F.slot_list_append PySem.F.type_list_append cJ (pv 5) (aA (bS (aA (pv 13) (aA (aX op_sub (aU (aM (K:=K) rfl) (pv 4) (pv 8) (fun _ _=>rfl)) (pv 15)) aC))) aC)))
   (aD (dP (PW.pt (pw_and (bR op_ge (pv 15) (pv 9) (bW _)) (pw_and1 (bR op_ne (pv 8) (pv 3) (bW _))))) (aD (aS (i:=16) sc.nd rfl (Or.inr rfl) (bA (call_sumK (K:=K) rfl rfl) rfl T.b_sum PyProof.Rows.boot_sum (aA (pe_lc (fun _ _ h=>h) rfl (LcOk.mk (N':=["target","parts"]) (fr:=[none,none]) rfl trivial rfl rfl rfl rfl rfl trivial) (pi_tupK (K:=K) rfl (pv 11)) (fun _ _ _=>(bO (K:=K) (n:=2) rfl rfl (aK (aH (i:=0) (show (["target","parts"]:List Str).Nodup by decide +kernel) rfl (Or.inl rfl) (Or.inr rfl)) (aK (aH (i:=1) (show (["target","parts"]:List Str).Nodup by decide +kernel) rfl (Or.inl rfl) (Or.inr rfl)) bL)))) (fun _ _ _=>eE) (fun _ _ _=>(pv 1))) aC)))
   (aD (aS (i:=5) sc.nd rfl (Or.inr rfl) (aX op_cat (pv 5) (pe_lc (fun _ _ h=>h) rfl (LcOk.mk (N':=["target","parts","here","whole"]) (fr:=[none,none,some 15,some 16]) rfl ⟨rfl,rfl,trivial⟩ rfl rfl rfl rfl rfl ⟨⟨_,rfl,rfl,rfl,rfl⟩,⟨_,rfl,rfl,rfl,rfl⟩,trivial⟩) (pi_tupK (K:=K) rfl (pv 11)) (fun _ _ _=>(bO (K:=K) (n:=2) rfl rfl (aK (aH (i:=0) (show (["target","parts","here","whole"]:List Str).Nodup by decide +kernel) rfl (Or.inl rfl) (Or.inr rfl)) (aK (aH (i:=1) (show (["target","parts","here","whole"]:List Str).Nodup by decide +kernel) rfl (Or.inl rfl) (Or.inr rfl)) bL)))) (fun _ _ _=>eE) (fun _ _ _=>(bS (aA (pv 0) (aA (aX op_mul (aX op_fdiv (pv 2) (pv 3)) (pv 1)) aC)))))))
   (aD (aS (i:=15) sc.nd rfl (Or.inr rfl) (aX op_mod (pv 15) (pv 16)))
   (aD (cY (pe_bmK (K:=K) rfl PySem.F.plainAttrs_list PySem.F.slot_list_append PySem.F.type_list_append cJ (pv 6) (aA (pv 8) aC)))
   (aO (dP (pt_not (pt_val (pv 12))) (aD (cY (pe_bmK (K:=K) rfl PySem.F.plainAttrs_list PySem.F.slot_list_append PySem.F.type_list_append cJ (pv 5) (aA (bS (aA pe_non (aA (pv 15) aC))) aC)))
   (aO (aS (i:=15) sc.nd rfl (Or.inr rfl) aG))) bX)))))) bX)
   (aO (cY (pe_bmK (K:=K) rfl PySem.F.plainAttrs_list PySem.F.slot_list_append PySem.F.type_list_append cJ (pv 7) (aA (pv 15) aC)))))))))
   (aD (aS (i:=17) sc.nd rfl (Or.inl rfl) (b9 (call_lstK (K:=K) rfl) rfl T.b_list bt_list (aA (aU (aM (K:=K) rfl) (pv 1) aG (fun _ _=>rfl)) aC)))
   (aD (dH PassesOwn.never rfl (pi_listK (K:=K) rfl (pv 6)) (aH (i:=8) sc.nd rfl (Or.inl rfl)) (aO (dH PassesOwn.never rfl (pi_tupK (K:=K) rfl (aU (aM (K:=K) rfl) (aU (aM (K:=K) rfl) (aU (aM (K:=K) rfl) (pv 0) aG (fun _ _=>rfl)) (pv 8) (fun _ _=>rfl)) aG (fun _ _=>rfl))) (bO (K:=K) (n:=2) rfl rfl (aK (aH (i:=18) sc.nd rfl (Or.inl rfl)) (aK (aH (i:=19) sc.nd rfl (Or.inl rfl)) bL))) (aO (cS (aU (aM (K:=K) rfl) (bD (aA (pe_not (aU (aM (K:=K) rfl) (pv 17) (pv 19) (fun _ _=>rfl))) (aA pe_bl (aA pe_bl aC)))) (pe_bmK (K:=K) rfl PySem.F.plainAttrs_list PySem.F.slot_list_index PySem.F.type_list_index mt_index (bD (aA dI (aA dI (aA dI aC)))) (aA (pv 18) aC)) (fun _ _=>rfl)) (pg_sub (pv 17) (pv 19) set_list))))))
   (aD (ps_set_lcD (i:=20) sc.nd rfl rfl (fun _ _ h=>h) rfl (LcOk2.mk (N':=["k","goes"]) (fr:=[none,some 5]) rfl ⟨rfl,trivial⟩ rfl rfl rfl rfl rfl ⟨⟨_,rfl,rfl,rfl,rfl⟩,trivial⟩) (cD rfl T.b_range (aA (bA (bQ (K:=K) rfl) rfl T.b_len PySem.boot_len (aA (aU (aM (K:=K) rfl) (pv 0) aG (fun _ _=>rfl)) aC)) aC)) (fun _ _ _=>(aH (i:=0) (show (["k","goes"]:List Str).Nodup by decide +kernel) rfl (Or.inr rfl) (Or.inl rfl))) (fun _ _ _=>eE) (fun _ _ _=>(bA (call_sumK (K:=K) rfl rfl) rfl T.b_sum PyProof.Rows.boot_sum (aA (pe_lc (fun _ _ h=>h) rfl (LcOk.mk (N':=["target","amount","k"]) (fr:=[none,none,some 0]) rfl ⟨rfl,trivial⟩ rfl rfl rfl rfl rfl ⟨⟨_,rfl,rfl,rfl,rfl⟩,trivial⟩) (pi_listK (K:=K) rfl (pv 1)) (fun _ _ _=>(bO (K:=K) (n:=2) rfl rfl (aK (aH (i:=0) (show (["target","amount","k"]:List Str).Nodup by decide +kernel) rfl (Or.inl rfl) (Or.inr rfl)) (aK (aH (i:=1) (show (["target","amount","k"]:List Str).Nodup by decide +kernel) rfl (Or.inl rfl) (Or.inr rfl)) bL)))) (fun _ _ _=>pif_one (bR op_eq (pv 0) (pv 2) (bW _))) (fun _ _ _=>(pv 1))) aC))))
   (aD (aS (i:=21) sc.nd rfl (Or.inl rfl) (bA (call_sumK (K:=K) rfl rfl) rfl T.b_sum PyProof.Rows.boot_sum (aA (pe_lc (fun _ _ h=>h) rfl (LcOk.mk (N':=["target","amount"]) (fr:=[none,none]) rfl trivial rfl rfl rfl rfl rfl trivial) (pi_listK (K:=K) rfl (pv 5)) (fun _ _ _=>(bO (K:=K) (n:=2) rfl rfl (aK (aH (i:=0) (show (["target","amount"]:List Str).Nodup by decide +kernel) rfl (Or.inl rfl) (Or.inr rfl)) (aK (aH (i:=1) (show (["target","amount"]:List Str).Nodup by decide +kernel) rfl (Or.inl rfl) (Or.inr rfl)) bL)))) (fun _ _ _=>pif_one (bR op_isN (pv 0) pe_non (bW _))) (fun _ _ _=>(pv 1))) aC)))
   (aO (bV (bD (aA (bS (aA (b9 (cE (K:=K) rfl) rfl T.b_tuple cK (aA (pv 7) aC)) (aA (b9 (cE (K:=K) rfl) rfl T.b_tuple cK (aA (pv 20) aC)) (aA (b9 (cE (K:=K) rfl) rfl T.b_tuple cK (aA (pv 17) aC)) aC)))) (aA (b9 (cE (K:=K) rfl) rfl T.b_tuple cK (aA (pv 6) aC)) (aA (pv 21) aC))))))))))))))),?_⟩
  obtain⟨a,b,c,xs,ys,rfl,q,q1,l1,q2,l2⟩:=net_un hx
  obtain⟨ay,a1,a2,a3,rfl,qy,p1,p2,p3⟩:=st_un hy
  have exl:xs.length=net.vs.length:=by rw[l1.length,List.length_map]
  have n1:=nok.lo
  have n2:=nok.hi
  have n3:=nok.sp
  have hn:((xs.length:Nat):Int).toNat=net.vs.length:=by rw[exl];simp
  have hsl:(aP net held coming poured doors).length=net.vs.length:=by
   unfold aP;rw[fillL_len,add3_len sok.h sok.c hpl]
  have hgl60:(bY net.vs (aP net held coming poured doors)).length≤60:=by
   have:=goesL_len net.vs (aP net held coming poured doors) nok.vs;omega
  have hgt:∀ i,(bY (net.vs.take i) ((aP net held coming poured doors).take i)).length≤60:=fun i=>by
   have h1:=goesL_len (net.vs.take i) ((aP net held coming poured doors).take i) fun v hv=>nok.vs v (List.mem_of_mem_take hv)
   have h2:(net.vs.take i).length≤12:=by rw[List.length_take];omega
   omega
  have htt:∀ i,(bE 0 (net.vs.take i) ((aP net held coming poured doors).take i)).length≤12:=fun i=>by
   have h1:=tipsL_len (net.vs.take i) ((aP net held coming poured doors).take i) 0
   have h2:(net.vs.take i).length≤12:=by rw[List.length_take];omega
   omega
  have hst:∀ i,(cX (net.vs.take i) ((aP net held coming poured doors).take i)).length≤12:=fun i=>by
   rw[staysL_len _ _ (by rw[List.length_take,List.length_take,hsl]),List.length_take];omega
  refine⟨_,rfl,_,rfl,_,rfl,.ref a,.ref ay,z,net,held,coming,poured,doors,rfl,hx,hy,qz,nok,sok,hpl,fun hl H1 sm1 fr1 hH1=>?_⟩
  refine⟨Nat.zero_le _,fun gl hgl=>⟨Nat.zero_le _,fun tl htl=>⟨Nat.zero_le _,fun sl hsl'=>?_⟩⟩⟩
  have ft:H1 tl=none:=aF.free (aF.new hgl) htl
  have fs:H1 sl=none:=aF.free (aF.new hgl) (aF.free (aF.new htl) hsl')
  have nts:tl≠sl:=aJ (show upd _ tl (.lst []) tl=_ from aB) hsl'
  have ngt:gl≠tl:=aJ (show upd H1 gl (.lst []) gl=_ from aB) htl
  have ngs:gl≠sl:=aJ (show upd (upd H1 gl (.lst [])) tl (.lst []) gl=some (.lst []) by rw[aI ngt];exact aB) hsl'
  refine⟨_,rfl,.inr (.inl ⟨a,_,0,_,rfl,rfl,((((sm1.trans (aF.new hgl)).trans (aF.new htl)).trans (aF.new hsl')).tup q),rfl,b,xs,rfl,.inr ((((sm1.trans (aF.new hgl)).trans (aF.new htl)).trans (aF.new hsl')).tup q1),_,rfl,by omega,by omega,?_⟩)⟩
  rw[hn]
  refine dZ (lo:=0) (n:=net.vs.length) (fun i σ' H'=>aF H1 H'∧H' tl=some (.lst ((bE 0 (net.vs.take i) ((aP net held coming poured doors).take i)).map fun (j:Nat)=>V.int (j:Int)))∧
   H' sl=some (.lst ((cX (net.vs.take i) ((aP net held coming poured doors).take i)).map V.int))∧∃ (gl:Addr) (gxs:List V),H1 gl=none∧gl≠tl∧gl≠sl∧H' gl=some (.lst gxs)∧L2.IsL K H' ((bY (net.vs.take i) ((aP net held coming poured doors).take i)).map outD) gxs∧
   ∃ v8 v9 v10 v11 v12 v13 v14 v15 v16,σ'=[some (.ref a),some (.ref ay),some (.ref z),some .non,some (.ref hl),some (.ref gl),some (.ref tl),some (.ref sl),v8,v9,v10,v11,v12,v13,v14,v15,v16,none,none,none,none,none]) ?_ ?_ ?_
  ·refine⟨((aF.new hgl).trans (aF.new htl)).trans (aF.new hsl'),by rw[aI nts,aB];simp [bE],by rw[aB];simp [cX],gl,[],hgl,ngt,ngs,by rw[aI ngs,aI ngt,aB],?_,none,none,none,none,none,none,none,none,none,rfl⟩
   simp only [List.take_zero,bY,List.map_nil];exact .nil
  ·rintro i σ' H2 hi ⟨sm,ht2,hs2,gl,gxs,fg,ngt,ngs,hg2,ig2,v8,v9,v10,v11,v12,v13,v14,v15,v16,rfl⟩
   rw[Int.zero_add]
   have hv:net.vs[i]? = some net.vs[i]:=by simp [hi]
   have vok:=nok.vs net.vs[i] (List.getElem_mem hi)
   have hil:i < (aP net held coming poured doors).length:=by rw[hsl];exact hi
   have hhi:(aP net held coming poured doors)[i]? = some ((aP net held coming poured doors)[i]'hil):=by simp
   generalize hh:(aP net held coming poured doors)[i]'hil=h at hhi
   have hhm:((aP net held coming poured doors).map V.int)[i]? = some (.int h):=by rw[List.getElem?_map,hhi];rfl
   have sA:aF H H2:=sm1.trans sm
   have s1:=staysL_snoc net.vs (aP net held coming poured doors) i _ _ hv hhi
   have s2:=tipsL_snoc net.vs (aP net held coming poured doors) i 0 _ _ hv hhi
   have s3:=goesL_snoc net.vs (aP net held coming poured doors) i _ _ hv hhi
   generalize hvv:net.vs[i]=v at hv vok s1 s2 s3
   obtain⟨xv,hxv,ixv⟩:=l1.get (i:=i) (d:=vsD v) (by rw[List.getElem?_map,hv];rfl)
   obtain⟨va,o,cc,rfl,qv,ho,hc⟩:=vs_un ixv
   obtain⟨oa,os,rfl,qo,lo⟩:=ho.un
   have eol:os.length=v.outs.length:=by rw[lo.length,List.length_map]
   have hw1:=whole_pos vok.ne vok.outs
   have hw2:=whole_le vok.outs
   have ho3:=vok.o3
   refine⟨_,rfl,.inr (.inl ⟨a,_,0,_,rfl,rfl,sA.tup q,rfl,_,rfl,.inr (.inl ⟨b,xs,(i:Int),_,rfl,rfl,sA.tup q1,cL hxv,va,_,rfl,sA.tup qv,rfl,_,_,rfl,_,_,rfl,_,_,rfl,_,_,rfl,_,_,rfl,_,_,rfl,rfl,?_⟩)⟩)⟩
   refine⟨_,rfl,_,rfl,.inl ⟨hl,_,(i:Int),_,rfl,rfl,bZ.of (sm _ _ hH1),cL hhm,_,rfl,_,_,rfl,?_⟩⟩
   have eh:(if v.brim < h then v.brim else h)=bI v h:=by unfold bI;split <;> omega
   rw[eh]
   refine⟨_,rfl,.inl ⟨rfl,_,bZ.of hg2⟩,_,rfl,_,rfl,_,rfl,.inl ⟨hl,_,(i:Int),_,rfl,rfl,bZ.of (sm _ _ hH1),cL hhm,_,rfl,_,_,rfl,rfl,(show 2≤sizeLine by decide),fun gq hgq=>?_⟩⟩
   have ngq:gl≠gq:=aJ hg2 hgq
   have hgxl:gxs.length=(bY (net.vs.take i) ((aP net held coming poured doors).take i)).length:=by rw[ig2.length,List.length_map]
   have hg60:=hgt i
   refine⟨gl,gxs,_,rfl,rfl,by rw[aI ngq];exact hg2,aZ (by omega),?_⟩
   obtain⟨sm3,hg3,ig3,kp3⟩:=goes_put sm fg hg2 ig2 hgq v.spill (h - bI v h)
   have ht3:=kp3 tl _ (Ne.symm ngt) ht2
   have hs3:=kp3 sl _ (Ne.symm ngs) hs2
   generalize upd (upd H2 gq (.tup [tgV v.spill,.int (h - bI v h)])) gl (.lst (gxs++[.ref gq]))=H3 at sm3 hg3 ig3 kp3 ht3 hs3 ⊢
   have sA3:aF H H3:=sm1.trans sm3
   dsimp only [tSeq,tAsg,tC,gName]
   refine if_by (fun σ' H'=>aF H1 H'∧H' tl=some (.lst ((bE 0 (net.vs.take (i+1)) ((aP net held coming poured doors).take (i+1))).map fun (j:Nat)=>V.int (j:Int)))∧
    H' sl=some (.lst ((cX (net.vs.take i) ((aP net held coming poured doors).take i)).map V.int))∧∃ (gl:Addr) (gxs:List V),H1 gl=none∧gl≠tl∧gl≠sl∧H' gl=some (.lst gxs)∧L2.IsL K H' ((bY (net.vs.take (i+1)) ((aP net held coming poured doors).take (i+1))).map outD) gxs∧
    ∃ v8 v9 v10 v11 v12 v13 v14 v16,σ'=[some (.ref a),some (.ref ay),some (.ref z),some .non,some (.ref hl),some (.ref gl),some (.ref tl),some (.ref sl),v8,v9,v10,v11,v12,v13,v14,some (.int (vStay v h)),v16,none,none,none,none,none]) (fun D' hD=>?_) ?_
   ·refine⟨_,rfl,_,rfl,_,_,rfl,rfl,_,rfl,?_⟩
    refine ite2 (fun hge=>?_) (fun hlt=>iteF ?_)
    ·have tips:vTips v h=true:=hge
     refine⟨_,rfl,_,rfl,rfl,_,rfl,?_⟩
     refine ite2 (fun _=>?_) (fun hne=>absurd (by simp) hne)
     refine⟨_,rfl,oa,rfl,⟨_,sA3.tup qo⟩,lc_tup (K:=K) (a:=oa) (xs:=os) (fun D j ys σ' H'=>H3 D=none∧aF H3 H'∧H' D=some (.lst ys)∧ys=(v.outs.take j).map (fun x=>V.int x.2)∧∃ x y,σ'=[x,y])
      (fun D j ys σ' H' p=>p.2.1.tup (sA3.tup qo)) (fun D hD=>⟨hD,aF.new hD,aB,by simp,none,none,rfl⟩) ?_ ?_⟩
     rotate_left
     ·rintro D j x ys σ' H' hx ⟨hD,smx,hDl,rfl,v1,v2,rfl⟩
      obtain⟨ot,hot,oq,rfl,qa⟩:=outs_at lo hx
      have hjl:=(List.getElem?_eq_some_iff.mp hot).1
      refine⟨oq,_,rfl,smx.tup (sA3.tup qa),rfl,_,_,rfl,_,_,rfl,rfl,?_⟩
      refine yes_of ⟨_,rfl,hDl,aZ (by simp;omega),hD,smx.put hD,aB,?_,_,_,rfl⟩
      rw[aW hot];simp
     rintro D ys σ' H4 ⟨hD4,sm4,hDl,rfl,_⟩
     rw[eol,List.take_length] at hDl
     refine⟨false,D,v.outs.map (·.2),rfl,bZ.of (by rw[List.map_map];exact hDl),?_⟩
     have ew:(v.outs.map (·.2)).sum=whole v.outs:=rfl
     rw[ew]
     have sA4:aF H H4:=sA3.trans sm4
     refine⟨_,rfl,_,rfl,oa,rfl,⟨_,sA4.tup qo⟩,lc_tup (K:=K) (a:=oa) (xs:=os) (fun D j ys σ' H'=>H4 D=none∧aF H4 H'∧H' D=some (.lst ys)∧L2.IsL K H' (((shared v (bI v h)).take j).map outD) ys∧∃ x y,σ'=[x,y,some (.int (bI v h)),some (.int (whole v.outs))])
      (fun D j ys σ' H' p=>p.2.1.tup (sA4.tup qo)) (fun D hD=>⟨hD,aF.new hD,aB,by simp only [List.take_zero,List.map_nil];exact .nil,none,none,rfl⟩) ?_ ?_⟩
     rotate_left
     ·rintro D j x ys σ' H' hx ⟨hD,smx,hDl,hys,v1,v2,rfl⟩
      obtain⟨ot,hot,oq,rfl,qa⟩:=outs_at lo hx
      have hjl:=(List.getElem?_eq_some_iff.mp hot).1
      have hom:=vok.outs ot (List.mem_of_getElem? hot)
      refine⟨oq,_,rfl,smx.tup (sA4.tup qa),rfl,_,_,rfl,_,_,rfl,rfl,?_⟩
      refine yes_of ⟨_,rfl,_,rfl,_,rfl,_,_,rfl,rfl,⟨by omega,by omega⟩,_,rfl,_,_,rfl,rfl,.inr ⟨by have:=hom.lo;omega,by have:=hom.hi;omega⟩,(show 2≤sizeLine by decide),fun tq htq=>?_⟩
      have nD:D≠tq:=aJ hDl htq
      have hysl:ys.length≤3:=by rw[hys.length,List.length_map,List.length_take];unfold shared;rw[List.length_map];omega
      have mt:Mut (upd H' tq (.tup [tgV ot.1,.int (bI v h / whole v.outs * ot.2)]) D):=by rw[aI nD,hDl];exact trivial
      have hsh:(shared v (bI v h))[j]? = some (ot.1,bI v h / whole v.outs * ot.2):=by unfold shared;rw[List.getElem?_map,hot];rfl
      refine⟨by rw[aI nD];exact hDl,aZ (by omega),hD,fun b o e=>by rw[aI (aJ e hD)];exact aF.new htq b o (smx b o e),aB,?_,_,_,rfl⟩
      rw[aW hsh,List.map_append]
      exact L2.IsL.snoc (Is.tupOf (ds:=[tgD ot.1,.int (bI v h / whole v.outs * ot.2)]) (bJ.put (bJ.refl _) (.inr mt) _ _ (bT.of aB)) (.cons (Is.tgOf _) (.cons (Is.i _) .nil))) (L2.IsL.mono (bJ.put (aF.new htq).ts (.inr mt)) _ _ hys)
     rintro D2 ys σ' H5 ⟨hD5,sm5,hD5l,hys,_⟩
     have esh:(shared v (bI v h)).length=os.length:=by unfold shared;rw[List.length_map,eol]
     rw[List.take_of_length_le (Nat.le_of_eq esh)] at hys
     have hysl:ys.length≤3:=by rw[hys.length,List.length_map,esh,eol];exact ho3
     have hg5:=sm5 _ _ (sm4 _ _ hg3)
     refine⟨gl,D2,gxs++[.ref gq],ys,rfl,rfl,hg5,hD5l,Nat.le_of_lt (aZ (by simp;omega)),fun gl2 hgl2=>?_⟩
     have fg2:H1 gl2=none:=aF.free (sm3.trans (sm4.trans sm5)) hgl2
     have ht5:=sm5 _ _ (sm4 _ _ ht3)
     have hs5:=sm5 _ _ (sm4 _ _ hs3)
     have ngt2:gl2≠tl:=Ne.symm (aJ ht5 hgl2)
     have ngs2:gl2≠sl:=Ne.symm (aJ hs5 hgl2)
     have m6:aF H5 (upd H5 gl2 (.lst (gxs++[.ref gq]++ys))):=aF.new hgl2
     have ig6:L2.IsL K (upd H5 gl2 (.lst (gxs++[.ref gq]++ys))) ((bY (net.vs.take i) ((aP net held coming poured doors).take i)++[(v.spill,h - bI v h)]++shared v (bI v h)).map outD) (gxs++[.ref gq]++ys):=by
      rw[List.map_append]
      exact IsL.append (L2.IsL.mono m6.ts _ _ (L2.IsL.mono sm5.ts _ _ (L2.IsL.mono sm4.ts _ _ ig3))) (L2.IsL.mono m6.ts _ _ hys)
     have hg6:upd H5 gl2 (.lst (gxs++[.ref gq]++ys)) gl2=some (.lst (gxs++[.ref gq]++ys)):=aB
     have sm6:aF H1 (upd H5 gl2 (.lst (gxs++[.ref gq]++ys))):=(sm3.trans (sm4.trans sm5)).trans m6
     have ht6:=m6 _ _ ht5
     have hs6:=m6 _ _ hs5
     generalize upd H5 gl2 (.lst (gxs++[.ref gq]++ys))=H6 at sm6 hg6 ig6 ht6 hs6 ⊢
     refine⟨_,rfl,_,rfl,_,_,rfl,rfl,(show 0 < whole v.outs by omega),?_⟩
     have htl:=htt i
     refine⟨_,rfl,.inl ⟨rfl,_,bZ.of ht6⟩,_,rfl,tl,_,_,rfl,rfl,ht6,aZ (by rw[List.length_map];omega),?_⟩
     have mtt:Mut (H6 tl):=by rw[ht6];exact trivial
     rw[tips,if_pos rfl,Nat.zero_add] at s2
     have hg7:upd H6 tl (.lst (((bE 0 (net.vs.take i) ((aP net held coming poured doors).take i)).map fun (j:Nat)=>V.int (j:Int))++[.int (i:Int)])) gl2=some (.lst (gxs++[.ref gq]++ys)):=by rw[aI ngt2];exact hg6
     have ig7:=L2.IsL.mono (bJ.put (o:=HO.lst (((bE 0 (net.vs.take i) ((aP net held coming poured doors).take i)).map fun (j:Nat)=>V.int (j:Int))++[.int (i:Int)])) (bJ.refl H6) (.inr mtt)) _ _ ig6
     have sm7:aF H1 (upd H6 tl (.lst (((bE 0 (net.vs.take i) ((aP net held coming poured doors).take i)).map fun (j:Nat)=>V.int (j:Int))++[.int (i:Int)]))):=sm6.put ft
     have ht7:upd H6 tl (.lst (((bE 0 (net.vs.take i) ((aP net held coming poured doors).take i)).map fun (j:Nat)=>V.int (j:Int))++[.int (i:Int)])) tl=some (.lst ((bE 0 (net.vs.take (i+1)) ((aP net held coming poured doors).take (i+1))).map fun (j:Nat)=>V.int (j:Int))):=by
      rw[aB,s2,List.map_append];rfl
     have hs7:upd H6 tl (.lst (((bE 0 (net.vs.take i) ((aP net held coming poured doors).take i)).map fun (j:Nat)=>V.int (j:Int))++[.int (i:Int)])) sl=_:=(aI (Ne.symm nts)).trans hs6
     generalize upd H6 tl (.lst (((bE 0 (net.vs.take i) ((aP net held coming poured doors).take i)).map fun (j:Nat)=>V.int (j:Int))++[.int (i:Int)]))=H7 at hg7 ig7 sm7 ht7 hs7 ⊢
     refine⟨_,rfl,_,rfl,?_⟩
     cases hhd:v.holds with
     | true=>
      refine iteF ?_
      have es:bI v h % whole v.outs=vStay v h:=by unfold vStay;rw[tips,hhd];rfl
      refine hD _ _ ⟨sm7,ht7,hs7,gl2,_,fg2,ngt2,ngs2,hg7,?_,_,_,_,_,_,_,_,_,by rw[← es];rfl⟩
      have eg:vGoes v h=[(v.spill,h - bI v h)]++shared v (bI v h):=by unfold vGoes;rw[tips,hhd];simp
      rw[s3,eg,← List.append_assoc]
      exact ig7
     | false=>
      refine iteT ?_
      refine⟨_,rfl,.inl ⟨rfl,_,bZ.of hg7⟩,_,rfl,(show 2≤sizeLine by decide),fun gq2 hgq2=>?_⟩
      have ngq2:gl2≠gq2:=aJ hg7 hgq2
      refine⟨gl2,_,_,rfl,rfl,by rw[aI ngq2];exact hg7,aZ (by simp;omega),?_⟩
      obtain⟨sm8,hg8,ig8,kp8⟩:=goes_put sm7 fg2 hg7 ig7 hgq2 none (bI v h % whole v.outs)
      have es:vStay v h=0:=by unfold vStay;rw[tips,hhd];rfl
      refine hD _ _ ⟨sm8,kp8 tl _ (Ne.symm ngt2) ht7,kp8 sl _ (Ne.symm ngs2) hs7,gl2,_,fg2,ngt2,ngs2,hg8,?_,_,_,_,_,_,_,_,_,by rw[es];rfl⟩
      have eg:vGoes v h=[(v.spill,h - bI v h)]++shared v (bI v h)++[(none,bI v h % whole v.outs)]:=by unfold vGoes;rw[tips,hhd];simp
      rw[s3,eg,← List.append_assoc,← List.append_assoc]
      exact ig8
    ·have tips:vTips v h=false:=by
      cases e:vTips v h with
      | false=>rfl
      | true=>exact absurd e hlt
     have es:bI v h=vStay v h:=by unfold vStay;rw[tips];rfl
     have eg:vGoes v h=[(v.spill,h - bI v h)]:=by unfold vGoes;rw[tips];rfl
     rw[tips,if_neg Bool.false_ne_true,List.append_nil] at s2
     refine hD _ _ ⟨sm3,by rw[s2];exact ht3,hs3,gl,_,fg,ngt,ngs,hg3,by rw[s3,eg];exact ig3,_,_,_,_,_,_,_,_,by rw[← es];rfl⟩
   rintro σ3 H4 ⟨sm4,ht4,hs4,gl,gxs,fg,ngt,ngs,hg4,ig4,v8,v9,v10,v11,v12,v13,v14,v16,rfl⟩
   have hsl2:=hst i
   refine⟨_,rfl,.inl ⟨rfl,_,bZ.of hs4⟩,_,rfl,sl,_,_,rfl,rfl,hs4,aZ (by rw[List.length_map];omega),?_⟩
   refine⟨sm4.put fs,by rw[aI nts];exact ht4,by rw[aB,s1,List.map_append];rfl,gl,gxs,fg,ngt,ngs,by rw[aI ngs];exact hg4,L2.IsL.mono (bJ.put (bJ.refl _) (.inr (by rw[hs4];exact trivial))) _ _ ig4,_,_,_,_,_,_,_,_,_,rfl⟩
  ·rintro σ' H2 ⟨sm,ht2,hs2,gl,gxs,fg,ngt,ngs,hg2,ig2,v8,v9,v10,v11,v12,v13,v14,v15,v16,rfl⟩
   have ek:net.vs.take net.vs.length=net.vs:=List.take_length
   have ek2:(aP net held coming poured doors).take net.vs.length=aP net held coming poured doors:=by rw[← hsl,List.take_length]
   rw[ek,ek2] at ht2 hs2 ig2
   have sA:aF H H2:=sm1.trans sm
   have etl:(bE 0 net.vs (aP net held coming poured doors)).length≤12:=by have:=tipsL_len net.vs (aP net held coming poured doors) 0;omega
   refine⟨_,rfl,.inr (.inl ⟨ay,_,2,_,rfl,rfl,sA.tup qy,rfl,a3,_,rfl,.inr (sA.tup p3),fun dl hdl=>?_⟩)⟩
   have m3:aF H2 (upd H2 dl (.lst (doors.map V.bl))):=aF.new hdl
   refine⟨_,rfl,tl,rfl,⟨_,bZ.of (m3 _ _ ht2)⟩,for_list (K:=K) (a:=tl) (xs:=(bE 0 net.vs (aP net held coming poured doors)).map fun (j:Nat)=>V.int (j:Int))
    (fun i σ' H'=>aF H2 H'∧H' dl=some (.lst ((cB net.vs doors ((bE 0 net.vs (aP net held coming poured doors)).take i)).map V.bl))∧
     ∃ v8 v9 v10 v11 v12 v13 v14 v15 v16 v18 v19,σ'=[some (.ref a),some (.ref ay),some (.ref z),some .non,some (.ref hl),some (.ref gl),some (.ref tl),some (.ref sl),v8,v9,v10,v11,v12,v13,v14,v15,v16,some (.ref dl),v18,v19,none,none])
    ⟨m3,aB,_,_,_,_,_,_,_,_,_,_,_,rfl⟩ (fun i σ' H' _ p=>bZ.of (p.1 _ _ ht2)) ?_ ?_⟩
   ·rintro i x σ' H3 hx' ⟨sm3,hd3,v8,v9,v10,v11,v12,v13,v14,v15,v16,v18,v19,rfl⟩
    rw[List.getElem?_map] at hx'
    obtain⟨j,hj,rfl⟩:=Option.map_eq_some_iff.mp hx'
    have hjv:j < net.vs.length:=by have:=tipsL_lt _ _ _ _ (List.mem_of_getElem? hj);omega
    have hv:net.vs[j]? = some net.vs[j]:=by simp [hjv]
    have vok:=nok.vs net.vs[j] (List.getElem_mem hjv)
    have dsn:=doorsL_snoc net.vs doors ((bE 0 net.vs (aP net held coming poured doors)).take i) j net.vs[j] hv
    generalize hvv:net.vs[j]=v at hv vok dsn
    obtain⟨xv,hxv,ixv⟩:=l1.get (i:=j) (d:=vsD v) (by rw[List.getElem?_map,hv];rfl)
    obtain⟨va,o,cc,rfl,qv,ho,hc⟩:=vs_un ixv
    obtain⟨ca,cs,rfl,qc,lc⟩:=hc.un
    have ecs:cs.length=v.acts.length:=by rw[lc.length,List.length_map]
    have sA3:aF H H3:=sA.trans sm3
    refine⟨_,rfl,.inr (.inl ⟨a,_,0,_,rfl,rfl,sA3.tup q,rfl,_,rfl,.inr (.inl ⟨b,xs,(j:Int),_,rfl,rfl,sA3.tup q1,cL hxv,.inr (.inl ⟨va,_,5,_,rfl,rfl,sA3.tup qv,rfl,ca,rfl,⟨_,sA3.tup qc⟩,for_tup (K:=K) (a:=ca) (xs:=cs)
     (fun l σ' H'=>aF H2 H'∧H' dl=some (.lst ((dQ (cB net.vs doors ((bE 0 net.vs (aP net held coming poured doors)).take i)) (v.acts.take l)).map V.bl))∧
      ∃ v8 v9 v10 v11 v12 v13 v14 v15 v16 v18 v19,σ'=[some (.ref a),some (.ref ay),some (.ref z),some .non,some (.ref hl),some (.ref gl),some (.ref tl),some (.ref sl),v8,v9,v10,v11,v12,v13,v14,v15,v16,some (.ref dl),v18,v19,none,none])
     ⟨sm3,hd3,_,_,_,_,_,_,_,_,_,_,_,rfl⟩ (fun l σ' H' _ p=>(sA.trans p.1).tup qc) ?_ ?_⟩)⟩)⟩)⟩
    ·rintro l x σ' H4 hl' ⟨sm4,hd4,v8,v9,v10,v11,v12,v13,v14,v15,v16,v18,v19,rfl⟩
     obtain⟨at',hat,aa,rfl,qa⟩:=acts_at lc hl'
     have aok:=vok.acts at' (List.mem_of_getElem? hat)
     refine⟨aa,_,rfl,(sA.trans sm4).tup qa,rfl,_,_,rfl,_,_,rfl,rfl,?_⟩
     have asn:=actsL_snoc (cB net.vs doors ((bE 0 net.vs (aP net held coming poured doors)).take i)) (v.acts.take l) at'
     have hdl':(dQ (cB net.vs doors ((bE 0 net.vs (aP net held coming poured doors)).take i)) (v.acts.take l)).length=doors.length:=by rw[actsL_len,doorsL_len]
     generalize dQ (cB net.vs doors ((bE 0 net.vs (aP net held coming poured doors)).take i)) (v.acts.take l)=DS at hd4 asn hdl'
     have hsp:at'.2.toNat < DS.length:=by rw[hdl',sok.d];have:=aok.lo;have:=aok.hi;omega
     have hg:(DS.map V.bl)[at'.2.toNat]? = some (.bl (DS.getD at'.2.toNat false)):=by
      rw[List.getElem?_map,List.getD_eq_getElem?_getD];simp [hsp]
     obtain⟨jj,hj3,w1,w2,w3⟩:=word_ix aok.word
     refine⟨_,rfl,_,rfl,.inl ⟨dl,_,at'.2,_,rfl,rfl,bZ.of hd4,atI_int aok.lo hg,_,rfl,(show 3≤sizeLine by decide),fun b1 hb1=>⟨(show 3≤sizeLine by decide),fun b2 hb2=>⟨.inl ⟨rfl,_,bZ.of aB⟩,_,rfl,?_⟩⟩⟩⟩
     have m5:aF H4 (upd H4 b1 (.lst [.bl (!DS.getD at'.2.toNat false),.bl true,.bl false])):=aF.new hb1
     have m6:aF (upd H4 b1 (.lst [.bl (!DS.getD at'.2.toNat false),.bl true,.bl false])) (upd (upd H4 b1 (.lst [.bl (!DS.getD at'.2.toNat false),.bl true,.bl false])) b2 (.lst [.str "turn",.str "open",.str "shut"])):=aF.new hb2
     refine⟨b2,_,_,jj,rfl,rfl,aB,rfl,rfl,hj3,w1,w2,.inl ⟨b1,_,(jj:Int),_,rfl,rfl,bZ.of (m6 _ _ aB),cL (w3 _),?_⟩⟩
     refine⟨_,rfl,_,rfl,dl,_,at'.2,at'.2.toNat,rfl,rfl,m6 _ _ (m5 _ _ hd4),ixN_nat aok.lo (by rw[List.length_map];have:=aok.lo;omega),?_⟩
     refine⟨((sm4.trans m5).trans m6).put hdl,?_,_,_,_,_,_,_,_,_,_,_,_,rfl⟩
     rw[aB,aW hat,asn,act1,List.map_set]
    ·rintro σ' H4 ⟨sm4,hd4,v8,v9,v10,v11,v12,v13,v14,v15,v16,v18,v19,rfl⟩
     rw[ecs,List.take_length] at hd4
     refine⟨sm4,?_,_,_,_,_,_,_,_,_,_,_,_,rfl⟩
     rw[aW hj,dsn]
     exact hd4
   ·rintro σ' H3 ⟨sm3,hd3,v8,v9,v10,v11,v12,v13,v14,v15,v16,v18,v19,rfl⟩
    rw[List.length_map,List.take_length] at hd3
    have sA3:aF H H3:=sA.trans sm3
    have hg3:=sm3 _ _ hg2
    have ig3:=L2.IsL.mono sm3.ts _ _ ig2
    have hgxl:gxs.length=(bY net.vs (aP net held coming poured doors)).length:=by rw[ig2.length,List.length_map]
    refine⟨_,rfl,.inr (.inl ⟨a,_,0,_,rfl,rfl,sA3.tup q,rfl,b,xs,rfl,.inr (sA3.tup q1),_,rfl,by omega,by omega,?_⟩)⟩
    rw[hn]
    refine lc_range (n:=net.vs.length) (fun D i r σ' H'=>H3 D=none∧aF H3 H'∧H' D=some (.lst r)∧r=((dJ net.vs.length (bY net.vs (aP net held coming poured doors))).take i).map V.int∧∃ v,σ'=[v,some (.ref gl)])
     (fun D hD=>⟨hD,aF.new hD,aB,by simp,none,rfl⟩) ?_ ?_
    rotate_left
    ·rintro D i r σ' H4 hi ⟨hD,sm4,hDl,rfl,v,rfl⟩
     refine name_yes ?_
     refine⟨_,rfl,gl,rfl,⟨_,bZ.of (sm4 _ _ hg3)⟩,lc_list (K:=K) (a:=gl) (xs:=gxs) (fun D' j r' σ' H'=>H4 D'=none∧aF H4 H'∧H' D'=some (.lst r')∧r'=(amts (some (i:Int)) ((bY net.vs (aP net held coming poured doors)).take j)).map V.int∧∃ u1 u2,σ'=[u1,u2,some (.int (i:Int))])
      (fun D' j r' σ' H' p=>bZ.of (p.2.1 _ _ (sm4 _ _ hg3))) (fun D' hD'=>⟨hD',aF.new hD',aB,by simp [amts],none,none,rfl⟩) ?_ ?_⟩
     rotate_left
     ·rintro D' j x r' σ' H5 hx' ⟨hD',sm5,hD'l,rfl,u1,u2,rfl⟩
      obtain⟨g,hg,ga,rfl,qg⟩:=outs_at (L2.IsL.mono sm4.ts _ _ ig3) hx'
      refine⟨ga,_,rfl,sm5.tup qg,rfl,_,_,rfl,_,_,rfl,rfl,?_⟩
      have hsc:scal (tgV g.1) (.int (i:Int))=true:=by cases g.1 <;> rfl
      have hiff:tgV g.1=.int (i:Int)↔g.1=some (i:Int):=by cases g.1 <;> simp [tgV]
      have hal:=amts_len (some (i:Int)) ((bY net.vs (aP net held coming poured doors)).take j)
      rw[List.length_take] at hal
      refine⟨_,rfl,_,rfl,hsc,_,rfl,?_⟩
      refine ite2 (fun ht=>?_) (fun hf=>?_)
      ·refine⟨_,rfl,hD'l,aZ (by rw[List.length_map];omega),hD',sm5.put hD',aB,?_,_,_,rfl⟩
       rw[aW hg,amts_snoc,if_pos (hiff.mp (of_decide_eq_true ht)),List.map_append];rfl
      ·refine⟨hD',sm5,hD'l,?_,_,_,rfl⟩
       rw[aW hg,amts_snoc,if_neg (fun e=>hf (decide_eq_true (hiff.mpr e))),List.append_nil]
     rintro D' r' σ' H5 ⟨hD',sm5,hD'l,rfl,_⟩
     rw[hgxl,List.take_length] at hD'l
     refine⟨false,D',_,rfl,bZ.of hD'l,sm5 _ _ hDl,aZ (by simp [dJ];omega),hD,(sm4.trans sm5).put hD,aB,?_,_,rfl⟩
     have e:(dJ net.vs.length (bY net.vs (aP net held coming poured doors)))[i]? = some (cO (some (i:Int)) (bY net.vs (aP net held coming poured doors))):=by
      unfold dJ;simp [hi]
     rw[aW e,List.map_append,amts_sum];rfl
    rintro D r σ' H4 ⟨hD,sm4,hDl,rfl,_⟩
    have ll:(dJ net.vs.length (bY net.vs (aP net held coming poured doors))).length=net.vs.length:=by unfold dJ;simp
    rw[List.take_of_length_le (Nat.le_of_eq ll)] at hDl
    refine⟨_,rfl,gl,rfl,⟨_,bZ.of (sm4 _ _ hg3)⟩,lc_list (K:=K) (a:=gl) (xs:=gxs) (fun D' j r' σ' H'=>H4 D'=none∧aF H4 H'∧H' D'=some (.lst r')∧r'=(amts none ((bY net.vs (aP net held coming poured doors)).take j)).map V.int∧∃ u1 u2,σ'=[u1,u2])
     (fun D' j r' σ' H' p=>bZ.of (p.2.1 _ _ (sm4 _ _ hg3))) (fun D' hD'=>⟨hD',aF.new hD',aB,by simp [amts],none,none,rfl⟩) ?_ ?_⟩
    rotate_left
    ·rintro D' j x r' σ' H5 hx' ⟨hD',sm5,hD'l,rfl,u1,u2,rfl⟩
     obtain⟨g,hg,ga,rfl,qg⟩:=outs_at (L2.IsL.mono sm4.ts _ _ ig3) hx'
     refine⟨ga,_,rfl,sm5.tup qg,rfl,_,_,rfl,_,_,rfl,rfl,?_⟩
     have hiff:tgV g.1=.non↔g.1=none:=by cases g.1 <;> simp [tgV]
     have hal:=amts_len none ((bY net.vs (aP net held coming poured doors)).take j)
     rw[List.length_take] at hal
     refine⟨_,rfl,rfl,_,rfl,?_⟩
     refine ite2 (fun ht=>?_) (fun hf=>?_)
     ·refine⟨_,rfl,hD'l,aZ (by rw[List.length_map];omega),hD',sm5.put hD',aB,?_,_,_,rfl⟩
      rw[aW hg,amts_snoc,if_pos (hiff.mp (of_decide_eq_true ht)),List.map_append];rfl
     ·refine⟨hD',sm5,hD'l,?_,_,_,rfl⟩
      rw[aW hg,amts_snoc,if_neg (fun e=>hf (decide_eq_true (hiff.mpr e))),List.append_nil]
    rintro D' r' σ' H5 ⟨hD',sm5,hD'l,rfl,_⟩
    rw[hgxl,List.take_length] at hD'l
    refine⟨false,D',_,rfl,bZ.of hD'l,?_⟩
    rw[amts_sum]
    have c1:=sm5 _ _ (sm4 _ _ (sm3 _ _ hs2))
    have c2:=sm5 _ _ hDl
    have c3:=sm5 _ _ (sm4 _ _ hd3)
    have c4:=sm5 _ _ (sm4 _ _ (sm3 _ _ ht2))
    refine⟨_,rfl,sl,_,rfl,.inl ⟨bZ.of c1,fun t1 ht1=>?_⟩⟩
    have m1:=aF.new (o:=HO.tup ((cX net.vs (aP net held coming poured doors)).map V.int)) ht1
    refine⟨_,rfl,D,_,rfl,.inl ⟨bZ.of (m1 _ _ c2),fun t2 ht2=>?_⟩⟩
    have m2:=aF.new (o:=HO.tup ((dJ net.vs.length (bY net.vs (aP net held coming poured doors))).map V.int)) ht2
    refine⟨_,rfl,dl,_,rfl,.inl ⟨bZ.of (m2 _ _ (m1 _ _ c3)),fun t3 ht3=>?_⟩⟩
    have m3:=aF.new (o:=HO.tup ((cB net.vs doors (bE 0 net.vs (aP net held coming poured doors))).map V.bl)) ht3
    refine⟨(show 3≤sizeLine by decide),fun t4 ht4=>?_⟩
    have m4:=aF.new (o:=HO.tup [.ref t1,.ref t2,.ref t3]) ht4
    refine⟨_,rfl,tl,_,rfl,.inl ⟨bZ.of (m4 _ _ (m3 _ _ (m2 _ _ (m1 _ _ c4)))),fun t5 ht5=>?_⟩⟩
    have m5:=aF.new (o:=HO.tup ((bE 0 net.vs (aP net held coming poured doors)).map fun (j:Nat)=>V.int (j:Int))) ht5
    refine⟨_,rfl,(show 3≤sizeLine by decide),fun t6 ht6=>?_⟩
    have m6:aF _ _:=aF.new (o:=HO.lst [.ref t4,.ref t5,.int (cO none (bY net.vs (aP net held coming poured doors)))]) ht6
    refine k t6 (.ref t4) (.ref t5) _ (((((((((sA3.trans sm4).trans sm5).trans m1).trans m2).trans m3).trans m4).trans m5)).trans m6) aB ?_ ?_
    ·exact Is.mono m6.ts _ _ (Is.mono m5.ts _ _ (st_of (bT.of aB) (m4.tup (m3.tup (m2.tup (bT.of aB)))) (m4.tup (m3.tup (bT.of aB))) (m4.tup (bT.of aB))))
    ·refine Is.mono m6.ts _ _ (Is.tupOf (bT.of aB) ?_)
     show L2.IsL K _ ((bE 0 net.vs (aP net held coming poured doors)).map fun (i:Nat)=>L2.D.int (i:Int)) _
     have e1:((bE 0 net.vs (aP net held coming poured doors)).map fun (i:Nat)=>L2.D.int (i:Int))=((bE 0 net.vs (aP net held coming poured doors)).map fun (i:Nat)=>(i:Int)).map L2.D.int:=by rw[List.map_map];rfl
     have e2:((bE 0 net.vs (aP net held coming poured doors)).map fun (i:Nat)=>V.int (i:Int))=((bE 0 net.vs (aP net held coming poured doors)).map fun (i:Nat)=>(i:Int)).map V.int:=by rw[List.map_map];rfl
     rw[e1,e2]
     exact L2.IsL.of_ints _
end
end Tw
namespace Tw
open PySem L2
section
variable {P:Program}{w:World}{K:PySem.W.Frag}{mg:Str→Option Value}{base:Heap}
end
end Tw
namespace L2
open PySem PySem.Spec PyProof.Rows TwZ
section
variable {X:Cx}{K:PySem.W.Frag}
noncomputable def rNeL0 (K:PySem.W.Frag):R2:=fun x y H Q=>∃ a b xs,x=.ref a∧y=.ref b∧bZ K H a xs∧bZ K H b []∧Q (.bl (!xs.isEmpty)) H
theorem op_neL0 (hu:X.A.units+64 < cLine):OpR X (compareOp .NotEq) (rNeL0 X.K):=by
 intro pins s σ H x y v u Q I rx ry h
 obtain⟨a,b,xs,rfl,rfl,q1,q2,q⟩:=h
 cases rx
 cases ry
 obtain⟨us,r1,p1,_⟩:=I.list q1
 obtain⟨vs,r2,p2,_⟩:=I.list q2
 have e1:=r1.length
 have e2:vs=[]:=by have:=r2.length;exact List.eq_nil_of_length_eq_zero (by simpa using this.symm)
 subst e2
 cases xs with
 | nil=>
  have:us=[]:=List.eq_nil_of_length_eq_zero (by simpa using e1.symm)
  subst this
  refine SeqAt.RcNeAt.lists (A:=X.A) (s:=s) (e:=fun _=>true) p1.isList p2.isList rfl (by omega) (fun j h1 h2=>absurd h1 (by simp)) X.prog X.w X.xe _ ?_
  exact⟨.bl false,H,I,rfl,q⟩
 | cons z zs=>
  refine SeqAt.RcNeAt.lists_lengths (A:=X.A) (s:=s) p1.isList p2.isList (by
   have:us.length=zs.length+1:=by rw[← e1];rfl
   simp [this]) (by omega) X.prog X.w X.xe _ ?_
  exact⟨.bl true,H,I,rfl,q⟩
theorem op_neL0K (hK:X.K=K) (hu:X.A.units+64 < cLine):OpR X (compareOp .NotEq) (rNeL0 K):=by subst hK;exact op_neL0 hu
end
end L2
namespace Tw
open PySem L2
theorem flat_tip (l:List Nat):(l.map fun (i:Nat)=>V.int (i:Int)).all flatV=true:=by
 rw[List.all_eq_true]
 intro z hz
 obtain⟨i,_,rfl⟩:=List.mem_map.1 hz
 rfl
end Tw
namespace Tw
open PySem L2
noncomputable def Sta.tkA (net:Net) (s:Sta) (a:Int):Tick:=tickOf net s.held s.coming (a::zeros (net.vs.length - 1)) s.doors
noncomputable def Sta.nxA (net:Net) (s:Sta) (a:Int):Sta:=⟨(s.tkA net a).held,(s.tkA net a).coming,(s.tkA net a).doors⟩
noncomputable def tipA (net:Net) (v:Int) (s:Sta) (a:Int):Bool:=inV (.int v) ((s.tkA net a).tip.map fun (j:Nat)=>V.int (j:Int))
noncomputable def StaOk (net:Net) (s:Sta):Prop:=StOk net s.held s.coming s.doors
theorem pour_len {net:Net} (nok:NetOk net) (a:Int):(a::zeros (net.vs.length - 1)).length=net.vs.length:=by
 rw[List.length_cons,zeros_l];have:=nok.lo;omega
theorem sta0_ok (net:Net):StaOk net (sta0 net):=⟨zeros_l _,zeros_l _,by show (net.sps.map _).length=_;rw[List.length_map]⟩
theorem nxA_ok {net:Net} (nok:NetOk net) {s:Sta} (ih:StaOk net s) (a:Int):StaOk net (s.nxA net a):=by
 have hs:(aP net s.held s.coming (a::zeros (net.vs.length - 1)) s.doors).length=net.vs.length:=by
  unfold aP;rw[fillL_len,add3_len ih.h ih.c (pour_len nok a)]
 exact⟨staysL_len _ _ hs.symm,by show (dJ _ _).length=_;unfold dJ;simp,by show (cB _ _ _).length=_;rw[doorsL_len];exact ih.d⟩
section
variable {P:Program}{w:World}{K:PySem.W.Frag}{mg:Str→Option Value}{base:Heap}{c_TipError c_NoNet c_NoVessel c_TooLong c_TooMany c_TooMuch c_Nothing c_NoText c_NoRow:Addr}
noncomputable def spWatch (K:PySem.W.Frag):Sp:=fun vs H Q _=>∃ (x y:V) (net:Net) (s:Sta) (v a:Int),vs=[x,y,.int v,.int a]∧Is K H (netD net) x∧Is K H (staD s) y∧NetOk net∧StaOk net s∧
 ∀ p b H',aF H H'→bT K H' p [b,.bl (tipA net v s a)]→Is K H' (staD (s.nxA net a)) b→Q (.ref p) H'
theorem sc_watch:FnScope ["net","state","vessel","amount","behind","tipped","grounded"] ["net","state","vessel","amount"] (aL (bC 17)):=⟨rfl,rfl,rfl,by decide +kernel,rfl,by decide +kernel,by decide +kernel⟩
theorem ok_watch {f f2 f3:Addr}{fd fd2 fd3:FuncData} (F:Fun K "watch" "watch" (bC 17) f fd) (T:Txt mg)
  (G_pouring:Callee P w K mg base "pouring" ["net","amount"] 1 (spPouring K) f2 fd2) (G_tick_behind:Callee P w K mg base "tick_behind" ["net","state","poured"] 4 (spTickP K) f3 fd3) :
  FnOk P w K mg base CX0 5 f fd ["net","state","vessel","amount"] (spWatch K):=by
 refine F.ok sc_watch (fun vs H Q E h=>?_) (fun cdv A outer s H vs Q E hr h=>?_)
 ·obtain⟨x,y,net,s,v,a,rfl,_⟩:=h;rfl
 ·obtain⟨x,y,net,st,v,a,rfl,hx,hy,nok,sok,k⟩:=h
  have sc:=sc_watch
  refine⟨_,(aD (cS (pcG G_tick_behind hr (aA (pv 0) (aA (pv 1) (aA (pcG G_pouring hr (aA (pv 0) (aA (pv 3) aC))) aC)))) (bO (K:=K) (n:=3) rfl rfl (aK (aH (i:=4) sc.nd rfl (Or.inl rfl)) (aK (aH (i:=5) sc.nd rfl (Or.inl rfl)) (aK (aH (i:=6) sc.nd rfl (Or.inl rfl)) bL)))))
   (aO (bV (bS (aA (pv 4) (aA (pe_cmpR (op_inK (K:=K) rfl) (pv 2) (pv 5) (by rfl)) aC)))))),?_⟩
  refine⟨_,rfl,_,rfl,_,rfl,_,rfl,x,net,a,rfl,hx,nok,fun z H1 s1 qz=>?_⟩
  refine⟨x,y,z,net,st.held,st.coming,a::zeros (net.vs.length - 1),st.doors,rfl,Is.mono s1.ts _ _ hx,Is.mono s1.ts _ _ hy,qz,nok,sok,pour_len nok a,fun r H2 s2 tp=>?_⟩
  obtain⟨f,y1,tpa,rfl,qf,j1,pla⟩:=tp
  refine⟨f,_,rfl,qf,rfl,_,_,rfl,_,_,rfl,_,_,rfl,rfl,?_⟩
  refine⟨_,rfl,_,rfl,_,rfl,tpa,_,rfl,.inr pla.sq,rfl,flat_tip _,(show 2≤sizeLine by decide),fun p hp=>?_⟩
  have s3:=aF.new (o:=HO.tup [y1,.bl (tipA net v st a)]) hp
  exact k p y1 _ ((s1.trans s2).trans s3) (bT.of aB) (Is.mono s3.ts _ _ j1)
end
end Tw
namespace Tw
open PySem L2
noncomputable def moreW (most:Nat) (r:List Int):List (List Int):=(List.range (most+1)).map fun (a:Nat)=>r++[(a:Int)]
noncomputable def bH (most:Nat):Nat→List (List Int)
 | 0=>[[]]
 | k+1=>(bH most k).flatMap (moreW most)
theorem words_in {most:Nat}:∀ (k:Nat) (u:List Int),u∈bH most k↔(eF most u∧u.length=k)
 | 0,u=>by
  unfold bH
  rw[List.mem_singleton]
  constructor
  ·rintro rfl;exact⟨(fun a h=>by cases h),rfl⟩
  ·rintro⟨_,h⟩;exact List.length_eq_zero_iff.mp h
 | k+1,u=>by
  unfold bH
  rw[List.mem_flatMap]
  constructor
  ·rintro⟨r,hr,h⟩
   unfold moreW at h
   obtain⟨a,ha,rfl⟩:=List.mem_map.1 h
   rw[List.mem_range] at ha
   obtain⟨h1,h2⟩:=(words_in k r).1 hr
   refine⟨fun b hb=>?_,by simp [h2]⟩
   rcases List.mem_append.1 hb with hb | hb
   ·exact h1 b hb
   ·rw[List.mem_singleton] at hb;subst hb;omega
  ·rintro⟨h1,h2⟩
   have hne:u≠[]:=fun z=>by rw[z] at h2;cases h2
   refine⟨u.dropLast,(words_in k _).2 ⟨fun a ha=>h1 a (List.dropLast_subset _ ha),by rw[List.length_dropLast];omega⟩,?_⟩
   unfold moreW
   have hl:=h1 _ (List.getLast_mem hne)
   refine List.mem_map.2 ⟨(u.getLast hne).toNat,by rw[List.mem_range];omega,?_⟩
   rw[show (((u.getLast hne).toNat:Nat):Int)=u.getLast hne by omega]
   exact List.dropLast_concat_getLast hne
theorem more_sort (most:Nat) (r:List Int):(moreW most r).Pairwise lexL:=by
 unfold moreW
 rw[List.pairwise_map]
 refine List.Pairwise.imp (R:=fun (a b:Nat)=>a < b) (fun {a b} h=>?_) List.pairwise_lt_range
 have h2:(a:Int) < (b:Int):=by omega
 exact lexL_pre r (show lexL [(a:Int)] [(b:Int)] from Or.inl h2)
theorem words_sort (most:Nat):∀ k,(bH most k).Pairwise lexL
 | 0=>List.pairwise_singleton _ _
 | k+1=>by
  unfold bH
  rw[List.pairwise_flatMap]
  refine⟨fun r _=>more_sort most r,(words_sort most k).imp fun {r r'} h x hx y hy=>?_⟩
  unfold moreW at hx hy
  obtain⟨a,_,rfl⟩:=List.mem_map.1 hx
  obtain⟨b,_,rfl⟩:=List.mem_map.1 hy
  exact lexL_app _ _ h
theorem words_len (most:Nat):∀ k,(bH most k).length=(most+1) ^ k
 | 0=>rfl
 | k+1=>by
  unfold bH
  rw[List.length_flatMap]
  have:(List.map (fun a=>(moreW most a).length) (bH most k))=List.replicate (bH most k).length (most+1):=by
   rw[List.eq_replicate_iff]
   refine⟨by simp,fun b hb=>?_⟩
   obtain⟨a,_,rfl⟩:=List.mem_map.1 hb
   unfold moreW;simp
  rw[this,List.sum_replicate_nat,words_len most k,Nat.pow_succ]
section
variable (T:List Int→Bool) (most:Nat)
noncomputable def cG:Nat→Option (List Int)
 | 0=>none
 | k+1=>match cG k with
  | some r=>some r
  | none=>((bH most (k+1)).filter T).head?
variable {T most}
theorem firstK_none (h0:T []=false):∀ k,cG T most k=none→∀ u,eF most u→u.length≤k→T u=false
 | 0,_,u,_,hl=>by
  have:u=[]:=List.length_eq_zero_iff.mp (by omega)
  rw[this];exact h0
 | k+1,h,u,hw,hl=>by
  rw[cG] at h
  cases e:cG T most k with
  | some r=>rw[e] at h;cases h
  | none=>
   rw[e] at h
   rcases (show u.length≤k∨u.length=k+1 by omega) with c | c
   ·exact firstK_none h0 k e u hw c
   ·have h':((bH most (k+1)).filter T).head? = none:=h
    rw[List.head?_eq_none_iff,List.filter_eq_nil_iff] at h'
    have:=h' u ((words_in (k+1) u).2 ⟨hw,c⟩)
    simpa using this
theorem firstK_some (h0:T []=false):∀ k r,cG T most k=some r→T r=true∧eF most r∧r.length≤k∧∀ u,eF most u→sLt u r→T u=false
 | 0,r,h=>by cases h
 | k+1,r,h=>by
  rw[cG] at h
  cases e:cG T most k with
  | some r'=>
   rw[e] at h
   cases h
   obtain⟨h1,h2,h3,h4⟩:=firstK_some h0 k r e
   exact⟨h1,h2,by omega,h4⟩
  | none=>
   rw[e] at h
   have h':((bH most (k+1)).filter T).head? = some r:=h
   have hm:=List.mem_of_mem_head? h'
   rw[List.mem_filter] at hm
   obtain⟨hw,hl⟩:=(words_in (k+1) r).1 hm.1
   refine⟨hm.2,hw,by omega,fun u hu hlt=>?_⟩
   rcases hlt with hlt | ⟨he,hlt⟩
   ·exact firstK_none h0 k e u hu (by omega)
   ·cases hT:T u with
    | false=>rfl
    | true=>
     have hum:u∈(bH most (k+1)).filter T:=List.mem_filter.2 ⟨(words_in (k+1) u).2 ⟨hu,by omega⟩,hT⟩
     have hs:((bH most (k+1)).filter T).Pairwise lexL:=(words_sort most (k+1)).filter _
     cases hq:(bH most (k+1)).filter T with
     | nil=>rw[hq] at hum;cases hum
     | cons z l=>
      rw[hq] at h' hum hs
      cases h'
      rcases List.mem_cons.1 hum with rfl | hum
      ·exact absurd hlt (lexL_irr _)
      ·exact absurd (lexL_trans hlt ((List.pairwise_cons.1 hs).1 u hum)) (lexL_irr _)
end
theorem staD_inj (x y:Sta) (h:staD x=staD y):x=y:=by
 obtain⟨a,b,c⟩:=x
 obtain⟨a',b',c'⟩:=y
 have h':L2.D.tup [.tup (a.map L2.D.int),.tup (b.map L2.D.int),.tup (c.map L2.D.bl)]=.tup [.tup (a'.map L2.D.int),.tup (b'.map L2.D.int),.tup (c'.map L2.D.bl)]:=h
 injection h' with h'
 injection h' with h1 h'
 injection h' with h2 h'
 injection h' with h3 _
 injection h1 with h1
 injection h2 with h2
 injection h3 with h3
 have i1:∀ {p q:List Int},p.map L2.D.int=q.map L2.D.int→p=q:=fun {p q} h=>(List.map_inj_right (fun x y h=>by injection h)).1 h
 have i2:∀ {p q:List Bool},p.map L2.D.bl=q.map L2.D.bl→p=q:=fun {p q} h=>(List.map_inj_right (fun x y h=>by injection h)).1 h
 rw[i1 h1,i1 h2,i2 h3]
end Tw
namespace Tw
open PySem L2
section
variable {P:Program}{w:World}{K:PySem.W.Frag}{mg:Str→Option Value}{base:Heap}{c_TipError c_NoNet c_NoVessel c_TooLong c_TooMany c_TooMuch c_Nothing c_NoText c_NoRow:Addr}
noncomputable def spStepL (K:PySem.W.Frag):Sp:=fun vs H Q _=>∃ (x y:V) (net:Net) (s:Sta) (v a:Int),vs=[x,y,.int a,.int v]∧Is K H (netD net) x∧Is K H (staD s) y∧NetOk net∧StaOk net s∧
 ∀ p b H',aF H H'→bT K H' p [b,.bl (tipA net v s a)]→Is K H' (staD (s.nxA net a)) b→Q (.ref p) H'
theorem sc__law_step:FnScope ["net","state","amount","watched","later","tipped","ground"] ["net","state","amount","watched"] (aL (bC 30)):=⟨rfl,rfl,rfl,by decide +kernel,rfl,by decide +kernel,by decide +kernel⟩
theorem ok__law_step {f f1:Addr}{fd fd1:FuncData} (F:Fun K "_law_step" "_law_step" (bC 30) f fd) (T:Txt mg) (G__law_tick:Callee P w K mg base "_law_tick" ["net","state","poured","fast"] 2 (spTickL K) f1 fd1) :
  FnOk P w K mg base CX0 3 f fd ["net","state","amount","watched"] (spStepL K):=by
 refine F.ok sc__law_step (fun vs H Q E h=>?_) (fun cdv A outer s H vs Q E hr h=>?_)
 ·obtain⟨x,y,net,s,v,a,rfl,_⟩:=h;rfl
 ·obtain⟨x,y,net,st,v,a,rfl,hx,hy,nok,sok,k⟩:=h
  have sc:=sc__law_step
  refine⟨_,(aD (cS (pcG G__law_tick hr (aA (pv 0) (aA (pv 1) (aA (aX op_cat (bD (aA (pv 2) aC)) (aX op_rep (bD (aA aG aC)) (aX op_sub (bA (bQ (K:=K) rfl) rfl T.b_len PySem.boot_len (aA (aU (aM (K:=K) rfl) (pv 0) aG (fun _ _=>rfl)) aC)) aG))) (aA pe_non aC))))) (pg_lstK (K:=K) (n:=3) rfl rfl (aK (aH (i:=4) sc.nd rfl (Or.inl rfl)) (aK (aH (i:=5) sc.nd rfl (Or.inl rfl)) (aK (aH (i:=6) sc.nd rfl (Or.inl rfl)) bL)))))
   (aO (bV (bS (aA (pv 4) (aA (pe_cmpR (op_inK (K:=K) rfl) (pv 3) (pv 5) (by rfl)) aC)))))),?_⟩
  obtain⟨ax,av,as,xs,ys,rfl,qx,qv,lv,qs,ls⟩:=net_un hx
  have exl:xs.length=net.vs.length:=by rw[lv.length,List.length_map]
  have nlo:=nok.lo
  have nhi:=nok.hi
  refine⟨_,rfl,_,rfl,_,rfl,(show 1≤sizeLine by decide),fun l1 h1=>⟨(show 1≤sizeLine by decide),fun l2 h2=>?_⟩⟩
  have s2:aF H (upd (upd H l1 (.lst [.int a])) l2 (.lst [.int 0])):=(aF.new h1).trans (aF.new h2)
  have n12:l1≠l2:=aJ (show upd H l1 (.lst [.int a]) l1=_ from aB) h2
  have g1:upd (upd H l1 (.lst [.int a])) l2 (.lst [.int 0]) l1=some (.lst [.int a]):=by rw[aI n12];exact aB
  have g2:upd (upd H l1 (.lst [.int a])) l2 (.lst [.int 0]) l2=some (.lst [.int 0]):=aB
  generalize upd (upd H l1 (.lst [.int a])) l2 (.lst [.int 0])=H2 at s2 g1 g2 ⊢
  refine⟨_,rfl,.inr (.inl ⟨ax,_,0,_,rfl,rfl,s2.tup qx,rfl,av,xs,rfl,.inr (s2.tup qv),_,_,rfl,rfl,l2,_,[.int 0],rfl,rfl,g2,by omega,by omega,?_,fun l3 h3=>?_⟩)⟩
  ·rw[sizeLine_eq];show 1 * _≤_;omega
  ·have en:((xs.length:Int) - 1).toNat=net.vs.length - 1:=by omega
   rw[en,rep0]
   have s3:aF H2 (upd H2 l3 (.lst ((List.replicate (net.vs.length - 1) (0:Int)).map V.int))):=aF.new h3
   refine⟨l1,l3,_,_,rfl,rfl,s3 _ _ g1,aB,?_,fun l4 h4=>?_⟩
   ·rw[List.length_map,List.length_replicate,sizeLine_eq];show 1+_≤_;omega
   ·have s4:=s3.trans (aF.new (o:=HO.lst ([.int a]++(List.replicate (net.vs.length - 1) (0:Int)).map V.int)) h4)
    have g4:upd (upd H2 l3 (.lst ((List.replicate (net.vs.length - 1) (0:Int)).map V.int))) l4 (.lst ([.int a]++(List.replicate (net.vs.length - 1) (0:Int)).map V.int)) l4=some (.lst ((a::zeros (net.vs.length - 1)).map V.int)):=aB
    generalize upd (upd H2 l3 (.lst ((List.replicate (net.vs.length - 1) (0:Int)).map V.int))) l4 (.lst ([.int a]++(List.replicate (net.vs.length - 1) (0:Int)).map V.int))=H4 at s4 g4 ⊢
    have s24:=s2.trans s4
    refine⟨.ref ax,y,l4,net,st.held,st.coming,a::zeros (net.vs.length - 1),st.doors,rfl,Is.mono s24.ts _ _ hx,Is.mono s24.ts _ _ hy,.inr (bZ.of g4),nok,sok,pour_len nok a,fun l p1 p2 H5 s5 hl i1 i2=>?_⟩
    refine⟨l,_,rfl,bZ.of hl,rfl,_,_,rfl,_,_,rfl,_,_,rfl,rfl,?_⟩
    obtain⟨tp,txs,rfl,qt,lt⟩:=i2.un
    have et:txs=(st.tkA net a).tip.map fun (j:Nat)=>V.int (j:Int):=by
     have e1:((st.tkA net a).tip.map fun (i:Nat)=>L2.D.int (i:Int))=((st.tkA net a).tip.map fun (i:Nat)=>(i:Int)).map L2.D.int:=by rw[List.map_map];rfl
     have e2:((st.tkA net a).tip.map fun (i:Nat)=>V.int (i:Int))=((st.tkA net a).tip.map fun (i:Nat)=>(i:Int)).map V.int:=by rw[List.map_map];rfl
     have lt':L2.IsL K H5 ((st.tkA net a).tip.map fun (i:Nat)=>L2.D.int (i:Int)) txs:=lt
     rw[e1] at lt'
     rw[e2]
     exact lt'.ints
    subst et
    refine⟨_,rfl,_,rfl,_,rfl,tp,_,rfl,.inr qt,rfl,flat_tip _,(show 2≤sizeLine by decide),fun p hp=>?_⟩
    have s6:=aF.new (o:=HO.tup [p1,.bl (tipA net v st a)]) hp
    exact k p p1 _ ((s24.trans s5).trans s6) (bT.of aB) (Is.mono s6.ts _ _ i1)
end
end Tw
namespace Tw
open PySem L2
section
variable {P:Program}{w:World}{K:PySem.W.Frag}{mg:Str→Option Value}{base:Heap}{c_TipError c_NoNet c_NoVessel c_TooLong c_TooMany c_TooMuch c_Nothing c_NoText c_NoRow:Addr}
theorem Fun.okRC {x qual:Str}{st:Stmt}{f c:Addr}{fd:FuncData}{N ps:List Str}{k:Nat}{sp:Sp} (F:Fun K x qual st f fd) (hc:fd.code=.ref c) (S:FnScope N ps (aL st)) (len:∀ vs H Q E,sp vs H Q E→vs.length=ps.length)
  (hbody:∀ (A:Around) (outer:List Env) (s:Shared) (H:Hp) (vs:List V) (Q:VK) (E:XK),Room k (A.deeper (PyProof.Rows.envOfC qual (aL st) s.heap.objs.size f (.ref c)))→sp vs H Q E→
   Leaves (cxOf (CXR P w) P w K mg base N qual (aL st) f (.ref c) A outer s H E) E→
   ∃ t,PSs (cxOf (CXR P w) P w K mg base N qual (aL st) f (.ref c) A outer s H E) (b0 st) t∧t { nx:=fun _ H'=>Q .non H',rt:=Q } (start N vs) H):FnOk P w K mg base (CXR P w) (k+1) f fd ps sp:=by
 obtain⟨oc,od,kV,doc,pm,an,cdv,ct,osl,rfl,lk,hcd⟩:=F.ex
 obtain rfl:cdv=.ref c:=hc
 exact fn_of lk hcd S len fun A outer s H vs Q E hr hsp=>hbody A outer s H vs Q E hr hsp ⟨rfl,rfl,rfl,fun _ _ h=>h⟩
structure TxtM (mg:Str→Option Value):Prop where
 g_MOST_STATES:∃ u,mg "MOST_STATES" = some u∧aY (.int 300) u
theorem sc_soonest:FnScope ["net","vessel","most","row","states"] ["net","vessel","most"] (aL (bC 21)):=⟨rfl,rfl,rfl,by decide +kernel,rfl,by decide +kernel,by decide +kernel⟩
noncomputable def lamAt (i:Nat) (st:Stmt):Pos:=match (b0 st)[i]? with
 | some (.Assign _ (.Call _ [_,.Lambda _ _ _ p,_,_] _ _) _)=>p
 | _=>⟨0,0,0,0⟩
noncomputable def posS:Pos:=lamAt 1 (bC 21)
noncomputable def quS:Str:=(("soonest" : Str)++(".<locals>." : Str))++("<lambda>" : Str)
structure SmT (Pt:Addr) (pos:Pos) (q:Str) (H H':Hp):Prop where
 but:ButT Pt H H'
 t1:dN H Pt pos q
 t2:dN H' Pt pos q
noncomputable abbrev soonN (net:Net) (v:Int) (most:Nat):BRes Sta:=bfs staD (fun s a=>s.nxA net a) (tipA net v) most 300 (sta0 net)
noncomputable def spSoon (K:PySem.W.Frag) (Pt:Addr) (cV cM:Addr):Sp:=fun vs H Q E=>∃ (x:V) (net:Net) (v:Int) (most:Nat),vs=[x,.int v,.int most]∧Is K H (netD net) x∧NetOk net∧most≤1000∧dN H Pt posS quS∧
 ((0≤v∧v < net.vs.length∧
  (∀ row fs,soonN net v most=.ends row fs→∀ p rl H',SmT Pt posS quS H H'→bT K H' p [.str "tips",.ref rl]→H' rl=some (.lst (row.map V.int))→H rl=none→row.length≤2000→Q (.ref p) H')∧
  (soonN net v most=.many→∀ H',SmT Pt posS quS H H'→E (.ref cM) none H')∧
  (∀ fs,soonN net v most=.on fs→∀ p fl us H',SmT Pt posS quS H H'→bT K H' p [.str "never",.ref fl]→H' fl=some (.lst us)→H fl=none→Paired (fun (p:Sta×List Int) v=>KeyD K H' (shN net) (staD p.1) v) fs us→(∀ q∈fs,StaOk net q.1)→fs.length≤300→Q (.ref p) H'))∨
  (¬ (0≤v∧v < net.vs.length)∧E (.ref cV) none H))
theorem dN.of {H H':Hp}{Pt:Addr}{pos:Pos}{q:Str} (h:dN H Pt pos q) (s:aF H H'):SmT Pt pos q H H':=⟨fun b o _ e=>s b o e,h,h.same s⟩
theorem SmT.trans {H H' H'':Hp}{Pt:Addr}{pos:Pos}{q:Str} (a:SmT Pt pos q H H') (b:SmT Pt pos q H' H''):SmT Pt pos q H H'':=⟨fun c o n e=>b.but c o n (a.but c o n e),a.t1,b.t2⟩
theorem SmT.step {H H' H'':Hp}{Pt:Addr}{pos:Pos}{q:Str} (a:SmT Pt pos q H H') (b:aF H' H''):SmT Pt pos q H H'':=a.trans (dN.of a.t2 b)
theorem SmT.get {H H':Hp}{Pt:Addr}{pos:Pos}{q:Str} (a:SmT Pt pos q H H') {b:Addr}{o:HO} (e:H b=some o) (hn:∀ ps,o≠.tbl ps):H' b=some o:=a.but b o (fun z=>by
 obtain⟨ps,h⟩:=a.t1.some
 rw[z,h] at e
 exact hn ps (Option.some.inj e).symm) e
theorem SmT.free {H H':Hp}{Pt:Addr}{pos:Pos}{q:Str} (a:SmT Pt pos q H H') {b:Addr} (h:H' b=none):H b=none:=by
 cases e:H b with
 | none=>rfl
 | some o=>
  by_cases hb:b=Pt
  ·obtain⟨ps,h2⟩:=a.t2.some
   rw[hb,h2] at h;cases h
  ·rw[a.but b o hb e] at h;cases h
theorem SmT.ts {K:PySem.W.Frag}{H H':Hp}{Pt:Addr}{pos:Pos}{q:Str} (a:SmT Pt pos q H H'):bJ K H H':=fun b xs h=>by
 rcases h with (h | ⟨o,h⟩) | h
 ·exact .inl (.inl (a.get h fun ps z=>by cases z))
 ·exact .inl (.inr ⟨o,a.get h fun ps z=>by cases z⟩)
 ·exact .inr h
theorem ok_soonest {f f1 f2 f3 f4 c Pt:Addr}{fd fd1 fd2 fd3 fd4:FuncData} (F:Fun K "soonest" "soonest" (bC 21) f fd) (T:Txt mg) (hcode:fd.code=.ref c) (NB_soonest:NestB mg base c Pt) (U:TxtM mg)
  (G_need_vessel:CalleeR P w K mg base "need_vessel" ["net","number"] 2 (spNeedR K c_NoVessel) f1 fd1) (G_first_state:Callee P w K mg base "first_state" ["net"] 1 (spFirst K) f2 fd2)
  (G_watch:Callee P w K mg base "watch" ["net","state","vessel","amount"] 5 (spWatch K) f3 fd3) (G_go_through:CalleeS P w K mg base "go_through" ["first","step","most","limit"] 7 (spGoT P w K mg base c_TooMany staD) f4 fd4) :
  FnOk P w K mg base (CXR P w) 8 f fd ["net","vessel","most"] (spSoon K Pt c_NoVessel c_TooMany):=by
 refine Fun.okRC F hcode sc_soonest (fun vs H Q E h=>?_) (fun A outer s H vs Q E hr h L=>?_)
 ·obtain⟨x,net,v,most,rfl,_⟩:=h;rfl
 ·obtain⟨x,net,v,most,rfl,hx,nok,hm,tab,k⟩:=h
  have sc:=sc_soonest
  refine⟨_,(aD (cY (pe_call G_need_vessel.ok (hr.mono (by decide)) rfl G_need_vessel.mg G_need_vessel.kp G_need_vessel.bd .nil (pass_xe L) (aA (pv 0) (aA (pv 1) aC))))
   (aD (cS (pe_callS G_go_through.ok (hr.mono (by decide)) rfl G_go_through.mg G_go_through.kp G_go_through.bd (pass_xe L) rfl rfl (fun _=>rfl) (aA (pcG G_first_state hr (aA (pv 0) aC)) (aA (pe_lam rfl rfl rfl NB_soonest) (aA (pv 2) (aA (pe_globE rfl U.g_MOST_STATES) aC))))) (bO (K:=K) (n:=2) rfl rfl (aK (aH (i:=3) sc.nd rfl (Or.inl rfl)) (aK (aH (i:=4) sc.nd rfl (Or.inl rfl)) bL))))
   (aD (dP (bR op_isN (pv 3) pe_non (bW _)) (aO (bV (bS (aA dI (aA (pv 4) aC))))) bX)
   (aO (bV (bS (aA dI (aA (pv 3) aC)))))))),?_⟩
  refine⟨_,rfl,_,rfl,x,net,v,rfl,hx,?_⟩
  rcases k with ⟨v0,v1,kE,kM,kO⟩ | ⟨hn,kV⟩
  ·refine .inl ⟨v0,v1,?_⟩
   refine⟨_,rfl,x,net,rfl,hx,nok,fun st H1 s1 hst=>⟨tab.same s1,fun fa ca oc ctv H2 hfa bt tab2 fnh hoc=>⟨_,rfl,fun s1' cf=>?_⟩⟩⟩
   have sT:SmT Pt posS quS H H2:=(dN.of tab s1).trans ⟨bt,tab.same s1,tab2⟩
   have cN:(cxOf (CXR P w) P w K mg base ["net","vessel","most","row","states"] "soonest" (aL (bC 21)) f (.ref c) A outer s H E).env.cells.lookup ("net" : Str)=some (s.heap.objs.size+1):=rfl
   have cW:(cxOf (CXR P w) P w K mg base ["net","vessel","most","row","states"] "soonest" (aL (bC 21)) f (.ref c) A outer s H E).env.cells.lookup ("vessel" : Str)=some (s.heap.objs.size+1+1):=rfl
   refine⟨fun s a=>s.nxA net a,tipA net v,StaOk net,fun H=>Is K H (netD net) x,shN net,st,fa,ca,_,oc,[("vessel",s.heap.objs.size+1+1),("net",s.heap.objs.size+1)],most,300,sta0 net,rfl,by decide,by decide,hm,?_,sta0_ok net,⟨fun d a h _=>nxA_ok nok h a,fun d h H v e=>key_sta h e,fun H H' t h=>Is.mono t _ _ h⟩,Is.mono sT.ts _ _ hx,fnh,⟨_,_,_,_,rfl⟩,?_,?_,?_,?_,?_⟩
   ·exact Is.mono (SmT.ts ⟨bt,tab.same s1,tab2⟩) _ _ hst
   ·have two:∀ (y:Str) (c:Addr),List.lookup y [(("vessel" : Str),s.heap.objs.size+1+1),(("net" : Str),s.heap.objs.size+1)]=some c→(y = "vessel" ∧ c=s.heap.objs.size+1+1)∨(y = "net" ∧ c=s.heap.objs.size+1):=fun y c h=>by
     have:=PySem.mem_of_lookup h
     rcases List.mem_cons.1 this with z | z
     ·injection z with z1 z2;exact .inl ⟨z1,z2⟩
     ·rw[List.mem_singleton] at z;injection z with z1 z2;exact .inr ⟨z1,z2⟩
    refine lam_runs (N:=["state","amount","net","vessel"]) (ps:=["state","amount"]) (fv:=[x,.int v]) ⟨rfl,rfl,rfl,by decide +kernel,rfl,by decide +kernel,by decide +kernel,?_,?_⟩ ?_ rfl hoc ?_ ?_ ?_ ?_
    ·intro y hy
     have:=PySem.mem_of_lookup hy
     simp only [List.mem_cons,Prod.mk.injEq,reduceCtorEq,and_false,and_true,false_or,or_false,List.not_mem_nil] at this
     rcases this with rfl | rfl
     ·exact⟨_,rfl⟩
     ·exact⟨_,rfl⟩
    ·refine List.Pairwise.cons (fun y hy=>?_) (List.pairwise_singleton _ _)
     rw[List.mem_singleton] at hy
     subst hy
     show s.heap.objs.size+1+1≠s.heap.objs.size+1
     omega
    ·rintro vs H' Q' ⟨x',d,a,rfl,_⟩;rfl
    ·intro us hus
     obtain⟨u1,u2,rfl⟩:∃ u1 u2,us=[u1,u2]:=by
      match us,hus with
      | [u1,u2],_=>exact⟨u1,u2,rfl⟩
     rfl
    ·intro y c' h
     rcases two y c' h with ⟨rfl,rfl⟩ | ⟨rfl,rfl⟩
     ·exact cf.cell _ _ cW
     ·exact cf.cell _ _ cN
    ·intro i y u h1 h2
     match i,h1,h2 with
     | 0,h1,h2=>
      cases h1;cases h2
      obtain⟨c',u,h3,h4,h5⟩:=cf.val 0 "net" x rfl rfl rfl
      rw[cN] at h3;cases h3
      exact⟨rfl,_,u,rfl,h4,h5⟩
     | 1,h1,h2=>
      cases h1;cases h2
      obtain⟨c',u,h3,h4,h5⟩:=cf.val 1 "vessel" (.int v) rfl rfl rfl
      rw[cW] at h3;cases h3
      exact⟨rfl,_,u,rfl,h4,h5⟩
     | i+2,h1,h2=>simp at h2
    ·rintro A' outer' s' H' vs Q' hr' ⟨y,d,a,rfl,hy,okd,ha,hG,kk⟩
     refine⟨_,pcG G_watch hr' (aA (pv 2) (aA (pv 0) (aA (pv 3) (aA (pv 1) aC)))),?_⟩
     refine⟨_,rfl,_,rfl,_,rfl,_,rfl,x,y,net,d,v,a,rfl,hG,hy,nok,okd,fun p b H'' s'' q1 q2=>kk p b H'' s'' q1 q2⟩
   ·intro c' hc'
    have hc2:c'=s.heap.objs.size+1+1∨c'=s.heap.objs.size+1:=by simpa using hc'
    rcases hc2 with rfl | rfl
    ·obtain⟨h1,h2,h3⟩:=cf.out _ _ cW
     obtain⟨u,o,h4,_⟩:=cf.cell _ _ cW
     exact⟨h1,h2,h3,o,h4⟩
    ·obtain⟨h1,h2,h3⟩:=cf.out _ _ cN
     obtain⟨u,o,h4,_⟩:=cf.cell _ _ cN
     exact⟨h1,h2,h3,o,h4⟩
   ·intro row fs e p rl fl H3 s3 qp hrl frl hlen
    refine⟨p,_,rfl,qp,rfl,_,_,rfl,_,_,rfl,rfl,?_⟩
    refine⟨_,rfl,rfl,_,rfl,iteF ?_⟩
    refine⟨_,rfl,(show 2≤sizeLine by decide),fun tp htp=>?_⟩
    have s4:=aF.new (o:=HO.tup [.str "tips",.ref rl]) htp
    exact kE row fs e tp rl _ (sT.step (s3.trans s4)) (bT.of aB) (s4 _ _ hrl) (sT.free frl) hlen
   ·intro e H3 s3
    exact kM e H3 (sT.step s3)
   ·intro fs e p fl us H3 s3 qp hfl ffl pr oks hlen
    refine⟨p,_,rfl,qp,rfl,_,_,rfl,_,_,rfl,rfl,?_⟩
    refine⟨_,rfl,rfl,_,rfl,iteT ?_⟩
    refine⟨_,rfl,(show 2≤sizeLine by decide),fun tp htp=>?_⟩
    have s4:=aF.new (o:=HO.tup [.str "never",.ref fl]) htp
    exact kO fs e tp fl us _ (sT.step (s3.trans s4)) (bT.of aB) (s4 _ _ hfl) (sT.free ffl) (L2.Paired.mapP pr fun _ _ h=>h.mono s4.ts) oks hlen
  ·exact .inr ⟨hn,kV⟩
end
end Tw
namespace L2
open PySem PySem.Spec PyProof.Rows TwZ
section
variable {X:Cx}
noncomputable def tTryN (K:PySem.W.Frag) (E:XK) (CT:Addr) (k:Nat) (tb ts:TS):TS:=fun D σ H=>tb D σ H∧
 ∀ (cls:Value) (H':Hp) (ea:Addr) (σ':St),E cls none H'→σ'.length=k→H' ea=none→PySem.W.exmOne K cls (.ref CT)=some true∧
  ts { nx:=D.nx,rt:=D.rt } σ' (upd H' ea (excO ea cls))
theorem ps_tryN {EX:XK}{CT:Addr}{x:Str}{body suite:List Stmt}{b₀:Stmt}{np hpos pos:Pos}{tb ts:TS} (hstk:X.stack=X.env::X.outer) (hfr:X.env.frame=some X.env.locals)
  (hb:∀ (pn:List (Addr×Obj)) (xe:Value→Shared→Prop),Passes (CXR X.prog X.w) (X.within pn xe) EX→PSs (X.within pn xe) body tb)
  (hg:Gl X x) (hm:X.mg x=some (.ref CT))
  (hs:∀ ea:Addr,PSs (X.caughtIn ea) (b₀::suite) ts) (hd:(x == ("__debug__" : Str))=false:=by decide) :
  PS X (.Try body [.ExceptHandler (some (.Name x np)) none (b₀::suite) hpos] [] [] pos) (tTryN X.K EX CT X.N.length tb ts):=by
 intro pins s σ H D I h
 obtain⟨h1,h2⟩:=h
 refine wpAny_Try_except ?_
 let XE:Value→Shared→Prop:=fun e s'=>∃ (σ:St) (H:Hp) (s:Shared) (ea:Addr) (cls a0:Value) (H':Hp) (B:Heap),e=.ref ea∧Inv X pins σ H s∧s'.os=s.os∧AllBare s'.gens∧Fly X.prog X.w X.stack H s.heap ea cls a0 H' s'.heap B∧EX cls none H'
 have hpass:Passes (CXR X.prog X.w) (X.within (X.pn++pins) XE) EX:=by
  intro p2 σ H s e s' J hx
  obtain⟨ea,cls,a0,H',B,rfl,os,bare,F,hE⟩:=hx
  exact⟨σ,H,s,ea,cls,a0,H',B,rfl,J.unwithin,os,bare,F,hE⟩
 refine wpAny_mono (hb (X.pn++pins) XE hpass [] s σ H D I.within h1) (fun f s₁ hf=>?_) fun e s₁ hx=>?_
 ·cases f with
  | next=>
   obtain⟨σ',H',J,q⟩:=hf
   exact bX pins s₁ σ' H' D J.unwithin q
  | brk=>obtain⟨σ',H',J,q⟩:=hf;exact⟨σ',H',J.unwithin,q⟩
  | cont=>obtain⟨σ',H',J,q⟩:=hf;exact⟨σ',H',J.unwithin,q⟩
  | ret u=>obtain⟨v,σ',H',J,r,q⟩:=hf;exact⟨v,σ',H',J.unwithin,r,q⟩
 ·obtain⟨σ',H0,s0,ea,cls,a0,H',B,rfl,J,os,bare,F,hE⟩:=hx
  have fr:X.A.frames=some (X.env::X.outer):=by rw[← hstk];exact I.ok.frames
  have again:∀ h',Heap.FlyingW B X.stack ea cls a0 h'→s₁.heap.UpToSlots h'→Fly X.prog X.w X.stack H0 s0.heap ea cls a0 H' h' B:=fun h' fl sm=>
   ⟨fl,F.keep,fun b o e n hb=>by
    obtain⟨sl,e1⟩:=F.slot b o e n hb
    obtain⟨_,o',ho',hd⟩:=J.stack.mem hb
    rw[e] at ho'
    cases ho'
    obtain⟨sl',e2⟩:=sm b _ e1 hd
    exact⟨sl',e2⟩,F.free,F.there,F.tups,F.frzs,F.tbls,F.hok⟩
  refine wpAny_looks_onW fr hfr (by rw[← hstk];exact F.fl) fun h₄ held₄ sm₄=>?_
  refine wpAny_landsW held₄ fun h₅ fl₅ sm₅=>?_
  have F5:=again h₅ (by rw[hstk];exact fl₅) (sm₄.trans sm₅)
  obtain⟨hea,J5⟩:=J.caught (s':={ s₁ with heap:=h₅ }) os bare F5
  have hlen:σ'.length=X.N.length:=J.len
  obtain⟨hmat,hts⟩:=h2 cls H' ea σ' hE hlen hea
  refine wpAny_handleBy_cons (codeAny_handlers_test (ld_glob (X:=X.caughtIn ea) J5.mark hg hm ?_ hd)) (by intro q;cases q)
  obtain⟨ob,hob,hobc⟩:=fl₅.there
  have LT0:PySem.W.Looks (model X.prog X.w) h₅ (typeOf (.ref ea)) ob.cls:=(PySem.W.Looks.ld hob).andThen .now
  have LT:PySem.W.Looks (model X.prog X.w) h₅ (typeOf (.ref ea)) cls:=by rw[← hobc];exact LT0
  refine (PySem.W.exm_one (M:=model X.prog X.w) J5.kIn LT hmat).here ?_
  refine codeAny_handlers_suite (lands_againW fl₅ fun h₆ fl₆ sm₆=>?_)
  have F6:=again h₆ (by rw[hstk];exact fl₆) ((sm₄.trans sm₅).trans sm₆)
  obtain⟨_,J6⟩:=J.caught (s':={ s₁ with heap:=h₆ }) os bare F6
  refine wpAny_mono (hs ea pins _ _ _ _ J6.mark hts) (fun f s8 hf=>?_) fun _ _ z=>False.elim z
  cases f with
  | next=>
   obtain⟨σ8,H8,J8,q⟩:=hf
   exact⟨_,_,J8.unmark I.ok,q⟩
  | brk=>obtain⟨_,_,_,q⟩:=hf;exact False.elim q
  | cont=>obtain⟨_,_,_,q⟩:=hf;exact False.elim q
  | ret u=>obtain⟨v,σ8,H8,J8,r,q⟩:=hf;exact⟨v,_,_,J8.unmark I.ok,r,q⟩
end
end L2
namespace Tw
open PySem L2
noncomputable abbrev dS (net:Net) (v:Int) (u:List Int):Bool:=tipR (fun s a=>Sta.nxA net s a) (tipA net v) (sta0 net) false u
section
variable {P:Program}{w:World}{K:PySem.W.Frag}{mg:Str→Option Value}{base:Heap}{C c_TipError c_NoNet c_NoVessel c_TooLong c_TooMany c_TooMuch c_Nothing c_NoText c_NoRow:Addr}
noncomputable def spTip (K:PySem.W.Frag):Sp:=fun vs H Q _=>∃ (x:V) (net:Net) (v:Int) (rl:Addr) (u:List Int),vs=[x,.int v,.ref rl]∧Is K H (netD net) x∧NetOk net∧H rl=some (.lst (u.map V.int))∧∀ H',aF H H'→Q (.bl (dS net v u)) H'
theorem sc__law_tipping:FnScope ["net","vessel","row","state","tips","amount","later"] ["net","vessel","row"] (aL (bC 31)):=⟨rfl,rfl,rfl,by decide +kernel,rfl,by decide +kernel,by decide +kernel⟩
theorem ok__law_tipping {f f1 f2:Addr}{fd fd1 fd2:FuncData} (F:Fun K "_law_tipping" "_law_tipping" (bC 31) f fd) (T:Txt mg) (G__law_first:Callee P w K mg base "_law_first" ["net"] 1 (spFirst K) f1 fd1)
  (G__law_step:Callee P w K mg base "_law_step" ["net","state","amount","watched"] 3 (spStepL K) f2 fd2):FnOk P w K mg base CX0 4 f fd ["net","vessel","row"] (spTip K):=by
 refine F.ok sc__law_tipping (fun vs H Q E h=>?_) (fun cdv A outer s H vs Q E hr h=>?_)
 ·obtain⟨x,net,v,rl,u,rfl,_⟩:=h;rfl
 ·obtain⟨x,net,v,rl,u,rfl,hx,nok,hrl,k⟩:=h
  have sc:=sc__law_tipping
  refine⟨_,(aD (aS (i:=3) sc.nd rfl (Or.inl rfl) (pcG G__law_first hr (aA (pv 0) aC)))
   (aD (aS (i:=4) sc.nd rfl (Or.inl rfl) pe_bl)
   (aD (dH PassesOwn.never rfl (pi_listK (K:=K) rfl (pv 2)) (aH (i:=5) sc.nd rfl (Or.inl rfl)) (aD (aS (i:=6) sc.nd rfl (Or.inl rfl) (pcG G__law_step hr (aA (pv 0) (aA (pv 3) (aA (pv 5) (aA (pv 1) aC))))))
   (aD (aS (i:=3) sc.nd rfl (Or.inl rfl) (aU (aM (K:=K) rfl) (pv 6) aG (fun _ _=>rfl)))
   (aO (aS (i:=4) sc.nd rfl (Or.inl rfl) (aU (aM (K:=K) rfl) (pv 6) aG (fun _ _=>rfl)))))))
   (aO (bV (pv 4)))))),?_⟩
  refine⟨_,rfl,x,net,rfl,hx,nok,fun st H1 s1 hst=>?_⟩
  refine⟨_,rfl,rl,rfl,⟨_,bZ.of (s1 _ _ hrl)⟩,for_list (K:=K) (a:=rl) (xs:=u.map V.int) (fun j σ' H'=>aF H H'∧∃ (st:V) (s:Sta) (v5 v6:Option V),Is K H' (staD s) st∧StaOk net s∧s=runR (fun s a=>Sta.nxA net s a) (sta0 net) (u.take j)∧
   σ'=[some x,some (.int v),some (.ref rl),some st,some (.bl (dS net v (u.take j))),v5,v6]) ?_ ?_ ?_ ?_⟩
  ·exact⟨s1,st,sta0 net,_,_,hst,sta0_ok net,rfl,rfl⟩
  ·rintro i σ' H' _ ⟨s2,_⟩;exact bZ.of (s2 _ _ hrl)
  ·rintro j y σ' H2 hy ⟨s2,st,s,v5,v6,hst,sok,es,rfl⟩
   rw[List.getElem?_map] at hy
   obtain⟨a,ha,rfl⟩:=Option.map_eq_some_iff.mp hy
   dsimp only [tSeq]
   refine⟨_,rfl,_,rfl,_,rfl,_,rfl,x,st,net,s,v,a,rfl,Is.mono s2.ts _ _ hx,hst,nok,sok,fun pp b H3 s3 qp ib=>?_⟩
   refine⟨_,rfl,.inr (.inl ⟨pp,_,0,_,rfl,rfl,qp,rfl,?_⟩)⟩
   refine⟨_,rfl,.inr (.inl ⟨pp,_,1,_,rfl,rfl,qp,rfl,?_⟩)⟩
   have et:u.take (j+1)=u.take j++[a]:=by rw[List.take_succ,ha];rfl
   refine⟨s2.trans s3,b,s.nxA net a,some (.int a),some (.ref pp),ib,nxA_ok nok sok a,by rw[et,runR_snoc,es],?_⟩
   rw[show dS net v (u.take (j+1))=tipA net v s a by show tipR _ _ _ _ _=_;rw[et,tipR_snoc,es]]
   rfl
  ·rintro σ' H2 ⟨s2,st,s,v5,v6,hst,sok,es,rfl⟩
   rw[List.length_map,List.take_length]
   exact⟨_,rfl,k _ s2⟩
noncomputable def spTold18 (K:PySem.W.Frag) (Pt:Addr):Sp:=fun vs H Q _=>∃ (x:V) (net:Net) (v:Int) (most:Nat),vs=[x,.int v,.int most]∧Is K H (netD net) x∧NetOk net∧most≤1000∧dN H Pt posS quS∧0≤v∧v < net.vs.length∧
  (∀ row fs,soonN net v most=.ends row fs→∀ p rl H',SmT Pt posS quS H H'→bT K H' p [.str "tips",.ref rl]→H' rl=some (.lst (row.map V.int))→row.length≤2000→Q (.ref p) H')∧
  (∀ p q H',SmT Pt posS quS H H'→bT K H' p [.str "many",.ref q]→Q (.ref p) H')∧
  (∀ fs,soonN net v most=.on fs→∀ p q H',SmT Pt posS quS H H'→bT K H' p [.str "never",.ref q]→Q (.ref p) H')
theorem sc__law_told:FnScope ["net","vessel","most","found"] ["net","vessel","most"] (aL (bC 32)):=⟨rfl,rfl,rfl,by decide +kernel,rfl,by decide +kernel,by decide +kernel⟩
theorem ok__law_told18 {f f1 Pt:Addr}{fd fd1:FuncData} (F:Fun K "_law_told" "_law_told" (bC 32) f fd) (T:Txt mg) (mE_TooMany:mg "TooMany" = some (.ref c_TooMany)) (hxM:PySem.W.exmOne K (.ref c_TooMany) (.ref c_TooMany)=some true)
  (G_soonest:CalleeR P w K mg base "soonest" ["net","vessel","most"] 8 (spSoon K Pt c_NoVessel c_TooMany) f1 fd1):FnOk P w K mg base CX0 9 f fd ["net","vessel","most"] (spTold18 K Pt):=by
 refine F.ok sc__law_told (fun vs H Q E h=>?_) (fun cdv A outer s H vs Q E hr h=>?_)
 ·obtain⟨x,net,v,most,rfl,_⟩:=h;rfl
 ·obtain⟨x,net,v,most,rfl,hx,nok,hm,tab,v0,v1,kE,kM,kO⟩:=h
  have sc:=sc__law_told
  let EX:XK:=fun cls _ H'=>SmT Pt posS quS H H'∧cls=.ref c_TooMany
  refine⟨_,(aD (aS (i:=3) sc.nd rfl (Or.inl rfl) (bS (aA dI (aA (bD aC) aC))))
   (aD (ps_tryN (EX:=EX) rfl rfl (fun pn xe hx=>(aO (aS (i:=3) sc.nd rfl (Or.inl rfl) (pe_call G_soonest.ok (hr.mono (by decide)) rfl G_soonest.mg G_soonest.kp G_soonest.bd .nil hx (aA (pv 0) (aA (pv 1) (aA (pv 2) aC))))))) rfl mE_TooMany (fun ea=>(aO (aS (i:=3) sc.nd rfl (Or.inl rfl) (bS (aA dI (aA (bD aC) aC)))))))
   (aO (bV (pv 3))))),?_⟩
  refine⟨Nat.zero_le _,fun l1 hl1=>⟨(show 2≤sizeLine by decide),fun p1 hp1=>?_⟩⟩
  have s2:=(aF.new (o:=HO.lst []) hl1).trans (aF.new (o:=HO.tup [.str "many",.ref l1]) hp1)
  generalize upd (upd H l1 (.lst [])) p1 (.tup [.str "many",.ref l1])=H2 at s2 ⊢
  dsimp only [tSeq,tAsg,gName,tC]
  refine⟨?_,?_⟩
  ·refine⟨_,rfl,_,rfl,_,rfl,x,net,v,most,rfl,Is.mono s2.ts _ _ hx,nok,hm,tab.same s2,.inl ⟨v0,v1,fun row fs e p rl H3 s3 qp h1 _ h3=>?_,fun e H3 s3=>⟨(dN.of tab s2).trans s3,rfl⟩,fun fs e p fl us H3 s3 qp _ _ _ _ _=>?_⟩⟩
   ·exact⟨_,rfl,kE row fs e p rl H3 ((dN.of tab s2).trans s3) qp h1 h3⟩
   ·exact⟨_,rfl,kO fs e p fl H3 ((dN.of tab s2).trans s3) qp⟩
  ·rintro cls H' ea σ' ⟨sH,rfl⟩ hlen hea
   obtain⟨u0,u1,u2,u3,rfl⟩:∃ u0 u1 u2 u3,σ'=[u0,u1,u2,u3]:=by
    match σ',hlen with
    | [u0,u1,u2,u3],_=>exact⟨_,_,_,_,rfl⟩
   have s1:=aF.new (o:=excO ea (.ref c_TooMany)) hea
   refine⟨hxM,?_⟩
   refine⟨Nat.zero_le _,fun l2 hl2=>⟨(show 2≤sizeLine by decide),fun p2 hp2=>?_⟩⟩
   exact⟨_,rfl,kM p2 l2 _ (sH.step ((s1.trans (aF.new hl2)).trans (aF.new hp2))) (bT.of aB)⟩
end
end Tw
namespace Tw
open PySem L2
theorem tab_but {H H':Hp}{t Pt:Addr}{pos:Pos}{q:Str} (h:dN H Pt pos q) (b:eI t H H') (hm:Mut (H t)):dN H' Pt pos q:=by
 rcases h with h | ⟨c,oc,vs,tk,h1,h2,h3⟩
 ·exact .inl (b _ _ (fun z=>by rw[← z,h] at hm;exact hm) h)
 ·exact .inr ⟨c,oc,vs,tk,b _ _ (fun z=>by rw[← z,h1] at hm;exact hm) h1,b _ _ (fun z=>by rw[← z,h2] at hm;exact hm) h2,h3⟩
theorem SmT.tape {H H':Hp}{Pt t sl:Addr}{pos:Pos}{q:Str} (a:SmT Pt pos q H H') (h:eB H t sl):eB H' t sl:=by
 obtain⟨ns,p,cell,e,f,g⟩:=h
 exact⟨ns,p,cell,a.get e (fun ps z=>by cases z),a.get f (fun ps z=>by cases z),g⟩
noncomputable def RowsP (H:Hp) (x:Option Addr) (ws:List (List Int)) (vs:List V):Prop:=Paired (fun u v=>∃ a,v=.ref a∧some a≠x∧H a=some (.lst (u.map V.int))) ws vs
theorem RowsP.same {H H':Hp}{x:Option Addr}{ws:List (List Int)}{vs:List V} (h:RowsP H x ws vs) (s:aF H H'):RowsP H' x ws vs:=L2.Paired.mapP h fun _ _ ⟨a,e,n,q⟩=>⟨a,e,n,s _ _ q⟩
theorem RowsP.put {H:Hp}{x:Addr}{o:HO}{ws:List (List Int)}{vs:List V} (h:RowsP H (some x) ws vs):RowsP (upd H x o) (some x) ws vs:=L2.Paired.mapP h fun _ _ ⟨a,e,n,q⟩=>⟨a,e,n,by rw[aI (fun z=>n (by rw[z]))];exact q⟩
theorem RowsP.free {H:Hp}{x:Option Addr}{y:Addr}{ws:List (List Int)}{vs:List V} (h:RowsP H x ws vs) (f:H y=none):RowsP H (some y) ws vs:=L2.Paired.mapP h fun _ _ ⟨a,e,_,q⟩=>⟨a,e,(fun z=>by injection z with z;rw[z,f] at q;cases q),q⟩
theorem RowsP.any {H:Hp}{x:Option Addr}{ws:List (List Int)}{vs:List V} (h:RowsP H x ws vs):RowsP H none ws vs:=L2.Paired.mapP h fun _ _ ⟨a,e,_,q⟩=>⟨a,e,(by simp),q⟩
theorem Paired.app {α β:Type}{F:α→β→Prop}{l₁ l₃:List α}{l₂ l₄:List β} (r:Paired F l₁ l₂) (h:Paired F l₃ l₄):Paired F (l₁++l₃) (l₂++l₄):=by
 induction r with
 | nil=>exact h
 | cons h' t ih=>exact .cons h' ih
theorem Paired.getB {α β:Type}{F:α→β→Prop}:∀ {l₁:List α}{l₂:List β},Paired F l₁ l₂→∀ {i:Nat}{b:β},l₂[i]? = some b→∃ a,l₁[i]? = some a∧F a b:=by
 intro l₁ l₂ r
 induction r with
 | nil=>intro i a h;simp at h
 | cons h t ih=>
  intro i a e
  cases i with
  | zero=>cases e;exact⟨_,rfl,h⟩
  | succ i=>exact ih e
noncomputable def FirstP (H:Hp):Option (List Int)→V→Prop
 | none,v=>v=.non
 | some r,v=>∃ a,v=.ref a∧H a=some (.lst (r.map V.int))
theorem FirstP.same {H H':Hp} (s:aF H H'):∀ {o:Option (List Int)}{v:V},FirstP H o v→FirstP H' o v
 | none,_,h=>h
 | some _,_,⟨a,e,q⟩=>⟨a,e,s _ _ q⟩
noncomputable def Fnd (K:PySem.W.Frag) (H:Hp) (net:Net) (v:Int) (most:Nat) (y:V):Prop:=∃ p,y=.ref p∧((∃ row fs rl,soonN net v most=.ends row fs∧bT K H p [.str "tips",.ref rl]∧H rl=some (.lst (row.map V.int))∧row.length≤2000)∨(∃ q,bT K H p [.str "many",.ref q])∨∃ fs q,soonN net v most=.on fs∧bT K H p [.str "never",.ref q])
theorem Fnd.same {K:PySem.W.Frag}{H H':Hp}{net:Net}{v:Int}{most:Nat}{y:V} (h:Fnd K H net v most y) (s:aF H H'):Fnd K H' net v most y:=by
 obtain⟨p,e,h⟩:=h
 refine⟨p,e,?_⟩
 rcases h with ⟨row,fs,rl,h1,h2,h3,h4⟩ | ⟨q,h⟩ | ⟨fs,q,h1,h2⟩
 ·exact .inl ⟨row,fs,rl,h1,s.tup h2,s _ _ h3,h4⟩
 ·exact .inr (.inl ⟨q,s.tup h⟩)
 ·exact .inr (.inr ⟨fs,q,h1,s.tup h2⟩)
section
variable {P:Program}{w:World}{K:PySem.W.Frag}{mg:Str→Option Value}{base:Heap}{C c_TipError c_NoNet c_NoVessel c_TooLong c_TooMany c_TooMuch c_Nothing c_NoText c_NoRow:Addr}
noncomputable def spLawT (K:PySem.W.Frag) (Pt:Addr):Sp:=fun vs H Q _=>∃ (a:Addr) (ns:List Int),vs=[.ref a]∧bZ K H a (ns.map V.int)∧ns.length≤63∧dN H Pt posS quS∧∀ H',Q (.bl true) H'
noncomputable def spT (K:PySem.W.Frag):List (Addr×Addr)→Sp
 | [q]=>spLawT K q.2
 | _=>fun vs _ _ _=>vs.length=1
theorem spT_head (K:PySem.W.Frag):∀ (tabs:List (Addr×Addr)) (H:Hp) (a:Addr) (ns:List Int),ns.length≤63→OnlyT tabs H→bZ K H a (ns.map V.int)→(∀ q∈tabs,H q.2=some (.tbl #[]))→spT K tabs [.ref a] H (fun v _=>v=.bl true) fun _ _ _=>False
 | [],_,_,_,_,_,_,_=>rfl
 | [q],H,a,ns,hl,_,hS,hT=>⟨a,ns,rfl,hS,hl,.inl (hT q (by simp)),fun _=>rfl⟩
 | _::_::_,_,_,_,_,_,_,_=>rfl
theorem sc_law:FnScope ["script","tape","turn","net","vessel","most","many","found","rows","first","k","longer","row","good"] ["script"] (aL (bC 33)):=⟨rfl,rfl,rfl,by decide +kernel,rfl,by decide +kernel,by decide +kernel⟩
theorem ok_law {f f1 f2 f3 f4 Pt:Addr}{fd fd1 fd2 fd3 fd4:FuncData} (F:Fun K "law" "law" (bC 33) f fd) (T:Txt mg)
  (G__law_draw:Callee P w K mg base "_law_draw" ["tape","many"] 1 spDraw f1 fd1)
  (G__law_net:Callee P w K mg base "_law_net" ["tape","most","small"] 4 (spNetM K) f2 fd2)
  (G__law_told:Callee P w K mg base "_law_told" ["net","vessel","most"] 9 (spTold18 K Pt) f3 fd3)
  (G__law_tipping:Callee P w K mg base "_law_tipping" ["net","vessel","row"] 4 (spTip K) f4 fd4):FnOk P w K mg base CX0 10 f fd ["script"] (spLawT K Pt):=by
 refine F.ok sc_law (fun vs H Q E h=>?_) (fun cdv A outer s H vs Q E hr h=>?_)
 ·obtain⟨a,ns,rfl,_⟩:=h;rfl
 ·obtain⟨a,ns,rfl,hS,hlen,tab,k⟩:=h
  have sc:=sc_law
  refine⟨_,(aD (aS (i:=1) sc.nd rfl (Or.inl rfl) (bD (aA (b9 (call_lstK (K:=K) rfl) rfl T.b_list bt_list (aA (pv 0) aC)) (aA aG (aA aG aC)))))
   (aD (dH PassesOwn.never rfl (cD rfl T.b_range (aA aG aC)) (aH (i:=2) sc.nd rfl (Or.inl rfl)) (aD (aS (i:=3) sc.nd rfl (Or.inr rfl) (pcG G__law_net hr (aA (pv 1) (aA aG (aA pe_bl aC)))))
   (aD (aS (i:=4) sc.nd rfl (Or.inr rfl) (pcG G__law_draw hr (aA (pv 1) (aA (bA (bQ (K:=K) rfl) rfl T.b_len PySem.boot_len (aA (aU (aM (K:=K) rfl) (pv 3) aG (fun _ _=>rfl)) aC)) aC))))
   (aD (aS (i:=5) sc.nd rfl (Or.inl rfl) (pcG G__law_draw hr (aA (pv 1) (aA aG aC))))
   (aD (aS (i:=6) sc.nd rfl (Or.inl rfl) (aU (aM (K:=K) rfl) (bD (aA aG (aA aG aC))) (b9 call_int1 rfl T.b_int bt_int (aA (pe_cmpR op_gt (pv 5) aG (bW _)) aC)) (fun _ _=>rfl)))
   (aD (aS (i:=7) sc.nd rfl (Or.inl rfl) (pcG G__law_told hr (aA (pv 3) (aA (pv 4) (aA (pv 5) aC)))))
   (aD (aS (i:=8) sc.nd rfl (Or.inl rfl) (bD (aA (bD aC) aC)))
   (aD (aS (i:=9) sc.nd rfl (Or.inr rfl) pe_non)
   (aD (dH PassesOwn.never rfl (cD rfl T.b_range (aA (pv 6) aC)) (aH (i:=10) sc.nd rfl (Or.inl rfl)) (aD (aS (i:=11) sc.nd rfl (Or.inl rfl) (bD aC))
   (aD (dH PassesOwn.never rfl (pi_listK (K:=K) rfl (pv 8)) (aH (i:=12) sc.nd rfl (Or.inr rfl)) (aO (cY (pe_bmK (K:=K) rfl PySem.F.plainAttrs_list PySem.F.slot_list_extend PySem.F.type_list_extend mt_extend (pv 11) (aA (pe_lc (fun _ _ h=>h) rfl (LcOk.mk (N':=["amount","row"]) (fr:=[none,some 12]) rfl ⟨rfl,trivial⟩ rfl rfl rfl rfl rfl ⟨⟨_,rfl,rfl,rfl,rfl⟩,trivial⟩) (cD rfl T.b_range (aA (aX cU (pv 5) aG) aC)) (fun _ _ _=>(aH (i:=0) (show (["amount","row"]:List Str).Nodup by decide +kernel) rfl (Or.inl rfl) (Or.inr rfl))) (fun _ _ _=>eE) (fun _ _ _=>(aX op_cat (pv 1) (bD (aA (pv 0) aC))))) aC)))))
   (aD (aS (i:=8) sc.nd rfl (Or.inl rfl) (pv 11))
   (aD (ps_set_lc (i:=13) sc.nd rfl rfl (fun _ _ h=>h) rfl (LcOk.mk (N':=["row","first","net","vessel"]) (fr:=[none,some 9,some 3,some 4]) rfl ⟨rfl,rfl,rfl,trivial⟩ rfl rfl rfl rfl rfl ⟨⟨_,rfl,rfl,rfl,rfl⟩,⟨_,rfl,rfl,rfl,rfl⟩,⟨_,rfl,rfl,rfl,rfl⟩,trivial⟩) (pi_listK (K:=K) rfl (pv 8)) (fun _ _ _=>(aH (i:=0) (show (["row","first","net","vessel"]:List Str).Nodup by decide +kernel) rfl (Or.inl rfl) (Or.inr rfl))) (fun _ _ _=>pif_one (PW.pt (pw_and (bR op_isN (pv 1) pe_non (bW _)) (pw_and1 (pt_val (pcG G__law_tipping hr (aA (pv 2) (aA (pv 3) (aA (pv 0) aC))))))))) (fun _ _ _=>(pv 0)))
   (aO (dP (bR (op_neL0K (K:=K) rfl hr.units) (pv 13) (bD aC) (bW _)) (aO (aS (i:=9) sc.nd rfl (Or.inr rfl) (aU (aM (K:=K) rfl) (pv 13) aG (fun _ _=>rfl)))) bX)))))))
   (aO (dP (PW.pt (pw_and (bR op_notN (pv 9) pe_non (bW _)) (pw_and1 (bR op_ne (aU (aM (K:=K) rfl) (pv 7) aG (fun _ _=>rfl)) dI (bW _))))) (aO (dP (bR (op_neGK (K:=K) rfl hr.units) (pv 7) (bS (aA dI (aA (pv 9) aC))) (bW _)) (aO (bV pe_bl)) bX)) (aO (dP (PW.pt (pw_and (bR op_eq (aU (aM (K:=K) rfl) (pv 7) aG (fun _ _=>rfl)) dI (bW _)) (pw_and1 (bR op_le (bA (bQ (K:=K) rfl) rfl T.b_len PySem.boot_len (aA (aU (aM (K:=K) rfl) (pv 7) aG (fun _ _=>rfl)) aC)) (pv 6) (bW _))))) (aO (bV pe_bl)) bX)))))))))))))
   (aO (bV pe_bl)))),?_⟩
  refine⟨_,rfl,a,_,rfl,.inl hS,fun sl hsl=>⟨(show 3≤sizeLine by decide),fun t ht=>?_⟩⟩
  have nst:sl≠t:=aJ (show upd H sl (.lst (ns.map V.int)) sl=_ from aB) ht
  have tp0:eB (upd (upd H sl (.lst (ns.map V.int))) t (.lst [.ref sl,.int 0,.int 0])) t sl:=⟨ns,0,0,aB,by rw[aI nst];exact aB,by omega⟩
  have tab0:=tab.same ((aF.new (o:=HO.lst (ns.map V.int)) hsl).trans (aF.new (o:=HO.lst [.ref sl,.int 0,.int 0]) ht))
  generalize upd (upd H sl (.lst (ns.map V.int))) t (.lst [.ref sl,.int 0,.int 0])=H0 at tp0 tab0
  refine⟨3,rfl,by decide,by decide,?_⟩
  refine dZ (lo:=0) (n:=3) (fun i σ' H'=>eB H' t sl∧dN H' Pt posS quS∧∃ v2 v3 v4 v5 v6 v7 v8 v9 v10 v11 v12 v13,σ'=[some (.ref a),some (.ref t),v2,v3,v4,v5,v6,v7,v8,v9,v10,v11,v12,v13]) ⟨tp0,tab0,_,_,_,_,_,_,_,_,_,_,_,_,rfl⟩ ?_ ?_
  rotate_left
  ·rintro σ' H' _
   exact k _
  rintro turn σ' H1 _ ⟨tp1,tab1,v2,v3,v4,v5,v6,v7,v8,v9,v10,v11,v12,v13,rfl⟩
  dsimp only [gName,tNext]
  refine⟨_,rfl,t,sl,4,true,rfl,by decide,by decide,tp1,fun net x H2 e2 nok fu2 l2 hx=>?_⟩
  obtain⟨na,nb,nc,xs,ys,rfl,q,q1,l1,q2,ll2⟩:=net_un hx
  have exl:xs.length=net.vs.length:=by rw[l1.length,List.length_map]
  have nlo:=nok.lo
  have nhi:=nok.hi
  refine⟨_,rfl,_,rfl,.inr (.inl ⟨na,_,0,_,rfl,rfl,q,rfl,nb,xs,rfl,.inr q1,t,sl,_,rfl,e2.tp,by omega,by omega,fun v H3 b3 t3 hv0 hv1=>?_⟩)⟩
  refine⟨_,rfl,t,sl,4,rfl,t3,by decide,by decide,fun m' H4 b4 t4 m0 m1=>?_⟩
  obtain⟨most,rfl⟩:=Int.eq_ofNat_of_zero_le m0
  have hx4:=Is.mono ((b3.ts (K:=K) e2.tp.mut).trans (b4.ts t3.mut)) _ _ hx
  have tab4:=tab_but (tab_but (tab_but tab1 e2.bt tp1.mut) b3 e2.tp.mut) b4 t3.mut
  obtain⟨many,hmany,hpw⟩:∃ many:Nat,atI [V.int 5,.int 4] (if decide ((1:Int) < most)=true then 1 else 0)=some (.int (many:Int))∧(∀ j≤many,(most+1) ^ j≤300):=by
   rcases (show most=0∨most=1∨most=2∨most=3 by omega) with rfl | rfl | rfl | rfl
   ·exact⟨5,rfl,fun j hj=>by rw[Nat.one_pow];decide⟩
   ·refine⟨5,rfl,fun j hj=>Nat.le_trans (Nat.pow_le_pow_right (by decide) hj) (by decide)⟩
   ·refine⟨4,rfl,fun j hj=>Nat.le_trans (Nat.pow_le_pow_right (by decide) hj) (by decide)⟩
   ·refine⟨4,rfl,fun j hj=>Nat.le_trans (Nat.pow_le_pow_right (by decide) hj) (by decide)⟩
  have hmn:many≤1000:=by
   rcases (show most=0∨most=1∨most=2∨most=3 by omega) with rfl | rfl | rfl | rfl <;> (cases hmany;decide)
  refine⟨(show 2≤sizeLine by decide),fun lm hlm=>⟨_,rfl,_,_,rfl,rfl,.inr ⟨_,rfl,.inl ⟨lm,_,_,_,rfl,rfl,bZ.of aB,hmany,?_⟩⟩⟩⟩
  have s5:=aF.new (o:=HO.lst [.int 5,.int 4]) hlm
  have t5:=t4.same s5
  have tab5:=tab4.same s5
  have hx5:=Is.mono s5.ts _ _ hx4
  generalize upd H4 lm (.lst [.int 5,.int 4])=H5 at s5 t5 tab5 hx5 ⊢
  dsimp only
  refine seq_by (fun σ' H'=>eB H' t sl∧dN H' Pt posS quS∧Is K H' (netD net) (.ref na)∧∃ y,Fnd K H' net v most y∧σ'=[some (.ref a),some (.ref t),some (.int (0+(turn:Int))),some (.ref na),some (.int v),some (.int (most:Int)),some (.int (many:Int)),some y,v8,v9,v10,v11,v12,v13]) (fun D' hD=>?_) ?_
  ·refine⟨_,rfl,_,rfl,_,rfl,.ref na,net,v,most,rfl,hx5,nok,by omega,tab5,hv0,by omega,fun row fs e p rl H6 s6 qp h1 h3=>?_,fun p q H6 s6 qp=>?_,fun fs e p q H6 s6 qp=>?_⟩
   ·exact hD _ _ ⟨s6.tape t5,s6.t2,Is.mono s6.ts _ _ hx5,_,⟨p,rfl,.inl ⟨row,fs,rl,e,qp,h1,h3⟩⟩,rfl⟩
   ·exact hD _ _ ⟨s6.tape t5,s6.t2,Is.mono s6.ts _ _ hx5,_,⟨p,rfl,.inr (.inl ⟨q,qp⟩)⟩,rfl⟩
   ·exact hD _ _ ⟨s6.tape t5,s6.t2,Is.mono s6.ts _ _ hx5,_,⟨p,rfl,.inr (.inr ⟨fs,q,e,qp⟩)⟩,rfl⟩
  clear tp1 tab1 hx q q1 l1 q2 ll2 e2 b3 t3 b4 t4 hx4 tab4 s5 t5 tab5 hx5
  rintro σ' H1 ⟨tp1,tab1,hx,y,fy,rfl⟩
  refine⟨Nat.zero_le _,fun r0 hr0=>⟨(show 1≤sizeLine by decide),fun rl0 hrl0=>?_⟩⟩
  have s2:=(aF.new (o:=HO.lst []) hr0).trans (aF.new (o:=HO.lst [.ref r0]) hrl0)
  have g1:upd (upd H1 r0 (.lst [])) rl0 (.lst [.ref r0]) rl0=some (.lst [.ref r0]):=aB
  have g2:upd (upd H1 r0 (.lst [])) rl0 (.lst [.ref r0]) r0=some (.lst []):=aF.new hrl0 _ _ aB
  generalize upd (upd H1 r0 (.lst [])) rl0 (.lst [.ref r0])=H2 at s2 g1 g2 ⊢
  have hT0:dS net v []=false:=rfl
  dsimp only
  refine seq_by (fun σ' H'=>H'=H2∧σ'=[some (.ref a),some (.ref t),some (.int (0+(turn:Int))),some (.ref na),some (.int v),some (.int (most:Int)),some (.int (many:Int)),some y,some (.ref rl0),some .non,v10,v11,v12,v13]) (fun D' hD=>hD _ _ ⟨rfl,rfl⟩) ?_
  rintro σ' H2' ⟨rfl,rfl⟩
  refine seq_by (fun σ' H'=>aF H1 H'∧∃ (rl:Addr) (vs:List V) (fv:V) (u10 u11 u12 u13:Option V),FirstP H' (cG (dS net v) most many) fv∧σ'=[some (.ref a),some (.ref t),some (.int (0+(turn:Int))),some (.ref na),some (.int v),some (.int (most:Int)),some (.int (many:Int)),some y,some (.ref rl),some fv,u10,u11,u12,u13]) (fun D' hD=>?_) ?_
  ·refine⟨_,rfl,_,rfl,by omega,by omega,?_⟩
   rw[Int.toNat_natCast]
   refine dZ (lo:=0) (n:=many) (fun kk σ' H'=>aF H1 H'∧∃ (rl:Addr) (vs:List V) (fv:V) (u10 u11 u12 u13:Option V),H' rl=some (.lst vs)∧RowsP H' none (bH most kk) vs∧FirstP H' (cG (dS net v) most kk) fv∧σ'=[some (.ref a),some (.ref t),some (.int (0+(turn:Int))),some (.ref na),some (.int v),some (.int (most:Int)),some (.int (many:Int)),some y,some (.ref rl),some fv,u10,u11,u12,u13]) ?_ ?_ ?_
   ·exact⟨s2,rl0,[.ref r0],.non,_,_,_,_,g1,.cons ⟨r0,rfl,(by simp),g2⟩ .nil,rfl,rfl⟩
   ·rintro kk σ' H3 hkk ⟨s3,rl,vs,fv,u10,u11,u12,u13,hrl,rp,fp,rfl⟩
    dsimp only [gName]
    have evl:vs.length=(most+1) ^ kk:=by rw[← Paired.length rp,words_len]
    have hvs:vs.length≤300:=by rw[evl];exact hpw kk (by omega)
    refine⟨Nat.zero_le _,fun ll hll=>?_⟩
    have s4:=aF.new (o:=HO.lst []) hll
    have g4:upd H3 ll (.lst []) ll=some (.lst []):=aB
    have fll:H3 ll=none:=hll
    have rp4:=(rp.free fll).same s4
    generalize upd H3 ll (.lst [])=H4 at s4 g4 rp4 ⊢
    have fl1:H1 ll=none:=s3.free fll
    dsimp only
    refine seq_by (fun σ' H'=>aF H3 H'∧∃ (us:List V) (u12 u13:Option V),H' ll=some (.lst us)∧RowsP H' (some ll) (bH most (kk+1)) us∧σ'=[some (.ref a),some (.ref t),some (.int (0+(turn:Int))),some (.ref na),some (.int v),some (.int (most:Int)),some (.int (many:Int)),some y,some (.ref rl),some fv,some (.int (0+(kk:Int))),some (.ref ll),u12,u13]) (fun D2 hD2=>?_) ?_
    ·refine⟨_,rfl,rl,rfl,⟨_,bZ.of (s4 _ _ hrl)⟩,for_list (K:=K) (a:=rl) (xs:=vs) (fun j σ' H'=>aF H3 H'∧RowsP H' (some ll) (bH most kk) vs∧∃ (us:List V) (u12 u13:Option V),H' ll=some (.lst us)∧us.length=j * (most+1)∧RowsP H' (some ll) (((bH most kk).take j).flatMap (moreW most)) us∧σ'=[some (.ref a),some (.ref t),some (.int (0+(turn:Int))),some (.ref na),some (.int v),some (.int (most:Int)),some (.int (many:Int)),some y,some (.ref rl),some fv,some (.int (0+(kk:Int))),some (.ref ll),u12,u13]) ?_ ?_ ?_ ?_⟩
     ·exact⟨s4,rp4,[],_,_,g4,by simp,.nil,rfl⟩
     ·rintro j σ' H' _ ⟨s5,_⟩;exact bZ.of (s5 _ _ hrl)
     ·rintro j yv σ' H5 hyv ⟨s5,rp5,us,w12,w13,hll5,hlen5,rpu,rfl⟩
      obtain⟨u,hu,ra,rfl,nra,hra⟩:=Paired.getB rp5 hyv
      have hj:=(List.getElem?_eq_some_iff.mp hyv).1
      have hulen:=((words_in kk u).1 (List.mem_of_getElem? hu)).2
      refine⟨_,rfl,.inl ⟨rfl,_,bZ.of hll5⟩,_,rfl,_,_,rfl,rfl,_,rfl,by omega,by omega,?_⟩
      rw[show ((most:Int)+1).toNat=most+1 by omega]
      refine lc_range (n:=most+1) (fun D i r σ' H'=>H5 D=none∧aF H5 H'∧H' D=some (.lst r)∧r.length=i∧Paired (fun u v=>∃ a,v=.ref a∧H5 a=none∧a≠D∧H' a=some (.lst (u.map V.int))) ((List.range i).map fun (a:Nat)=>u++[(a:Int)]) r∧∃ u0,σ'=[u0,some (.ref ra)])
       (fun D hD=>⟨hD,aF.new hD,aB,rfl,.nil,none,rfl⟩) ?_ ?_
      rotate_left
      ·rintro D i r σ' H6 hi ⟨hD,s6,hDl,hri,pr,u0,rfl⟩
       refine name_yes ?_
       refine⟨_,rfl,_,rfl,(show 1≤sizeLine by decide),fun la hla=>⟨ra,la,u.map V.int,[.int i],rfl,rfl,aF.new hla _ _ (s6 _ _ hra),aB,by rw[List.length_map,hulen,sizeLine_eq];show kk+1≤_;omega,fun rn hrn=>?_⟩⟩
       have s7:=(aF.new (o:=HO.lst [.int i]) hla).trans (aF.new (o:=HO.lst (u.map V.int++[.int i])) hrn)
       have g7:upd (upd H6 la (.lst [.int i])) rn (.lst (u.map V.int++[.int i])) rn=some (.lst ((u++[(i:Int)]).map V.int)):=by rw[aB,List.map_append];rfl
       have f6:H6 rn=none:=(aF.new hla).free hrn
       have nrD:rn≠D:=fun z=>by rw[z,hDl] at f6;cases f6
       have f5:H5 rn=none:=s6.free f6
       generalize upd (upd H6 la (.lst [.int i])) rn (.lst (u.map V.int++[.int i]))=H7 at s7 g7 ⊢
       refine⟨s7 _ _ hDl,small1M' (by omega),hD,(s6.trans s7).put hD,aB,by rw[List.length_append,List.length_singleton,hri],?_,_,rfl⟩
       rw[List.range_succ,List.map_append]
       refine Paired.snoc (L2.Paired.mapP pr fun _ _ ⟨b,e1,e2,e3,e4⟩=>⟨b,e1,e2,e3,by rw[aI e3];exact s7 _ _ e4⟩) ⟨rn,rfl,f5,nrD,by rw[aI nrD];exact g7⟩
      rintro D r σ' H6 ⟨hD,s6,hDl,hri,pr,_⟩
      have hll6:=s6 _ _ hll5
      have nDl:D≠ll:=fun z=>by rw[z,hll5] at hD;cases hD
      refine⟨ll,D,us,r,rfl,rfl,hll6,hDl,?_,?_⟩
      ·rw[sizeLine_eq,hlen5,hri]
       have h1:j * (most+1)≤300 * (most+1):=Nat.mul_le_mul_right _ (by omega)
       have h2:300 * (most+1)≤300 * 4:=Nat.mul_le_mul_left _ (by omega)
       omega
      ·refine⟨(s5.trans s6).put fll,(rp5.same s6).put,us++r,_,_,aB,by rw[List.length_append,hlen5,hri,Nat.add_mul,Nat.one_mul],?_,rfl⟩
       rw[show (bH most kk).take (j+1)=(bH most kk).take j++[u] by rw[List.take_succ,hu];rfl,List.flatMap_append]
       refine Paired.app ((rpu.same s6).put) ?_
       rw[List.flatMap_cons,List.flatMap_nil,List.append_nil]
       refine L2.Paired.mapP pr fun _ _ ⟨b,e1,e2,e3,e4⟩=>?_
       have nb:b≠ll:=fun z=>by rw[z,hll5] at e2;cases e2
       exact⟨b,e1,(fun z=>by injection z with z;exact nb z),by rw[aI nb];exact e4⟩
     ·rintro σ' H5 ⟨s5,rp5,us,w12,w13,hll5,hlen5,rpu,rfl⟩
      rw[← Paired.length rp5,List.take_length] at rpu
      exact hD2 _ _ ⟨s5,us,_,_,hll5,rpu,rfl⟩
    rintro σ' H5 ⟨s5,us,w12,w13,hll5,rpu,rfl⟩
    have fp5:=fp.same s5
    have hx5:=Is.mono (s3.trans s5).ts _ _ hx
    have eul:us.length=(bH most (kk+1)).length:=(Paired.length rpu).symm
    have hus:us.length≤300:=by rw[eul,words_len];exact hpw (kk+1) (by omega)
    refine seq_by (fun σ' H'=>H'=H5∧σ'=[some (.ref a),some (.ref t),some (.int (0+(turn:Int))),some (.ref na),some (.int v),some (.int (most:Int)),some (.int (many:Int)),some y,some (.ref ll),some fv,some (.int (0+(kk:Int))),some (.ref ll),w12,w13]) (fun D' hD=>⟨_,rfl,hD _ _ ⟨rfl,rfl⟩⟩) ?_
    rintro σ' H5' ⟨rfl,rfl⟩
    refine⟨_,rfl,ll,rfl,⟨_,bZ.of hll5⟩,lc_list (K:=K) (a:=ll) (xs:=us) (fun D i r σ' H'=>H5' D=none∧aF H5' H'∧H' D=some (.lst r)∧r.length≤i∧Paired (fun u v=>∃ a,v=.ref a∧a≠D∧H' a=some (.lst (u.map V.int))) (((bH most (kk+1)).take i).filter fun u=>(cG (dS net v) most kk).isNone && dS net v u) r∧∃ u0,σ'=[u0,some fv,some (.ref na),some (.int v)])
     (fun D i r σ' H' p=>bZ.of (p.2.1 _ _ hll5)) (fun D hD=>⟨hD,aF.new hD,aB,Nat.zero_le _,.nil,none,rfl⟩) ?_ ?_⟩
    rotate_left
    ·rintro D i yv r σ' H6 hyv ⟨hD,s6,hDl,hri,pr,u0,rfl⟩
     obtain⟨u,hu,ra,rfl,nra,hra⟩:=Paired.getB rpu hyv
     have hil:=(List.getElem?_eq_some_iff.mp hyv).1
     have naD:ra≠D:=fun z=>by rw[z,hD] at hra;cases hra
     have et:(bH most (kk+1)).take (i+1)=(bH most (kk+1)).take i++[u]:=by rw[List.take_succ,hu];rfl
     have keep:∀ H7,aF H6 H7→((cG (dS net v) most kk).isNone && dS net v u)=false→(H5' D=none∧aF H5' H7∧H7 D=some (.lst r)∧r.length≤i+1∧Paired (fun u v=>∃ a,v=.ref a∧a≠D∧H7 a=some (.lst (u.map V.int))) (((bH most (kk+1)).take (i+1)).filter fun u=>(cG (dS net v) most kk).isNone && dS net v u) r∧∃ u0,[some (V.ref ra),some fv,some (.ref na),some (.int v)]=[u0,some fv,some (.ref na),some (.int v)]):=fun H7 s7 hc=>by
      refine⟨hD,s6.trans s7,s7 _ _ hDl,by omega,?_,_,rfl⟩
      rw[et,List.filter_append,List.filter_cons_of_neg (by rw[hc];decide),List.filter_nil,List.append_nil]
      exact L2.Paired.mapP pr fun _ _ ⟨b,e1,e2,e3⟩=>⟨b,e1,e2,s7 _ _ e3⟩
     dsimp only [gName]
     cases hfk:cG (dS net v) most kk with
     | some r1=>
      rw[hfk] at fp5
      obtain⟨fa,rfl,_⟩:=fp5
      refine⟨_,rfl,rfl,_,rfl,iteF (iteF ?_)⟩
      rw[← hfk]
      exact keep _ (aF.refl _) (by rw[hfk];rfl)
     | none=>
      rw[hfk] at fp5
      have fp5:fv=.non:=fp5
      subst fp5
      refine⟨_,rfl,rfl,_,rfl,iteT ?_⟩
      refine⟨_,rfl,_,rfl,_,rfl,.ref na,net,v,ra,u,rfl,Is.mono s6.ts _ _ hx5,nok,s6 _ _ hra,fun H7 s7=>⟨_,rfl,?_⟩⟩
      rw[← hfk]
      cases hT:dS net v u with
      | false=>exact iteF (keep _ s7 (by rw[hT,Bool.and_false]))
      | true=>
       refine iteT ⟨_,rfl,s7 _ _ hDl,small1M' (by omega),hD,(s6.trans s7).put hD,aB,by rw[List.length_append,List.length_singleton];omega,?_,_,rfl⟩
       rw[et,List.filter_append,List.filter_cons_of_pos (by rw[hfk,hT];rfl),List.filter_nil]
       exact Paired.snoc (L2.Paired.mapP pr fun _ _ ⟨b,e1,e2,e3⟩=>⟨b,e1,e2,by rw[aI e2];exact s7 _ _ e3⟩) ⟨ra,rfl,naD,by rw[aI naD];exact s7 _ _ (s6 _ _ hra)⟩
    rintro D r σ' H6 ⟨hD,s6,hDl,hri,pr,_⟩
    rw[eul,List.take_length] at pr
    refine⟨_,rfl,Nat.zero_le _,fun e he=>⟨D,e,r,rfl,rfl,bZ.of (aF.new he _ _ hDl),bZ.of aB,_,rfl,?_⟩⟩
    have s7:=aF.new (o:=HO.lst []) he
    have s37:=(s5.trans s6).trans s7
    have hrows:RowsP (upd H6 e (.lst [])) none (bH most (kk+1)) us:=(rpu.any.same s6).same s7
    have hll7:=s7 _ _ (s6 _ _ hll5)
    cases r with
    | nil=>
     refine iteF ⟨s3.trans s37,ll,us,fv,_,_,_,_,hll7,hrows,?_,rfl⟩
     have:cG (dS net v) most (kk+1)=cG (dS net v) most kk:=by
      rw[cG]
      cases hfk:cG (dS net v) most kk with
      | some r1=>rfl
      | none=>
       rw[hfk] at pr
       have hl:=Paired.length pr
       have hz:(bH most (kk+1)).filter (dS net v)=[]:=by
        have:((bH most (kk+1)).filter fun u=>(none:Option (List Int)).isNone && dS net v u)=(bH most (kk+1)).filter (dS net v):=by congr 1
        rw[← this];exact List.length_eq_zero_iff.mp hl
       show ((bH most (kk+1)).filter (dS net v)).head? = none
       rw[hz];rfl
     rw[this]
     exact (fp5.same s6).same s7
    | cons z r=>
     refine iteT ⟨_,rfl,.inl ⟨D,z::r,0,z,rfl,rfl,bZ.of (s7 _ _ hDl),cL (j:=0) rfl,s3.trans s37,ll,us,z,_,_,_,_,hll7,hrows,?_,rfl⟩⟩
     obtain⟨u,hu,fa,rfl,nfa,hfa⟩:=Paired.getB pr (i:=0) rfl
     have hm:=List.mem_of_getElem? hu
     rw[List.mem_filter] at hm
     have hfk:cG (dS net v) most kk=none:=by
      cases hfk:cG (dS net v) most kk with
      | none=>rfl
      | some r1=>rw[hfk] at hm;exact absurd hm.2 (show ¬ ((false && dS net v u)=true) by rw[Bool.false_and];decide)
     have:cG (dS net v) most (kk+1)=some u:=by
      rw[cG,hfk]
      show ((bH most (kk+1)).filter (dS net v)).head? = some u
      rw[hfk] at hu
      have h2:((bH most (kk+1)).filter fun u=>(none:Option (List Int)).isNone && dS net v u)=(bH most (kk+1)).filter (dS net v):=by congr 1
      rw[h2] at hu
      rw[List.head?_eq_getElem?];exact hu
     rw[this]
     exact⟨fa,rfl,s7 _ _ hfa⟩
   ·rintro σ' H3 ⟨s3,rl,vs,fv,u10,u11,u12,u13,hrl,rp,fp,rfl⟩
    exact hD _ _ ⟨s3,rl,vs,fv,_,_,_,_,fp,rfl⟩
  rintro σ' H3 ⟨s3,rl,vs,fv,u10,u11,u12,u13,fp,rfl⟩
  have fy3:=fy.same s3
  have tp3:=tp1.same s3
  have tab3:=tab1.same s3
  obtain⟨p,rfl,fy3⟩:=fy3
  have hinj:=staD_inj
  cases hfk:cG (dS net v) most many with
  | none=>
   rw[hfk] at fp
   have fp:fv=.non:=fp
   subst fp
   refine⟨_,rfl,rfl,_,rfl,iteF (iteF ?_)⟩
   rcases fy3 with ⟨row,fs,rl',e,qp,hrl',hlr⟩ | ⟨q,qp⟩ | ⟨fs,q,e,qp⟩
   ·refine⟨_,rfl,.inr (.inl ⟨p,_,0,_,rfl,rfl,qp,rfl,rfl,_,rfl,iteT ?_⟩)⟩
    refine⟨_,rfl,.inr (.inl ⟨p,_,1,_,rfl,rfl,qp,rfl,rl',_,rfl,.inl (bZ.of hrl'),_,rfl,_,_,rfl,rfl,_,rfl,ite2 (fun hT=>?_) fun _=>⟨tp3,tab3,_,_,_,_,_,_,_,_,_,_,_,_,rfl⟩⟩)⟩
    exfalso
    have hle:((row.map V.int).length:Int)≤many:=by simpa using hT
    rw[List.length_map] at hle
    obtain⟨g1,g2,_⟩:=bfs_first hinj e
    have:=firstK_none (T:=dS net v) rfl many hfk row g2 (by omega)
    rw[show dS net v row=true from g1] at this;cases this
   ·refine⟨_,rfl,.inr (.inl ⟨p,_,0,_,rfl,rfl,qp,rfl,rfl,_,rfl,iteF (iteF ?_)⟩)⟩
    exact⟨tp3,tab3,_,_,_,_,_,_,_,_,_,_,_,_,rfl⟩
   ·refine⟨_,rfl,.inr (.inl ⟨p,_,0,_,rfl,rfl,qp,rfl,rfl,_,rfl,iteF (iteF ?_)⟩)⟩
    exact⟨tp3,tab3,_,_,_,_,_,_,_,_,_,_,_,_,rfl⟩
  | some r=>
   rw[hfk] at fp
   obtain⟨fa,rfl,hfa⟩:=fp
   obtain⟨f1,f2,f3,f4⟩:=firstK_some (T:=dS net v) rfl many r hfk
   refine⟨_,rfl,rfl,_,rfl,iteT ?_⟩
   rcases fy3 with ⟨row,fs,rl',e,qp,hrl',hlr⟩ | ⟨q,qp⟩ | ⟨fs,q,e,qp⟩
   ·refine⟨_,rfl,.inr (.inl ⟨p,_,0,_,rfl,rfl,qp,rfl,rfl,_,rfl,iteT ?_⟩)⟩
    obtain⟨g1,g2,g3⟩:=bfs_first hinj e
    have er:row=r:=by
     rcases sLt_tot row r with c | c | c
     ·have:=f4 row g2 c
      rw[show dS net v row=true from g1] at this;cases this
     ·exact c
     ·have:=g3 r f2 c
      rw[show tipR (fun s a=>Sta.nxA net s a) (tipA net v) (sta0 net) false r=true from f1] at this;cases this
    subst er
    refine⟨_,rfl,_,rfl,(show 2≤sizeLine by decide),fun e2 he2=>?_⟩
    have s4:=aF.new (o:=HO.tup [.str "tips",.ref fa]) he2
    refine⟨.tup [.str "tips",.lst (row.map G.int)],.tup [.str "tips",.lst (row.map G.int)],by simp [depG,depGL,depGL_ints],aV.t (s4.tup qp) (.cons (aV.s _) (.cons (aV.l (bZ.of (s4 _ _ hrl')) (dC.ints _)) .nil)),aV.t (bT.of aB) (.cons (aV.s _) (.cons (aV.l (bZ.of (s4 _ _ hfa)) (dC.ints _)) .nil)),_,rfl,?_⟩
    rw[eqG_refl]
    refine iteF ?_
    exact⟨tp3.same s4,tab3.same s4,_,_,_,_,_,_,_,_,_,_,_,_,rfl⟩
   ·refine⟨_,rfl,.inr (.inl ⟨p,_,0,_,rfl,rfl,qp,rfl,rfl,_,rfl,iteF ?_⟩)⟩
    refine⟨_,rfl,.inr (.inl ⟨p,_,0,_,rfl,rfl,qp,rfl,rfl,_,rfl,iteF (iteF ?_)⟩)⟩
    exact⟨tp3,tab3,_,_,_,_,_,_,_,_,_,_,_,_,rfl⟩
   ·exfalso
    have:=shut_none hinj (bfs_shut (by decide) e) r f2
    rw[show tipR (fun s a=>Sta.nxA net s a) (tipA net v) (sta0 net) false r=true from f1] at this;cases this
end
end Tw
namespace Tw
open PySem L2
theorem by_len1 {α:Type}{p:List α→Prop} (h:∀ a0,p [a0]):∀ us:List α,us.length=1→p us
 | [a0],_=>h a0
theorem by_len2 {α:Type}{p:List α→Prop} (h:∀ a0 a1,p [a0,a1]):∀ us:List α,us.length=2→p us
 | [a0,a1],_=>h a0 a1
theorem dO {α:Type}{p:List α→Prop} (h:∀ a0 a1 a2,p [a0,a1,a2]):∀ us:List α,us.length=3→p us
 | [a0,a1,a2],_=>h a0 a1 a2
theorem by_len4 {α:Type}{p:List α→Prop} (h:∀ a0 a1 a2 a3,p [a0,a1,a2,a3]):∀ us:List α,us.length=4→p us
 | [a0,a1,a2,a3],_=>h a0 a1 a2 a3
theorem by_len5 {α:Type}{p:List α→Prop} (h:∀ a0 a1 a2 a3 a4,p [a0,a1,a2,a3,a4]):∀ us:List α,us.length=5→p us
 | [a0,a1,a2,a3,a4],_=>h a0 a1 a2 a3 a4
theorem all_mk {l:PySem.W.OpenLaw}{w:World}{K:PySem.W.Frag}{h:Heap}{mg:Str→Option Value}{fa f0 f1 f2 f3 f4 f5 f6 f7 f8 f9 f10 f11 f12 f13 f14 f15 f16 f17 f18 f19 f20 f21 f22 f23 c_TipError c_NoVessel c_TooMany:Addr} (X:K.In h) (G:h.Ns mainGlobals mg) (hfa:mg "law" = some (.ref fa))
  {od0 an0 od1 an1 od2 an2 od3 an3 od4 an4 od5 an5 od6 an6 od7 an7 od8 an8 od9 an9 od10 an10 od11 an11 od12 an12 od13 an13 od14 an14 od15 an15 od16 an16 od17 an17 od18 an18 od19 an19 od20 an20 od21 an21 od22 an22 od23 an23:Option Addr}{sl0 sl1 sl2 sl3 sl4 sl5 sl6 sl7 sl8 sl9 sl10 sl11 sl12 sl13 sl14 sl15 sl16 sl17 sl18 sl19 sl20 sl21 sl22 sl23:Array (Option Value)}{oc0 kV0 dc0 pm0 ct0 cd0 oc1 kV1 dc1 pm1 ct1 cd1 oc2 kV2 dc2 pm2 ct2 cd2 oc3 kV3 dc3 pm3 ct3 cd3 oc4 kV4 dc4 pm4 ct4 cd4 oc5 kV5 dc5 pm5 ct5 cd5 oc6 kV6 dc6 pm6 ct6 cd6 oc7 kV7 dc7 pm7 ct7 cd7 oc8 kV8 dc8 pm8 ct8 cd8 oc9 kV9 dc9 pm9 ct9 cd9 oc10 kV10 dc10 pm10 ct10 cd10 oc11 kV11 dc11 pm11 ct11 cd11 oc12 kV12 dc12 pm12 ct12 cd12 oc13 kV13 dc13 pm13 ct13 cd13 oc14 kV14 dc14 pm14 ct14 cd14 oc15 kV15 dc15 pm15 ct15 cd15 oc16 kV16 dc16 pm16 ct16 oc17 kV17 dc17 pm17 ct17 cd17 oc18 kV18 dc18 pm18 ct18 cd18 oc19 kV19 dc19 pm19 ct19 cd19 oc20 kV20 dc20 pm20 ct20 cd20 oc21 kV21 dc21 pm21 ct21 cd21 oc22 kV22 dc22 pm22 ct22 cd22 oc23 kV23 dc23 pm23 ct23 cd23:Value}
  {tkM:Tok}
  {ts:List Addr}
  {q16 p16:Addr}{yd16:Option Addr}{yv16:Array Value}{ys16:Array (Option Value)}
  (a0:PySem.W.nsIn K mainGlobals "_law_draw" = some (some (.ref f0)))
  (l0:K.lookup f0=some ⟨oc0,od0,.func (PySem.W.fnOf "_law_draw" "_law_draw" (bF (bC 23)) (b0 (bC 23)) (aL (bC 23)) .none kV0 dc0 pm0 an0 cd0 ct0),sl0⟩)
  (c0:PySem.W.codeIn K cd0 "_law_draw" = true)
  (k0:PySem.W.keepIn K (.ref f0)=true)
  (a1:PySem.W.nsIn K mainGlobals "_law_outs" = some (some (.ref f1)))
  (l1:K.lookup f1=some ⟨oc1,od1,.func (PySem.W.fnOf "_law_outs" "_law_outs" (bF (bC 24)) (b0 (bC 24)) (aL (bC 24)) .none kV1 dc1 pm1 an1 cd1 ct1),sl1⟩)
  (c1:PySem.W.codeIn K cd1 "_law_outs" = true)
  (k1:PySem.W.keepIn K (.ref f1)=true)
  (a2:PySem.W.nsIn K mainGlobals "_law_vessel" = some (some (.ref f2)))
  (l2:K.lookup f2=some ⟨oc2,od2,.func (PySem.W.fnOf "_law_vessel" "_law_vessel" (bF (bC 25)) (b0 (bC 25)) (aL (bC 25)) .none kV2 dc2 pm2 an2 cd2 ct2),sl2⟩)
  (c2:PySem.W.codeIn K cd2 "_law_vessel" = true)
  (k2:PySem.W.keepIn K (.ref f2)=true)
  (a3:PySem.W.nsIn K mainGlobals "_law_net" = some (some (.ref f3)))
  (l3:K.lookup f3=some ⟨oc3,od3,.func (PySem.W.fnOf "_law_net" "_law_net" (bF (bC 26)) (b0 (bC 26)) (aL (bC 26)) .none kV3 dc3 pm3 an3 cd3 ct3),sl3⟩)
  (c3:PySem.W.codeIn K cd3 "_law_net" = true)
  (k3:PySem.W.keepIn K (.ref f3)=true)
  (a4:PySem.W.nsIn K mainGlobals "is_whole" = some (some (.ref f4)))
  (l4:K.lookup f4=some ⟨oc4,od4,.func (PySem.W.fnOf "is_whole" "is_whole" (bF (bC 6)) (b0 (bC 6)) (aL (bC 6)) .none kV4 dc4 pm4 an4 cd4 ct4),sl4⟩)
  (c4:PySem.W.codeIn K cd4 "is_whole" = true)
  (k4:PySem.W.keepIn K (.ref f4)=true)
  (a5:PySem.W.nsIn K mainGlobals "need_vessel" = some (some (.ref f5)))
  (l5:K.lookup f5=some ⟨oc5,od5,.func (PySem.W.fnOf "need_vessel" "need_vessel" (bF (bC 5)) (b0 (bC 5)) (aL (bC 5)) .none kV5 dc5 pm5 an5 cd5 ct5),sl5⟩)
  (c5:PySem.W.codeIn K cd5 "need_vessel" = true)
  (k5:PySem.W.keepIn K (.ref f5)=true)
  (a6:PySem.W.nsIn K mainGlobals "first_state" = some (some (.ref f6)))
  (l6:K.lookup f6=some ⟨oc6,od6,.func (PySem.W.fnOf "first_state" "first_state" (bF (bC 8)) (b0 (bC 8)) (aL (bC 8)) .none kV6 dc6 pm6 an6 cd6 ct6),sl6⟩)
  (c6:PySem.W.codeIn K cd6 "first_state" = true)
  (k6:PySem.W.keepIn K (.ref f6)=true)
  (a7:PySem.W.nsIn K mainGlobals "pouring" = some (some (.ref f7)))
  (l7:K.lookup f7=some ⟨oc7,od7,.func (PySem.W.fnOf "pouring" "pouring" (bF (bC 9)) (b0 (bC 9)) (aL (bC 9)) .none kV7 dc7 pm7 an7 cd7 ct7),sl7⟩)
  (c7:PySem.W.codeIn K cd7 "pouring" = true)
  (k7:PySem.W.keepIn K (.ref f7)=true)
  (a8:PySem.W.nsIn K mainGlobals "filled" = some (some (.ref f8)))
  (l8:K.lookup f8=some ⟨oc8,od8,.func (PySem.W.fnOf "filled" "filled" (bF (bC 11)) (b0 (bC 11)) (aL (bC 11)) .none kV8 dc8 pm8 an8 cd8 ct8),sl8⟩)
  (c8:PySem.W.codeIn K cd8 "filled" = true)
  (k8:PySem.W.keepIn K (.ref f8)=true)
  (a9:PySem.W.nsIn K mainGlobals "send" = some (some (.ref f9)))
  (l9:K.lookup f9=some ⟨oc9,od9,.func (PySem.W.fnOf "send" "send" (bF (bC 14)) (b0 (bC 14)) (aL (bC 14)) .none kV9 dc9 pm9 an9 cd9 ct9),sl9⟩)
  (c9:PySem.W.codeIn K cd9 "send" = true)
  (k9:PySem.W.keepIn K (.ref f9)=true)
  (a10:PySem.W.nsIn K mainGlobals "share_out" = some (some (.ref f10)))
  (l10:K.lookup f10=some ⟨oc10,od10,.func (PySem.W.fnOf "share_out" "share_out" (bF (bC 13)) (b0 (bC 13)) (aL (bC 13)) .none kV10 dc10 pm10 an10 cd10 ct10),sl10⟩)
  (c10:PySem.W.codeIn K cd10 "share_out" = true)
  (k10:PySem.W.keepIn K (.ref f10)=true)
  (a11:PySem.W.nsIn K mainGlobals "settle" = some (some (.ref f11)))
  (l11:K.lookup f11=some ⟨oc11,od11,.func (PySem.W.fnOf "settle" "settle" (bF (bC 12)) (b0 (bC 12)) (aL (bC 12)) .none kV11 dc11 pm11 an11 cd11 ct11),sl11⟩)
  (c11:PySem.W.codeIn K cd11 "settle" = true)
  (k11:PySem.W.keepIn K (.ref f11)=true)
  (a12:PySem.W.nsIn K mainGlobals "doors_behind" = some (some (.ref f12)))
  (l12:K.lookup f12=some ⟨oc12,od12,.func (PySem.W.fnOf "doors_behind" "doors_behind" (bF (bC 15)) (b0 (bC 15)) (aL (bC 15)) .none kV12 dc12 pm12 an12 cd12 ct12),sl12⟩)
  (c12:PySem.W.codeIn K cd12 "doors_behind" = true)
  (k12:PySem.W.keepIn K (.ref f12)=true)
  (a13:PySem.W.nsIn K mainGlobals "tick_behind" = some (some (.ref f13)))
  (l13:K.lookup f13=some ⟨oc13,od13,.func (PySem.W.fnOf "tick_behind" "tick_behind" (bF (bC 10)) (b0 (bC 10)) (aL (bC 10)) .none kV13 dc13 pm13 an13 cd13 ct13),sl13⟩)
  (c13:PySem.W.codeIn K cd13 "tick_behind" = true)
  (k13:PySem.W.keepIn K (.ref f13)=true)
  (a14:PySem.W.nsIn K mainGlobals "watch" = some (some (.ref f14)))
  (l14:K.lookup f14=some ⟨oc14,od14,.func (PySem.W.fnOf "watch" "watch" (bF (bC 17)) (b0 (bC 17)) (aL (bC 17)) .none kV14 dc14 pm14 an14 cd14 ct14),sl14⟩)
  (c14:PySem.W.codeIn K cd14 "watch" = true)
  (k14:PySem.W.keepIn K (.ref f14)=true)
  (a15:PySem.W.nsIn K mainGlobals "go_through" = some (some (.ref f15)))
  (l15:K.lookup f15=some ⟨oc15,od15,.func (PySem.W.fnOf "go_through" "go_through" (bF (bC 18)) (b0 (bC 18)) (aL (bC 18)) .none kV15 dc15 pm15 an15 cd15 ct15),sl15⟩)
  (c15:PySem.W.codeIn K cd15 "go_through" = true)
  (k15:PySem.W.keepIn K (.ref f15)=true)
  (a16:PySem.W.nsIn K mainGlobals "soonest" = some (some (.ref f16)))
  (l16:K.lookup f16=some ⟨oc16,od16,.func (PySem.W.fnOf "soonest" "soonest" (bF (bC 21)) (b0 (bC 21)) (aL (bC 21)) .none kV16 dc16 pm16 an16 (.ref q16) ct16),sl16⟩)
  (c16:PySem.W.codeIn K (.ref q16) "soonest" = true)
  (k16:PySem.W.keepIn K (.ref f16)=true)
  (a17:PySem.W.nsIn K mainGlobals "_law_told" = some (some (.ref f17)))
  (l17:K.lookup f17=some ⟨oc17,od17,.func (PySem.W.fnOf "_law_told" "_law_told" (bF (bC 32)) (b0 (bC 32)) (aL (bC 32)) .none kV17 dc17 pm17 an17 cd17 ct17),sl17⟩)
  (c17:PySem.W.codeIn K cd17 "_law_told" = true)
  (k17:PySem.W.keepIn K (.ref f17)=true)
  (a18:PySem.W.nsIn K mainGlobals "_law_first" = some (some (.ref f18)))
  (l18:K.lookup f18=some ⟨oc18,od18,.func (PySem.W.fnOf "_law_first" "_law_first" (bF (bC 27)) (b0 (bC 27)) (aL (bC 27)) .none kV18 dc18 pm18 an18 cd18 ct18),sl18⟩)
  (c18:PySem.W.codeIn K cd18 "_law_first" = true)
  (k18:PySem.W.keepIn K (.ref f18)=true)
  (a19:PySem.W.nsIn K mainGlobals "_law_filled" = some (some (.ref f19)))
  (l19:K.lookup f19=some ⟨oc19,od19,.func (PySem.W.fnOf "_law_filled" "_law_filled" (bF (bC 28)) (b0 (bC 28)) (aL (bC 28)) .none kV19 dc19 pm19 an19 cd19 ct19),sl19⟩)
  (c19:PySem.W.codeIn K cd19 "_law_filled" = true)
  (k19:PySem.W.keepIn K (.ref f19)=true)
  (a20:PySem.W.nsIn K mainGlobals "_law_tick" = some (some (.ref f20)))
  (l20:K.lookup f20=some ⟨oc20,od20,.func (PySem.W.fnOf "_law_tick" "_law_tick" (bF (bC 29)) (b0 (bC 29)) (aL (bC 29)) .none kV20 dc20 pm20 an20 cd20 ct20),sl20⟩)
  (c20:PySem.W.codeIn K cd20 "_law_tick" = true)
  (k20:PySem.W.keepIn K (.ref f20)=true)
  (a21:PySem.W.nsIn K mainGlobals "_law_step" = some (some (.ref f21)))
  (l21:K.lookup f21=some ⟨oc21,od21,.func (PySem.W.fnOf "_law_step" "_law_step" (bF (bC 30)) (b0 (bC 30)) (aL (bC 30)) .none kV21 dc21 pm21 an21 cd21 ct21),sl21⟩)
  (c21:PySem.W.codeIn K cd21 "_law_step" = true)
  (k21:PySem.W.keepIn K (.ref f21)=true)
  (a22:PySem.W.nsIn K mainGlobals "_law_tipping" = some (some (.ref f22)))
  (l22:K.lookup f22=some ⟨oc22,od22,.func (PySem.W.fnOf "_law_tipping" "_law_tipping" (bF (bC 31)) (b0 (bC 31)) (aL (bC 31)) .none kV22 dc22 pm22 an22 cd22 ct22),sl22⟩)
  (c22:PySem.W.codeIn K cd22 "_law_tipping" = true)
  (k22:PySem.W.keepIn K (.ref f22)=true)
  (a23:PySem.W.nsIn K mainGlobals "law" = some (some (.ref f23)))
  (l23:K.lookup f23=some ⟨oc23,od23,.func (PySem.W.fnOf "law" "law" (bF (bC 33)) (b0 (bC 33)) (aL (bC 33)) .none kV23 dc23 pm23 an23 cd23 ct23),sl23⟩)
  (c23:PySem.W.codeIn K cd23 "law" = true)
  (k23:PySem.W.keepIn K (.ref f23)=true)
  (mcM:PySem.W.nsIn K mainGlobals "MOST_STATES" = some (some (.int 300 tkM)))
  (yl16:K.lookup q16=some ⟨.type "code",yd16,.fields yv16,ys16⟩)
  (xcTipError:PySem.W.nsIn K mainGlobals "TipError" = some (some (.ref c_TipError)))
  (xcNoVessel:PySem.W.nsIn K mainGlobals "NoVessel" = some (some (.ref c_NoVessel)))
  (xcTooMany:PySem.W.nsIn K mainGlobals "TooMany" = some (some (.ref c_TooMany)))
  (z0:PySem.W.nsIn K mainGlobals "len" = some none)
  (z1:PySem.W.nsIn K mainGlobals "sum" = some none)
  (z2:PySem.W.nsIn K mainGlobals "all" = some none)
  (z3:PySem.W.nsIn K mainGlobals "max" = some none)
  (z4:PySem.W.nsIn K mainGlobals "min" = some none)
  (z5:PySem.W.nsIn K mainGlobals "int" = some none)
  (z6:PySem.W.nsIn K mainGlobals "tuple" = some none)
  (z7:PySem.W.nsIn K mainGlobals "list" = some none)
  (z8:PySem.W.nsIn K mainGlobals "bool" = some none)
  (z9:PySem.W.nsIn K mainGlobals "range" = some none)
  (z10:PySem.W.nsIn K mainGlobals "zip" = some none)
  (z11:PySem.W.nsIn K mainGlobals "enumerate" = some none)
  (z12:PySem.W.nsIn K mainGlobals "isinstance" = some none)
  (z13:PySem.W.nsIn K mainGlobals "divmod" = some none)
  (z14:PySem.W.nsIn K mainGlobals "set" = some none)
  (z15:PySem.W.nsIn K mainGlobals "sorted" = some none)
  (yp16:yv16[11]? = some (.ref p16))
  (yn16:K.lookup p16=none)
  (yt16:p16∈ts)
  (yh16:PySem.W.codeHdIn K q16 p16=true)
  (exV:PySem.W.excIn K c_NoVessel [.type "ValueError",.type "Exception",.type "BaseException",.type "object"] "ValueError.__new__" = true)
  (exM:PySem.W.excIn K c_TooMany [.type "ValueError",.type "Exception",.type "BaseException",.type "object"] "ValueError.__new__" = true)
  (hmMxh:PySem.W.exmOne K (.ref c_TooMany) (.ref c_TooMany)=some true) :
  ∃ (fd:FuncData) (tabs:List (Addr×Addr)),(∀ q∈tabs,q.2∈ts∧K.lookup q.2=none∧PySem.W.codeHdIn K q.1 q.2=true)∧(∀ (s:Shared) (v:Value),BindsTo s fd ⟨[v],[]⟩ [("script",v)])∧∀ base:Heap,K.In base→base.Ns mainGlobals mg→(∀ q∈tabs,NestB mg base q.1 q.2)→FnOk l.prog w K mg base CX0 10 fa fd ["script"] (spT K tabs):=by
 have e:=hfa.symm.trans (PySem.W.mg_of X G a23)
 cases e
 have T:Txt mg:=⟨PySem.W.mg_none_of X G z0,PySem.W.mg_none_of X G z1,PySem.W.mg_none_of X G z2,PySem.W.mg_none_of X G z3,PySem.W.mg_none_of X G z4,PySem.W.mg_none_of X G z5,PySem.W.mg_none_of X G z6,PySem.W.mg_none_of X G z7,PySem.W.mg_none_of X G z8,PySem.W.mg_none_of X G z9,PySem.W.mg_none_of X G z10,PySem.W.mg_none_of X G z11,PySem.W.mg_none_of X G z12,PySem.W.mg_none_of X G z13,PySem.W.mg_none_of X G z14,PySem.W.mg_none_of X G z15⟩
 have UM:TxtM mg:=⟨⟨_,PySem.W.mg_of X G mcM,_,rfl⟩⟩
 have XC_NoVessel:ExC K "NoVessel" c_NoVessel:=⟨xcNoVessel,exV⟩
 have XC_TooMany:ExC K "TooMany" c_TooMany:=⟨xcTooMany,exM⟩
 have hxM:=hmMxh
 have mE_TooMany:=PySem.W.mg_of X G xcTooMany
 have F0:=cC (st:=(bC 23)) l0 c0 k0
 have F1:=cC (st:=(bC 24)) l1 c1 k1
 have F2:=cC (st:=(bC 25)) l2 c2 k2
 have F3:=cC (st:=(bC 26)) l3 c3 k3
 have F4:=cC (st:=(bC 6)) l4 c4 k4
 have F5:=cC (st:=(bC 5)) l5 c5 k5
 have F6:=cC (st:=(bC 8)) l6 c6 k6
 have F7:=cC (st:=(bC 9)) l7 c7 k7
 have F8:=cC (st:=(bC 11)) l8 c8 k8
 have F9:=cC (st:=(bC 14)) l9 c9 k9
 have F10:=cC (st:=(bC 13)) l10 c10 k10
 have F11:=cC (st:=(bC 12)) l11 c11 k11
 have F12:=cC (st:=(bC 15)) l12 c12 k12
 have F13:=cC (st:=(bC 10)) l13 c13 k13
 have F14:=cC (st:=(bC 17)) l14 c14 k14
 have F15:=cC (st:=(bC 18)) l15 c15 k15
 have F16:=cC (st:=(bC 21)) l16 c16 k16
 have F17:=cC (st:=(bC 32)) l17 c17 k17
 have F18:=cC (st:=(bC 27)) l18 c18 k18
 have F19:=cC (st:=(bC 28)) l19 c19 k19
 have F20:=cC (st:=(bC 29)) l20 c20 k20
 have F21:=cC (st:=(bC 30)) l21 c21 k21
 have F22:=cC (st:=(bC 31)) l22 c22 k22
 have F23:=cC (st:=(bC 33)) l23 c23 k23
 refine⟨PySem.W.fnOf "law" "law" (bF (bC 33)) (b0 (bC 33)) (aL (bC 33)) .none kV23 dc23 pm23 an23 cd23 ct23,[(q16,p16)],fun q hq=>?_,fun s v=>.of_eq rfl,fun base _ _ hN=>?_⟩
 ·simp only [List.mem_cons,List.not_mem_nil,or_false] at hq
  rcases hq with rfl
  ·exact⟨yt16,yn16,yh16⟩
 have NB_soonest:=hN (q16,p16) (by simp)
 have C0:Callee l.prog w K mg base "_law_draw" ["tape","many"] 1 spDraw f0 _:=⟨ok__law_draw F0 T,PySem.W.mg_of X G a0,k0,F0.binds (ps:=["tape","many"]) fun _ _ _ _ _ _=>by_len2 fun _ _=>rfl⟩
 have C1:Callee l.prog w K mg base "_law_outs" ["tape","many","small"] 2 (spOuts K) f1 _:=⟨ok__law_outs F1 T C0,PySem.W.mg_of X G a1,k1,F1.binds (ps:=["tape","many","small"]) fun _ _ _ _ _ _=>dO fun _ _ _=>rfl⟩
 have C2:Callee l.prog w K mg base "_law_vessel" ["tape","number","many","spouts","small"] 3 (spVessel K) f2 _:=⟨ok__law_vessel F2 T C0 C1,PySem.W.mg_of X G a2,k2,F2.binds (ps:=["tape","number","many","spouts","small"]) fun _ _ _ _ _ _=>by_len5 fun _ _ _ _ _=>rfl⟩
 have C3:Callee l.prog w K mg base "_law_net" ["tape","most","small"] 4 (spNetM K) f3 _:=⟨ok__law_netM F3 T C0 C2,PySem.W.mg_of X G a3,k3,F3.binds (ps:=["tape","most","small"]) fun _ _ _ _ _ _=>dO fun _ _ _=>rfl⟩
 have C4:Callee l.prog w K mg base "is_whole" ["thing","least","most"] 1 spWholeI f4 _:=⟨ok_is_wholeI F4 T,PySem.W.mg_of X G a4,k4,F4.binds (ps:=["thing","least","most"]) fun _ _ _ _ _ _=>dO fun _ _ _=>rfl⟩
 have C5:CalleeR l.prog w K mg base "need_vessel" ["net","number"] 2 (spNeedR K c_NoVessel) f5 _:=⟨ok_need_vesselR F5 T XC_NoVessel C4,PySem.W.mg_of X G a5,k5,F5.binds (ps:=["net","number"]) fun _ _ _ _ _ _=>by_len2 fun _ _=>rfl⟩
 have C6:Callee l.prog w K mg base "first_state" ["net"] 1 (spFirst K) f6 _:=⟨ok_first_state F6 T,PySem.W.mg_of X G a6,k6,F6.binds (ps:=["net"]) fun _ _ _ _ _ _=>by_len1 fun _=>rfl⟩
 have C7:Callee l.prog w K mg base "pouring" ["net","amount"] 1 (spPouring K) f7 _:=⟨ok_pouring F7 T,PySem.W.mg_of X G a7,k7,F7.binds (ps:=["net","amount"]) fun _ _ _ _ _ _=>by_len2 fun _ _=>rfl⟩
 have C8:Callee l.prog w K mg base "filled" ["spouts","state","poured"] 1 (spFilled K) f8 _:=⟨ok_filled F8 T,PySem.W.mg_of X G a8,k8,F8.binds (ps:=["spouts","state","poured"]) fun _ _ _ _ _ _=>dO fun _ _ _=>rfl⟩
 have C9:Callee l.prog w K mg base "send" ["sent","target","amount"] 1 spSend f9 _:=⟨ok_send F9 T,PySem.W.mg_of X G a9,k9,F9.binds (ps:=["sent","target","amount"]) fun _ _ _ _ _ _=>dO fun _ _ _=>rfl⟩
 have C10:Callee l.prog w K mg base "share_out" ["outs","has","sent"] 2 (spShare K) f10 _:=⟨ok_share_out F10 T C9,PySem.W.mg_of X G a10,k10,F10.binds (ps:=["outs","has","sent"]) fun _ _ _ _ _ _=>dO fun _ _ _=>rfl⟩
 have C11:Callee l.prog w K mg base "settle" ["vessel","has","sent"] 3 (spSettle K) f11 _:=⟨ok_settle F11 T C9 C10,PySem.W.mg_of X G a11,k11,F11.binds (ps:=["vessel","has","sent"]) fun _ _ _ _ _ _=>dO fun _ _ _=>rfl⟩
 have C12:Callee l.prog w K mg base "doors_behind" ["vessels","doors","tipped"] 1 (spDoors K) f12 _:=⟨ok_doors_behind F12 T,PySem.W.mg_of X G a12,k12,F12.binds (ps:=["vessels","doors","tipped"]) fun _ _ _ _ _ _=>dO fun _ _ _=>rfl⟩
 have C13:Callee l.prog w K mg base "tick_behind" ["net","state","poured"] 4 (spTickP K) f13 _:=⟨ok_tick_behindP F13 T C8 C11 C12,PySem.W.mg_of X G a13,k13,F13.binds (ps:=["net","state","poured"]) fun _ _ _ _ _ _=>dO fun _ _ _=>rfl⟩
 have C14:Callee l.prog w K mg base "watch" ["net","state","vessel","amount"] 5 (spWatch K) f14 _:=⟨ok_watch F14 T C7 C13,PySem.W.mg_of X G a14,k14,F14.binds (ps:=["net","state","vessel","amount"]) fun _ _ _ _ _ _=>by_len4 fun _ _ _ _=>rfl⟩
 have C15:CalleeS l.prog w K mg base "go_through" ["first","step","most","limit"] 7 (spGoT l.prog w K mg base c_TooMany staD) f15 _:=⟨ok_go_through F15 T XC_TooMany,PySem.W.mg_of X G a15,k15,F15.binds (ps:=["first","step","most","limit"]) fun _ _ _ _ _ _=>by_len4 fun _ _ _ _=>rfl⟩
 have C16:CalleeR l.prog w K mg base "soonest" ["net","vessel","most"] 8 (spSoon K p16 c_NoVessel c_TooMany) f16 _:=⟨ok_soonest F16 T rfl NB_soonest UM C5 C6 C14 C15,PySem.W.mg_of X G a16,k16,F16.binds (ps:=["net","vessel","most"]) fun _ _ _ _ _ _=>dO fun _ _ _=>rfl⟩
 have C17:Callee l.prog w K mg base "_law_told" ["net","vessel","most"] 9 (spTold18 K p16) f17 _:=⟨ok__law_told18 F17 T mE_TooMany hxM C16,PySem.W.mg_of X G a17,k17,F17.binds (ps:=["net","vessel","most"]) fun _ _ _ _ _ _=>dO fun _ _ _=>rfl⟩
 have C18:Callee l.prog w K mg base "_law_first" ["net"] 1 (spFirst K) f18 _:=⟨ok__law_first F18 T,PySem.W.mg_of X G a18,k18,F18.binds (ps:=["net"]) fun _ _ _ _ _ _=>by_len1 fun _=>rfl⟩
 have C19:Callee l.prog w K mg base "_law_filled" ["net","state","poured"] 1 (spFilledL K) f19 _:=⟨ok__law_filled F19 T,PySem.W.mg_of X G a19,k19,F19.binds (ps:=["net","state","poured"]) fun _ _ _ _ _ _=>dO fun _ _ _=>rfl⟩
 have C20:Callee l.prog w K mg base "_law_tick" ["net","state","poured","fast"] 2 (spTickL K) f20 _:=⟨ok__law_tick F20 T C19,PySem.W.mg_of X G a20,k20,F20.binds (ps:=["net","state","poured","fast"]) fun _ _ _ _ _ _=>by_len4 fun _ _ _ _=>rfl⟩
 have C21:Callee l.prog w K mg base "_law_step" ["net","state","amount","watched"] 3 (spStepL K) f21 _:=⟨ok__law_step F21 T C20,PySem.W.mg_of X G a21,k21,F21.binds (ps:=["net","state","amount","watched"]) fun _ _ _ _ _ _=>by_len4 fun _ _ _ _=>rfl⟩
 have C22:Callee l.prog w K mg base "_law_tipping" ["net","vessel","row"] 4 (spTip K) f22 _:=⟨ok__law_tipping F22 T C18 C21,PySem.W.mg_of X G a22,k22,F22.binds (ps:=["net","vessel","row"]) fun _ _ _ _ _ _=>dO fun _ _ _=>rfl⟩
 exact ok_law F23 T C0 C3 C17 C22
theorem walk {l:PySem.W.OpenLaw}{q:Program}{loose:List Str}{XP:(Str→Option Value)→Heap→Prop}{YP:World→Heap→Prop}{d:DefRec}{K:Params→PySem.W.Frag}{ts:List Addr} (hn:l.most=some 63) (hdf:d.params.defaults=[])
  (hY:∀ (w:World) (h:Heap),YP w h→(K w.params).In h) (hYt:∀ (w:World) (h:Heap),YP w h→∀ P∈ts,h.get? P=some (PySem.W.tabObj #[]))
  (F:∀ (w:World) (mg:Str→Option Value) (fa:Addr) (h:Heap),(K w.params).In h→h.Ns mainGlobals mg→mg d.name=some (.ref fa)→
   ∃ (fd:FuncData) (tabs:List (Addr×Addr)),(∀ q∈tabs,q.2∈ts∧(K w.params).lookup q.2=none∧PySem.W.codeHdIn (K w.params) q.1 q.2=true)∧(∀ (s:Shared) (u:Value),BindsTo s fd ⟨[u],[]⟩ [("script",u)])∧∀ base:Heap,(K w.params).In base→base.Ns mainGlobals mg→(∀ q∈tabs,NestB mg base q.1 q.2)→FnOk l.prog w (K w.params) mg base CX0 10 fa fd ["script"] (spT (K w.params) tabs)) :
  PySem.W.WalkO q loose XP YP l.row.toRowW d [] (fun f vs=>PySem.call f vs):=
 L2.walk_ofT (n:=63) (k:=10) (x := "script") (sp:=spT) hn (by decide) hdf ⟨rfl,by decide,by decide⟩ hY hYt F spT_head
end Tw
noncomputable def PySem.W.Fast.tw16495322221452105535:Nat:=0
theorem PySem.W.Fast.te16495322221452105535:PySem.W.Fast.tw16495322221452105535=PySem.W.Fast.tw16495322221452105535:=rfl
noncomputable def PySem.W.Fast.tw17425948515006839292:PySem.Program:=PySem.Challenge.pw_tipwell_k18_whole_soonest_by_trying
theorem PySem.W.Fast.te17425948515006839292:PySem.Challenge.pw_tipwell_k18_whole_soonest_by_trying=PySem.W.Fast.tw17425948515006839292:=rfl
namespace PySem.W.Fast
def tw1911135040146461312:=0
def tw8944049198796837770:=0
def tw12066206835203255529:=0
def tw9324214605552077229:=0
def tw10393474706841911314:=0
def tw15337168376888749684:=0
def tw12186172857909147344:=0
def tw388981270277610634:=0
def tw6160560344386479531:=0
def tw18407537398469051605:=0
def tw15562861877802944180:=0
def tw7292886277534998002:=0
def tw13196022504944830768:=0
def tw9518151236923461520:=0
def tw8722415781958518827:=0
def tw13263718048955332104:=0
def tw1921183072816500191:=0
def tw10572142599042219938:=0
def tw11239781212045527341:=0
def tw5672149729008249855:=0
def tw13304283344682057044:=0
def tw6848031562349353769:=0
def tw15595428602099306852:=0
def tw13798262490163971281:=0
def tw7148227747952119996:=0
def tw8945155883802833340:=0
def tw539061099957870539:=0
def tw1642101957332922964:=0
def tw12770738112819762238:=0
def tw16472190131207532348:=0
def tw6314366907279058014:=0
def tw3099748270993952621:=0
def tw15850007493807651605:=0
def tw12352341100027232770:=0
def tw1934710079783943217:=0
def tw7088507022017881699:=0
def tw11764720696947302184:=0
def tw15808556800263200041:=0
def tw3352939085066886840:=0
def tw17043895419376980984:=0
def tw15895223406343493692:=0
def tw6112049996862126756:=0
def tw17629658613100684782:=0
def tw16000323604690557043:=0
def tw10562121072555699354:=0
def tw17077635822010322750:=0
def tw10305463134316200294:=0
def tw3241223427985827171:=0
def tw10511132665383942743:=0
def tw16435305683872388807:=0
def tw18254667128949938574:=0
def tw2408142309335354790:=0
def tw15598090961140413952:=0
def tw17497745829184036912:=0
def tw9885437048706531697:=0
def tw7105580375614317028:=0
def tw3072892491282437356:=0
def tw15082042661404008248:=0
def tw5299656849400374496:=0
def tw9856914741504301189:=0
def tw7273394464211629561:=0
def tw7283027843218079394:=0
def tw17505414807888047051:=0
end PySem.W.Fast
open PySem PySem.W PyProof.Rows
set_option maxRecDepth 100000 in
set_option maxHeartbeats 0 in
theorem PySem.Challenge.cw_tipwell_k18_whole_soonest_by_trying_holds : PySem.Challenge.rw_tipwell_k18_whole_soonest_by_trying.Holds := by
 w_on;o_law;km_head;(case hw=>w_witness2)
 k_fill
 refine Tw.walk (l:=PySem.Challenge.rw_tipwell_k18_whole_soonest_by_trying) rfl rfl (fun w h Y=>PySem.W.km_in_of Y) (fun w h Y=>PySem.W.km_tabs_of Y) ?F
 case F=>
  intro w mg fa h KX G hmg
  refine' Tw.all_mk KX G hmg ?_ ?_ ?_ ?_ ?_ ?_ ?_ ?_ ?_ ?_ ?_ ?_ ?_ ?_ ?_ ?_ ?_ ?_ ?_ ?_ ?_ ?_ ?_ ?_ ?_ ?_ ?_ ?_ ?_ ?_ ?_ ?_ ?_ ?_ ?_ ?_ ?_ ?_ ?_ ?_ ?_ ?_ ?_ ?_ ?_ ?_ ?_ ?_ ?_ ?_ ?_ ?_ ?_ ?_ ?_ ?_ ?_ ?_ ?_ ?_ ?_ ?_ ?_ ?_ ?_ ?_ ?_ ?_ ?_ ?_ ?_ ?_ ?_ ?_ ?_ ?_ ?_ ?_ ?_ ?_ ?_ ?_ ?_ ?_ ?_ ?_ ?_ ?_ ?_ ?_ ?_ ?_ ?_ ?_ ?_ ?_ ?_ ?_ ?_ ?_ ?_ ?_ ?_ ?_ ?_ ?_ ?_ ?_ ?_ ?_ ?_ ?_ ?_ ?_ ?_ ?_ ?_ ?yp16 ?yn16 ?yt16 ?yh16 ?exV ?exM ?hmMxh
  all_goals try k_is
  (case yp16=>exact rfl)
  (case yn16=>first | k_is | exact rfl)
  (case yt16=>decide)
  (case yh16=>first | k_is | exact rfl)
  (case exV=>k_exc)
  (case exM=>k_exc)
  (case hmMxh=>kts_exm)
#print axioms PySem.Challenge.cw_tipwell_k18_whole_soonest_by_trying_holds