import PyProof.Rows.All
import Wide.All
import OpenK.AllK
import Wide.FinOn
import Lean
import PyProof.EqAt
import PyProof.EqKinds
import PyProof.TupleCall
import PyProof.FactsAll.NoneType
import PyProof.ZipIter
import PyProof.EnumMake
import KE.KUnpack
import KE.KTryMore
import PyProof.NsDelKeeps
import PyProof.Rows.SetFrom
import PyProof.CollectWalk
import PyProof.Rows.SortWalk
import PyProof.TupleKey
import PyProof.FactsAll.bool_1
import PyProof.NeKinds
import PyProof.ListRange
import PyProof.FactsAll.tuple_0
import PyProof.FactsAll.tuple_2
import PyProof.TupleOfStr
import KE.RegKIsAll
import KE.RegKTryMore
import PySem.Challenge.RW_tipwell_k22_whole_trimmed_act_alike
set_option Elab.async false
set_option linter.all false
set_option maxRecDepth 100000
namespace L2
open PySem PySem.Spec PyProof.Rows
noncomputable abbrev dQ:=Sum Int (Option Str)
noncomputable def isNon:Value→Bool
 | .none=>true
 | _=>false
theorem isNon_shape {v:Value} (h:isNon v=true):v=Value.none:=by
 cases v <;> simp_all [isNon]
noncomputable def keyIs:dQ→Value→Bool
 | .inl k,v=>Value.isInt k v
 | .inr (some x),v=>Value.isStrOf x v
 | .inr none,v=>isNon v
noncomputable def hashNon:Int:=0xFCA86420
noncomputable def keyH (w:World):dQ→Int
 | .inl k=>hashInt k
 | .inr (some x)=>hashStr w x
 | .inr none=>hashNon
theorem bW:∀ {k:dQ}{v:Value},keyIs k v=true→(∃ i t,k=Sum.inl i∧v=Value.int i t)∨(∃ x t,k=Sum.inr (some x)∧v=Value.str x t)∨(k=Sum.inr none∧v=Value.none)
 | .inl i,v,h=>by
  obtain⟨t,e⟩:=Value.isInt_shape (k:=i) (v:=v) h
  exact .inl ⟨i,t,rfl,e⟩
 | .inr (some x),v,h=>by
  obtain⟨t,e⟩:=Value.isStrOf_shape (x:=x) (v:=v) h
  exact .inr (.inl ⟨x,t,rfl,e⟩)
 | .inr none,v,h=>.inr (.inr ⟨rfl,isNon_shape h⟩)
theorem keyIs_int (i:Int) (t:Tok):keyIs (.inl i) (.int i t)=true:=by simp [keyIs,Value.isInt]
theorem keyIs_str (x:Str) (t:Tok):keyIs (.inr (some x)) (.str x t)=true:=by simp [keyIs,Value.isStrOf]
theorem key_ll (a b:Int):decide ((Sum.inl a:dQ)=Sum.inl b)=(a == b):=by
 by_cases e:a=b
 ·subst e;simp
 ·have h:¬ (Sum.inl a:dQ)=Sum.inl b:=fun q=>e (Sum.inl.inj q)
  rw[decide_eq_false h]
  exact (beq_eq_false_iff_ne.mpr e).symm
theorem key_rr (a b:Str):decide ((Sum.inr (some a):dQ)=Sum.inr (some b))=decide (a=b):=by
 by_cases e:a=b
 ·subst e;simp
 ·have h:¬ (Sum.inr (some a):dQ)=Sum.inr (some b):=fun q=>e (Option.some.inj (Sum.inr.inj q))
  rw[decide_eq_false h,decide_eq_false e]
theorem key_li (i:Int) (o:Option Str):decide ((Sum.inl i:dQ)=Sum.inr o)=false:=decide_eq_false (fun q=>nomatch q)
theorem key_il (i:Int) (o:Option Str):decide ((Sum.inr o:dQ)=Sum.inl i)=false:=decide_eq_false (fun q=>nomatch q)
theorem key_sn (x:Str):decide ((Sum.inr (some x):dQ)=Sum.inr none)=false:=decide_eq_false (fun q=>nomatch (Sum.inr.inj q))
theorem key_ns (x:Str):decide ((Sum.inr none:dQ)=Sum.inr (some x))=false:=decide_eq_false (fun q=>nomatch (Sum.inr.inj q))
theorem hash_non {prog:Program}{w:World}{A:Around}{E:Value→Shared→Prop}{s:Shared}{Q:Int→Shared→Prop} (h:Q hashNon { s with toks:=s.toks+1 }) :
  wpAny (model prog w) A (pyHash .none) Q E s:=by
 have hT:s.TypeIs .none "NoneType" := rfl
 unfold pyHash
 have hv:[Value.none].any Value.onHeap=false:=rfl
 refine wpAny_bind ?_
 rw[cRoomFor,if_neg (by rw[hv];exact Bool.false_ne_true)];refine wpAny_pure ?_
 refine wpAny_bind (wpAny_specialOf hT F.slot_NoneType_hash.lookup ?_)
 show wpAny _ _ (if (some (Value.builtin "NoneType.__hash__") == some Value.none)=true then _ else _) Q E s
 rw[if_neg (by rw[beq_builtin_none];exact Bool.false_ne_true)]
 refine wpAny_bind (wpAny_specialOf hT F.slot_NoneType_hash.lookup ?_)
 show wpAny _ _ (callSpecialIfBoundUnlessNone? .none "__hash__" _ >>= _) Q E s
 refine wpAny_bind (wpAny_callSpecialIfBoundUnlessNone?_slot hT F.slot_NoneType_hash
  (wpAny_call_entry F.slot_NoneType_hash hT F.entry_NoneType_hash
   (show wpAny _ _ (do ret (← mkInt hashNon)) _ _ s from wpAny_ret_mkInt ?_) (F.args_NoneType_hash_1 _)))
 show wpAny _ _ (if (decide (-(2:Int) ^ 63≤hashNon) && decide (hashNon < 2 ^ 63))=true then _ else _) Q E _
 rw[if_pos (by decide)]
 exact wpAny_pure h
noncomputable def cD (prog:Program) (w:World):PySem.KeyKind prog w dQ where
 is:=keyIs
 hash:=keyH w
 inj:=fun v a b ha hb=>by
  rcases bW ha with ⟨i,t,rfl,rfl⟩ | ⟨x,t,rfl,rfl⟩ | ⟨rfl,rfl⟩
  ·rcases bW hb with ⟨j,u,rfl,e⟩ | ⟨y,u,rfl,e⟩ | ⟨rfl,e⟩
   ·injection e with e1 _;rw[e1]
   ·exact nomatch e
   ·exact nomatch e
  ·rcases bW hb with ⟨j,u,rfl,e⟩ | ⟨y,u,rfl,e⟩ | ⟨rfl,e⟩
   ·exact nomatch e
   ·injection e with e1 _;rw[e1]
   ·exact nomatch e
  ·rcases bW hb with ⟨j,u,rfl,e⟩ | ⟨y,u,rfl,e⟩ | ⟨rfl,e⟩
   ·exact nomatch e
   ·exact nomatch e
   ·rfl
 byValue:=fun k v h=>by
  rcases bW h with ⟨i,t,rfl,rfl⟩ | ⟨x,t,rfl,rfl⟩ | ⟨rfl,rfl⟩ <;> rfl
 pyHash:=fun hv h=>by
  rcases bW hv with ⟨i,t,rfl,rfl⟩ | ⟨x,t,rfl,rfl⟩ | ⟨rfl,rfl⟩
  ·exact wpAny_pyHash_int h
  ·exact wpAny_pyHash_str h
  ·exact hash_non h
 eqBool:=fun hu hv h=>by
  rcases bW hu with ⟨i,t,rfl,rfl⟩ | ⟨x,t,rfl,rfl⟩ | ⟨rfl,rfl⟩
  ·rcases bW hv with ⟨j,u,rfl,rfl⟩ | ⟨y,u,rfl,rfl⟩ | ⟨rfl,rfl⟩
   ·rw[key_ll] at h;exact wpAny_eqBool_int h
   ·rw[key_li] at h;exact SeqAt.EqAt.int_str i t y u _ _ _ _ h
   ·rw[key_li] at h;exact SeqAt.EqAt.int_none i t _ _ _ _ h
  ·rcases bW hv with ⟨j,u,rfl,rfl⟩ | ⟨y,u,rfl,rfl⟩ | ⟨rfl,rfl⟩
   ·rw[key_il] at h;exact SeqAt.EqAt.str_int x t j u _ _ _ _ h
   ·rw[key_rr] at h;exact wpAny_eqBool_str h
   ·rw[key_sn] at h;exact SeqAt.EqAt.str_none x t _ _ _ _ h
  ·rcases bW hv with ⟨j,u,rfl,rfl⟩ | ⟨y,u,rfl,rfl⟩ | ⟨rfl,rfl⟩
   ·rw[key_il] at h;exact SeqAt.EqAt.none_int j u _ _ _ _ h
   ·rw[key_ns] at h;exact SeqAt.EqAt.none_str y u _ _ _ _ h
   ·rw[decide_eq_true rfl] at h;exact SeqAt.EqAt.same Value.none _ _ _ _ h
 «strs»:=fun k x t v h=>by
  rcases bW h with ⟨i,u,rfl,e⟩ | ⟨y,u,rfl,e⟩ | ⟨rfl,e⟩
  ·exact nomatch e
  ·injection e with e1 _
   subst e1
   cases v <;> rfl
  ·exact nomatch e
theorem mixKind_int (prog:Program) (w:World) (i:Int) (t:Tok):(cD prog w).is (.inl i) (.int i t)=true:=keyIs_int i t
theorem mixKind_str (prog:Program) (w:World) (x:Str) (t:Tok):(cD prog w).is (.inr (some x)) (.str x t)=true:=keyIs_str x t
end L2
namespace L2
open PySem PySem.Spec PyProof.Rows
inductive V where
 | non | bl (b:Bool) | int (i:Int) | str (x:Str) | byt (b:Array UInt8) | flt (b:UInt64) | ref (a:Addr) | ty (n:String)
 deriving DecidableEq
noncomputable def aY:V→Value→Prop
 | .non,u=>u=Value.none
 | .bl b,u=>u=Value.bool b
 | .int i,u=>∃ t,u=Value.int i t
 | .str x,u=>∃ t,u=Value.str x t
 | .byt b,u=>∃ t,u=Value.bytes b t
 | .flt b,u=>∃ t,u=Value.float b t
 | .ref a,u=>u=Value.ref a
 | .ty n,u=>u=Value.type n
noncomputable abbrev bE:List V→List Value→Prop:=Paired aY
theorem bE.length {xs:List V}{us:List Value} (r:bE xs us):xs.length=us.length:=Paired.length r
theorem bE.get:∀ {xs:List V}{us:List Value}{i:Nat}{x:V},bE xs us→xs[i]? = some x→∃ u,us[i]? = some u∧aY x u
 | _,_,_,_,.nil,e=>by simp at e
 | _,_,0,_,.cons r _,e=>by simp at e;subst e;exact⟨_,rfl,r⟩
 | _,_,i+1,x,.cons _ t,e=>by
  obtain⟨u,h1,h2⟩:=bE.get (i:=i) (x:=x) t (by simpa using e)
  exact⟨u,by simpa using h1,h2⟩
theorem bE.set {x:V}{u:Value} (r:aY x u):∀ {xs:List V}{us:List Value} (i:Nat),bE xs us→bE (xs.set i x) (us.set i u)
 | _,_,_,.nil=>.nil
 | _,_,0,.cons _ t=>.cons r t
 | _,_,i+1,.cons q t=>.cons q (bE.set r i t)
theorem bE.append:∀ {xs ys:List V}{us ws:List Value},bE xs us→bE ys ws→bE (xs++ys) (us++ws)
 | _,_,_,_,.nil,s=>s
 | _,_,_,_,.cons r t,s=>.cons r (bE.append t s)
noncomputable def RelO:Option V→Option Value→Prop
 | some v,some u=>aY v u
 | none,none=>True
 | _,_=>False
noncomputable def KV {κ:Type}:List (κ×V)→List (κ×Value)→Prop:=Paired fun (p:κ×V) (q:κ×Value)=>p.1=q.1∧aY p.2 q.2
noncomputable def kV:dQ→V
 | .inl i=>.int i
 | .inr (some x)=>.str x
 | .inr none=>.non
inductive HO where
 | lst (xs:List V)
 | tup (xs:List V)
 | dK (kvs:List (dQ×V)) | dT (kvs:List (List dQ×V))
 | set (S:Int→Bool) (n:Nat)
 | ins (C dx:Addr) (fs:List (Str×V))
 | own (x:Addr)
 | xd (fs:List (Str×V))
 | met (f x:Addr)
 | rng (lo hi:Int)
 | frz (o:Obj) (u:HO)
 | tbl (ps:Array Value)
 | ext (φ:Heap→Prop)
noncomputable abbrev Hp:=Addr→Option HO
noncomputable def upd (H:Hp) (a:Addr) (o:HO):Hp:=fun b=>if b=a then some o else H b
theorem aB {H:Hp}{a:Addr}{o:HO}:upd H a o a=some o:=by unfold upd;rw[if_pos rfl]
theorem aM {H:Hp}{a b:Addr}{o:HO} (h:b≠a):upd H a o b=H b:=by unfold upd;rw[if_neg h]
theorem upd_upd {H:Hp}{a:Addr}{o u:HO}:upd (upd H a o) a u=upd H a u:=by
 funext b;unfold upd;split <;> rfl
theorem ne_of {H:Hp}{a b:Addr}{o u:HO} (h:H a=some o) (h':H b=some u) (d:o≠u):a≠b:=by
 intro e;subst e;rw[h] at h';exact d (Option.some.inj h')
theorem aN {H:Hp}{a b:Addr}{o:HO} (h:H a=some o) (h':H b=none):a≠b:=by
 intro e;subst e;rw[h] at h';cases h'
section
variable (P:Program) (w:World)
noncomputable def cN (H:Hp) (h:Heap) (a:Addr):HO→Prop
 | .lst xs=>xs.length≤sizeLine∧∃ (its:List Value) (n:Nat),bE xs its∧h.get? a=some { cls:=.type "list",data:=.seq its.toArray n }
 | .tup xs=>xs.length≤sizeLine∧∃ its:List Value,bE xs its∧IsTup h a its.toArray
 | .dK kvs=>kvs.length≤sizeLine∧(a == sysModules)=false∧∃ vs,KV kvs vs∧h.DictOf (cD P w) a vs
 | .dT kvs=>kvs.length≤sizeLine∧(a == sysModules)=false∧∃ xs:List (List dQ×Addr×Value),
   Paired (fun (p:List dQ×V) (q:List dQ×Addr×Value)=>p.1=q.1∧H q.2.1=some (.tup (p.1.map kV))∧aY p.2 q.2.2) kvs xs∧
   ∃ o es ep,h.get? a=some o∧o.ExactDict∧o.data=.dict es ep∧es.toList=xs.map (entryOfKey (tupleKind (cD P w)))∧(xs.map (·.1)).Nodup
 | .set S n=>h.SetOf (intKind P w) a S n
 | .ins C dx fs=>H dx=some (.own a)∧fs.length≤1000∧dx≠a∧h.get? a=some (PySem.W.instObj C dx)∧
   ∃ mA,h.Ns1 dx mA∧(∀ f,RelO (fs.lookup f) (mA f))∧PySem.Within mA (fs.map (·.1))
 | .own _=>∃ o,h.get? a=some o
 | .xd fs=>∃ mA,h.Ns1 a mA∧∀ f,RelO (fs.lookup f) (mA f)
 | .rng lo hi=>∃ t u v,h.get? a=some { cls:=.type "range",data:=.fields #[.int lo t,.int hi u,.int 1 v] }
 | .frz o u=>h.get? a=some o∧cN H h a u
 | .tbl ps=>h.get? a=some { cls:=.none,data:=.fields ps }
 | .met f x=>h.get? a=some (PySem.W.methodObj (.ref f) (.ref x))
 | .ext φ=>φ h∧(∃ o,h.get? a=some o)∧∀ h1 h2:Heap,φ h1→(∀ o,h1.get? a=some o→h2.get? a=some o)→φ h2
noncomputable def HOk (H:Hp) (h:Heap):Prop:=∀ a o,H a=some o→cN P w H h a o
end
section
variable {P:Program}{w:World}{H H':Hp}{h h':Heap}{a:Addr}{o:HO}
theorem cN.lt (x:cN P w H h a o):a < h.objs.size:=by
 cases o with
 | lst xs=>obtain⟨_,_,_,_,e⟩:=x;exact Heap.lt_size e
 | tup xs=>obtain⟨_,_,_,p⟩:=x;exact p.lt
 | dK kvs=>obtain⟨_,_,_,_,o,_,_,e,_⟩:=x;exact Heap.lt_size e
 | dT kvs=>obtain⟨_,_,_,_,o,_,_,e,_⟩:=x;exact Heap.lt_size e
 | set S n=>obtain⟨o,_,_,_,e,_⟩:=x;exact Heap.lt_size e
 | ins C dx fs=>obtain⟨_,_,_,e,_⟩:=x;exact Heap.lt_size e
 | own y=>obtain⟨_,e⟩:=x;exact Heap.lt_size e
 | xd fs=>obtain⟨_,⟨_,_,_,e,_⟩,_⟩:=x;exact Heap.lt_size e
 | rng lo hi=>obtain⟨_,_,_,e⟩:=x;exact Heap.lt_size e
 | frz ob u=>obtain⟨e,_⟩:=x;exact Heap.lt_size e
 | tbl ps=>exact Heap.lt_size (show h.get? a=some _ from x)
 | met f y=>exact Heap.lt_size (show h.get? a=some _ from x)
 | ext φ=>obtain⟨_,⟨_,e⟩,_⟩:=x;exact Heap.lt_size e
theorem Paired.mapP {α β:Type}{F G:α→β→Prop}:∀ {l₁:List α}{l₂:List β},Paired F l₁ l₂→(∀ a b,F a b→G a b)→Paired G l₁ l₂
 | _,_,.nil,_=>.nil
 | _,_,.cons r t,f=>.cons (f _ _ r) (Paired.mapP t f)
theorem cN.stay (x:cN P w H h a o) (k:∀ b u,(b=a∨H b=some (.own a))→h.get? b=some u→h'.get? b=some u)
  (ho:∀ b,H b=some (.own a)→H' b=some (.own a)) (ht:∀ b xs,H b=some (.tup xs)→H' b=some (.tup xs)):cN P w H' h' a o:=by
 induction o with
 | lst xs=>obtain⟨z,its,n,r,e⟩:=x;exact⟨z,its,n,r,k _ _ (.inl rfl) e⟩
 | tup xs=>obtain⟨z,its,r,ob,e,c⟩:=x;exact⟨z,its,r,ob,k _ _ (.inl rfl) e,c⟩
 | dK kvs=>obtain⟨z,y,vs,r,ob,es,ep,e,c⟩:=x;exact⟨z,y,vs,r,ob,es,ep,k _ _ (.inl rfl) e,c⟩
 | dT kvs=>
  obtain⟨z,y,xs,r,ob,es,ep,e,c⟩:=x
  exact⟨z,y,xs,Paired.mapP r fun p q z=>⟨z.1,ht _ _ z.2.1,z.2.2⟩,ob,es,ep,k _ _ (.inl rfl) e,c⟩
 | set S n=>obtain⟨ob,es,ep,t,e,c⟩:=x;exact⟨ob,es,ep,t,k _ _ (.inl rfl) e,c⟩
 | ins C dx fs=>
  obtain⟨d,z,ne,e,mA,⟨od,es,ep,e2,c⟩,r⟩:=x
  exact⟨ho _ d,z,ne,k _ _ (.inl rfl) e,mA,⟨od,es,ep,k _ _ (.inr d) e2,c⟩,r⟩
 | own y=>obtain⟨ob,e⟩:=x;exact⟨ob,k _ _ (.inl rfl) e⟩
 | xd fs=>obtain⟨mA,⟨od,es,ep,e,c⟩,r⟩:=x;exact⟨mA,⟨od,es,ep,k _ _ (.inl rfl) e,c⟩,r⟩
 | rng lo hi=>obtain⟨t,u,v,e⟩:=x;exact⟨t,u,v,k _ _ (.inl rfl) e⟩
 | frz ob u ih=>obtain⟨e,q⟩:=x;exact⟨k _ _ (.inl rfl) e,ih q⟩
 | tbl ps=>
  have e:h.get? a=some { cls:=.none,data:=.fields ps }:=x
  show h'.get? a=some { cls:=.none,data:=.fields ps }
  exact k a _ (.inl rfl) e
 | met f y=>
  have e:h.get? a=some (PySem.W.methodObj (.ref f) (.ref y)):=x
  show h'.get? a=some (PySem.W.methodObj (.ref f) (.ref y))
  exact k a _ (.inl rfl) e
 | ext φ=>obtain⟨p,⟨o,e⟩,st⟩:=x;exact⟨st _ _ p fun o q=>k _ _ (.inl rfl) q,⟨o,k _ _ (.inl rfl) e⟩,st⟩
theorem HOk.lt (x:HOk P w H h) (e:H a=some o):a < h.objs.size:=(x a o e).lt
theorem HOk.fresh (x:HOk P w H h) (e:h.objs.size≤a):H a=none:=by
 cases q:H a with
 | none=>rfl
 | some u=>exact absurd (Nat.lt_of_lt_of_le (x.lt q) e) (Nat.lt_irrefl _)
theorem HOk.kept (x:HOk P w H h) (k:∀ b u,h.get? b=some u→h'.get? b=some u):HOk P w H h':=fun a o e=>
 (x a o e).stay (fun b u _ q=>k b u q) (fun _ q=>q) fun _ _ q=>q
theorem HOk.laid (x:HOk P w H h) (k:∀ b u,h.get? b=some u→h'.get? b=some u) (hp:h.objs.size≤a) (new:cN P w (upd H a o) h' a o):HOk P w (upd H a o) h':=fun b u e=>by
 have hn:=x.fresh hp
 by_cases hb:b=a
 ·subst hb;rw[aB] at e;cases e;exact new
 ·rw[aM hb] at e
  exact (x b u e).stay (fun c v _ q=>k c v q) (fun c q=>by rw[aM (aN q hn)];exact q) fun c xs q=>by rw[aM (aN q hn)];exact q
end
noncomputable def Rd (H:Hp) (a:Addr) (u:HO):Prop:=H a=some u∨∃ o,H a=some (.frz o u)
theorem Rd.ok {P:Program}{w:World}{H:Hp}{h:Heap}{a:Addr}{u:HO} (r:Rd H a u) (x:HOk P w H h):cN P w H h a u:=by
 rcases r with r | ⟨o,r⟩
 ·exact x a u r
 ·obtain⟨_,q⟩:=x a _ r
  exact q
noncomputable def Mut:Option HO→Prop
 | some (.lst _)=>True
 | some (.dK _)=>True
 | some (.dT _)=>True
 | some (.set _ _)=>True
 | some (.ins _ _ _)=>True
 | some (.ext _)=>True
 | _=>False
section
variable {P:Program}{w:World}{H:Hp}{h h':Heap}{x e:Addr}{o':HO}
theorem HOk.write (ok:HOk P w H h) (mu:Mut (H x)) (he:e=x∨H e=some (.own x)) (k:∀ b u,b≠e→h.get? b=some u→h'.get? b=some u) (heo:∃ u,h'.get? e=some u)
  (new:cN P w (upd H x o') h' x o'):HOk P w (upd H x o') h':=fun b u q=>by
 have nown:∀ c y,H c=some (.own y)→c≠x:=fun c y r z=>by subst z;rw[r] at mu;exact mu
 have ntup:∀ c xs,H c=some (.tup xs)→c≠x:=fun c xs r z=>by subst z;rw[r] at mu;exact mu
 by_cases hb:b=x
 ·subst hb;rw[aB] at q;cases q;exact new
 ·rw[aM hb] at q
  by_cases hbe:b=e
  ·have q':H b=some (.own x):=by
    rcases he with z | z
    ·exact absurd (hbe.trans z) hb
    ·rw[hbe];exact z
   rw[q] at q';cases q'
   obtain⟨v,hv⟩:=heo
   exact⟨v,by rw[hbe];exact hv⟩
  ·refine (ok b u q).stay (fun c v hc r=>k c v ?_ r) (fun c r=>by rw[aM (nown c b r)];exact r) fun c xs r=>by rw[aM (ntup c xs r)];exact r
   rcases hc with rfl | hc
   ·exact hbe
   ·rintro rfl
    rcases he with z | z
    ·exact nown c b hc z
    ·rw[hc] at z;cases z;exact hb rfl
end
structure Un (fs ex:List Addr) (H H':Hp) (h h':Heap):Prop where
 keep:∀ b o,h.get? b=some o→H b=none→b∉fs→b∉ex→h'.get? b=some o
 slot:∀ b o,h.get? b=some o→H b=none→b∈fs→b∉ex→∃ sl,h'.get? b=some { o with slots:=sl }
 free:∀ b o,h.get? b=some o→H b=none→b∉ex→H' b=none
 there:∀ b o,h.get? b=some o→b∉ex→∃ o',h'.get? b=some o'
 tups:∀ b xs,H b=some (.tup xs)→H' b=some (.tup xs)
 frzs:∀ b o u,H b=some (.frz o u)→H' b=some (.frz o u)
 tbls:∀ b ps,H b=some (.tbl ps)→∃ more,H' b=some (.tbl (ps++more))
section
variable {fs fs' ex ex':List Addr}{H H1 H2:Hp}{h h1 h2 h':Heap}{a x e:Addr}{o:HO}
theorem Un.any (u:Un fs ex H H1 h h1) {b:Addr}{ob:Obj} (q:h.get? b=some ob) (n:H b=none) (hx:b∉ex):∃ sl,h1.get? b=some { ob with slots:=sl }:=by
 by_cases hb:b∈fs
 ·exact u.slot b ob q n hb hx
 ·exact⟨ob.slots,u.keep b ob q n hb hx⟩
theorem Un.kept (k:∀ b u,h.get? b=some u→h'.get? b=some u):Un fs ex H H h h':=
 ⟨fun b ob q _ _ _=>k b ob q,fun b ob q _ _ _=>⟨ob.slots,k b ob q⟩,fun _ _ _ n _=>n,fun b ob q _=>⟨ob,k b ob q⟩,fun _ _ q=>q,fun _ _ _ q=>q,fun _ ps q=>⟨#[],by rw[q];simp⟩⟩
theorem Un.refl:Un fs ex H H h h:=Un.kept fun _ _ q=>q
theorem Un.laid (k:∀ b u,h.get? b=some u→h'.get? b=some u) (hp:h.objs.size≤a) (hn:H a=none):Un fs ex H (upd H a o) h h' where
 keep:=fun b u q _ _ _=>k b u q
 slot:=fun b u q _ _ _=>⟨u.slots,k b u q⟩
 free:=fun b u q n _=>by rw[aM (Nat.ne_of_lt (Nat.lt_of_lt_of_le (Heap.lt_size q) hp))];exact n
 there:=fun b u q _=>⟨u,k b u q⟩
 tups:=fun b xs q=>by rw[aM (aN q hn)];exact q
 frzs:=fun b u xs q=>by rw[aM (aN q hn)];exact q
 tbls:=fun b ps q=>⟨#[],by rw[aM (aN q hn),q];simp⟩
theorem Un.write (mu:Mut (H x)) (he:e=x∨H e=some (.own x)) (k:∀ b u,b≠e→h.get? b=some u→h'.get? b=some u) (heo:∃ u,h'.get? e=some u):Un fs ex H (upd H x o) h h':=by
 have hx:∀ b,H b=none→b≠x:=fun b n z=>by subst z;rw[n] at mu;exact mu
 have hb:∀ b,H b=none→b≠e:=fun b n z=>by
  subst z
  rcases he with r | r
  ·exact hx b n r
  ·rw[n] at r;cases r
 have hm:∀ b u,H b=some u→¬ Mut (some u)→b≠x:=fun b u q nm z=>by subst z;rw[q] at mu;exact nm mu
 refine⟨fun b u q n _ _=>k b u (hb b n) q,fun b u q n _ _=>⟨u.slots,k b u (hb b n) q⟩,fun b u q n _=>by rw[aM (hx b n)];exact n,fun b u q _=>?_,
  fun b xs q=>by rw[aM (hm b _ q fun z=>z)];exact q,fun b u xs q=>by rw[aM (hm b _ q fun z=>z)];exact q,fun b ps q=>⟨#[],by rw[aM (hm b _ q fun z=>z),q];simp⟩⟩
 by_cases hbe:b=e
 ·subst hbe;exact heo
 ·exact⟨u,k b u hbe q⟩
end
noncomputable def trk (h:Heap) (H:Hp):List Addr:=(List.range h.objs.size).filter fun a=>(H a).isSome
noncomputable def hidT (h:Heap) (H:Hp):Heap:=PySem.W.hideAll h (trk h H)
theorem hidT_size (h:Heap) (H:Hp):(hidT h H).objs.size=h.objs.size:=PySem.W.hideAll_size _ _
theorem hidT_get {h:Heap}{H:Hp}{b:Addr}{o:Obj} (e:h.get? b=some o) (n:H b=none):(hidT h H).get? b=some o:=
 PySem.W.hideAll_get _ e fun hm=>by
  have q:(H b).isSome=true:=(List.mem_filter.mp hm).2
  rw[n] at q;simp at q
theorem of_hidT {h:Heap}{H:Hp}{b:Addr}{o:Obj} (e:(hidT h H).get? b=some o):h.get? b=some o∧H b=none:=by
 have e':h.get? b=some o:=PySem.W.of_hideAll (trk h H) e
 refine⟨e',?_⟩
 cases q:H b with
 | none=>rfl
 | some x=>
  have hm:b∈trk h H:=List.mem_filter.mpr ⟨List.mem_range.mpr (Heap.lt_size e'),by simp [q]⟩
  have z:(hidT h H).get? b=none:=PySem.W.hideAll_none (trk h H) hm
  rw[z] at e;cases e
end L2
namespace L2
open PySem PySem.Spec PyProof.Rows
structure Mod (K:PySem.W.Frag) (mg:Str→Option Value) (base:Heap):Prop where
 kin:K.In base
 glob:base.Ns mainGlobals mg
 blt:∃ mb,base.Ns builtinsNs mb∧∀ x:Str,x ≠ "__name__" → mb x=bootBuiltins x
 nolimit:base.NoLimit
structure Cx where
 prog:Program
 w:World
 K:PySem.W.Frag
 mg:Str→Option Value
 base:Heap
 A:Around
 N:List Str
 s₀:Shared
 H₀:Hp
 env:Env
 outer:List Env
 stack:List Env
 ex:List Addr
 fn:Str→Bool
 calm:Bool
 pn:List (Addr×Obj)
 xe:Value→Shared→Prop
noncomputable def frs (l:List Env):List Addr:=l.filterMap (·.frame)
noncomputable abbrev Cx.fs (X:Cx):List Addr:=frs X.outer
noncomputable def Vis (sc:Scope) (x:Str):Prop:=sc.names.lookup x=some .local∨sc.names.lookup x=some .cell∨sc.names.lookup x=some .free
noncomputable def Loc (sc:Scope) (x:Str):Prop:=sc.names.lookup x=some .local∨sc.names.lookup x=some .cell
noncomputable def Look (env:Env) (h:Heap) (m:Str→Option Value) (x:Str) (u:Value):Prop:=
 (env.kindOf x=some .local∧m x=some u)∨((env.kindOf x=some .cell∨env.kindOf x=some .free)∧∃ c,env.cells.lookup x=some c∧h.IsCell c (some u))
structure Cx.Ok (X:Cx):Prop where
 mod:Mod X.K X.mg X.base
 kind:X.env.scope.kind=.function
 glob:X.env.globals=mainGlobals
 blt:X.env.builtins=builtinsNs
 above:X.s₀.heap.objs.size≤X.env.locals
 inj:∀ x y c,X.env.cells.lookup x=some c→X.env.cells.lookup y=some c→x=y
 has:∀ x,(X.env.kindOf x=some .cell∨X.env.kindOf x=some .free)→∃ c,X.env.cells.lookup x=some c
 cab:∀ x c,X.fn x=true→X.env.cells.lookup x=some c→X.s₀.heap.objs.size≤c
 hd:X.calm=true→X.A.handled=none
 frames:X.A.frames=some X.stack
 stk:X.stack=X.outer∨(X.stack=X.env::X.outer∧X.env.frame=some X.env.locals)
 exf:∀ b∈X.ex,b≠X.env.locals∧∀ x c,X.env.cells.lookup x=some c→c≠b
 bs:∀ b o,X.base.get? b=some o→X.s₀.heap.get? b=some o∧X.H₀ b=none
 bsz:X.base.objs.size≤X.s₀.heap.objs.size
 noex:∀ b o,X.base.get? b=some o→b∉X.ex
 exfs:∀ b∈X.ex,b∉X.fs
 funs:X.s₀.heap.FunFrames X.base X.outer
 frf:∀ b∈X.fs,X.H₀ b=none
structure Inv (X:Cx) (pins:List (Addr×Obj)) (σ:List (Option V)) (H:Hp) (s:Shared):Prop where
 ok:X.Ok
 os:s.os=X.s₀.os
 bare:AllBare s.gens
 base:Un X.fs X.ex X.H₀ H X.s₀.heap s.heap
 loc:∃ m,s.heap.Ns X.env.locals m∧∀ (i:Nat) (x:Str) (v:V),X.N[i]? = some x→σ[i]? = some (some v)→Vis X.env.scope x→∃ u,aY v u∧Look X.env s.heap m x u
 cell:∀ x c,X.env.cells.lookup x=some c→∃ v,s.heap.IsCell c v
 free:H X.env.locals=none
 freeC:∀ x c,X.env.cells.lookup x=some c→H c=none
 pin:∀ p∈X.pn++pins,s.heap.get? p.1=some p.2∧H p.1=none∧p.1≠X.env.locals∧p.1∉X.fs∧∀ v,p.2.data≠.cell v
 hok:HOk X.prog X.w H s.heap
 len:σ.length=X.N.length
section
variable {X:Cx}{pins:List (Addr×Obj)}{σ:List (Option V)}{H H':Hp}{s:Shared}{h':Heap}
theorem Cx.Ok.nofr (ok:X.Ok) {b:Addr}{o:Obj} (e:X.base.get? b=some o):b∉X.fs:=fun hb=>by
 have:=(ok.funs.mem hb).1
 rw[e] at this;cases this
theorem Inv.bs (I:Inv X pins σ H s):∀ b o,X.base.get? b=some o→s.heap.get? b=some o∧H b=none:=fun b o e=>
 ⟨I.base.keep b o (I.ok.bs b o e).1 (I.ok.bs b o e).2 (I.ok.nofr e) (I.ok.noex b o e),I.base.free b o (I.ok.bs b o e).1 (I.ok.bs b o e).2 (I.ok.noex b o e)⟩
theorem Inv.bk (I:Inv X pins σ H s):∀ b o,X.base.get? b=some o→s.heap.get? b=some o:=fun b o e=>(I.bs b o e).1
theorem Inv.mod (I:Inv X pins σ H s):Mod X.K X.mg X.base:=I.ok.mod
theorem Inv.kIn (I:Inv X pins σ H s):X.K.In s.heap:=I.ok.mod.kin.keeps I.bk
theorem Inv.lt (I:Inv X pins σ H s):X.env.locals < s.heap.objs.size:=let ⟨_,hn,_⟩:=I.loc;hn.lt
theorem Inv.sz (I:Inv X pins σ H s):X.s₀.heap.objs.size≤s.heap.objs.size:=Nat.le_trans I.ok.above (Nat.le_of_lt I.lt)
theorem Inv.nofs (I:Inv X pins σ H s) {a:Addr} (h:s.heap.objs.size≤a):a∉X.fs:=fun hb=>by
 obtain⟨_,o,ho,_⟩:=I.ok.funs.mem hb
 exact absurd (Nat.lt_of_lt_of_le (Heap.lt_size ho) (Nat.le_trans I.sz h)) (Nat.lt_irrefl _)
theorem Inv.cne (I:Inv X pins σ H s):∀ x c,X.env.cells.lookup x=some c→c≠X.env.locals:=fun x c e z=>by
 obtain⟨v,o,ho,hd⟩:=I.cell x c e
 obtain⟨m,⟨o',es,ep,ho',hd',_⟩,_⟩:=I.loc
 rw[z,ho'] at ho;cases ho;rw[hd'] at hd;cases hd
theorem Inv.funs (I:Inv X pins σ H s):s.heap.FunFrames X.base X.outer:=by
 have all:∀ (l:List Env),(∀ b∈frs l,b∈X.fs)→X.s₀.heap.FunFrames X.base l→s.heap.FunFrames X.base l:=by
  intro l
  induction l with
  | nil=>intro _ _;trivial
  | cons env r ih=>
   intro hs hl
   obtain⟨hk,⟨L,o,hf,hn,ho,hd⟩,hr⟩:=hl
   have hL:L∈X.fs:=hs L (by unfold frs;rw[List.filterMap_cons,hf];exact List.mem_cons_self)
   obtain⟨sl,e⟩:=I.base.slot L o ho (I.ok.frf L hL) hL fun z=>I.ok.exfs L z hL
   exact⟨hk,⟨L,_,hf,hn,e,hd⟩,ih (fun b hb=>hs b (by unfold frs;rw[List.filterMap_cons,hf];exact List.mem_cons_of_mem _ hb)) hr⟩
 exact all X.outer (fun _ hb=>hb) I.ok.funs
theorem Inv.stack (I:Inv X pins σ H s):s.heap.FunFrames X.base X.stack:=by
 rcases I.ok.stk with e | ⟨e,hf⟩
 ·rw[e];exact I.funs
 ·rw[e]
  obtain⟨m,hn,_⟩:=I.loc
  refine .cons (by rw[I.ok.kind];decide) hf hn ?_ I.funs
  exact Heap.get?_none_of_le (Nat.le_trans I.ok.bsz I.ok.above)
theorem Inv.stkSub (I:Inv X pins σ H s):∀ b∈frs X.stack,b∈X.env.locals::X.fs:=fun b hb=>by
 rcases I.ok.stk with e | ⟨e,hf⟩
 ·rw[e] at hb;exact List.mem_cons_of_mem _ hb
 ·rw[e] at hb
  unfold frs at hb
  rw[List.filterMap_cons,hf] at hb
  exact hb
theorem Inv.stkFree (I:Inv X pins σ H s):∀ b∈frs X.stack,H b=none:=fun b hb=>by
 rcases List.mem_cons.mp (I.stkSub b hb) with e | hb
 ·rw[e];exact I.free
 ·obtain⟨_,o,ho,_⟩:=I.ok.funs.mem hb
  exact I.base.free b o ho (I.ok.frf b hb) fun z=>I.ok.exfs b z hb
theorem Inv.step {g':Array GenState}{t':Nat}{d':Drawn}{ch:List Addr} (I:Inv X pins σ H s)
  (hch:∀ b∈ch,(b∈X.ex∨X.s₀.heap.objs.size≤b)∧b≠X.env.locals∧(∀ x c,X.env.cells.lookup x=some c→c≠b)∧∀ p∈X.pn++pins,p.1≠b)
  (keep:∀ b o,b≠X.env.locals→b∉X.fs→b∉ch→s.heap.get? b=some o→H b=none→h'.get? b=some o)
  (slot:∀ b o,b≠X.env.locals→b∈X.fs→b∉ch→s.heap.get? b=some o→H b=none→∃ sl,h'.get? b=some { o with slots:=sl }) (free:∀ b o,b∉ch→s.heap.get? b=some o→H b=none→H' b=none)
  (there:∀ b o,b∉ch→s.heap.get? b=some o→∃ o',h'.get? b=some o')
  (tups:∀ b xs,H b=some (.tup xs)→H' b=some (.tup xs)) (frzs:∀ b o u,H b=some (.frz o u)→H' b=some (.frz o u)) (tbls:∀ b ps,H b=some (.tbl ps)→∃ more,H' b=some (.tbl (ps++more)))
  (ns:∀ m,s.heap.Ns X.env.locals m→h'.Ns X.env.locals m) (hok:HOk X.prog X.w H' h') (hg:AllBare g') :
  Inv X pins σ H' { s with heap:=h',gens:=g',drawn:=d',toks:=t' }:=by
 have neL:∀ b o,X.s₀.heap.get? b=some o→b≠X.env.locals:=fun b o e=>Nat.ne_of_lt (Nat.lt_of_lt_of_le (Heap.lt_size e) I.ok.above)
 have neC:∀ b o,X.s₀.heap.get? b=some o→b∉X.ex→b∉ch:=fun b o e hx hb=>by
  rcases (hch b hb).1 with z | z
  ·exact hx z
  ·exact absurd (Nat.lt_of_lt_of_le (Heap.lt_size e) z) (Nat.lt_irrefl _)
 have cellK:∀ x c,X.env.cells.lookup x=some c→∀ v,s.heap.IsCell c v→h'.IsCell c v:=fun x c e v ⟨o,ho,hd⟩=>by
  have nch:c∉ch:=fun z=>(hch c z).2.2.1 x c e rfl
  by_cases hc:c∈X.fs
  ·obtain⟨sl,q⟩:=slot c o (I.cne x c e) hc nch ho (I.freeC x c e)
   exact⟨_,q,hd⟩
  ·exact⟨o,keep c o (I.cne x c e) hc nch ho (I.freeC x c e),hd⟩
 refine⟨I.ok,I.os,hg,⟨fun b o e n hb hx=>?_,fun b o e n hb hx=>?_,fun b o e n hx=>?_,fun b o e hx=>?_,fun b xs e=>tups b xs (I.base.tups b xs e),fun b o xs e=>frzs b o xs (I.base.frzs b o xs e),fun b ps e=>?_⟩,?_,fun x c e=>?_,?_,fun x c e=>?_,fun p hp=>?_,hok,I.len⟩
 ·exact keep b o (neL b o e) hb (neC b o e hx) (I.base.keep b o e n hb hx) (I.base.free b o e n hx)
 ·obtain⟨sl,e1⟩:=I.base.slot b o e n hb hx
  obtain⟨sl',e2⟩:=slot b _ (neL b o e) hb (neC b o e hx) e1 (I.base.free b o e n hx)
  exact⟨sl',e2⟩
 ·obtain⟨o',e1⟩:=I.base.there b o e hx
  exact free b o' (neC b o e hx) e1 (I.base.free b o e n hx)
 ·obtain⟨o',e1⟩:=I.base.there b o e hx
  exact there b o' (neC b o e hx) e1
 ·obtain⟨m1,e1⟩:=I.base.tbls b ps e
  obtain⟨m2,e2⟩:=tbls b _ e1
  exact⟨m1++m2,by rw[e2,Array.append_assoc]⟩
 ·obtain⟨m,hn,hl⟩:=I.loc
  refine⟨m,ns m hn,fun i x v e1 e2 e3=>?_⟩
  obtain⟨u,r,l⟩:=hl i x v e1 e2 e3
  refine⟨u,r,?_⟩
  rcases l with l | ⟨k,c,e,z⟩
  ·exact .inl l
  ·exact .inr ⟨k,c,e,cellK x c e _ z⟩
 ·obtain⟨v,z⟩:=I.cell x c e
  exact⟨v,cellK x c e v z⟩
 ·obtain⟨m,⟨o,_,_,ho,_⟩,_⟩:=I.loc
  exact free _ o (fun z=>(hch _ z).2.1 rfl) ho I.free
 ·obtain⟨v,o,ho,hd⟩:=I.cell x c e
  exact free c o (fun z=>(hch c z).2.2.1 x c e rfl) ho (I.freeC x c e)
 ·obtain⟨e,n,ne,nf,d⟩:=I.pin p hp
  have nch:p.1∉ch:=fun z=>(hch p.1 z).2.2.2 p hp rfl
  exact⟨keep p.1 p.2 ne nf nch e n,free p.1 p.2 nch e n,ne,nf,d⟩
theorem Inv.un {t':Nat} (I:Inv X pins σ H s) (u:Un X.fs [] H H' s.heap h') (hok:HOk X.prog X.w H' h'):Inv X pins σ H' { s with heap:=h',toks:=t' }:=by
 obtain⟨m,⟨o,es,ep,ho,r⟩,_⟩:=id I.loc
 obtain⟨sl,hL⟩:=u.any ho I.free (by simp)
 exact I.step (g':=s.gens) (d':=s.drawn) (ch:=[]) (fun _ z=>nomatch z) (fun b o _ hb _ e n=>u.keep b o e n hb (by simp)) (fun b o _ hb _ e n=>u.slot b o e n hb (by simp)) (fun b o _ e n=>u.free b o e n (by simp)) (fun b o _ e=>u.there b o e (by simp)) u.tups u.frzs u.tbls (fun m' hm=>by
  obtain⟨o',es',ep',ho',r'⟩:=hm
  rw[ho] at ho';cases ho'
  exact⟨_,es',ep',hL,r'⟩) hok I.bare
theorem Inv.call {g':Array GenState}{t':Nat}{d':Drawn}{ch:List Addr} (I:Inv X pins σ H s) (u:Un (frs X.stack) ch H H' s.heap h') (hok:HOk X.prog X.w H' h') (hg:AllBare g')
  (hch:∀ b∈ch,(b∈X.ex∨X.s₀.heap.objs.size≤b)∧b≠X.env.locals∧(∀ x c,X.env.cells.lookup x=some c→c≠b)∧∀ p∈X.pn++pins,p.1≠b) :
  Inv X pins σ H' { s with heap:=h',gens:=g',drawn:=d',toks:=t' }:=by
 obtain⟨m,⟨o,es,ep,ho,r⟩,_⟩:=id I.loc
 obtain⟨sl,hL⟩:=u.any ho I.free fun z=>(hch _ z).2.1 rfl
 exact I.step (ch:=ch) hch (fun b o hL hb hc e n=>u.keep b o e n (fun z=>(List.mem_cons.mp (I.stkSub b z)).elim hL hb) hc) (fun b o _ _ hc e n=>u.any e n hc) (fun b o hc e n=>u.free b o e n hc) (fun b o hc e=>u.there b o e hc) u.tups u.frzs u.tbls (fun m' hm=>by
  obtain⟨o',es',ep',ho',r'⟩:=hm
  rw[ho] at ho';cases ho'
  exact⟨_,es',ep',hL,r'⟩) hok hg
theorem Inv.turned {t':Nat}{it:Addr} (I:Inv X pins σ H s) (k:∀ b o,b≠it→s.heap.get? b=some o→h'.get? b=some o) (hn:H it=none) (hL:it≠X.env.locals)
  (h1:it∈X.ex∨X.s₀.heap.objs.size≤it) (h2:∀ x c,X.env.cells.lookup x=some c→c≠it) (h3:∀ p∈X.pn++pins,p.1≠it):Inv X pins σ H { s with heap:=h',toks:=t' }:=by
 have nit:∀ b u,H b=some u→b≠it:=fun b u e z=>by rw[z,hn] at e;cases e
 refine I.step (g':=s.gens) (d':=s.drawn) (ch:=[it]) (fun b hb=>?_) (fun b o _ _ hc e _=>k b o (fun z=>hc (by simp [z])) e) (fun b o _ _ hc e _=>⟨o.slots,k b o (fun z=>hc (by simp [z])) e⟩) (fun _ _ _ _ n=>n)
  (fun b o hc e=>⟨o,k b o (fun z=>hc (by simp [z])) e⟩) (fun _ _ e=>e) (fun _ _ _ e=>e) (fun b ps e=>⟨#[],by rw[e];simp⟩) (fun m hm=>?_) (fun b u e=>?_) I.bare
 ·have e:b=it:=by simpa using hb
  subst e
  exact⟨h1,hL,h2,h3⟩
 ·obtain⟨o,es,ep,ho,r⟩:=hm
  exact⟨o,es,ep,k _ o (Ne.symm hL) ho,r⟩
 ·refine (I.hok b u e).stay (fun c v hc q=>k c v ?_ q) (fun _ q=>q) fun _ _ q=>q
  rcases hc with z | z
  ·rw[z];exact nit b u e
  ·exact nit c _ z
theorem Inv.tok (I:Inv X pins σ H s) (t:Nat):Inv X pins σ H { s with toks:=t }:=I.un (h':=s.heap) (t':=t) Un.refl I.hok
theorem Inv.kept {t':Nat} (I:Inv X pins σ H s) (k:∀ b u,s.heap.get? b=some u→h'.get? b=some u):Inv X pins σ H { s with heap:=h',toks:=t' }:=I.un (Un.kept k) (I.hok.kept k)
theorem Inv.laid {a:Addr}{o:HO}{t':Nat} (I:Inv X pins σ H s) (k:∀ b u,s.heap.get? b=some u→h'.get? b=some u) (hp:s.heap.objs.size≤a) (new:cN X.prog X.w (upd H a o) h' a o) :
  Inv X pins σ (upd H a o) { s with heap:=h',toks:=t' }:=I.un (Un.laid k hp (I.hok.fresh hp)) (I.hok.laid k hp new)
theorem Inv.write {x e:Addr}{o:HO}{t':Nat} (I:Inv X pins σ H s) (mu:Mut (H x)) (he:e=x∨H e=some (.own x)) (k:∀ b u,b≠e→s.heap.get? b=some u→h'.get? b=some u) (heo:∃ u,h'.get? e=some u)
  (new:cN X.prog X.w (upd H x o) h' x o):Inv X pins σ (upd H x o) { s with heap:=h',toks:=t' }:=I.un (Un.write mu he k heo) (I.hok.write mu he k heo new)
theorem Inv.pins_of {pins':List (Addr×Obj)} (I:Inv X pins σ H s) (h:∀ p∈pins',s.heap.get? p.1=some p.2∧H p.1=none∧p.1≠X.env.locals∧p.1∉X.fs∧∀ v,p.2.data≠.cell v):Inv X pins' σ H s:=
 ⟨I.ok,I.os,I.bare,I.base,I.loc,I.cell,I.free,I.freeC,fun p hp=>(List.mem_append.mp hp).elim (fun z=>I.pin p (List.mem_append_left _ z)) (h p),I.hok,I.len⟩
theorem nodup_ix {N:List Str} (hN:N.Nodup) {i j:Nat}{x:Str} (a:N[i]? = some x) (b:N[j]? = some x):i=j:=by
 obtain⟨h1,e1⟩:=List.getElem?_eq_some_iff.mp a
 obtain⟨h2,e2⟩:=List.getElem?_eq_some_iff.mp b
 exact (List.getElem_inj hN).mp (e1.trans e2.symm)
theorem store_ok2 {M:Model}{A:Around}{E:Value→Shared→Prop}{i:Nat}{x:Str}{v:V}{u:Value}{Q:Unit→Shared→Prop} (I:Inv X pins σ H s) (hN:X.N.Nodup) (hi:X.N[i]? = some x) (hx:Loc X.env.scope x) (r:aY v u)
  (h:∀ s',Inv X pins (σ.set i (some v)) H s'→(∃ a,Heap.SameBut a s.heap s'.heap∧(a=X.env.locals∨X.env.cells.lookup x=some a))→Q () s') (hf:X.fn x=true∨X.env.scope.names.lookup x=some .local:=by first | exact .inl rfl | exact .inr rfl | assumption):wpAny M A (storeName X.env x u) Q E s:=by
 obtain⟨m,hn,hl⟩:=id I.loc
 have hcls:(X.env.scope.kind == .class || (X.env.scope.kind == .module && X.env.locals != X.env.globals))=false:=by rw[I.ok.kind];rfl
 have hiσ:i < σ.length:=by rw[I.len];exact (List.getElem?_eq_some_iff.mp hi).1
 have cne:=I.cne
 have tracked:∀ {a:Addr}{h':Heap},(∃ o,s.heap.get? a=some o∧H a=none)→Heap.SameBut a s.heap h'→HOk X.prog X.w H h':=fun {a h'} ha hs b ob e=>by
  obtain⟨_,_,hfree⟩:=ha
  refine (I.hok b ob e).stay (fun c w' hc q=>(hs.2 c ?_).trans q) (fun _ q=>q) fun _ _ q=>q
  rintro rfl
  rcases hc with rfl | hc
  ·rw[hfree] at e;cases e
  ·rw[hfree] at hc;cases hc
 rcases hx with hk | hk
 ·refine wpAny_storeName_local hk hn (fun h' hn' hs=>?_) hcls
  obtain⟨oL,_,_,hoL,_⟩:=id hn
  refine h _ ⟨I.ok,I.os,I.bare,⟨fun b o e n hb hx=>?_,fun b o e n hb hx=>?_,I.base.free,fun b o e hx=>?_,I.base.tups,I.base.frzs,I.base.tbls⟩,⟨_,hn',fun j y v' e1 e2 e3=>?_⟩,fun y c e=>?_,I.free,I.freeC,fun p hp=>?_,tracked ⟨oL,hoL,I.free⟩ hs,by simpa using I.len⟩ ⟨_,hs,.inl rfl⟩
  ·exact (hs.2 b (Nat.ne_of_lt (Nat.lt_of_lt_of_le (Heap.lt_size e) I.ok.above))).trans (I.base.keep b o e n hb hx)
  ·obtain⟨sl,e1⟩:=I.base.slot b o e n hb hx
   exact⟨sl,(hs.2 b (Nat.ne_of_lt (Nat.lt_of_lt_of_le (Heap.lt_size e) I.ok.above))).trans e1⟩
  ·obtain⟨o',e1⟩:=I.base.there b o e hx
   exact⟨o',(hs.2 b (Nat.ne_of_lt (Nat.lt_of_lt_of_le (Heap.lt_size e) I.ok.above))).trans e1⟩
  ·by_cases hj:j=i
   ·subst hj
    rw[hi] at e1;cases e1
    rw[List.getElem?_set_self hiσ] at e2
    cases e2
    exact⟨u,r,.inl ⟨hk,by simp⟩⟩
   ·rw[List.getElem?_set_ne (Ne.symm hj)] at e2
    obtain⟨u',r',q⟩:=hl j y v' e1 e2 e3
    refine⟨u',r',?_⟩
    rcases q with ⟨k,e⟩ | ⟨k,c,e,z⟩
    ·refine .inl ⟨k,?_⟩
     have:y≠x:=fun e=>hj (nodup_ix hN e1 (e ▸ hi))
     simp [this,e]
    ·exact .inr ⟨k,c,e,z.sameBut hs (cne y c e)⟩
  ·obtain⟨w',z⟩:=I.cell y c e
   exact⟨w',z.sameBut hs (cne y c e)⟩
  ·obtain⟨e,n,ne,nf,d⟩:=I.pin p hp
   exact⟨(hs.2 p.1 ne).trans e,n,ne,nf,d⟩
 ·have hfn:X.fn x=true:=by
   rcases hf with z | z
   ·exact z
   ·rw[z] at hk;cases hk
  obtain⟨c,hc⟩:=I.ok.has x (.inl hk)
  obtain⟨w',z⟩:=I.cell x c hc
  refine wpAny_storeName_cell I.ok.kind hk hc z (fun h' hc' hs=>?_)
  obtain⟨oc,hoc,hocd⟩:=id z
  refine h { s with heap:=h' } ⟨I.ok,I.os,I.bare,⟨fun b o e n hb hx=>?_,fun b o e n hb hx=>?_,I.base.free,fun b o e hx=>?_,I.base.tups,I.base.frzs,I.base.tbls⟩,⟨m,hn.sameBut hs (Ne.symm (cne x c hc)),fun j y v' e1 e2 e3=>?_⟩,fun y c' e=>?_,I.free,I.freeC,fun p hp=>?_,tracked ⟨oc,hoc,I.freeC x c hc⟩ hs,by simpa using I.len⟩ ⟨c,hs,.inr hc⟩
  ·exact (hs.2 b (Nat.ne_of_lt (Nat.lt_of_lt_of_le (Heap.lt_size e) (I.ok.cab x c hfn hc)))).trans (I.base.keep b o e n hb hx)
  ·obtain⟨sl,e1⟩:=I.base.slot b o e n hb hx
   exact⟨sl,(hs.2 b (Nat.ne_of_lt (Nat.lt_of_lt_of_le (Heap.lt_size e) (I.ok.cab x c hfn hc)))).trans e1⟩
  ·obtain⟨o',e1⟩:=I.base.there b o e hx
   exact⟨o',(hs.2 b (Nat.ne_of_lt (Nat.lt_of_lt_of_le (Heap.lt_size e) (I.ok.cab x c hfn hc)))).trans e1⟩
  ·by_cases hj:j=i
   ·subst hj
    rw[hi] at e1;cases e1
    rw[List.getElem?_set_self hiσ] at e2
    cases e2
    exact⟨u,r,.inr ⟨.inl hk,c,hc,hc'⟩⟩
   ·rw[List.getElem?_set_ne (Ne.symm hj)] at e2
    obtain⟨u',r',q⟩:=hl j y v' e1 e2 e3
    refine⟨u',r',?_⟩
    rcases q with q | ⟨k,c',e,z'⟩
    ·exact .inl q
    ·refine .inr ⟨k,c',e,z'.sameBut hs ?_⟩
     rintro rfl
     exact hj (nodup_ix hN e1 (I.ok.inj _ _ _ e hc ▸ hi))
  ·by_cases hcc:c'=c
   ·subst hcc;exact⟨_,hc'⟩
   ·obtain⟨w2,z2⟩:=I.cell y c' e
    exact⟨w2,z2.sameBut hs hcc⟩
  ·obtain⟨e,n,ne,nf,d⟩:=I.pin p hp
   refine⟨(hs.2 p.1 ?_).trans e,n,ne,nf,d⟩
   intro q
   rw[q,hoc] at e
   have q':oc=p.2:=Option.some.inj e
   exact d w' (by rw[← q'];exact hocd)
theorem store_ok {M:Model}{A:Around}{E:Value→Shared→Prop}{i:Nat}{x:Str}{v:V}{u:Value}{Q:Unit→Shared→Prop} (I:Inv X pins σ H s) (hN:X.N.Nodup) (hi:X.N[i]? = some x) (hx:Loc X.env.scope x) (r:aY v u)
  (h:∀ s',Inv X pins (σ.set i (some v)) H s'→Q () s') (hf:X.fn x=true∨X.env.scope.names.lookup x=some .local:=by first | exact .inl rfl | exact .inr rfl | assumption):wpAny M A (storeName X.env x u) Q E s:=
 store_ok2 I hN hi hx r (fun s' I' _=>h s' I') hf
theorem Inv.call' {s':Shared}{ch:List Addr} (I:Inv X pins σ H s) (ho:s'.os=s.os) (u:Un (frs X.stack) ch H H' s.heap s'.heap) (hok:HOk X.prog X.w H' s'.heap) (hg:AllBare s'.gens)
  (hch:∀ b∈ch,(b∈X.ex∨X.s₀.heap.objs.size≤b)∧b≠X.env.locals∧(∀ x c,X.env.cells.lookup x=some c→c≠b)∧∀ p∈X.pn++pins,p.1≠b):Inv X pins σ H' s':=by
 obtain⟨h',g',d',t',o'⟩:=s'
 have e:o'=s.os:=ho
 subst e
 exact I.call (g':=g') (t':=t') (d':=d') u hok hg hch
end
noncomputable abbrev XK:=Value→Option Addr→Hp→Prop
noncomputable abbrev St:=List (Option V)
noncomputable abbrev VK:=V→Hp→Prop
noncomputable abbrev TE:=St→Hp→VK→Prop
noncomputable abbrev TT:=St→Hp→(Bool→Hp→Prop)→Prop
noncomputable abbrev TA:=St→Hp→(List V→Hp→Prop)→Prop
structure Ends where
 nx:St→Hp→Prop
 rt:VK
 bk:St→Hp→Prop:=fun _ _=>False
 ct:St→Hp→Prop:=fun _ _=>False
noncomputable abbrev TS:=Ends→St→Hp→Prop
noncomputable def EP (X:Cx) (pins:List (Addr×Obj)) (σ:St) (Q:VK) (u:Value) (s':Shared):Prop:=∃ v H',Inv X pins σ H' s'∧aY v u∧Q v H'
noncomputable def TP (X:Cx) (pins:List (Addr×Obj)) (σ:St) (Q:Bool→Hp→Prop) (b:Bool) (s':Shared):Prop:=∃ H',Inv X pins σ H' s'∧Q b H'
noncomputable def AP (X:Cx) (pins:List (Addr×Obj)) (σ:St) (Q:List V→Hp→Prop) (us:List Value) (s':Shared):Prop:=∃ vs H',Inv X pins σ H' s'∧bE vs us∧Q vs H'
noncomputable def SP (X:Cx) (pins:List (Addr×Obj)) (D:Ends) (f:Flow) (s':Shared):Prop:=
 match f with
 | .next=>∃ σ' H',Inv X pins σ' H' s'∧D.nx σ' H'
 | .brk=>∃ σ' H',Inv X pins σ' H' s'∧D.bk σ' H'
 | .cont=>∃ σ' H',Inv X pins σ' H' s'∧D.ct σ' H'
 | .ret u=>∃ v σ' H',Inv X pins σ' H' s'∧aY v u∧D.rt v H'
noncomputable def PE (X:Cx) (e:Expr) (t:TE):Prop:=
 ∀ (pins:List (Addr×Obj)) (s:Shared) (σ:St) (H:Hp) (Q:VK),Inv X pins σ H s→t σ H Q→wpAny (model X.prog X.w) X.A (eval e X.env) (EP X pins σ Q) X.xe s
noncomputable def PT (X:Cx) (e:Expr) (t:TT):Prop:=
 ∀ (pins:List (Addr×Obj)) (s:Shared) (σ:St) (H:Hp) (Q:Bool→Hp→Prop),Inv X pins σ H s→t σ H Q→wpAny (model X.prog X.w) X.A (isTrue e X.env (eval e X.env)) (TP X pins σ Q) X.xe s
noncomputable def PW (X:Cx) (e:Expr) (t:TT):Prop:=
 ∀ (whole:Sem Value) (pins:List (Addr×Obj)) (s:Shared) (σ:St) (H:Hp) (Q:Bool→Hp→Prop),Inv X pins σ H s→t σ H Q→wpAny (model X.prog X.w) X.A (isTrue e X.env whole) (TP X pins σ Q) X.xe s
theorem PW.pt {X:Cx}{e:Expr}{t:TT} (h:PW X e t):PT X e t:=h _
noncomputable def PA (X:Cx) (es:List Expr) (t:TA):Prop:=
 ∀ (pos:Pos) (pins:List (Addr×Obj)) (s:Shared) (σ:St) (H:Hp) (Q:List V→Hp→Prop),Inv X pins σ H s→t σ H Q→wpAny (model X.prog X.w) X.A (spliced (backTo pos (starEach es X.env))) (AP X pins σ Q) X.xe s
noncomputable def PS (X:Cx) (st:Stmt) (t:TS):Prop:=
 ∀ (pins:List (Addr×Obj)) (s:Shared) (σ:St) (H:Hp) (D:Ends),Inv X pins σ H s→t D σ H→wpAny (model X.prog X.w) X.A (exec st X.env) (SP X pins D) X.xe s
noncomputable def PSs (X:Cx) (st:List Stmt) (t:TS):Prop:=
 ∀ (pins:List (Addr×Obj)) (s:Shared) (σ:St) (H:Hp) (D:Ends),Inv X pins σ H s→t D σ H→wpAny (model X.prog X.w) X.A (execs st X.env) (SP X pins D) X.xe s
theorem cH {α:Type}{t:Sem α}{Q Q':α→Shared→Prop}{M:Model}{A:Around}{E:Value→Shared→Prop}{s:Shared} (h:wpAny M A t Q E s) (hQ:∀ a s,Q a s→Q' a s):wpAny M A t Q' E s:=wpAny_mono h hQ fun _ _ x=>x
end L2
namespace L2
open PySem PySem.Spec PyProof.Rows
section
variable {X:Cx}
noncomputable def cP (i:Nat):TE:=fun σ H Q=>∃ v,σ[i]? = some (some v)∧Q v H
noncomputable def tC (v:V):TE:=fun _ H Q=>Q v H
theorem pe_var {i:Nat}{x:Str}{pos:Pos} (hN:X.N[i]? = some x) (hv:Vis X.env.scope x) (hd:(x == ("__debug__" : Str))=false:=by decide) (hcd:(x == ("__classdict__" : Str))=false:=by decide):PE X (.Name x pos) (cP i):=by
 intro pins s σ H Q I h
 obtain⟨v,e,h⟩:=h
 obtain⟨m,hn,hl⟩:=I.loc
 obtain⟨u,r,l⟩:=hl i x v hN e hv
 have fin:EP X pins σ Q u s:=⟨v,H,I,r,h⟩
 rcases l with ⟨hk,hm⟩ | ⟨hk,c,hc,hcell⟩
 ·exact wpAny_Name (wpAny_loadName_local I.ok.kind hk hn hm fin) hd
 ·rcases hk with hk | hk
  ·exact wpAny_Name (wpAny_loadName_cell I.ok.kind hk hc hcell fin) hd
  ·exact wpAny_Name (wpAny_loadName_free I.ok.kind hk hc hcell fin hcd) hd
theorem aI {i j pos}:PE X (.Constant (.int i) j pos) (tC (.int i)):=fun _ _ _ H _ I h=>wpAny_Constant_int ⟨.int i,H,I.tok _,⟨_,rfl⟩,h⟩
theorem pe_bl {b j pos}:PE X (.Constant (.bool b) j pos) (tC (.bl b)):=fun _ _ _ H _ I h=>Constant_bool ⟨.bl b,H,I,rfl,h⟩
theorem pe_non {j pos}:PE X (.Constant .none j pos) (tC .non):=fun _ _ _ H _ I h=>Constant_none ⟨.non,H,I,rfl,h⟩
theorem pe_str {x j pos}:PE X (.Constant (.str x) j pos) (tC (.str x)):=fun _ _ _ H _ I h=>Calls.Constant_str ⟨.str x,H,I.tok _,⟨_,rfl⟩,h⟩
noncomputable def Gl (X:Cx) (x:Str):Prop:=X.env.kindOf x=some .globalImplicit
theorem ld_glob {E:Value→Shared→Prop}{pins:List (Addr×Obj)}{s:Shared}{σ:St}{H:Hp}{x:Str}{u:Value}{pos:Pos}{Q:Value→Shared→Prop} (I:Inv X pins σ H s) (hg:Gl X x) (hm:X.mg x=some u) (h:Q u s)
  (hd:(x == ("__debug__" : Str))=false:=by decide):wpAny (model X.prog X.w) X.A (eval (.Name x pos) X.env) Q E s:=
 Calls.Name_function_global I.ok.kind hg (Calls.loadGlobal_global (by rw[I.ok.glob];exact I.mod.glob.keeps I.bk) hm h) hd
theorem ld_blt {E:Value→Shared→Prop}{pins:List (Addr×Obj)}{s:Shared}{σ:St}{H:Hp}{x:Str}{u:Value}{pos:Pos}{Q:Value→Shared→Prop} (I:Inv X pins σ H s) (hg:Gl X x) (hm:X.mg x=none) (hv:bootBuiltins x=some u) (h:Q u s)
  (hn:x ≠ "__name__" := by decide) (hd:(x == ("__debug__" : Str))=false:=by decide):wpAny (model X.prog X.w) X.A (eval (.Name x pos) X.env) Q E s:=by
 obtain⟨mb,h1,h2⟩:=I.mod.blt
 exact Calls.Name_function_global I.ok.kind hg (Calls.loadGlobal_builtin (by rw[I.ok.glob];exact I.mod.glob.keeps I.bk) hm (by rw[I.ok.blt];exact h1.keeps I.bk) ((h2 x hn).trans hv) h) hd
theorem pe_glob {x:Str}{v:V}{u:Value}{pos:Pos} (hg:Gl X x) (hm:X.mg x=some u) (r:aY v u) (hd:(x == ("__debug__" : Str))=false:=by decide):PE X (.Name x pos) (tC v):=
 fun _ _ _ H _ I h=>ld_glob I hg hm ⟨v,H,I,r,h⟩ hd
theorem pe_bltn {x:Str}{v:V}{u:Value}{pos:Pos} (hg:Gl X x) (hm:X.mg x=none) (hv:bootBuiltins x=some u) (r:aY v u) (hn:x ≠ "__name__" := by decide) (hd:(x == ("__debug__" : Str))=false:=by decide):PE X (.Name x pos) (tC v):=
 fun _ _ _ H _ I h=>ld_blt I hg hm hv ⟨v,H,I,r,h⟩ hn hd
variable {a b:Expr}{ta tb:TE}{pos:Pos}
noncomputable def PC (X:Cx) (op:CmpOp) (a b:Expr) (t:TE):Prop:=
 ∀ (pins:List (Addr×Obj)) (s:Shared) (σ:St) (H:Hp) (Q:VK),Inv X pins σ H s→t σ H Q→
  wpAny (model X.prog X.w) X.A (eval a X.env) (fun v s₁=>wpAny (model X.prog X.w) X.A (eval b X.env) (fun u s₂=>wpAny (model X.prog X.w) X.A (compareOp op v u) (EP X pins σ Q) X.xe s₂) X.xe s₁) X.xe s
noncomputable def tB (t:TE):TT:=fun σ H Q=>t σ H fun x H1=>∃ c,x=.bl c∧Q c H1
theorem pt_cmp {op:CmpOp}{t:TE} (h:PC X op a b t) (h1:behindInMarks op b=false:=by first | exact nobehind _ (by decide) (by decide) | rfl):PT X (.Compare a [op] [b] pos) (tB t):=by
 intro pins s σ H Q I hw
 refine wpAny_isTrue_Compare1 (cH (h pins s σ H _ I hw) fun v s1 h1=>cH h1 fun u s2 h2=>cH h2 fun c s3 ⟨x,H1,I1,r1,q1⟩=>?_) h1
 obtain⟨d,rfl,q⟩:=q1
 cases r1
 exact wpAny_truthy_bool ⟨H1,I1,q⟩
theorem d6 {e:Expr}{t:TE} (h:PE X e t) (he:∀ whole,isTrue e X.env whole=(do let v ← whole;standAt e.pos;holding [v] (truthy v)):=by intro _;rfl):PT X e (tB t):=by
 intro pins s σ H Q I hw
 refine isTrue_plain (cH (h pins s σ H _ I hw) fun v s1 ⟨x,H1,I1,r1,q1⟩=>?_) (he _)
 obtain⟨d,rfl,q⟩:=q1
 cases r1
 exact wpAny_truthy_bool ⟨H1,I1,q⟩
variable {tA tB':TT}{rest:List Expr}
noncomputable def tAnd (t u:TT):TT:=fun σ H Q=>t σ H fun c H1=>if c=true then u σ H1 Q else Q false H1
noncomputable def tOr (t u:TT):TT:=fun σ H Q=>t σ H fun c H1=>if c=true then Q true H1 else u σ H1 Q
noncomputable def tNot (t:TT):TT:=fun σ H Q=>t σ H fun c H1=>Q (!c) H1
theorem pw_and1 (ha:PT X a tA):PW X (.BoolOp .And [a] pos) tA:=by
 intro wh pins s σ H Q I h
 refine isTrue_and (cH (ha pins s σ H Q I h) fun c s1 e=>?_)
 cases c with
 | true=>exact isTrue_and_nil e
 | false=>exact e
theorem pw_or1 (ha:PT X a tA):PW X (.BoolOp .Or [a] pos) tA:=by
 intro wh pins s σ H Q I h
 refine isTrue_or (cH (ha pins s σ H Q I h) fun c s1 e=>?_)
 cases c with
 | false=>exact isTrue_or_nil e
 | true=>exact e
theorem pw_and (ha:PT X a tA) (hb:PW X (.BoolOp .And (b::rest) pos) tB'):PW X (.BoolOp .And (a::b::rest) pos) (tAnd tA tB'):=by
 intro wh pins s σ H Q I h
 refine isTrue_and (cH (ha pins s σ H _ I h) fun c s1 ⟨H1,I1,q1⟩=>?_)
 cases c with
 | true=>exact hb wh pins s1 σ H1 Q I1 q1
 | false=>exact⟨H1,I1,q1⟩
theorem pw_or (ha:PT X a tA) (hb:PW X (.BoolOp .Or (b::rest) pos) tB'):PW X (.BoolOp .Or (a::b::rest) pos) (tOr tA tB'):=by
 intro wh pins s σ H Q I h
 refine isTrue_or (cH (ha pins s σ H _ I h) fun c s1 ⟨H1,I1,q1⟩=>?_)
 cases c with
 | true=>exact⟨H1,I1,q1⟩
 | false=>exact hb wh pins s1 σ H1 Q I1 q1
theorem eB (ha:PT X a tA):PT X (.UnaryOp .Not a pos) (tNot tA):=by
 intro pins s σ H Q I h
 exact isTrue_not (ha pins s σ H (fun c H1=>Q (!c) H1) I h)
noncomputable def tAndV (ta tb:TE):TE:=fun σ H Q=>ta σ H fun x H1=>∃ c,x=.bl c∧if c=true then tb σ H1 Q else Q (.bl false) H1
noncomputable def tOrV (ta tb:TE):TE:=fun σ H Q=>ta σ H fun x H1=>∃ c,x=.bl c∧if c=true then Q (.bl true) H1 else tb σ H1 Q
noncomputable def tNotV (ta:TE):TE:=fun σ H Q=>ta σ H fun x H1=>∃ c,x=.bl c∧Q (.bl (!c)) H1
theorem pe_one {op}{t:TE} (h:PE X a t):PE X (.BoolOp op [a] pos) t:=fun pins s σ H Q I hw=>BoolOp_one (h pins s σ H Q I hw)
theorem pe_and (ha:PE X a ta) (hb:PE X (.BoolOp .And (b::rest) pos) tb):PE X (.BoolOp .And (a::b::rest) pos) (tAndV ta tb):=by
 intro pins s σ H Q I h
 refine BoolOp_and (cH (ha pins s σ H _ I h) fun v s1 ⟨x,H1,I1,r1,q1⟩=>?_)
 obtain⟨c,rfl,q1⟩:=q1
 cases r1
 refine wpAny_truthy_bool ?_
 cases c with
 | true=>exact hb pins s1 σ H1 Q I1 q1
 | false=>exact⟨.bl false,H1,I1,rfl,q1⟩
theorem pe_or (ha:PE X a ta) (hb:PE X (.BoolOp .Or (b::rest) pos) tb):PE X (.BoolOp .Or (a::b::rest) pos) (tOrV ta tb):=by
 intro pins s σ H Q I h
 refine BoolOp_or (cH (ha pins s σ H _ I h) fun v s1 ⟨x,H1,I1,r1,q1⟩=>?_)
 obtain⟨c,rfl,q1⟩:=q1
 cases r1
 refine wpAny_truthy_bool ?_
 cases c with
 | false=>exact hb pins s1 σ H1 Q I1 q1
 | true=>exact⟨.bl true,H1,I1,rfl,q1⟩
theorem pe_not (ha:PE X a ta):PE X (.UnaryOp .Not a pos) (tNotV ta):=by
 intro pins s σ H Q I h
 refine UnaryOp_ (cH (ha pins s σ H _ I h) fun v s1 ⟨x,H1,I1,r1,q1⟩=>?_)
 obtain⟨c,rfl,q1⟩:=q1
 cases r1
 exact not_of (wpAny_truthy_bool ⟨.bl (!c),H1,I1,rfl,q1⟩)
end
end L2
namespace L2
open PySem PySem.Spec PyProof.Rows
noncomputable def cE (K:PySem.W.Frag) (H:Hp) (a:Addr) (xs:List V):Prop:=
 Rd H a (.lst xs)∨
  ∃ (o:Obj) (its:Array Value) (n:Nat),K.lookup a=some o∧o.cls=.type "list" ∧ o.dict=none∧o.data=.seq its n∧its.size≤sizeLine∧bE xs its.toList
noncomputable def bH (K:PySem.W.Frag) (H:Hp) (a:Addr) (xs:List V):Prop:=
 Rd H a (.tup xs)∨
  ∃ (o:Obj) (its:Array Value) (n:Nat),K.lookup a=some o∧o.cls=.type "tuple" ∧ o.data=.seq its n∧its.size≤sizeLine∧bE xs its.toList
noncomputable def absV:Value→Option V
 | .none=>some .non
 | .bool b=>some (.bl b)
 | .int i _=>some (.int i)
 | .str x _=>some (.str x)
 | .bytes b _=>some (.byt b)
 | .float b _=>some (.flt b)
 | .ref a=>some (.ref a)
 | .type n=>some (.ty n)
 | _=>none
theorem aY.abs {x:V}{u:Value} (r:aY x u):absV u=some x:=by
 cases x with
 | non=>cases r;rfl
 | bl _=>cases r;rfl
 | int _=>obtain⟨t,rfl⟩:=r;rfl
 | str _=>obtain⟨t,rfl⟩:=r;rfl
 | byt _=>obtain⟨t,rfl⟩:=r;rfl
 | flt _=>obtain⟨t,rfl⟩:=r;rfl
 | ref _=>cases r;rfl
 | ty _=>cases r;rfl
theorem aY.inj {x y:V}{u:Value} (r:aY x u) (q:aY y u):x=y:=Option.some.inj (r.abs.symm.trans q.abs)
theorem bE.inj:∀ {xs ys:List V}{us:List Value},bE xs us→bE ys us→xs=ys
 | _,_,_,.nil,.nil=>rfl
 | _,_,_,.cons r t,.cons r' t'=>by rw[r.inj r',bE.inj t t']
section
variable {X:Cx}{pins:List (Addr×Obj)}{σ:St}{H:Hp}{s:Shared}{a:Addr}{xs ys:List V}
theorem cE.of {K:PySem.W.Frag} (h:H a=some (.lst xs)):cE K H a xs:=.inl (.inl h)
theorem bH.of {K:PySem.W.Frag} (h:H a=some (.tup xs)):bH K H a xs:=.inl (.inl h)
theorem Inv.list (I:Inv X pins σ H s) (h:cE X.K H a xs):∃ its:List Value,bE xs its∧PlainL s.heap a its.toArray∧xs.length≤sizeLine:=by
 rcases h with h | ⟨o,its,n,hk,hc,hd,hs,hz,r⟩
 ·obtain⟨z,its,n,r,e⟩:=h.ok I.hok
  exact⟨its,r,⟨_,n,e,rfl,rfl,rfl⟩,z⟩
 ·refine⟨its.toList,r,⟨o,n,I.kIn a o hk,hc,hd,by simpa using hs⟩,?_⟩
  have e:=r.length
  simp only [Array.length_toList] at e
  omega
theorem Inv.tuple (I:Inv X pins σ H s) (h:bH X.K H a xs):∃ its:List Value,bE xs its∧IsTup s.heap a its.toArray∧xs.length≤sizeLine:=by
 rcases h with h | ⟨o,its,n,hk,hc,hs,hz,r⟩
 ·obtain⟨z,its,r,p⟩:=h.ok I.hok
  exact⟨its,r,p,z⟩
 ·refine⟨its.toList,r,⟨o,I.kIn a o hk,hc,n,by simpa using hs⟩,?_⟩
  have e:=r.length
  simp only [Array.length_toList] at e
  omega
theorem Inv.list_inj (I:Inv X pins σ H s) (h:cE X.K H a xs) (h':cE X.K H a ys):xs=ys:=by
 obtain⟨its,r,⟨o,n,e,_,_,d⟩,_⟩:=I.list h
 obtain⟨its',r',⟨o',n',e',_,_,d'⟩,_⟩:=I.list h'
 rw[e] at e';cases e'
 rw[d] at d'
 injection d' with d1 _
 have:its=its':=by simpa using congrArg Array.toList d1
 subst this
 exact r.inj r'
theorem Inv.tuple_inj (I:Inv X pins σ H s) (h:bH X.K H a xs) (h':bH X.K H a ys):xs=ys:=by
 obtain⟨its,r,⟨o,e,_,n,d⟩,_⟩:=I.tuple h
 obtain⟨its',r',⟨o',e',_,n',d'⟩,_⟩:=I.tuple h'
 rw[e] at e';cases e'
 rw[d] at d'
 injection d' with d1 _
 have:its=its':=by simpa using congrArg Array.toList d1
 subst this
 exact r.inj r'
end
noncomputable abbrev Cx.wish (X:Cx) (E:Value→Shared→Prop):Cx:={ X with xe:=E }
noncomputable abbrev Cx.nox (X:Cx):Cx:=X.wish fun _ _=>False
theorem Cx.Ok.wish {X:Cx} (ok:X.Ok) (E:Value→Shared→Prop):(X.wish E).Ok:=
 ⟨ok.mod,ok.kind,ok.glob,ok.blt,ok.above,ok.inj,ok.has,ok.cab,ok.hd,ok.frames,ok.stk,ok.exf,ok.bs,ok.bsz,ok.noex,ok.exfs,ok.funs,ok.frf⟩
theorem Cx.Ok.unwish {X:Cx}{E:Value→Shared→Prop} (ok:(X.wish E).Ok):X.Ok:=
 ⟨ok.mod,ok.kind,ok.glob,ok.blt,ok.above,ok.inj,ok.has,ok.cab,ok.hd,ok.frames,ok.stk,ok.exf,ok.bs,ok.bsz,ok.noex,ok.exfs,ok.funs,ok.frf⟩
section
variable {X:Cx}{pins:List (Addr×Obj)}{σ:St}{H:Hp}{s:Shared}{E:Value→Shared→Prop}
theorem Inv.wish (I:Inv X pins σ H s) (E:Value→Shared→Prop):Inv (X.wish E) pins σ H s:=⟨I.ok.wish E,I.os,I.bare,I.base,I.loc,I.cell,I.free,I.freeC,I.pin,I.hok,I.len⟩
theorem Inv.unwish (I:Inv (X.wish E) pins σ H s):Inv X pins σ H s:=⟨I.ok.unwish,I.os,I.bare,I.base,I.loc,I.cell,I.free,I.freeC,I.pin,I.hok,I.len⟩
theorem SP.unwish {D:Ends}{f:Flow}{s':Shared} (h:SP (X.wish E) pins D f s'):SP X pins D f s':=by
 cases f with
 | next=>obtain⟨σ',H',I,q⟩:=h;exact⟨σ',H',I.unwish,q⟩
 | brk=>obtain⟨σ',H',I,q⟩:=h;exact⟨σ',H',I.unwish,q⟩
 | cont=>obtain⟨σ',H',I,q⟩:=h;exact⟨σ',H',I.unwish,q⟩
 | ret u=>obtain⟨v,σ',H',I,r,q⟩:=h;exact⟨v,σ',H',I.unwish,r,q⟩
theorem PSs.nox {st:List Stmt}{t:TS} (h:PSs X.nox st t):PSs X st t:=fun pins s σ H D I hw=>
 wpAny_mono (h pins s σ H D (I.wish _) hw) (fun _ _ q=>q.unwish) fun _ _ z=>False.elim z
end
section
variable {X:Cx}{st:Stmt}{rest:List Stmt}{t u:TS}{e:Expr}{te:TE}{pos:Pos}
noncomputable def tNext:TS:=fun D σ H=>D.nx σ H
noncomputable def tSeq (t u:TS):TS:=fun D σ H=>t { D with nx:=u D } σ H
theorem bO:PSs X [] tNext:=fun _ _ σ H _ I h=>wpAny_execs_nil ⟨σ,H,I,h⟩
theorem aG (h1:PS X st t) (h2:PSs X rest u):PSs X (st::rest) (tSeq t u):=by
 intro pins s σ H D I h
 refine wpAny_execs_cons (cH (h1 pins s σ H { D with nx:=u D } I h) fun f s1 q=>?_)
 cases f with
 | next=>
  obtain⟨σ',H',I',q⟩:=q
  exact h2 pins s1 σ' H' D I' q
 | ret v=>exact q
 | brk=>exact q
 | cont=>exact q
theorem aL (h1:PS X st t):PSs X [st] t:=by
 intro pins s σ H D I h
 refine wpAny_execs_cons (cH (h1 pins s σ H D I h) fun f s1 q=>?_)
 cases f with
 | next=>exact wpAny_execs_nil q
 | ret v=>exact q
 | brk=>exact q
 | cont=>exact q
theorem Inv.quiet {pins:List (Addr×Obj)}{σ:St}{H:Hp}{s:Shared} (I:Inv X pins σ H s):interactive X.env=false:=by simp [interactive,I.ok.kind]
noncomputable def tDrop (te:TE):TS:=fun D σ H=>te σ H fun _ H1=>D.nx σ H1
theorem cA (he:PE X e te) (hs:swapsWith e none pos.line X.env=pure false:=by rfl):PS X (.Expr e pos) (tDrop te):=by
 intro pins s σ H D I h
 exact wpAny_Expr_any (cH (he pins s σ H _ I h) fun v s1 ⟨x,H1,I1,r1,q1⟩=>⟨σ,H1,I1,q1⟩) I.quiet hs
noncomputable def tRet (te:TE):TS:=fun D σ H=>te σ H D.rt
theorem b9 (he:PE X e te):PS X (.Return (some e) pos) (tRet te):=by
 intro pins s σ H D I h
 exact wpAny_Return_some (cH (he pins s σ H _ I h) fun v s1 ⟨x,H1,I1,r1,q1⟩=>⟨x,σ,H1,I1,r1,q1⟩)
noncomputable def tIfS (c:TT) (t u:TS):TS:=fun D σ H=>c σ H fun b H1=>if b=true then t D σ H1 else u D σ H1
theorem dD {c:Expr}{a b:List Stmt}{tc:TT} (hc:PT X c tc) (ha:PSs X a t) (hb:PSs X b u):PS X (.If c a b pos) (tIfS tc t u):=by
 intro pins s σ H D I h
 refine wpAny_If (cH (hc pins s σ H _ I h) fun d s1 ⟨H1,I1,q1⟩=>?_)
 cases d with
 | true=>exact ha pins s1 σ H1 D I1 q1
 | false=>exact hb pins s1 σ H1 D I1 q1
end
noncomputable abbrev TG:=V→St→Hp→(St→Hp→Prop)→Prop
noncomputable abbrev TGs:=List V→St→Hp→(St→Hp→Prop)→Prop
noncomputable def PG (X:Cx) (target:Expr) (t:TG):Prop:=
 ∀ (pins:List (Addr×Obj)) (s:Shared) (σ:St) (H:Hp) (v:V) (u:Value) (Q:St→Hp→Prop),Inv X pins σ H s→aY v u→t v σ H Q→
  wpAny (model X.prog X.w) X.A (assign target X.env u) (fun _ s'=>∃ σ' H',Inv X pins σ' H' s'∧Q σ' H') X.xe s
noncomputable def PGs (X:Cx) (ts:List Expr) (t:TGs):Prop:=
 ∀ (pins:List (Addr×Obj)) (s:Shared) (σ:St) (H:Hp) (vs:List V) (us:List Value) (Q:St→Hp→Prop),Inv X pins σ H s→bE vs us→t vs σ H Q→
  wpAny (model X.prog X.w) X.A (assignInOrder ((assignEach ts X.env).map (·.2)) us) (fun _ s'=>∃ σ' H',Inv X pins σ' H' s'∧Q σ' H') X.xe s
noncomputable abbrev TSet:=V→V→V→Hp→(Hp→Prop)→Prop
noncomputable def PSet (X:Cx) (t:TSet):Prop:=
 ∀ (pins:List (Addr×Obj)) (s:Shared) (σ:St) (H:Hp) (o i v:V) (ov iv u:Value) (Q:Hp→Prop),Inv X pins σ H s→aY o ov→aY i iv→aY v u→t o i v H Q→
  wpAny (model X.prog X.w) X.A (setItem ov iv u) (fun _ s'=>∃ H',Inv X pins σ H' s'∧Q H') X.xe s
noncomputable abbrev TIp:=V→V→Hp→VK→Prop
noncomputable def PIp (X:Cx) (op:Operator) (t:TIp):Prop:=
 ∀ (pins:List (Addr×Obj)) (s:Shared) (σ:St) (H:Hp) (x y:V) (v u:Value) (Q:VK),Inv X pins σ H s→aY x v→aY y u→t x y H Q→
  wpAny (model X.prog X.w) X.A (inplaceOp op v u) (EP X pins σ Q) X.xe s
section
variable {X:Cx}{pos:Pos}
noncomputable def gName (i:Nat):TG:=fun v σ H Q=>Q (σ.set i (some v)) H
theorem aF {i:Nat}{x:Str} (hN:X.N.Nodup) (hi:X.N[i]? = some x) (hx:Loc X.env.scope x) (hf:X.fn x=true∨X.env.scope.names.lookup x=some .local:=by first | exact .inl rfl | exact .inr rfl | assumption):PG X (.Name x pos) (gName i):=by
 intro pins s σ H v u Q I r h
 exact wpAny_assign_Name (store_ok I hN hi hx r (fun s' I'=>⟨_,H,I',h⟩) hf)
noncomputable def gNil:TGs:=fun vs σ H Q=>vs=[]∧Q σ H
noncomputable def gCons (t:TG) (u:TGs):TGs:=fun vs σ H Q=>∃ v r,vs=v::r∧t v σ H fun σ' H'=>u r σ' H' Q
theorem aQ:PGs X [] gNil:=by
 intro pins s σ H vs us Q I r h
 obtain⟨e,h⟩:=h
 subst e
 cases r
 exact assignInOrder_nil ⟨σ,H,I,h⟩
theorem aE {e:Expr}{es:List Expr}{t:TG}{u:TGs} (h1:PG X e t) (h2:PGs X es u)
  (hs:(assignEach (e::es) X.env).map (·.2)=assign e X.env::(assignEach es X.env).map (·.2):=by rfl):PGs X (e::es) (gCons t u):=by
 intro pins s σ H vs us Q I r h
 obtain⟨v,vr,e1,h⟩:=h
 subst e1
 cases r with
 | cons r rr=>
  rw[hs]
  refine assignInOrder_cons (cH (h1 pins s σ H _ _ _ I r h) fun _ s1 ⟨σ1,H1,I1,q1⟩=>?_)
  exact h2 pins s1 σ1 H1 _ _ Q I1 rr q1
noncomputable def gTup (K:PySem.W.Frag) (n:Nat) (t:TGs):TG:=fun v σ H Q=>∃ a xs,v=.ref a∧bH K H a xs∧xs.length=n∧t xs σ H Q
theorem pg_tup {es:List Expr}{k:Nat}{t:TGs}{n:Nat} (hc:X.calm=true) (h:PGs X es t)
  (hn:(assignEach es X.env).length=n:=by rfl) (hst:(assignEach es X.env).findIdx? (·.1)=none:=by rfl):PG X (.Tuple es k pos) (gTup X.K n t):=by
 intro pins s σ H v u Q I r hw
 obtain⟨a,xs,e1,hq,hl,hw⟩:=hw
 subst e1
 cases r
 obtain⟨its,rv,ht,hz⟩:=I.tuple hq
 refine assign_Tuple_tuple (I.ok.hd hc) ht (by simp [hn,← hl,rv.length]) hst fun h' hx=>?_
 have I1:Inv X pins σ H { s with heap:=h' }:=I.kept (t':=s.toks) fun b o e=>hx b o (Nat.ne_of_lt (Heap.lt_size e)) e
 exact h pins _ σ H xs _ Q I1 (by simpa using rv) hw
noncomputable def gSub (to ti:TE) (t:TSet):TG:=fun v σ H Q=>to σ H fun o H1=>ti σ H1 fun i H2=>t o i v H2 fun H3=>Q σ H3
theorem pg_sub {o i:Expr}{to ti:TE}{t:TSet} (ho:PE X o to) (hi:PE X i ti) (hs:PSet X t)
  (ha:∀ v,assign (.Subscript o i pos) X.env v=(do
   let ov ← holding [v] (eval o X.env)
   let iv ← holding [v,ov] (eval i X.env)
   standAt pos
   holding [v,ov,iv] (setItem ov iv v)
   release [v,ov,iv] []):=by intro _;rfl):PG X (.Subscript o i pos) (gSub to ti t):=by
 intro pins s σ H v u Q I r h
 rw[ha]
 refine wpAny_bind (wpAny_holding (cH (ho pins s σ H _ I h) fun ov s1 ⟨x,H1,I1,r1,q1⟩=>?_))
 refine wpAny_bind (wpAny_holding (cH (hi pins s1 σ H1 _ I1 q1) fun iv s2 ⟨y,H2,I2,r2,q2⟩=>?_))
 refine wpAny_bind (wpAny_standAt (wpAny_bind (wpAny_holding (cH (hs pins s2 σ H2 x y v ov iv u _ I2 r1 r2 r q2) fun _ s3 ⟨H3,I3,q3⟩=>?_))))
 exact wpAny_release ⟨σ,H3,I3,q3⟩
noncomputable def tAsg (te:TE) (g:TG):TS:=fun D σ H=>te σ H fun x H1=>g x σ H1 D.nx
theorem bK {tg e:Expr}{te:TE}{g:TG} (he:PE X e te) (hg:PG X tg g) (hs:swapsWithSole [tg] e pos.line X.env=pure false:=by rfl) (hw:swappedStores [tg] e X.env=pure none:=by rfl)
  (h1:(assignEach [tg] X.env).map (·.2)=[assign tg X.env]:=by rfl):PS X (.Assign [tg] e pos) (tAsg te g):=by
 intro pins s σ H D I h
 refine wpAny_Assign_stores (cH (he pins s σ H _ I h) fun v s1 ⟨x,H1,I1,r1,q1⟩=>?_) hs hw
 rw[h1]
 exact cH (hg pins s1 σ H1 x v _ I1 r1 q1) fun _ s2 q=>q
theorem bD {i:Nat}{x:Str}{e:Expr}{te:TE}{pos':Pos} (hN:X.N.Nodup) (hi:X.N[i]? = some x) (hx:Loc X.env.scope x) (he:PE X e te) (hs:swapsWith e (some (.Name x pos')) pos.line X.env=pure false:=by rfl) (hf:X.fn x=true∨X.env.scope.names.lookup x=some .local:=by first | exact .inl rfl | exact .inr rfl | assumption) :
  PS X (.Assign [.Name x pos'] e pos) (tAsg te (gName i)):=by
 intro pins s σ H D I h
 refine wpAny_Assign_Name (cH (he pins s σ H _ I h) fun v s1 ⟨y,H1,I1,r1,q1⟩=>?_) hs
 exact store_ok I1 hN hi hx r1 (fun s2 I2=>⟨_,H1,I2,q1⟩) hf
noncomputable def tPar (i j:Nat) (ta:TA):TS:=fun D σ H=>ta σ H fun vs H1=>∃ v w,vs=[v,w]∧D.nx ((σ.set i (some v)).set j (some w)) H1
theorem ps_par {i j:Nat}{x y:Str}{a b:Expr}{ta:TA}{px py pt:Pos}{kt k2 pt2} (hc:X.calm=true) (hN:X.N.Nodup) (hi:X.N[i]? = some x) (hj:X.N[j]? = some y) (hij:i≠j)
  (hx:X.env.scope.names.lookup x=some .local) (hy:X.env.scope.names.lookup y=some .local) (ha:PA X [a,b] ta)
  (hw:swappedStores [.Tuple [.Name x px,.Name y py] kt pt] (.Tuple [a,b] k2 pt2) X.env=pure (some [x,y]))
  (hs:swapsWithSole [.Tuple [.Name x px,.Name y py] kt pt] (.Tuple [a,b] k2 pt2) pos.line X.env=pure false:=by rfl) :
  PS X (.Assign [.Tuple [.Name x px,.Name y py] kt pt] (.Tuple [a,b] k2 pt2) pos) (tPar i j ta):=by
 intro pins s σ H D I h
 rw[exec_Assign_arm]
 refine wpAny_bind (wpAny_standAt ?_)
 rw[hs]
 refine wpAny_bind (wpAny_pure ?_)
 rw[if_neg (by decide)]
 refine wpAny_bind (Tuple_ (cH (ha _ pins s σ H _ I h) fun us s1 ⟨vs,H1,I1,r1,q1⟩=>?_))
 obtain⟨v,w,e1,q1⟩:=q1
 subst e1
 obtain⟨u1,u2,rfl,rv,rw'⟩:∃ u1 u2,us=[u1,u2]∧aY v u1∧aY w u2:=by
  cases r1 with
  | cons p q=>
   cases q with
   | cons p' q'=>
    cases q'
    exact⟨_,_,rfl,p,p'⟩
 refine wpAny_newObj_type ?_ (by show 2≤sizeLine;decide)
 have I2:Inv X pins σ H1 { s1 with heap:=s1.heap.push { cls:=.type "tuple",data:=.seq [u1,u2].toArray } }:=I1.kept (t':=s1.toks) fun b o e=>Heap.get?_push_of_some _ e
 rw[hw]
 refine wpAny_bind (wpAny_pure ?_)
 show wpAny (model X.prog X.w) X.A (do rule "assign.swapped-stores";let items ← unpackItems (.ref s1.heap.objs.size) 2 none;assignInOrder [fun v=>bindName X.env y v,fun v=>bindName X.env x v] items.reverse;pure Flow.next) _ _ _
 refine wpAny_bind (wpAny_rule (wpAny_bind (unpackItems_tuple (items:=#[u1,u2]) (I.ok.hd hc) (IsTup.new s1.heap _) fun h' hx'=>?_)))
 have I3:=I2.kept (h':=h') (t':=s1.toks) fun b o e=>hx' b o (Nat.ne_of_lt (Heap.lt_size e)) e
 show wpAny _ _ (assignInOrder [fun v=>bindName X.env y v,fun v=>bindName X.env x v] [u2,u1] >>= fun _=>pure Flow.next) _ _ _
 refine wpAny_bind (assignInOrder_cons (wpAny_bindName (store_ok I3 hN hj (.inl hy) rw' (fun s2 I4=>?_) (.inr hy))))
 refine assignInOrder_cons (wpAny_bindName (store_ok I4 hN hi (.inl hx) rv (fun s3 I5=>assignInOrder_nil (wpAny_pure ?_)) (.inr hx)))
 rw[List.set_comm _ _ (Ne.symm hij)] at I5
 exact⟨_,H1,I5,q1⟩
noncomputable def tAug (i:Nat) (te:TE) (ti:TIp):TS:=fun D σ H=>∃ x,σ[i]? = some (some x)∧te σ H fun y H1=>ti x y H1 fun z H2=>D.nx (σ.set i (some z)) H2
theorem ps_aug {i:Nat}{x:Str}{e:Expr}{te:TE}{op:Operator}{ti:TIp}{pos':Pos} (hN:X.N.Nodup) (hi:X.N[i]? = some x) (hx:Loc X.env.scope x) (he:PE X e te) (ho:PIp X op ti) (hf:X.fn x=true∨X.env.scope.names.lookup x=some .local:=by first | exact .inl rfl | exact .inr rfl | assumption) :
  PS X (.AugAssign (.Name x pos') op e pos) (tAug i te ti):=by
 intro pins s σ H D I h
 obtain⟨v,e1,h⟩:=h
 obtain⟨m,hn,hl⟩:=I.loc
 have vis:Vis X.env.scope x:=by rcases hx with k | k;exact .inl k;exact .inr (.inl k)
 obtain⟨u,r,l⟩:=hl i x v hi e1 vis
 refine wpAny_AugAssign_Name ?_
 have go:wpAny (model X.prog X.w) X.A (eval e X.env) (fun w s₂=>wpAny (model X.prog X.w) X.A (inplaceOp op u w) (fun r s₃=>wpAny (model X.prog X.w) X.A (storeName X.env x r) (fun _=>SP X pins D .next) X.xe s₃) X.xe s₂) X.xe s:=by
  refine cH (he pins s σ H _ I h) fun w s1 ⟨y,H1,I1,r1,q1⟩=>?_
  refine cH (ho pins s1 σ H1 v y u w _ I1 r r1 q1) fun z s2 ⟨zv,H2,I2,r2,q2⟩=>?_
  exact store_ok I2 hN hi hx r2 (fun s3 I3=>⟨_,H2,I3,q2⟩) hf
 rcases l with ⟨hk,hm⟩ | ⟨hk,c,hc,hcell⟩
 ·exact wpAny_loadName_local I.ok.kind hk hn hm go
 ·rcases hk with hk | hk
  ·exact wpAny_loadName_cell I.ok.kind hk hc hcell go
  ·rcases hx with k | k
   ·have:X.env.scope.names.lookup x=some .free:=hk
    rw[k] at this;cases this
   ·have:X.env.scope.names.lookup x=some .free:=hk
    rw[k] at this;cases this
noncomputable def tAugS (to ti te:TE) (tget:V→V→Hp→VK→Prop) (tip:TIp) (tset:TSet):TS:=fun D σ H=>to σ H fun o H1=>ti σ H1 fun i H2=>tget o i H2 fun x H3=>te σ H3 fun y H4=>tip x y H4 fun z H5=>tset o i z H5 fun H6=>D.nx σ H6
noncomputable def PGet (X:Cx) (t:V→V→Hp→VK→Prop):Prop:=
 ∀ (pins:List (Addr×Obj)) (s:Shared) (σ:St) (H:Hp) (o i:V) (ov iv:Value) (Q:VK),Inv X pins σ H s→aY o ov→aY i iv→t o i H Q→
  wpAny (model X.prog X.w) X.A (getItem ov iv) (EP X pins σ Q) X.xe s
theorem ps_augS {o i e:Expr}{to ti te:TE}{tget:V→V→Hp→VK→Prop}{tip:TIp}{tset:TSet}{op:Operator}{tpos:Pos} (ho:PE X o to) (hi:PE X i ti) (hg:PGet X tget) (he:PE X e te) (hp:PIp X op tip) (hs:PSet X tset)
  (ha:∀ ov iv new,augStore i ov iv new=(do holding [new,ov,iv] (setItem ov iv new);release [new,ov,iv] [];pure .next):=by intros;rfl):PS X (.AugAssign (.Subscript o i tpos) op e pos) (tAugS to ti te tget tip tset):=by
 intro pins s σ H D I h
 refine wpAny_AugAssign_SubscriptAny (cH (ho pins s σ H _ I h) fun ov s1 ⟨x1,H1,I1,r1,q1⟩=>?_) ha
 refine cH (hi pins s1 σ H1 _ I1 q1) fun iv s2 ⟨x2,H2,I2,r2,q2⟩=>?_
 refine cH (hg pins s2 σ H2 x1 x2 ov iv _ I2 r1 r2 q2) fun old s3 ⟨x3,H3,I3,r3,q3⟩=>?_
 refine cH (he pins s3 σ H3 _ I3 q3) fun v s4 ⟨x4,H4,I4,r4,q4⟩=>?_
 refine cH (hp pins s4 σ H4 x3 x4 old v _ I4 r3 r4 q4) fun new s5 ⟨x5,H5,I5,r5,q5⟩=>?_
 exact cH (hs pins s5 σ H5 x1 x2 x5 ov iv new _ I5 r1 r2 r5 q5) fun _ s6 ⟨H6,I6,q6⟩=>⟨σ,H6,I6,q6⟩
noncomputable def ipI (f:Int→Int→Int):TIp:=fun x y H Q=>∃ i j,x=.int i∧y=.int j∧Q (.int (f i j)) H
theorem ip_add:PIp X .Add (ipI fun i j=>i+j):=by
 intro pins s σ H x y v u Q I r1 r2 h
 obtain⟨i,j,e1,e2,q⟩:=h
 subst e1;subst e2
 obtain⟨t,rfl⟩:=r1
 obtain⟨t',rfl⟩:=r2
 exact iadd_int ⟨.int _,H,I.tok _,⟨_,rfl⟩,q⟩
theorem ip_sub:PIp X .Sub (ipI fun i j=>i - j):=by
 intro pins s σ H x y v u Q I r1 r2 h
 obtain⟨i,j,e1,e2,q⟩:=h
 subst e1;subst e2
 obtain⟨t,rfl⟩:=r1
 obtain⟨t',rfl⟩:=r2
 exact isub_int ⟨.int _,H,I.tok _,⟨_,rfl⟩,q⟩
end
section
variable {X:Cx}{pos:Pos}
noncomputable def tWhile (c:TT) (tb:TS):TS:=fun D σ H=>∃ W:Nat→St→Hp→Prop,(∃ m,W m σ H)∧∀ m σ H,W m σ H→
 c σ H fun b H1=>if b=true then ∃ N:St→Hp→Prop,(∀ σ' H',N σ' H'→∃ m',m' < m∧W m' σ' H')∧tb { D with nx:=N,ct:=N,bk:=D.nx } σ H1 else D.nx σ H1
theorem ps_while {c:Expr}{body:List Stmt}{tc:TT}{tb:TS} (hp:PassesOwn (model X.prog X.w) X.A X.env X.xe) (hc:PT X c tc) (hb:PSs X body tb):PS X (.While c body [] pos) (tWhile tc tb):=by
 intro pins s σ H D I h
 obtain⟨W,⟨m0,w0⟩,turn⟩:=h
 refine wpAny_While (codeAny_whileLoop (fun n s'=>∃ σ' H',Inv X pins σ' H' s'∧W n σ' H') ?_ m0 ⟨σ,H,I,w0⟩)
 rintro n s1 ⟨σ1,H1,I1,w1⟩
 refine wpAny_passesOwn hp (cH (hc pins s1 σ1 H1 _ I1 (turn n σ1 H1 w1)) fun b s2 ⟨H2,I2,q2⟩=>?_)
 cases b with
 | true=>
  obtain⟨N,hN,q2⟩:=q2
  rw[if_pos rfl]
  refine wpAny_passesOwn hp (cH (hb pins s2 σ1 H2 _ I2 q2) fun f s3 q3=>?_)
  cases f with
  | next=>
   obtain⟨σ3,H3,I3,n3⟩:=q3
   obtain⟨m',hm,w3⟩:=hN σ3 H3 n3
   exact⟨m',hm,σ3,H3,I3,w3⟩
  | cont=>
   obtain⟨σ3,H3,I3,n3⟩:=q3
   obtain⟨m',hm,w3⟩:=hN σ3 H3 n3
   exact⟨m',hm,σ3,H3,I3,w3⟩
  | brk=>exact q3
  | ret v=>exact q3
 | false=>
  rw[if_neg Bool.false_ne_true]
  exact wpAny_execs_nil ⟨σ1,H2,I2,q2⟩
end
structure It where
 go:Nat→Hp→Prop
 yld:Nat→Hp→V→Hp→Prop
 stop:Nat→Hp→Prop
noncomputable def FpOk (X:Cx) (pins:List (Addr×Obj)) (H:Hp) (b:Addr):Prop:=
 H b=none∧b≠X.env.locals∧b∉X.fs∧(b∈X.ex∨X.s₀.heap.objs.size≤b)∧(∀ x c,X.env.cells.lookup x=some c→c≠b)∧∀ p∈X.pn++pins,p.1≠b
theorem Inv.fpOk {X:Cx}{pins:List (Addr×Obj)}{σ:St}{H H':Hp}{s:Shared}{b:Addr} (I:Inv X pins σ H s) (hb:s.heap.objs.size≤b) (hn:H' b=none):FpOk X pins H' b:=by
 refine⟨hn,Nat.ne_of_gt (Nat.lt_of_lt_of_le I.lt hb),I.nofs hb,.inr (Nat.le_trans I.sz hb),fun x c e z=>?_,fun p hp z=>?_⟩
 ·obtain⟨v,q⟩:=I.cell x c e
  exact absurd (Nat.lt_of_lt_of_le q.lt (by rw[z];exact hb)) (Nat.lt_irrefl _)
 ·exact absurd (Nat.lt_of_lt_of_le (Heap.lt_size (I.pin p hp).1) (by rw[z];exact hb)) (Nat.lt_irrefl _)
structure Turn (P:Program) (w:World) (K:PySem.W.Frag) (tg:Expr) (J:It) (fp:List Addr) (it:Addr) (tn:Nat→Heap→Prop):Prop where
 mem:it∈fp
 obj:∀ i h,tn i h→∀ b∈fp,∃ o,h.get? b=some o∧∀ v,o.data≠.cell v
 keep:∀ i h h',tn i h→(∀ b∈fp,∀ o,h.get? b=some o→h'.get? b=some o)→tn i h'
 item:∀ (X:Cx),X.prog=P→X.w=w→X.K=K→X.calm=true→∀ (i:Nat) (pins:List (Addr×Obj)) (s:Shared) (σ:St) (H:Hp) (E:Value→Shared→Prop),Inv X pins σ H s→(∀ b∈fp,FpOk X pins H b)→tn i s.heap→J.go i H→
  wpAny (model P w) X.A (pyNext (.ref it)) (fun r s1=>∃ u,r=some u∧
   wpAny (model P w) X.A (letOwnedTupleGo tg (.ref it) u) (fun _ s2=>∃ x H',Inv X pins σ H' s2∧aY x u∧J.yld i H x H'∧tn (i+1) s2.heap∧∀ b∈fp,H' b=none) E s1) E s
 done:∀ (X:Cx),X.prog=P→X.w=w→X.K=K→X.calm=true→∀ (i:Nat) (pins:List (Addr×Obj)) (s:Shared) (σ:St) (H:Hp) (E:Value→Shared→Prop),Inv X pins σ H s→(∀ b∈fp,FpOk X pins H b)→tn i s.heap→J.stop i H→
  wpAny (model P w) X.A (pyNext (.ref it)) (fun r s1=>r=none∧Inv X pins σ H s1) E s
 self:∀ (A:Around) (i:Nat) (s:Shared) (Q:Value→Shared→Prop) (E:Value→Shared→Prop),tn i s.heap→Q (.ref it) s→wpAny (model P w) A (pyIter (.ref it)) Q E s
noncomputable abbrev TI:=St→Hp→(It→Hp→Prop)→Prop
noncomputable def PIE (X:Cx) (pins:List (Addr×Obj)) (σ:St) (tg:Expr) (R:It→Hp→Prop) (itv:Value) (s2:Shared):Prop:=
 ∃ (it:Addr) (fp:List Addr) (tn:Nat→Heap→Prop) (J:It) (H':Hp),itv=.ref it∧Inv X pins σ H' s2∧Turn X.prog X.w X.K tg J fp it tn∧tn 0 s2.heap∧(∀ b∈fp,FpOk X pins H' b)∧R J H'
noncomputable def PI (X:Cx) (tg iter:Expr) (wi:TI):Prop:=
 ∀ (pins:List (Addr×Obj)) (s:Shared) (σ:St) (H:Hp) (R:It→Hp→Prop),Inv X pins σ H s→wi σ H R→
  wpAny (model X.prog X.w) X.A (eval iter X.env) (fun v s1=>wpAny (model X.prog X.w) X.A (pyIter v) (PIE X pins σ tg R) X.xe s1) X.xe s
theorem go_of {M:Model}{A:Around}{E:Value→Shared→Prop}{s:Shared}{tg:Expr}{it:Addr}{u:Value}{o:Obj}{n:String}{vs:Array Value}{Q:Unit→Shared→Prop} (ho:s.heap.get? it=some o) (hc:o.cls=.type n) (hd:o.data=.fields vs)
  (hn:["enumerate","zip","dict_itemiterator","dict_reverseitemiterator","odict_iterator","itertools.zip_longest","itertools.pairwise"].contains n=false) (hQ:Q () s):wpAny M A (letOwnedTupleGo tg (.ref it) u) Q E s:=by
 unfold letOwnedTupleGo
 cases tg <;> first
  | exact wpAny_pure hQ
  | (cases u <;> first
    | exact wpAny_pure hQ
    | (refine wpAny_bind (wpAny_load ho ?_)
       rw[hc,hd]
       show wpAny M A (if (["enumerate","zip","dict_itemiterator","dict_reverseitemiterator","odict_iterator","itertools.zip_longest","itertools.pairwise"].contains n && vs[0]? == some (rawInt _))=true then _ else _) Q E s
       rw[if_neg (by intro h;rw[hn,Bool.false_and] at h;cases h)]
       exact wpAny_pure hQ))
noncomputable def Itl (K:PySem.W.Frag) (a:Addr):It:=
 ⟨fun i H=>∃ xs x,cE K H a xs∧xs[i]? = some x,fun i H x H'=>H'=H∧∀ xs,cE K H a xs→xs[i]? = some x,fun i H=>∃ xs,cE K H a xs∧xs.length≤i⟩
noncomputable def Itt (K:PySem.W.Frag) (a:Addr):It:=
 ⟨fun i H=>∃ xs x,bH K H a xs∧xs[i]? = some x,fun i H x H'=>H'=H∧∀ xs,bH K H a xs→xs[i]? = some x,fun i H=>∃ xs,bH K H a xs∧xs.length≤i⟩
noncomputable def Itr (lo:Int) (n:Nat):It:=⟨fun i _=>i < n,fun i H x H'=>H'=H∧x=.int (lo+i),fun i _=>n≤i⟩
theorem turn_list {P:Program}{w:World}{K:PySem.W.Frag}{tg:Expr} (a it:Addr):Turn P w K tg (Itl K a) [it] it (fun i h=>h.IsListIter it a i) where
 mem:=by simp
 obj:=fun i h st b hb=>by
  have e:b=it:=by simpa using hb
  subst e
  obtain⟨o,e,c,d⟩:=st
  exact⟨o,e,fun v z=>by rw[d] at z;cases z⟩
 keep:=fun i h h' st k=>st.at fun o e=>k it (by simp) o e
 item:=by
  intro X hP hw hK hc i pins s σ H E I hf st hg
  subst hP hw hK
  obtain⟨xs,x,hq,hx⟩:=hg
  obtain⟨its,rv,p,hz⟩:=I.list hq
  obtain⟨u,hu,ru⟩:=rv.get hx
  obtain⟨f0,f1,f2,f3,f4,f5⟩:=hf it (by simp)
  refine wpAny_pyNext_list_item st p.isList (x:=u) (by simpa using hu) fun h' st' sb=>?_
  have I1:Inv X pins σ H { s with heap:=h' }:=I.turned (t':=s.toks) (fun b o hb e=>(sb.2 b hb).trans e) f0 f1 f3 f4 f5
  obtain⟨o,e,c,d⟩:=id st'
  exact⟨u,rfl,go_of (s:={ s with heap:=h' }) e c d (by decide) ⟨x,H,I1,ru,⟨rfl,fun ys hy=>by rw[I.list_inj hy hq];exact hx⟩,st',fun b hb=>(hf b hb).1⟩⟩
 done:=by
  intro X hP hw hK hc i pins s σ H E I hf st hg
  subst hP hw hK
  obtain⟨xs,hq,hx⟩:=hg
  obtain⟨its,rv,p,hz⟩:=I.list hq
  obtain⟨f0,f1,f2,f3,f4,f5⟩:=hf it (by simp)
  have hl:=rv.length
  exact wpAny_pyNext_list_end (I.ok.hd hc) st p.isList (by simp;omega) fun h' eb=>⟨rfl,I.turned (t':=s.toks) (fun b o hb e=>eb b o hb e) f0 f1 f3 f4 f5⟩
 self:=fun _ _ _ _ _ st h=>wpAny_pyIter_listiter st h
theorem turn_tuple {P:Program}{w:World}{K:PySem.W.Frag}{tg:Expr} (a it:Addr):Turn P w K tg (Itt K a) [it] it (fun i h=>h.IsTupleIter it a i) where
 mem:=by simp
 obj:=fun i h st b hb=>by
  have e:b=it:=by simpa using hb
  subst e
  obtain⟨o,e,c,d⟩:=st
  exact⟨o,e,fun v z=>by rw[d] at z;cases z⟩
 keep:=fun i h h' st k=>st.at fun o e=>k it (by simp) o e
 item:=by
  intro X hP hw hK hc i pins s σ H E I hf st hg
  subst hP hw hK
  obtain⟨xs,x,hq,hx⟩:=hg
  obtain⟨its,rv,p,hz⟩:=I.tuple hq
  obtain⟨u,hu,ru⟩:=rv.get hx
  obtain⟨f0,f1,f2,f3,f4,f5⟩:=hf it (by simp)
  refine wpAny_pyNext_tuple_item st (show s.heap.IsTuple a its.toArray from p) (x:=u) (by simpa using hu) fun h' st' sb=>?_
  have I1:Inv X pins σ H { s with heap:=h' }:=I.turned (t':=s.toks) (fun b o hb e=>(sb.2 b hb).trans e) f0 f1 f3 f4 f5
  obtain⟨o,e,c,d⟩:=id st'
  exact⟨u,rfl,go_of (s:={ s with heap:=h' }) e c d (by decide) ⟨x,H,I1,ru,⟨rfl,fun ys hy=>by rw[I.tuple_inj hy hq];exact hx⟩,st',fun b hb=>(hf b hb).1⟩⟩
 done:=by
  intro X hP hw hK hc i pins s σ H E I hf st hg
  subst hP hw hK
  obtain⟨xs,hq,hx⟩:=hg
  obtain⟨its,rv,p,hz⟩:=I.tuple hq
  obtain⟨f0,f1,f2,f3,f4,f5⟩:=hf it (by simp)
  have hl:=rv.length
  exact wpAny_pyNext_tuple_end (I.ok.hd hc) st (show s.heap.IsTuple a its.toArray from p) (by simp;omega) fun h' eb=>⟨rfl,I.turned (t':=s.toks) (fun b o hb e=>eb b o hb e) f0 f1 f3 f4 f5⟩
 self:=fun _ _ _ _ _ st h=>wpAny_pyIter_tupleiter st h
theorem turn_range {P:Program}{w:World}{K:PySem.W.Frag}{tg:Expr} (it:Addr) (lo:Int) (n:Nat):Turn P w K tg (Itr lo n) [it] it (fun i h=>IsRangeIter h it (lo+(i:Nat) * 1) ((n:Int) - (i:Nat)) 1) where
 mem:=by simp
 obj:=fun i h st b hb=>by
  have e:b=it:=by simpa using hb
  subst e
  exact⟨_,st,fun v z=>by
   have z':Data.fields _=Data.cell v:=z
   cases z'⟩
 keep:=fun i h h' st k=>k it (by simp) _ st
 item:=by
  intro X hP hw hK hc i pins s σ H E I hf st hg
  subst hP hw hK
  obtain⟨f0,f1,f2,f3,f4,f5⟩:=hf it (by simp)
  have W:=Walks.range (prog:=X.prog) (w:=X.w) (I.ok.hd hc) it lo 1 n
  refine W.item i s _ _ hg st fun v h' tk hv st' kk=>?_
  obtain⟨t,rfl⟩:=hv
  have I1:Inv X pins σ H { s with heap:=h',toks:=tk }:=I.turned (fun b o hb e=>kk b o (by simpa using hb) e) f0 f1 f3 f4 f5
  refine⟨_,rfl,go_of (s:={ s with heap:=h',toks:=tk }) (n := "range_iterator") st' rfl rfl (by decide) ⟨.int (lo+i),H,I1,⟨t,?_⟩,⟨rfl,rfl⟩,st',fun b hb=>(hf b hb).1⟩⟩
  rw[Int.mul_one]
 done:=by
  intro X hP hw hK hc i pins s σ H E I hf st hg
  subst hP hw hK
  obtain⟨f0,f1,f2,f3,f4,f5⟩:=hf it (by simp)
  exact wpAny_pyNext_range_end (I.ok.hd hc) st (by have:n≤i:=hg;omega) fun h' eb=>⟨rfl,I.turned (t':=s.toks) (fun b o hb e=>eb b o hb e) f0 f1 f3 f4 f5⟩
 self:=fun _ _ _ _ _ st h=>wpAny_pyIter_rangeiter st h
end L2
namespace L2
open PySem PySem.Spec PyProof.Rows
section
variable {X:Cx}{tg:Expr}
noncomputable def iList (K:PySem.W.Frag) (tl:TE):TI:=fun σ H R=>tl σ H fun x H1=>∃ a,x=.ref a∧(∃ xs,cE K H1 a xs)∧R (Itl K a) H1
noncomputable def iTup (K:PySem.W.Frag) (tl:TE):TI:=fun σ H R=>tl σ H fun x H1=>∃ a,x=.ref a∧(∃ xs,bH K H1 a xs)∧R (Itt K a) H1
theorem pi_list {l:Expr}{tl:TE} (hl:PE X l tl):PI X tg l (iList X.K tl):=by
 intro pins s σ H R I h
 refine cH (hl pins s σ H _ I h) fun v s1 ⟨x,H1,I1,r1,q1⟩=>?_
 obtain⟨a,e,⟨xs,hq⟩,q⟩:=q1
 subst e
 cases r1
 obtain⟨its,rv,p,hz⟩:=I1.list hq
 refine wpAny_pyIter_list p.isList ?_
 refine⟨s1.heap.objs.size,[s1.heap.objs.size],_,_,H1,rfl,I1.kept (t':=s1.toks) fun b o e=>Heap.get?_push_of_some _ e,turn_list a _,⟨_,Heap.get?_push_size _ rfl,rfl,rfl⟩,fun b hb=>?_,q⟩
 have e:b=s1.heap.objs.size:=by simpa using hb
 subst e
 exact I1.fpOk (Nat.le_refl _) (I1.hok.fresh (Nat.le_refl _))
theorem pi_tup {l:Expr}{tl:TE} (hl:PE X l tl):PI X tg l (iTup X.K tl):=by
 intro pins s σ H R I h
 refine cH (hl pins s σ H _ I h) fun v s1 ⟨x,H1,I1,r1,q1⟩=>?_
 obtain⟨a,e,⟨xs,hq⟩,q⟩:=q1
 subst e
 cases r1
 obtain⟨its,rv,p,hz⟩:=I1.tuple hq
 refine wpAny_pyIter_tuple (show s1.heap.IsTuple a its.toArray from p) ?_
 refine⟨s1.heap.objs.size,[s1.heap.objs.size],_,_,H1,rfl,I1.kept (t':=s1.toks) fun b o e=>Heap.get?_push_of_some _ e,turn_tuple a _,⟨_,Heap.get?_push_size _ rfl,rfl,rfl⟩,fun b hb=>?_,q⟩
 have e:b=s1.heap.objs.size:=by simpa using hb
 subst e
 exact I1.fpOk (Nat.le_refl _) (I1.hok.fresh (Nat.le_refl _))
theorem range_it {pins:List (Addr×Obj)}{σ:St}{H:Hp}{s:Shared}{R:It→Hp→Prop}{E:Value→Shared→Prop}{lo hi:Int}{t u v:Tok}{tk:Nat} (I:Inv X pins σ H s) (h1 : -(2 ^ 62)≤lo) (h2:lo < 2 ^ 62) (h3 : -(2 ^ 62)≤hi) (h4:hi < 2 ^ 62)
  (q:R (Itr lo (hi - lo).toNat) H):wpAny (model X.prog X.w) X.A (pyIter (.ref s.heap.objs.size)) (PIE X pins σ tg R) E { s with heap:=s.heap.push { cls:=.type "range",data:=.fields #[.int lo t,.int hi u,.int 1 v] },toks:=tk }:=by
 refine wpAny_pyIter_range (IsRange.new ..) (small_one h1 h2 h3 h4) ?_
 have I1:Inv X pins σ H { s with heap:=s.heap.push { cls:=.type "range",data:=.fields #[.int lo t,.int hi u,.int 1 v] },toks:=tk }:=I.kept fun b o e=>Heap.get?_push_of_some _ e
 refine⟨(s.heap.push { cls:=.type "range",data:=.fields #[.int lo t,.int hi u,.int 1 v] }).objs.size,[(s.heap.push { cls:=.type "range",data:=.fields #[.int lo t,.int hi u,.int 1 v] }).objs.size],_,_,H,rfl,
  I1.kept (t':=tk) fun b o e=>Heap.get?_push_of_some _ e,turn_range _ lo (hi - lo).toNat,?_,fun b hb=>?_,q⟩
 ·have e1:lo+((0:Nat):Int) * 1=lo:=by simp
  have e2:(((hi - lo).toNat:Nat):Int) - ((0:Nat):Int)=Builtin.Range.rangeSize lo hi 1:=by rw[rangeSize_one];split <;> omega
  show IsRangeIter _ _ (lo+((0:Nat):Int) * 1) ((((hi - lo).toNat:Nat):Int) - ((0:Nat):Int)) 1
  rw[e1,e2]
  exact Heap.get?_push_size _ rfl
 ·have e:b=(s.heap.push { cls:=.type "range",data:=.fields #[.int lo t,.int hi u,.int 1 v] }).objs.size:=by simpa using hb
  subst e
  exact I1.fpOk (Nat.le_refl _) (I1.hok.fresh (Nat.le_refl _))
noncomputable def iRng1 (ta:TA):TI:=fun σ H R=>ta σ H fun vs H1=>∃ j:Int,vs=[.int j]∧-(2 ^ 62)≤j∧j < 2 ^ 62∧R (Itr 0 j.toNat) H1
theorem eC {a:Expr}{ta:TA}{p pos:Pos} (hg:Gl X "range") (hm:X.mg "range" = none) (ha:PA X [a] ta) (hs:starEach [a] X.env=[(false,eval a X.env)]:=by rfl):PI X tg (.Call (.Name "range" p) [a] [] pos) (iRng1 ta):=by
 intro pins s σ H R I h
 refine Call_ (ld_blt I hg hm boot_range (PyProof.Rows.callWith_type1 (cH (ha pos pins s σ H _ I h) fun us s1 ⟨vs,H1,I1,r1,q1⟩=>?_) hs rfl))
 obtain⟨j,e,q1,q2,q⟩:=q1
 subst e
 cases r1 with
 | cons r rr=>
  cases rr
  obtain⟨t,rfl⟩:=r
  exact call_range_1 (range_it I1 (by omega) (by omega) q1 q2 (by simpa using q))
noncomputable def tFor (wi:TI) (g:TG) (tb:TS):TS:=fun D σ H=>wi σ H fun J H1=>∃ W:Nat→Nat→St→Hp→Prop,(∃ m,W 0 m σ H1)∧∀ i m σ H,W i m σ H→
 (J.stop i H∧D.nx σ H)∨(J.go i H∧∃ N:St→Hp→Prop,(∀ σ' H',N σ' H'→∃ m',m' < m∧W (i+1) m' σ' H')∧∀ x H',J.yld i H x H'→g x σ H' fun σ2 H2=>tb { D with nx:=N,ct:=N,bk:=D.nx } σ2 H2)
noncomputable def pinsAt (fp:List Addr) (h:Heap):List (Addr×Obj):=fp.filterMap fun b=>(h.get? b).map fun o=>(b,o)
theorem mem_pinsAt {fp:List Addr}{h:Heap}{b:Addr}{o:Obj} (hb:b∈fp) (e:h.get? b=some o):(b,o)∈pinsAt fp h:=List.mem_filterMap.mpr ⟨b,hb,by rw[e];rfl⟩
theorem of_pinsAt {fp:List Addr}{h:Heap}{p:Addr×Obj} (hp:p∈pinsAt fp h):p.1∈fp∧h.get? p.1=some p.2:=by
 obtain⟨b,hb,e⟩:=List.mem_filterMap.mp hp
 cases q:h.get? b with
 | none=>rw[q] at e;cases e
 | some o=>
  rw[q] at e
  have e':(b,o)=p:=Option.some.inj e
  subst e'
  exact⟨hb,q⟩
theorem Inv.pinned {pins:List (Addr×Obj)}{σ:St}{H:Hp}{s:Shared}{fp:List Addr} (I:Inv X pins σ H s) (hf:∀ b∈fp,FpOk X pins H b) (ho:∀ b∈fp,∃ o,s.heap.get? b=some o∧∀ v,o.data≠.cell v):Inv X (pins++pinsAt fp s.heap) σ H s:=
 I.pins_of fun p hp=>(List.mem_append.mp hp).elim (fun z=>I.pin p (List.mem_append_right _ z)) fun z=>by
  obtain⟨hb,e⟩:=of_pinsAt z
  obtain⟨f0,f1,f2,_⟩:=hf p.1 hb
  obtain⟨o,e',d⟩:=ho p.1 hb
  rw[e] at e';cases e'
  exact⟨e,f0,f1,f2,d⟩
theorem Inv.unpinned {pins pl:List (Addr×Obj)}{σ:St}{H:Hp}{s:Shared} (I:Inv X (pins++pl) σ H s):Inv X pins σ H s:=I.pins_of fun p hp=>I.pin p (List.mem_append_right _ (List.mem_append_left _ hp))
theorem dR {iter:Expr}{body:List Stmt}{wi:TI}{g:TG}{tb:TS}{pos:Pos} (hp:PassesOwn (model X.prog X.w) X.A X.env X.xe) (hc:X.calm=true) (hi:PI X tg iter wi) (hg:PG X tg g) (hb:PSs X body tb)
  (hs:∀ x,foldedSetIterable iter X.env x=pure x:=by intro _;rfl):PS X (.For tg iter body [] pos) (tFor wi g tb):=by
 intro pins s σ H D I h
 refine wpAny_For (cH (hi pins s σ H _ I h) fun v s1 h1=>cH h1 fun itv s2 h2=>?_) hs
 obtain⟨it,fp,tn,J,H2,e,I2,T,st2,f2,W,⟨m0,w0⟩,turn⟩:=h2
 subst e
 have stat:∀ {H':Hp},(∀ b∈fp,H' b=none)→∀ b∈fp,FpOk X pins H' b:=fun hn b hb=>⟨hn b hb,(f2 b hb).2⟩
 refine codeAny_forLoop_any (fun n s'=>∃ i σ' H',Inv X pins σ' H' s'∧tn i s'.heap∧(∀ b∈fp,H' b=none)∧W i n σ' H') ?_ m0 ⟨0,σ,H2,I2,st2,fun b hb=>(f2 b hb).1,w0⟩
 rintro n s3 ⟨i,σ3,H3,I3,st3,fr3,w3⟩
 rcases turn i n σ3 H3 w3 with ⟨stop,qn⟩ | ⟨go,N,hN,step⟩
 ·refine wpAny_passesOwn hp (cH (T.done X rfl rfl rfl hc i pins s3 σ3 H3 X.xe I3 (stat fr3) st3 stop) fun r s4 ⟨hr,I4⟩=>?_)
  subst hr
  exact wpAny_execs_nil ⟨σ3,H3,I4,qn⟩
 ·refine wpAny_passesOwn hp (cH (T.item X rfl rfl rfl hc i pins s3 σ3 H3 X.xe I3 (stat fr3) st3 go) fun r s4 ⟨u,hr,h4⟩=>?_)
  subst hr
  refine wpAny_passesOwn hp (cH h4 fun _ s5 ⟨x,H5,I5,r5,y5,st5,fr5⟩=>?_)
  have I5':=I5.pinned (stat fr5) (T.obj _ _ st5)
  refine wpAny_passesOwn hp (cH (hg _ s5 σ3 H5 x u _ I5' r5 (step x H5 y5)) fun _ s6 ⟨σ6,H6,I6,q6⟩=>?_)
  refine wpAny_passesOwn hp (cH (hb _ s6 σ6 H6 _ I6 q6) fun f s7 q7=>?_)
  have again:∀ {σ7:St}{H7:Hp},Inv X (pins++pinsAt fp s5.heap) σ7 H7 s7→N σ7 H7→∃ m,m < n∧∃ i σ' H',Inv X pins σ' H' s7∧tn i s7.heap∧(∀ b∈fp,H' b=none)∧W i m σ' H':=fun {σ7 H7} I7 n7=>by
   obtain⟨m',hm,w7⟩:=hN σ7 H7 n7
   refine⟨m',hm,i+1,σ7,H7,I7.unpinned,T.keep _ _ _ st5 fun b hb o e=>(I7.pin (b,o) (List.mem_append_right _ (List.mem_append_right _ (mem_pinsAt hb e)))).1,fun b hb=>?_,w7⟩
   obtain⟨o,e,d⟩:=T.obj _ _ st5 b hb
   exact (I7.pin (b,o) (List.mem_append_right _ (List.mem_append_right _ (mem_pinsAt hb e)))).2.1
  cases f with
  | next=>obtain⟨σ7,H7,I7,n7⟩:=q7;exact again I7 n7
  | cont=>obtain⟨σ7,H7,I7,n7⟩:=q7;exact again I7 n7
  | brk=>obtain⟨σ7,H7,I7,q7⟩:=q7;exact⟨σ7,H7,I7.unpinned,q7⟩
  | ret v=>obtain⟨x7,σ7,H7,I7,r7,q7⟩:=q7;exact⟨x7,σ7,H7,I7.unpinned,r7,q7⟩
end
theorem for_list {K:PySem.W.Frag}{a:Addr}{xs:List V}{g:TG}{tb:TS}{D:Ends}{σ:St}{H:Hp} (Pv:Nat→St→Hp→Prop) (h0:Pv 0 σ H) (hl:∀ i σ H,i≤xs.length→Pv i σ H→cE K H a xs)
  (hs:∀ i x σ H,xs[i]? = some x→Pv i σ H→g x σ H fun σ2 H2=>tb { D with nx:=Pv (i+1),ct:=Pv (i+1),bk:=D.nx } σ2 H2) (hd:∀ σ H,Pv xs.length σ H→D.nx σ H) :
  ∃ W:Nat→Nat→St→Hp→Prop,(∃ m,W 0 m σ H)∧∀ i m σ H,W i m σ H→
   ((Itl K a).stop i H∧D.nx σ H)∨((Itl K a).go i H∧∃ N:St→Hp→Prop,(∀ σ' H',N σ' H'→∃ m',m' < m∧W (i+1) m' σ' H')∧∀ x H',(Itl K a).yld i H x H'→g x σ H' fun σ2 H2=>tb { D with nx:=N,ct:=N,bk:=D.nx } σ2 H2):=by
 refine⟨fun i m σ H=>m=xs.length - i∧i≤xs.length∧Pv i σ H,⟨xs.length,by simp,Nat.zero_le _,h0⟩,?_⟩
 rintro i m σ H ⟨rfl,hi,p⟩
 have q:=hl i σ H hi p
 by_cases hlt:i < xs.length
 ·refine .inr ⟨⟨xs,xs[i],q,by simp [hlt]⟩,Pv (i+1),fun σ' H' p'=>⟨xs.length - (i+1),by omega,rfl,hlt,p'⟩,fun x H' y=>?_⟩
  obtain⟨e,y⟩:=y
  subst e
  exact hs i x σ _ (y xs q) p
 ·have e:i=xs.length:=by omega
  subst e
  exact .inl ⟨⟨xs,q,Nat.le_refl _⟩,hd σ H p⟩
theorem for_tup {K:PySem.W.Frag}{a:Addr}{xs:List V}{g:TG}{tb:TS}{D:Ends}{σ:St}{H:Hp} (Pv:Nat→St→Hp→Prop) (h0:Pv 0 σ H) (hl:∀ i σ H,i≤xs.length→Pv i σ H→bH K H a xs)
  (hs:∀ i x σ H,xs[i]? = some x→Pv i σ H→g x σ H fun σ2 H2=>tb { D with nx:=Pv (i+1),ct:=Pv (i+1),bk:=D.nx } σ2 H2) (hd:∀ σ H,Pv xs.length σ H→D.nx σ H) :
  ∃ W:Nat→Nat→St→Hp→Prop,(∃ m,W 0 m σ H)∧∀ i m σ H,W i m σ H→
   ((Itt K a).stop i H∧D.nx σ H)∨((Itt K a).go i H∧∃ N:St→Hp→Prop,(∀ σ' H',N σ' H'→∃ m',m' < m∧W (i+1) m' σ' H')∧∀ x H',(Itt K a).yld i H x H'→g x σ H' fun σ2 H2=>tb { D with nx:=N,ct:=N,bk:=D.nx } σ2 H2):=by
 refine⟨fun i m σ H=>m=xs.length - i∧i≤xs.length∧Pv i σ H,⟨xs.length,by simp,Nat.zero_le _,h0⟩,?_⟩
 rintro i m σ H ⟨rfl,hi,p⟩
 have q:=hl i σ H hi p
 by_cases hlt:i < xs.length
 ·refine .inr ⟨⟨xs,xs[i],q,by simp [hlt]⟩,Pv (i+1),fun σ' H' p'=>⟨xs.length - (i+1),by omega,rfl,hlt,p'⟩,fun x H' y=>?_⟩
  obtain⟨e,y⟩:=y
  subst e
  exact hs i x σ _ (y xs q) p
 ·have e:i=xs.length:=by omega
  subst e
  exact .inl ⟨⟨xs,q,Nat.le_refl _⟩,hd σ H p⟩
theorem for_range {lo:Int}{n:Nat}{g:TG}{tb:TS}{D:Ends}{σ:St}{H:Hp} (Pv:Nat→St→Hp→Prop) (h0:Pv 0 σ H)
  (hs:∀ i σ H,i < n→Pv i σ H→g (.int (lo+i)) σ H fun σ2 H2=>tb { D with nx:=Pv (i+1),ct:=Pv (i+1),bk:=D.nx } σ2 H2) (hd:∀ σ H,Pv n σ H→D.nx σ H) :
  ∃ W:Nat→Nat→St→Hp→Prop,(∃ m,W 0 m σ H)∧∀ i m σ H,W i m σ H→
   ((Itr lo n).stop i H∧D.nx σ H)∨((Itr lo n).go i H∧∃ N:St→Hp→Prop,(∀ σ' H',N σ' H'→∃ m',m' < m∧W (i+1) m' σ' H')∧∀ x H',(Itr lo n).yld i H x H'→g x σ H' fun σ2 H2=>tb { D with nx:=N,ct:=N,bk:=D.nx } σ2 H2):=by
 refine⟨fun i m σ H=>m=n - i∧i≤n∧Pv i σ H,⟨n,by simp,Nat.zero_le _,h0⟩,?_⟩
 rintro i m σ H ⟨rfl,hi,p⟩
 by_cases hlt:i < n
 ·refine .inr ⟨hlt,Pv (i+1),fun σ' H' p'=>⟨n - (i+1),by omega,rfl,hlt,p'⟩,fun x H' y=>?_⟩
  obtain⟨e,y⟩:=y
  subst e y
  exact hs i σ _ hlt p
 ·have e:i=n:=by omega
  subst e
  exact .inl ⟨Nat.le_refl _,hd σ H p⟩
end L2
namespace L2
open PySem PySem.Spec PyProof.Rows
noncomputable abbrev R2:=V→V→Hp→VK→Prop
noncomputable def OpR (X:Cx) (f:Value→Value→Sem Value) (r:R2):Prop:=
 ∀ (pins:List (Addr×Obj)) (s:Shared) (σ:St) (H:Hp) (x y:V) (v u:Value) (Q:VK),Inv X pins σ H s→aY x v→aY y u→r x y H Q→
  wpAny (model X.prog X.w) X.A (f v u) (EP X pins σ Q) X.xe s
noncomputable def UnR (X:Cx) (f:Value→Sem Value) (r:V→Hp→VK→Prop):Prop:=
 ∀ (pins:List (Addr×Obj)) (s:Shared) (σ:St) (H:Hp) (x:V) (v:Value) (Q:VK),Inv X pins σ H s→aY x v→r x H Q→
  wpAny (model X.prog X.w) X.A (f v) (EP X pins σ Q) X.xe s
noncomputable def eD (X:Cx) (f:Value) (r:List V→Hp→VK→Prop):Prop:=
 ∀ (pins:List (Addr×Obj)) (s:Shared) (σ:St) (H:Hp) (xs:List V) (us:List Value) (Q:VK),Inv X pins σ H s→bE xs us→r xs H Q→
  wpAny (model X.prog X.w) X.A (call f us) (EP X pins σ Q) X.xe s
noncomputable def tOp (r:R2) (ta tb:TE):TE:=fun σ H Q=>ta σ H fun x H1=>tb σ H1 fun y H2=>r x y H2 Q
noncomputable def tUn (r:V→Hp→VK→Prop) (ta:TE):TE:=fun σ H Q=>ta σ H fun x H1=>r x H1 Q
noncomputable def rI (C:Int→Int→Prop) (g:Int→Int→V):R2:=fun x y H Q=>∃ i j,x=.int i∧y=.int j∧C i j∧Q (g i j) H
noncomputable def rI0 (g:Int→Int→V):R2:=fun x y H Q=>∃ i j,x=.int i∧y=.int j∧Q (g i j) H
noncomputable def rU (g:Int→V):V→Hp→VK→Prop:=fun x H Q=>∃ i,x=.int i∧Q (g i) H
section
variable {X:Cx}{a b c:Expr}{ta tb tc:TE}{pos:Pos}
theorem binT (ha:PE X a ta) (hb:PE X b tb) {pins:List (Addr×Obj)}{s:Shared}{σ:St}{H:Hp}{R:V→V→Hp→Prop} (I:Inv X pins σ H s)
  (h:ta σ H fun x H1=>tb σ H1 fun y H2=>R x y H2) {Q:Value→Shared→Prop}{f:Value→Value→Sem Value}
  (hf:∀ v u s2 x y H2,Inv X pins σ H2 s2→aY x v→aY y u→R x y H2→wpAny (model X.prog X.w) X.A (f v u) Q X.xe s2) :
  wpAny (model X.prog X.w) X.A (eval a X.env) (fun v s₁=>wpAny (model X.prog X.w) X.A (eval b X.env) (fun u s₂=>wpAny (model X.prog X.w) X.A (f v u) Q X.xe s₂) X.xe s₁) X.xe s:=by
 refine cH (ha pins s σ H _ I h) fun v s1 ⟨x,H1,I1,r1,q1⟩=>?_
 refine cH (hb pins s1 σ H1 _ I1 q1) fun u s2 ⟨y,H2,I2,r2,q2⟩=>?_
 exact hf v u s2 x y H2 I2 r1 r2 q2
theorem bA {op:Operator}{r:R2} (ho:OpR X (binaryOp op) r) (ha:PE X a ta) (hb:PE X b tb):PE X (.BinOp a op b pos) (tOp r ta tb):=by
 intro pins s σ H Q I h
 exact wpAny_BinOp (binT ha hb I h fun v u s2 x y H2 I2 rx ry q=>ho pins s2 σ H2 x y v u Q I2 rx ry q)
theorem pe_un {op:UnaryOp}{r:V→Hp→VK→Prop} (ho:UnR X (unaryOp op) r) (ha:PE X a ta):PE X (.UnaryOp op a pos) (tUn r ta):=by
 intro pins s σ H Q I h
 exact UnaryOp_ (cH (ha pins s σ H _ I h) fun v s1 ⟨x,H1,I1,r1,q1⟩=>ho pins s1 σ H1 x v Q I1 r1 q1)
theorem opI {f:Value→Value→Sem Value}{C:Int→Int→Prop}{g:Int→Int→Int}
  (rule:∀ (i j:Int) (t u:Tok) (s:Shared) (Q:Value→Shared→Prop) (E:Value→Shared→Prop),C i j→Q (.int (g i j) s.toks) { s with toks:=s.toks+1 }→wpAny (model X.prog X.w) X.A (f (.int i t) (.int j u)) Q E s) :
  OpR X f (rI C fun i j=>.int (g i j)):=by
 intro pins s σ H x y v u Q I rx ry h
 obtain⟨i,j,rfl,rfl,hc,q⟩:=h
 obtain⟨t,rfl⟩:=rx
 obtain⟨t',rfl⟩:=ry
 exact rule i j t t' s _ _ hc ⟨.int (g i j),H,I.tok _,⟨_,rfl⟩,q⟩
theorem opI0 {f:Value→Value→Sem Value}{g:Int→Int→Int}
  (rule:∀ (i j:Int) (t u:Tok) (s:Shared) (Q:Value→Shared→Prop) (E:Value→Shared→Prop),Q (.int (g i j) s.toks) { s with toks:=s.toks+1 }→wpAny (model X.prog X.w) X.A (f (.int i t) (.int j u)) Q E s) :
  OpR X f (rI0 fun i j=>.int (g i j)):=by
 intro pins s σ H x y v u Q I rx ry h
 obtain⟨i,j,rfl,rfl,q⟩:=h
 obtain⟨t,rfl⟩:=rx
 obtain⟨t',rfl⟩:=ry
 exact rule i j t t' s _ _ ⟨.int (g i j),H,I.tok _,⟨_,rfl⟩,q⟩
theorem opB0 {f:Value→Value→Sem Value}{g:Int→Int→Bool}
  (rule:∀ (i j:Int) (t u:Tok) (s:Shared) (Q:Value→Shared→Prop) (E:Value→Shared→Prop),Q (.bool (g i j)) s→wpAny (model X.prog X.w) X.A (f (.int i t) (.int j u)) Q E s) :
  OpR X f (rI0 fun i j=>.bl (g i j)):=by
 intro pins s σ H x y v u Q I rx ry h
 obtain⟨i,j,rfl,rfl,q⟩:=h
 obtain⟨t,rfl⟩:=rx
 obtain⟨t',rfl⟩:=ry
 exact rule i j t t' s _ _ ⟨.bl (g i j),H,I,rfl,q⟩
noncomputable def CDiv (i j:Int):Prop:=0 < j∧j < 1073741824
noncomputable def CPow (i j:Int):Prop:=0≤j∧j≤1000000∧i.natAbs < 2 ^ 64
noncomputable def CMul (i j:Int):Prop:=(-(2 ^ 64) < i∧i < 2 ^ 64)∨(-(2 ^ 64) < j∧j < 2 ^ 64)
theorem CMul.ok {i j:Int} (h:CMul i j):IntMulOk i j:=by
 rcases h with ⟨h1,h2⟩ | ⟨h1,h2⟩
 ·exact .of_left (intBits_le_64 h1 h2)
 ·exact .of_right (intBits_le_64 h1 h2)
theorem d9:OpR X (binaryOp .Add) (rI0 fun i j=>.int (i+j)):=opI0 fun _ _ _ _ _ _ _ q=>add_int q
theorem op_sub:OpR X (binaryOp .Sub) (rI0 fun i j=>.int (i - j)):=opI0 fun _ _ _ _ _ _ _ q=>sub_int q
theorem op_mul:OpR X (binaryOp .Mult) (rI CMul fun i j=>.int (i * j)):=opI fun _ _ _ _ _ _ _ hc q=>mul_int q hc.ok
theorem op_fdiv:OpR X (binaryOp .FloorDiv) (rI CDiv fun i j=>.int (i / j)):=opI fun i j _ _ _ _ _ hc q=>by
 have h1:(0:Int) < j:=hc.1
 have h2:j < 1073741824:=hc.2
 exact floordiv_int (by omega) (by rw[Int.fdiv_eq_ediv_of_nonneg i (by omega)];exact q) (.inl (PyProof.noPylong_small (by omega)))
theorem op_mod:OpR X (binaryOp .Mod) (rI (fun _ j=>0 < j) fun i j=>.int (i % j)):=opI fun i j _ _ _ _ _ hc q=>by
 have h1:(0:Int) < j:=hc
 exact mod_int' (by omega) (by rw[Int.fmod_eq_emod_of_nonneg i (by omega)];exact q)
theorem op_pow:OpR X (binaryOp .Pow) (rI CPow fun i j=>.int (i ^ j.toNat)):=opI fun _ _ _ _ _ _ _ hc q=>pow_int_small hc.1 hc.2.1 hc.2.2 q
theorem unI {f:Value→Sem Value}{g:Int→Int}
  (rule:∀ (i:Int) (t:Tok) (s:Shared) (Q:Value→Shared→Prop) (E:Value→Shared→Prop),Q (.int (g i) s.toks) { s with toks:=s.toks+1 }→wpAny (model X.prog X.w) X.A (f (.int i t)) Q E s) :
  UnR X f (rU fun i=>.int (g i)):=by
 intro pins s σ H x v Q I rx h
 obtain⟨i,rfl,q⟩:=h
 obtain⟨t,rfl⟩:=rx
 exact rule i t s _ _ ⟨.int (g i),H,I.tok _,⟨_,rfl⟩,q⟩
theorem un_neg:UnR X (unaryOp .USub) (rU fun i=>.int (-i)):=unI fun _ _ _ _ _ q=>neg_int q
end
noncomputable def scal:V→V→Bool
 | .non,.non=>true | .non,.int _=>true | .int _,.non=>true | .non,.bl _=>true | .bl _,.non=>true | .non,.str _=>true | .str _,.non=>true
 | .int _,.int _=>true | .bl _,.bl _=>true | .str _,.str _=>true | .byt _,.byt _=>true
 | .int _,.str _=>true | .str _,.int _=>true | .bl _,.str _=>true | .str _,.bl _=>true
 | _,_=>false
noncomputable def rEq:R2:=fun x y H Q=>scal x y=true∧Q (.bl (decide (x=y))) H
theorem dec_int {i j:Int}:decide (V.int i=V.int j)=(i == j):=by
 rw[Bool.eq_iff_iff]
 simp
theorem dec_bl {i j:Bool}:decide (V.bl i=V.bl j)=(i == j):=by
 rw[Bool.eq_iff_iff]
 simp
theorem dec_str {i j:Str}:decide (V.str i=V.str j)=(i == j):=by
 rw[Bool.eq_iff_iff]
 simp
theorem dec_byt {i j:Array UInt8}:decide (V.byt i=V.byt j)=(i.toList == j.toList):=by
 rw[Bool.eq_iff_iff]
 cases i
 cases j
 simp
section
variable {X:Cx}{a b c:Expr}{ta tb tc:TE}{pos:Pos}
theorem dS {pins:List (Addr×Obj)}{σ:St}{H:Hp}{s:Shared}{Q:VK}{k k':Bool} (I:Inv X pins σ H s) (q:Q (.bl k) H) (e:k=k'):EP X pins σ Q (.bool k') s:=by
 subst e
 exact⟨.bl k,H,I,rfl,q⟩
theorem op_eq:OpR X (compareOp .Eq) rEq:=by
 intro pins s σ H x y v u Q I rx ry h
 obtain⟨hs,q⟩:=h
 cases x with
 | non=>
  cases rx
  cases y with
  | non=>cases ry;exact PySem.EqNone.eq_none_none (dS I q (by simp))
  | bl j=>cases ry;exact PySem.EqNone.eq_none_bool (dS I q (by simp))
  | int j=>obtain⟨t',rfl⟩:=ry;exact PySem.EqNone.eq_none_int (dS I q (by simp))
  | str j=>obtain⟨t',rfl⟩:=ry;exact PySem.EqNone.eq_none_str (dS I q (by simp))
  | _=>exact absurd (show false=true from hs) Bool.false_ne_true
 | bl i=>
  cases rx
  cases y with
  | non=>cases ry;exact PySem.EqNone.eq_bool_none (dS I q (by simp))
  | bl j=>cases ry;exact eq_bool (dS I q dec_bl)
  | str j=>obtain⟨t',rfl⟩:=ry;exact PySem.EqMixed.eq_bool_str (dS I q (by simp))
  | _=>exact absurd (show false=true from hs) Bool.false_ne_true
 | int i=>
  obtain⟨t,rfl⟩:=rx
  cases y with
  | non=>cases ry;exact PySem.EqNone.eq_int_none (dS I q (by simp))
  | int j=>obtain⟨t',rfl⟩:=ry;exact eq_int (dS I q dec_int)
  | str j=>obtain⟨t',rfl⟩:=ry;exact PySem.EqMixed.eq_int_str (dS I q (by simp))
  | _=>exact absurd (show false=true from hs) Bool.false_ne_true
 | str i=>
  obtain⟨t,rfl⟩:=rx
  cases y with
  | non=>cases ry;exact PySem.EqNone.eq_str_none (dS I q (by simp))
  | bl j=>cases ry;exact PySem.EqMixed.eq_str_bool (dS I q (by simp))
  | int j=>obtain⟨t',rfl⟩:=ry;exact PySem.EqMixed.eq_str_int (dS I q (by simp))
  | str j=>obtain⟨t',rfl⟩:=ry;exact eq_str (dS I q dec_str)
  | _=>exact absurd (show false=true from hs) Bool.false_ne_true
 | byt i=>
  obtain⟨t,rfl⟩:=rx
  cases y with
  | byt j=>obtain⟨t',rfl⟩:=ry;exact PySem.W.eq_bytes (dS I q dec_byt)
  | _=>exact absurd (show false=true from hs) Bool.false_ne_true
 | _=>cases y <;> exact absurd (show false=true from hs) Bool.false_ne_true
theorem op_lt:OpR X (compareOp .Lt) (rI0 fun i j=>.bl (decide (i < j))):=opB0 fun _ _ _ _ _ _ _ q=>lt_int q
theorem op_le:OpR X (compareOp .LtE) (rI0 fun i j=>.bl (decide (i≤j))):=opB0 fun _ _ _ _ _ _ _ q=>le_int q
theorem op_gt:OpR X (compareOp .Gt) (rI0 fun i j=>.bl (decide (j < i))):=opB0 fun _ _ _ _ _ _ _ q=>gt_int q
theorem op_ge:OpR X (compareOp .GtE) (rI0 fun i j=>.bl (decide (j≤i))):=opB0 fun _ _ _ _ _ _ _ q=>ge_int q
theorem op_isN:OpR X (compareOp .Is) (fun x y H Q=>y=.non∧Q (.bl (decide (x=.non))) H):=by
 intro pins s σ H x y v u Q I rx ry h
 obtain⟨rfl,q⟩:=h
 cases ry
 refine is_none_gen (dS I q ?_)
 cases x <;> first
  | (cases rx;rfl)
  | (obtain⟨t,rfl⟩:=rx;rfl)
theorem dA (b:Expr) {op:CmpOp} (h:op≠.In:=by decide) (h2:op≠.NotIn:=by decide):behindInMarks op b=false:=by
 have e1:(op == CmpOp.In)=false:=by cases op <;> first | rfl | exact absurd rfl h
 have e2:(op == CmpOp.NotIn)=false:=by cases op <;> first | rfl | exact absurd rfl h2
 cases b <;> simp [behindInMarks,e1,e2]
theorem pe_cmpR {op:CmpOp}{r:R2} (ho:OpR X (compareOp op) r) (ha:PE X a ta) (hb:PE X b tb) (hm:behindInMarks op b=false):PE X (.Compare a [op] [b] pos) (tOp r ta tb):=by
 intro pins s σ H Q I h
 exact wpAny_Compare1 (binT ha hb I h fun v u s2 x y H2 I2 rx ry q=>ho pins s2 σ H2 x y v u Q I2 rx ry q) hm
noncomputable def tTest (t:TE):TT:=fun σ H Q=>t σ H fun x H'=>∃ k,x=.bl k∧Q k H'
theorem d7 {op:CmpOp}{r:R2} (ho:OpR X (compareOp op) r) (ha:PE X a ta) (hb:PE X b tb) (hm:behindInMarks op b=false):PT X (.Compare a [op] [b] pos) (tTest (tOp r ta tb)):=by
 intro pins s σ H Q I h
 refine wpAny_isTrue_Compare1 (cH (ha pins s σ H _ I h) fun v s1 ⟨x,H1,I1,r1,q1⟩=>cH (hb pins s1 σ H1 _ I1 q1) fun u s2 ⟨y,H2,I2,r2,q2⟩=>
  cH (ho pins s2 σ H2 x y v u _ I2 r1 r2 q2) fun c s3 ⟨z,H3,I3,r3,k,e,q3⟩=>?_) hm
 subst e
 cases r3
 exact wpAny_truthy_bool ⟨H3,I3,q3⟩
noncomputable def tChain (r r':R2) (ta tb tc:TE):TE:=fun σ H Q=>ta σ H fun x H1=>tb σ H1 fun y H2=>r x y H2 fun z H3=>∃ k,z=.bl k∧
 (if k=true then tc σ H3 fun w' H4=>r' y w' H4 Q else Q (.bl false) H3)
theorem pe_chain {op op':CmpOp}{r r':R2} (ho:OpR X (compareOp op) r) (ho':OpR X (compareOp op') r') (ha:PE X a ta) (hb:PE X b tb) (hc:PE X c tc)
  (hm:lastMarks [op,op'] [b,c]=false:=by with_unfolding_all rfl):PE X (.Compare a [op,op'] [b,c] pos) (tChain r r' ta tb tc):=by
 intro pins s σ H Q I h
 refine Compare_chain (cH (ha pins s σ H _ I h) fun v s1 ⟨x,H1,I1,r1,q1⟩=>chain_link (cH (hb pins s1 σ H1 _ I1 q1) fun u s2 ⟨y,H2,I2,r2,q2⟩=>
  cH (ho pins s2 σ H2 x y v u _ I2 r1 r2 q2) fun d s3 ⟨z,H3,I3,r3,k,e,q3⟩=>?_)) hm
 subst e
 cases r3
 refine wpAny_truthy_bool ?_
 cases k with
 | false=>exact ite_ff ⟨.bl false,H3,I3,rfl,q3⟩
 | true=>exact ite_tt (chain_last (cH (hc pins s3 σ H3 _ I3 q3) fun w' s4 ⟨z',H4,I4,r4,q4⟩=>ho' pins s4 σ H4 y z' u w' Q I4 r2 r4 q4))
theorem line63:(sizeLine:Nat) < 2 ^ 63:=by rw[sizeLine_eq];decide
theorem vals1 {x:V}{us:List Value} (r:bE [x] us):∃ u,us=[u]∧aY x u:=by
 cases r with
 | cons r1 r2=>cases r2;exact⟨_,rfl,r1⟩
theorem vals2 {x y:V}{us:List Value} (r:bE [x,y] us):∃ u w',us=[u,w']∧aY x u∧aY y w':=by
 cases r with
 | cons r1 r2=>
  cases r2 with
  | cons r3 r4=>cases r4;exact⟨_,_,rfl,r1,r3⟩
theorem call_max2 (hc:X.calm=true):eD X (.builtin "max") (fun xs H Q=>∃ i j,xs=[.int i,.int j]∧Q (.int (if j > i then j else i)) H):=by
 intro pins s σ H xs us Q I r h
 obtain⟨i,j,rfl,q⟩:=h
 obtain⟨u,w',rfl,⟨t,rfl⟩,⟨t',rfl⟩⟩:=vals2 r
 refine max_two_ints (I.ok.hd hc) fun h' tk k=>⟨_,H,I.kept k,?_,q⟩
 by_cases hj:j > i
 ·rw[if_pos hj,if_pos hj];exact⟨_,rfl⟩
 ·rw[if_neg hj,if_neg hj];exact⟨_,rfl⟩
theorem call_int1:eD X (.type "int") (fun xs H Q=>(∃ i,xs=[.int i]∧Q (.int i) H)∨∃ k,xs=[.bl k]∧Q (.int (if k then 1 else 0)) H):=by
 intro pins s σ H xs us Q I r h
 rcases h with ⟨i,rfl,q⟩ | ⟨k,rfl,q⟩
 ·obtain⟨u,rfl,t,rfl⟩:=vals1 r
  exact call_int_int ⟨.int i,H,I,⟨_,rfl⟩,q⟩
 ·obtain⟨u,rfl,r1⟩:=vals1 r
  cases r1
  exact call_int_bool ⟨.int (if k then 1 else 0),H,I.tok _,⟨_,rfl⟩,q⟩
end
end L2
namespace L2
open PySem PySem.Spec PyProof.Rows
structure ObjM (h:Heap) (x dx C:Addr) (mA:Str→Option Value):Prop where
 obj:h.get? x=some (PySem.W.instObj C dx)
 ns:h.Ns1 dx mA
 ne:dx≠x
theorem lookIn_ns {h:Heap}{dx:Addr}{mA:Str→Option Value} (n:h.Ns1 dx mA):∃ od,h.get? dx=some od∧∀ name,PySem.W.lookIn name od=some (mA name):=by
 obtain⟨o,es,ep,ho,hd,hk,_,hm⟩:=n
 refine⟨o,ho,fun name=>?_⟩
 have e:=hm name
 unfold nsFind findBy at e
 rw[← Array.find?_toList] at e
 unfold PySem.W.lookIn
 rw[hd]
 dsimp only
 split
 ·rename_i y q
  rw[q] at e
  exact congrArg some e
 ·rename_i q
  rw[q] at e
  have a:es.toList.any (·.refKey)=false:=by
   rw[List.any_eq_false]
   intro y hy
   obtain⟨z,t,hkey⟩:=hk y (Array.mem_toList_iff.mp hy)
   simp [DictEntry.refKey,hkey]
  have a':¬ es.toList.any (·.refKey)=true:=by rw[a];exact Bool.false_ne_true
  rw[if_neg a']
  exact congrArg some e
theorem ObjM.look {h:Heap}{x dx C:Addr}{mA:Str→Option Value} (I:ObjM h x dx C mA):∃ od,PySem.W.InstAt h x (PySem.W.instObj C dx) C (some od)∧∀ name,PySem.W.lookIn name od=some (mA name):=
 let ⟨od,ho,hl⟩:=lookIn_ns I.ns
 ⟨od,⟨I.obj,rfl,rfl,ho⟩,hl⟩
section
variable {prog:Program}{w:World}{A:Around}{E:Value→Shared→Prop}{s:Shared}{K:PySem.W.Frag}{x dx C f:Addr}{mA:Str→Option Value}{name:Str}{v:Value}
theorem get_map {expr:Bool}{Q:Value→Shared→Prop} (X:K.In s.heap) (I:ObjM s.heap x dx C mA) (hg:PySem.W.plainGet K C name=true) (hh:PySem.W.hasDictIn K C=true)
  (ha:PySem.W.findIn K (.ref C) name=some none) (hv:mA name=some v) (hv':PySem.W.handedIn v=true) (h:Q v { s with toks:=s.toks+1 }) :
  wpAny (model prog w) A (getAttr (.ref x) name expr) Q E s:=by
 obtain⟨od,J,hl⟩:=I.look
 exact PySem.W.get_value X J (PySem.W.plainGet_of hg).1 (PySem.W.findObj_own hh ha rfl (by rw[hl,hv])) hv' h
theorem get_meth {pl:Sem Bool}{Q:Value×List Value→Shared→Prop} (X:K.In s.heap) (I:ObjM s.heap x dx C mA) (hg:PySem.W.plainGet K C name=true)
  (hf:PySem.W.findIn K (.ref C) name=some (some (.ref f))) (ht:PySem.W.isFn K (.ref f)=true) (hv:mA name=none) (h:Q (.ref f,[.ref x]) s) :
  wpAny (model prog w) A (getMethod (.ref x) name pl) Q E s:=by
 obtain⟨od,J,hl⟩:=I.look
 exact PySem.W.method_fn X J (PySem.W.plainGet_of hg).1 (PySem.W.plainGet_of hg).2 hf (beq_iff_eq.mp ht) (by show (PySem.W.lookIn name od).map (·.isSome)=some false;rw[hl,hv];rfl) h
theorem set_map {ns:List Str}{Q:Unit→Shared→Prop} (X:K.In s.heap) (I:ObjM s.heap x dx C mA)
  (hs:PySem.W.findIn K (.ref C) "__setattr__" = some (some (.builtin "object.__setattr__"))) (hp:PySem.W.plainOver K C=true) (ht:PySem.W.takerIn K C name=some none) (hh:PySem.W.hasDictIn K C=true)
  (hw:PySem.Within mA ns) (hsz:ns.length≤sizeLine)
  (h:∀ h',ObjM h' x dx C (fun y=>if y=name then some v else mA y)→Heap.SameBut dx s.heap h'→Q () { s with heap:=h',toks:=s.toks+2 }) :
  wpAny (model prog w) A (setAttr (.ref x) name v) Q E s:=by
 obtain⟨od,J,hl⟩:=I.look
 refine PySem.W.set_plain X J hs (PySem.W.osa_open (s:={ s with toks:=s.toks+1 }) (r:=none) X J hp ht fun b=>?_)
 obtain⟨cd,hc,hd'⟩:=PySem.W.any_some hh
 have hx:s.heap.get? x=some ⟨.ref C,some dx,.plain,#[]⟩:=I.obj
 refine wpAny_bind (wpAny_pure (wpAny_bind (wpAny_bind (wpAny_loadPart hx (wpAny_bind (PySem.W.Looks.here (s:={ s with toks:=s.toks+1 }) (PySem.W.looks_clsIn X hc) ?_))))))
 rw[hd']
 refine wpAny_pure (a:=some dx) (wpAny_bind (wpAny_pure (wpAny_bind ?_)))
 refine wpAny_nsSet1 (s:={ s with toks:=s.toks+1 }) I.ns fun h' hn2 hs2=>?_
 obtain⟨oD,esD,epD,hoD,hdD,hcD⟩:=hn2.count (PySem.Within.cons name v hw)
 refine wpAny_bind (wpAny_lookBehind hoD (by rw[hdD];exact pastItsLine_dict (Nat.le_trans hcD (by rw[List.length_cons];omega))) ?_)
 exact wpAny_pure (h _ ⟨(hs2.2 _ (Ne.symm I.ne)).trans I.obj,hn2,I.ne⟩ hs2)
theorem make_map {R:Result→Shared→Prop}{vs:List Value}{kw:List (Str×Value)} (X:K.In s.heap) (hm:PySem.W.makesIn K C=true)
  (hi:PySem.W.findIn K (.ref C) "__init__" = some (some (.ref f))) (hf:PySem.W.typeIn K (.ref f)=some (.type "function"))
  (h:codeAny (model prog w) (A.under (.builtin "type.__call__" ⟨.ref C::vs,kw⟩)) (.call (.ref f) ⟨.ref (s.heap.objs.size+1)::vs,kw⟩) (PySem.W.InitBack (s.heap.objs.size+1) R)
   { s with heap:=(s.heap.push PySem.W.emptyDict).push (PySem.W.instObj C s.heap.objs.size) }) :
  codeAny (model prog w) A (.call (.ref C) ⟨vs,kw⟩) R s:=by
 obtain⟨hh,g,d,t,os⟩:=s
 exact PySem.W.make_core (PySem.W.makes_of X hm) (PySem.W.looks_findIn X hi) (fun self=>PySem.W.bind_fn X self hf) (.inl rfl) h
end
noncomputable def bS (f:Str) (v:V):List (Str×V)→List (Str×V)
 | []=>[(f,v)]
 | (g,x)::r=>if g=f then (g,v)::r else (g,x)::bS f v r
theorem lookup_putF (f g:Str) (v:V):∀ fs:List (Str×V),(bS f v fs).lookup g=if g=f then some v else fs.lookup g
 | []=>by
  show List.lookup g [(f,v)]=_
  by_cases h:g=f
  ·have hb:(g == f)=true:=beq_iff_eq.mpr h
   simp only [List.lookup,hb,if_pos h]
  ·have hb:(g == f)=false:=beq_eq_false_iff_ne.mpr h
   simp only [List.lookup,hb,if_neg h]
 | (k,x)::r=>by
  have ih:=lookup_putF f g v r
  rw[show bS f v ((k,x)::r)=(if k=f then (k,v)::r else (k,x)::bS f v r) from rfl]
  by_cases hk:k=f
  ·rw[if_pos hk]
   by_cases h:g=k
   ·have hb:(g == k)=true:=beq_iff_eq.mpr h
    simp only [List.lookup,hb,if_pos (h.trans hk)]
   ·have hb:(g == k)=false:=beq_eq_false_iff_ne.mpr h
    simp only [List.lookup,hb,if_neg (fun e:g=f=>h (e.trans hk.symm))]
  ·rw[if_neg hk]
   by_cases h:g=k
   ·have hb:(g == k)=true:=beq_iff_eq.mpr h
    simp only [List.lookup,hb,if_neg (fun e:g=f=>hk (h.symm.trans e))]
   ·have hb:(g == k)=false:=beq_eq_false_iff_ne.mpr h
    simp only [List.lookup,hb]
    exact ih
theorem keys_putF (f:Str) (v:V):∀ fs:List (Str×V),f∈(bS f v fs).map (·.1)∧∀ g,g∈fs.map (·.1)→g∈(bS f v fs).map (·.1)
 | []=>⟨by simp [bS],fun g h=>by simp at h⟩
 | (k,x)::r=>by
  obtain⟨i1,i2⟩:=keys_putF f v r
  rw[show bS f v ((k,x)::r)=(if k=f then (k,v)::r else (k,x)::bS f v r) from rfl]
  by_cases hk:k=f
  ·rw[if_pos hk]
   subst hk
   exact⟨by simp,fun g h=>by simpa using h⟩
  ·rw[if_neg hk]
   refine⟨?_,fun g h=>?_⟩
   ·rw[List.map_cons]
    exact List.mem_cons_of_mem _ i1
   ·rw[List.map_cons] at h ⊢
    rcases List.mem_cons.mp h with e | e
    ·exact List.mem_cons.mpr (.inl e)
    ·exact List.mem_cons_of_mem _ (i2 g e)
theorem length_putF (f:Str) (v:V):∀ fs:List (Str×V),(bS f v fs).length≤fs.length+1
 | []=>by simp [bS]
 | (k,x)::r=>by
  have ih:=length_putF f v r
  rw[show bS f v ((k,x)::r)=(if k=f then (k,v)::r else (k,x)::bS f v r) from rfl]
  by_cases hk:k=f
  ·rw[if_pos hk,List.length_cons,List.length_cons];omega
  ·rw[if_neg hk,List.length_cons,List.length_cons];omega
theorem RelO.some_of {v:V}{o:Option Value} (r:RelO (some v) o):∃ u,o=some u∧aY v u:=by
 cases o with
 | none=>exact (show False from r).elim
 | some u=>exact⟨u,rfl,r⟩
theorem RelO.none_of {o:Option Value} (r:RelO none o):o=none:=by
 cases o with
 | none=>rfl
 | some u=>exact (show False from r).elim
theorem handed_of {v:V}{u:Value} (r:aY v u):PySem.W.handedIn u=true:=by
 cases v with
 | non=>cases (show u=Value.none from r);rfl
 | bl b=>cases (show u=Value.bool b from r);rfl
 | int i=>obtain⟨t,e⟩:=(show ∃ t,u=Value.int i t from r);cases e;rfl
 | str x=>obtain⟨t,e⟩:=(show ∃ t,u=Value.str x t from r);cases e;rfl
 | byt b=>obtain⟨t,e⟩:=(show ∃ t,u=Value.bytes b t from r);cases e;rfl
 | flt b=>obtain⟨t,e⟩:=(show ∃ t,u=Value.float b t from r);cases e;rfl
 | ref a=>cases (show u=Value.ref a from r);rfl
 | ty n=>cases (show u=Value.type n from r);rfl
section
variable {P:Program}{w:World}{H H':Hp}{h h':Heap}{a C dx:Addr}{fs fs':List (Str×V)}
theorem ins_get (hok:HOk P w H h) (e:H a=some (.ins C dx fs)):∃ mA,ObjM h a dx C mA∧(∀ f,RelO (fs.lookup f) (mA f))∧PySem.Within mA (fs.map (·.1))∧fs.length≤1000∧H dx=some (.own a):=by
 obtain⟨d,z,ne,ob,mA,n,r,q⟩:=(show cN P w H h a (.ins C dx fs) from hok a _ e)
 exact⟨mA,⟨ob,n,ne⟩,r,q,z,d⟩
end
structure Cls (K:PySem.W.Frag) (C:Addr):Prop where
 pg:PySem.W.plainGet K C Str.empty=true
 hd:PySem.W.hasDictIn K C=true
 po:PySem.W.plainOver K C=true
 sa:PySem.W.findIn K (.ref C) "__setattr__" = some (some (.builtin "object.__setattr__"))
theorem Cls.get {K:PySem.W.Frag}{C:Addr} (c:Cls K C) (f:Str):PySem.W.plainGet K C f=true:=c.pg
noncomputable def NoAttr (K:PySem.W.Frag) (C:Addr) (f:Str):Prop:=PySem.W.findIn K (.ref C) f=some none
theorem NoAttr.taker {K:PySem.W.Frag}{C:Addr}{f:Str} (n:NoAttr K C f):PySem.W.takerIn K C f=some none:=by
 unfold PySem.W.takerIn
 rw[show PySem.W.findIn K (.ref C) f=some none from n]
 rfl
structure Meth (K:PySem.W.Frag) (C:Addr) (m:Str) (f:Addr):Prop where
 at_:PySem.W.findIn K (.ref C) m=some (some (.ref f))
 fn:PySem.W.isFn K (.ref f)=true
 kp:PySem.W.keepIn K (.ref f)=true
section
variable {X:Cx}{pins:List (Addr×Obj)}{σ:St}{H:Hp}{s:Shared}{a C dx:Addr}{fs:List (Str×V)}{f:Str}{v:V}{A:Around}{E:Value→Shared→Prop}
theorem getattr_ok {b:Bool}{Q:Value→Shared→Prop} (I:Inv X pins σ H s) (e:H a=some (.ins C dx fs)) (c:Cls X.K C) (n:NoAttr X.K C f) (l:fs.lookup f=some v)
  (h:∀ u s',Inv X pins σ H s'→aY v u→Q u s'):wpAny (model X.prog X.w) A (getAttr (.ref a) f b) Q E s:=by
 obtain⟨mA,O,r,_,_,_⟩:=ins_get I.hok e
 obtain⟨u,hu,ru⟩:=RelO.some_of (v:=v) (o:=mA f) (by rw[← l];exact r f)
 exact get_map I.kIn O (c.get f) c.hd n hu (handed_of ru) (h u _ (I.tok _) ru)
theorem getmeth_ok {m:Str}{g:Addr}{pl:Sem Bool}{Q:Value×List Value→Shared→Prop} (I:Inv X pins σ H s) (e:H a=some (.ins C dx fs)) (c:Cls X.K C) (k:Meth X.K C m g) (l:fs.lookup m=none)
  (h:Q (.ref g,[.ref a]) s):wpAny (model X.prog X.w) A (getMethod (.ref a) m pl) Q E s:=by
 obtain⟨mA,O,r,_,_,_⟩:=ins_get I.hok e
 have hn:mA m=none:=RelO.none_of (by rw[← l];exact r m)
 exact get_meth I.kIn O (c.get m) k.at_ k.fn hn h
theorem setattr_ok {y:V}{u:Value}{Q:Unit→Shared→Prop} (I:Inv X pins σ H s) (e:H a=some (.ins C dx fs)) (c:Cls X.K C) (n:NoAttr X.K C f) (hl:fs.length < 1000) (ry:aY y u)
  (h:∀ s',Inv X pins σ (upd H a (.ins C dx (bS f y fs))) s'→Q () s'):wpAny (model X.prog X.w) A (setAttr (.ref a) f u) Q E s:=by
 obtain⟨mA,O,r,wi,_,ho⟩:=ins_get I.hok e
 have hz:(fs.map (·.1)).length≤sizeLine:=by rw[List.length_map,sizeLine_eq];omega
 refine set_map I.kIn O c.sa c.po n.taker c.hd wi hz fun h' O' sb=>h _ ?_
 have hd:∃ o,h'.get? dx=some o:=let ⟨o,_,_,e',_⟩:=O'.ns;⟨o,e'⟩
 refine I.write (x:=a) (e:=dx) (by rw[e];exact True.intro) (.inr ho) (fun b q hb z=>(sb.2 b hb).trans z) hd ?_
 refine⟨by rw[aM O.ne];exact ho,?_,O.ne,O'.obj,_,O'.ns,fun g=>?_,fun g hg=>?_⟩
 ·have:=length_putF f y fs;omega
 ·show RelO ((bS f y fs).lookup g) (if g=f then some u else mA g)
  rw[lookup_putF]
  by_cases q:g=f
  ·rw[if_pos q,if_pos q];exact ry
  ·rw[if_neg q,if_neg q];exact r g
 ·by_cases q:g=f
  ·rw[q];exact (keys_putF f y fs).1
  ·refine (keys_putF f y fs).2 g (wi g fun z=>hg ?_)
   show (if g=f then some u else mA g)=none
   rw[if_neg q];exact z
theorem Inv.made (I:Inv X pins σ H s):Inv X pins σ (upd (upd H s.heap.objs.size (.own (s.heap.objs.size+1))) (s.heap.objs.size+1) (.ins C s.heap.objs.size []))
  { s with heap:=(s.heap.push PySem.W.emptyDict).push (PySem.W.instObj C s.heap.objs.size) }:=by
 have e1:(s.heap.push PySem.W.emptyDict).get? s.heap.objs.size=some PySem.W.emptyDict:=Heap.get?_push_size s.heap rfl
 have e2:((s.heap.push PySem.W.emptyDict).push (PySem.W.instObj C s.heap.objs.size)).get? (s.heap.objs.size+1)=some (PySem.W.instObj C s.heap.objs.size):=by
  have:=Heap.get?_push_size (s.heap.push PySem.W.emptyDict) (o:=PySem.W.instObj C s.heap.objs.size) rfl
  rwa [Heap.size_push] at this
 have e3:(s.heap.push PySem.W.emptyDict).Ns s.heap.objs.size (fun _=>none):=⟨PySem.W.emptyDict,#[],_,e1,rfl,(fun e he=>absurd he (by simp)),fun _=>rfl⟩
 have I1:=I.laid (a:=s.heap.objs.size) (o:=.own (s.heap.objs.size+1)) (h':=s.heap.push PySem.W.emptyDict) (t':=s.toks) (fun b u q=>Heap.get?_push_of_some _ q) (Nat.le_refl _) ⟨_,e1⟩
 refine I1.laid (a:=s.heap.objs.size+1) (o:=.ins C s.heap.objs.size []) (t':=s.toks) (fun b u q=>Heap.get?_push_of_some _ q) (Nat.le_of_eq (Heap.size_push _ _)) ?_
 have ne:s.heap.objs.size≠s.heap.objs.size+1:=Nat.ne_of_lt (Nat.lt_succ_self _)
 refine⟨by rw[aM ne,aB],Nat.zero_le _,ne,e2,fun _=>none,(Heap.Ns1.of_empty e3).at fun o q=>Heap.get?_push_of_some _ q,fun _=>True.intro,fun y hy=>absurd rfl hy⟩
theorem attr_of {prog:Program}{w:World}{env:Env}{e:Expr}{f:Str}{pos:Pos}{s:Shared}{Q:Value→Shared→Prop} (hb:attributeBase e f env (eval e env)=eval e env)
  (h:wpAny (model prog w) A (eval e env) (fun o s₁=>wpAny (model prog w) A (getAttr o f true) Q E s₁) E s):wpAny (model prog w) A (eval (.Attribute e f pos) env) Q E s:=
 Attribute_any_ h (by rw[arm_eval_Attribute,hb])
end
noncomputable def tFld (K:PySem.W.Frag) (ta:TE) (f:Str):TE:=fun σ H Q=>ta σ H fun x H1=>∃ a C dx fs v,x=.ref a∧H1 a=some (.ins C dx fs)∧Cls K C∧NoAttr K C f∧fs.lookup f=some v∧Q v H1
noncomputable def sFld (K:PySem.W.Frag) (ta tv:TE) (f:Str):TS:=fun D σ H=>tv σ H fun y H1=>ta σ H1 fun x H2=>∃ a C dx fs,x=.ref a∧H2 a=some (.ins C dx fs)∧Cls K C∧NoAttr K C f∧fs.length < 1000∧
 D.nx σ (upd H2 a (.ins C dx (bS f y fs)))
section
variable {X:Cx}{o e value:Expr}{f:Str}{pos pos' tpos:Pos}{ta tv:TE}
theorem pe_fld (he:PE X e ta) (hb:attributeBase e f X.env (eval e X.env)=eval e X.env):PE X (.Attribute e f pos) (tFld X.K ta f):=by
 intro pins s σ H Q I h
 refine attr_of hb (cH (he pins s σ H _ I h) fun u s1 ⟨x,H1,I1,rx,a,C,dx,fs,v,ex,ea,c,n,l,q⟩=>?_)
 subst ex
 obtain rfl:u=Value.ref a:=rx
 exact getattr_ok I1 ea c n l fun u' s2 I2 ru=>⟨v,H1,I2,ru,q⟩
theorem ps_fld (ha:PE X o ta) (hv:PE X value tv) (hs:swapsWith value (some (.Attribute o f pos')) pos.line X.env=pure false):PS X (.Assign [.Attribute o f pos'] value pos) (sFld X.K ta tv f):=by
 intro pins s σ H D I h
 refine plainObj_wpAny_Assign_Attribute (cH (hv pins s σ H _ I h) fun u s1 ⟨y,H1,I1,ry,q⟩=>cH (ha pins s1 σ H1 _ I1 q) fun ov s2 ⟨x,H2,I2,rx,a,C,dx,fs,ex,ea,c,n,l,q2⟩=>?_) hs
 subst ex
 obtain rfl:ov=Value.ref a:=rx
 exact setattr_ok I2 ea c n l ry fun s3 I3=>⟨σ,_,I3,q2⟩
end
section
variable {X:Cx}{pins:List (Addr×Obj)}{σ:St}{H:Hp}{s:Shared}{A:Around}{E:Value→Shared→Prop}{Q:Value→Shared→Prop}{c:Value}{b:Bool}
inductive TyOf (K:PySem.W.Frag) (H:Hp):V→Value→Prop where
 | non:TyOf K H .non (.type "NoneType")
 | bl (x:Bool):TyOf K H (.bl x) (.type "bool")
 | int (i:Int):TyOf K H (.int i) (.type "int")
 | str (x:Str):TyOf K H (.str x) (.type "str")
 | flt (x:UInt64):TyOf K H (.flt x) (.type "float")
 | lst {a:Addr}{xs:List V} (e:H a=some (.lst xs)):TyOf K H (.ref a) (.type "list")
 | frz {a:Addr}{o:Obj}{xs:List V} (e:H a=some (.frz o (.lst xs))):TyOf K H (.ref a) (.type "list")
 | tup {a:Addr}{xs:List V} (e:H a=some (.tup xs)):TyOf K H (.ref a) (.type "tuple")
 | dK {a:Addr}{kvs:List (dQ×V)} (e:H a=some (.dK kvs)):TyOf K H (.ref a) (.type "dict")
 | dT {a:Addr}{kvs:List (List dQ×V)} (e:H a=some (.dT kvs)):TyOf K H (.ref a) (.type "dict")
 | ins {a C dx:Addr}{fs:List (Str×V)} (e:H a=some (.ins C dx fs)) (cl:Cls K C) (ha:PySem.W.findIn K (.ref C) "__class__" = some (some (.builtin "object.__class__")))
   (hn:PySem.W.specialIn K (.builtin "object.__class__") "__get__" = some (some (.builtin "getset_descriptor.__get__"))) (htk:PySem.W.takesIn K (.builtin "object.__class__")=some true)
   (hm:PySem.W.mroIn K C (.type "object")=some true):TyOf K H (.ref a) (.ref C)
theorem isinst_ok {x:V}{u t:Value} (I:Inv X pins σ H s) (rx:aY x u) (ty:TyOf X.K H x t) (e:PySem.W.kitOne X.K t c=some b) (h:∀ tk,Q (.bool b) { s with toks:=tk }) :
  wpAny (model X.prog X.w) A (call (.builtin "isinstance") [u,c]) Q E s:=by
 cases ty with
 | non=>cases (show u=Value.none from rx);exact PySem.W.kia_one PySem.W.kitx_none I.kIn True.intro e (fun z=>nomatch z) h
 | bl y=>cases (show u=Value.bool y from rx);exact PySem.W.kia_one PySem.W.kitx_bool I.kIn True.intro e (fun z=>nomatch z) h
 | int i=>obtain⟨t,q⟩:=(show ∃ t,u=Value.int i t from rx);cases q;exact PySem.W.kia_one PySem.W.kitx_int I.kIn True.intro e (fun z=>nomatch z) h
 | str y=>obtain⟨t,q⟩:=(show ∃ t,u=Value.str y t from rx);cases q;exact PySem.W.kia_one PySem.W.kitx_str I.kIn True.intro e (fun z=>nomatch z) h
 | flt y=>obtain⟨t,q⟩:=(show ∃ t,u=Value.float y t from rx);cases q;exact PySem.W.kia_one PySem.W.kitx_float I.kIn True.intro e (fun z=>nomatch z) h
 | @lst a xs ea=>
  cases (show u=Value.ref a from rx)
  obtain⟨_,_,n,_,h1⟩:=(show cN X.prog X.w H s.heap a (.lst xs) from I.hok a _ ea)
  exact PySem.W.kia_one PySem.W.kitx_list I.kIn ⟨_,h1,rfl⟩ e (fun z=>nomatch z) h
 | @frz a ob xs ea=>
  cases (show u=Value.ref a from rx)
  obtain⟨_,_,_,n,_,h1⟩:=(show cN X.prog X.w H s.heap a (.frz ob (.lst xs)) from I.hok a _ ea)
  exact PySem.W.kia_one PySem.W.kitx_list I.kIn ⟨_,h1,rfl⟩ e (fun z=>nomatch z) h
 | @tup a xs ea=>
  cases (show u=Value.ref a from rx)
  obtain⟨_,_,_,p⟩:=(show cN X.prog X.w H s.heap a (.tup xs) from I.hok a _ ea)
  obtain⟨o,h1,h2,_⟩:=p
  exact PySem.W.kia_one PySem.W.kitx_tuple I.kIn ⟨o,h1,h2⟩ e (fun z=>nomatch z) h
 | @dK a kvs ea=>
  cases (show u=Value.ref a from rx)
  obtain⟨_,_,vs,_,p⟩:=(show cN X.prog X.w H s.heap a (.dK kvs) from I.hok a _ ea)
  obtain⟨o,es,ep,h1,h2,_⟩:=p
  exact PySem.W.kia_one PySem.W.kitx_dict I.kIn ⟨o,h1,h2.1⟩ e (fun z=>nomatch z) h
 | @dT a kvs ea=>
  cases (show u=Value.ref a from rx)
  obtain⟨_,_,xs,_,o,es,ep,h1,h2,_⟩:=(show cN X.prog X.w H s.heap a (.dT kvs) from I.hok a _ ea)
  exact PySem.W.kia_one PySem.W.kitx_dict I.kIn ⟨o,h1,h2.1⟩ e (fun z=>nomatch z) h
 | @ins a C dx fs ea cl ha hn htk hm=>
  cases (show u=Value.ref a from rx)
  obtain⟨mA,O,_⟩:=ins_get I.hok ea
  obtain⟨od,J,_⟩:=O.look
  exact PySem.W.kia_one (PySem.W.kitx_own (cl.get _) cl.hd ha hn htk hm) I.kIn J e (fun z=>nomatch z) h
end
end L2
namespace L2
open PySem PySem.Spec PyProof.Rows
structure Room (k:Nat) (A:Around):Prop where
 hd:A.handled=none
 dp:A.depth+3 * k+5 < recursionLimit
 un:A.units+16 * k+200 < cLine
theorem Room.mono {j k:Nat}{A:Around} (r:Room k A) (h:j≤k):Room j A:=⟨r.hd,by have:=r.dp;omega,by have:=r.un;omega⟩
theorem Room.deeper {k:Nat}{A:Around} (r:Room (k+1) A) (env:Env):Room k (A.deeper env):=
 ⟨r.hd,by have:=r.dp;show A.depth+1+3 * k+5 < _;omega,by have:=r.un;show A.units+3+16 * k+200 < _;omega⟩
theorem make_depth {A:Around}{C:Addr}{us:List Value}{kw:List (Str×Value)}:(A.under (.builtin "type.__call__" ⟨.ref C::us,kw⟩)).depth=A.depth+1:=by
 first | rfl | simp [Around.under,Code.weight,Code.isCreation,Code.isGuard,Code.isCaller,Code.frames,Code.isFrame,guardIds]
theorem make_units {A:Around}{C:Addr}{us:List Value}{kw:List (Str×Value)}:(A.under (.builtin "type.__call__" ⟨.ref C::us,kw⟩)).units=A.units+1:=by
 first | rfl | simp [Around.under,Code.cUnits,Code.frames,Code.isFrame]
theorem Room.make {k:Nat}{A:Around} (r:Room (k+1) A) (C:Addr) (us:List Value) (kw:List (Str×Value)):Room k (A.under (.builtin "type.__call__" ⟨.ref C::us,kw⟩)):=
 ⟨r.hd,by have:=r.dp;rw[make_depth];omega,by have:=r.un;rw[make_units];omega⟩
theorem Room.depth {k:Nat}{A:Around} (r:Room k A):A.depth < recursionLimit:=by have:=r.dp;omega
theorem Room.units {k:Nat}{A:Around} (r:Room k A):A.units+64 < cLine:=by have:=r.un;omega
noncomputable def tNil:TA:=fun _ H Q=>Q [] H
noncomputable def cT (ta:TE) (tr:TA):TA:=fun σ H Q=>ta σ H fun x H1=>tr σ H1 fun xs H2=>Q (x::xs) H2
section
variable {X:Cx}{e:Expr}{es:List Expr}{te:TE}{t:TA}{pos:Pos}
theorem aD:PA X [] tNil:=fun _ _ _ _ H Q I h=>Calls.spliced_nil ⟨[],H,I,.nil,h⟩
theorem aA (ha:PE X e te) (hr:PA X es t) (hs:starEach (e::es) X.env=(false,eval e X.env)::starEach es X.env:=by rfl):PA X (e::es) (cT te t):=by
 intro pos pins s σ H Q I h
 rw[hs]
 show wpAny _ _ (spliced ((false,eval e X.env)::backTo pos (starEach es X.env))) _ _ s
 refine Calls.spliced_cons (cH (ha pins s σ H _ I h) fun u s1 ⟨x,H1,I1,r1,q1⟩=>?_)
 exact cH (hr pos pins s1 σ H1 _ I1 q1) fun us s2 ⟨xs,H2,I2,r2,q2⟩=>⟨x::xs,H2,I2,.cons r1 r2,q2⟩
noncomputable def tTup (t:TA):TE:=fun σ H Q=>t σ H fun xs H1=>xs.length≤sizeLine∧∀ p,H1 p=none→Q (.ref p) (upd H1 p (.tup xs))
noncomputable def tLst (t:TA):TE:=fun σ H Q=>t σ H fun xs H1=>xs.length≤sizeLine∧∀ p,H1 p=none→Q (.ref p) (upd H1 p (.lst xs))
theorem bT {x1} (h:PA X es t):PE X (.Tuple es x1 pos) (tTup t):=by
 intro pins s σ H Q I hq
 refine wpAny_Tuple_spliced (cH (h pos pins s σ H _ I hq) fun us s1 ⟨xs,H1,I1,r,z,q⟩=>⟨by rw[← r.length];exact z,?_⟩)
 have hf:H1 s1.heap.objs.size=none:=I1.hok.fresh (Nat.le_refl _)
 refine⟨.ref s1.heap.objs.size,upd H1 s1.heap.objs.size (.tup xs),I1.laid (t':=s1.toks) (fun b u e=>Heap.get?_push_of_some _ e) (Nat.le_refl _) ?_,rfl,q _ hf⟩
 exact⟨z,us,r,⟨_,Heap.get?_push_size _ rfl,rfl,_,rfl⟩⟩
theorem bX (h:PA X es t):PE X (.List es pos) (tLst t):=by
 intro pins s σ H Q I hq
 refine wpAny_List_spliced (cH (h pos pins s σ H _ I hq) fun us s1 ⟨xs,H1,I1,r,z,q⟩=>⟨by rw[← r.length];exact z,?_⟩)
 have hf:H1 s1.heap.objs.size=none:=I1.hok.fresh (Nat.le_refl _)
 refine⟨.ref s1.heap.objs.size,upd H1 s1.heap.objs.size (.lst xs),I1.laid (t':=s1.toks) (fun b u e=>Heap.get?_push_of_some _ e) (Nat.le_refl _) ?_,rfl,q _ hf⟩
 exact⟨z,us,0,r,Heap.get?_push_size _ rfl⟩
end
noncomputable abbrev Sp:=List V→Hp→VK→XK→Prop
noncomputable abbrev CXT:=List Env→Hp→Shared→XK→Value→Shared→Prop
structure Env0 (P:Program) (w:World) (K:PySem.W.Frag) (mg:Str→Option Value) (base:Heap) (A:Around) (outer:List Env) (s:Shared) (H:Hp):Prop where
 frames:A.frames=some outer
 mod:Mod K mg base
 bs:∀ b o,base.get? b=some o→s.heap.get? b=some o∧H b=none
 bsz:base.objs.size≤s.heap.objs.size
 funs:s.heap.FunFrames base outer
 frf:∀ b∈frs outer,H b=none
 hok:HOk P w H s.heap
 bare:AllBare s.gens
noncomputable def CE (outer:List Env) (P:Program) (w:World) (H:Hp) (s:Shared) (Q:VK) (u:Value) (s':Shared):Prop:=
 ∃ v H',s'.os=s.os∧AllBare s'.gens∧Un (frs outer) [] H H' s.heap s'.heap∧HOk P w H' s'.heap∧aY v u∧Q v H'
noncomputable def CR (CX:CXT) (outer:List Env) (P:Program) (w:World) (H:Hp) (s:Shared) (Q:VK) (E:XK) (r:Result) (s':Shared):Prop:=
 match r with
 | .ok (.ret u)=>CE outer P w H s Q u s'
 | .ok _=>False
 | .error e=>CX outer H s E e s'
structure FnOk (P:Program) (w:World) (K:PySem.W.Frag) (mg:Str→Option Value) (base:Heap) (CX:CXT) (k:Nat) (f:Addr) (fd:FuncData) (ps:List Str) (sp:Sp):Prop where
 len:∀ vs H Q E,sp vs H Q E→vs.length=ps.length
 run:∀ (A:Around) (outer:List Env) (s:Shared) (H:Hp) (args:Args) (us:List Value) (vs:List V) (Q:VK) (E:XK),Room k A→Env0 P w K mg base A outer s H→BindsTo s fd args (ps.zip us)→bE vs us→sp vs H Q E→
  codeAny (model P w) A (.call (.ref f) args) (CR CX outer P w H s Q E) s
theorem FnOk.imp {P:Program}{w:World}{K:PySem.W.Frag}{mg:Str→Option Value}{base:Heap}{CX:CXT}{k:Nat}{f:Addr}{fd:FuncData}{ps:List Str}{sp sp':Sp} (F:FnOk P w K mg base CX k f fd ps sp)
  (h:∀ vs H Q E,sp' vs H Q E→sp vs H Q E):FnOk P w K mg base CX k f fd ps sp':=
 ⟨fun vs H Q E q=>F.len vs H Q E (h _ _ _ _ q),fun A outer s H args us vs Q E hr he hb hv hs=>F.run A outer s H args us vs Q E hr he hb hv (h _ _ _ _ hs)⟩
theorem Env0.make {P:Program}{w:World}{K:PySem.W.Frag}{mg:Str→Option Value}{base:Heap}{A:Around}{outer:List Env}{s:Shared}{H:Hp} (e:Env0 P w K mg base A outer s H) (C:Addr) (us:List Value) (kw:List (Str×Value)) :
  Env0 P w K mg base (A.under (.builtin "type.__call__" ⟨.ref C::us,kw⟩)) outer s H:=⟨by first | exact e.frames | (simpa [Around.under,Code.envs,Code.isFrame,pushEnvs] using e.frames),e.mod,e.bs,e.bsz,e.funs,e.frf,e.hok,e.bare⟩
section
variable {X:Cx}{pins:List (Addr×Obj)}{σ:St}{H:Hp}{s s':Shared}
theorem Inv.env0 (I:Inv X pins σ H s):Env0 X.prog X.w X.K X.mg X.base X.A X.stack s H:=
 ⟨I.ok.frames,I.ok.mod,I.bs,Nat.le_trans I.ok.bsz I.sz,I.stack,I.stkFree,I.hok,I.bare⟩
theorem Inv.after {Q:VK}{u:Value} (I:Inv X pins σ H s) (h:CE X.stack X.prog X.w H s Q u s'):EP X pins σ Q u s':=by
 obtain⟨v,H',os,bare,un,hok,r,q⟩:=h
 obtain⟨hh,g,d,t,os'⟩:=s'
 obtain rfl:os'=s.os:=os
 exact⟨v,H',I.call (h':=hh) (g':=g) (d':=d) (t':=t) (ch:=[]) un hok bare (fun b z=>absurd z (by simp)),r,q⟩
end
noncomputable def tCall (sp:Sp) (dvs:List V) (E:XK) (t:TA):TE:=fun σ H Q=>t σ H fun vs H1=>sp (vs++dvs) H1 Q E
noncomputable def tMeth (C:Addr) (m:Str) (sp:Sp) (dvs:List V) (E:XK) (ta:TE) (t:TA):TE:=fun σ H Q=>ta σ H fun x H1=>∃ a dx fs,x=.ref a∧H1 a=some (.ins C dx fs)∧fs.lookup m=none∧
 t σ H1 fun vs H2=>sp (x::(vs++dvs)) H2 Q E
noncomputable def tMake (C:Addr) (sp:Sp) (dvs:List V) (E:XK) (t:TA):TE:=fun σ H Q=>t σ H fun vs H1=>∀ x dx,H1 x=none→H1 dx=none→dx≠x→
 sp (.ref x::(vs++dvs)) (upd (upd H1 dx (.own x)) x (.ins C dx [])) (fun v H2=>v=.non∧Q (.ref x) H2) E
noncomputable def Binds (K:PySem.W.Frag) (fd:FuncData) (ps:List Str) (ds:List Value):Prop:=
 ∀ (s:Shared) (us:List Value),K.In s.heap→(us++ds).length=ps.length→BindsTo s fd ⟨us,[]⟩ (ps.zip (us++ds))
theorem Binds.all {K:PySem.W.Frag}{fd:FuncData}{ps:List Str} (h:∀ us:List Value,us.length=ps.length→bindArgs fd ⟨us,[]⟩=pure (ps.zip us)):Binds K fd ps []:=fun s us _ hl=>by
 rw[List.append_nil] at hl ⊢
 exact .of_eq (h us hl)
noncomputable def Passes (CX:CXT) (X:Cx) (E:XK):Prop:=∀ (pins:List (Addr×Obj)) (σ:St) (H:Hp) (s:Shared) (e:Value) (s':Shared),Inv X pins σ H s→CX X.stack H s E e s'→X.xe e s'
section
variable {X:Cx}{CX:CXT}{k:Nat}{f C:Addr}{fd:FuncData}{ps:List Str}{sp:Sp}{dvs:List V}{ds:List Value}{E:XK}{x m:Str}{p pos apos:Pos}{e o:Expr}{es:List Expr}{ta:TE}{t:TA}
theorem run_fn {pins:List (Addr×Obj)}{σ:St}{H:Hp}{s:Shared}{Q:VK}{us:List Value}{vs:List V} (F:FnOk X.prog X.w X.K X.mg X.base CX k f fd ps sp) (hr:Room k X.A) (hb:Binds X.K fd ps ds) (hd:bE dvs ds) (hx:Passes CX X E)
  (I:Inv X pins σ H s) (r:bE vs us) (h:sp (vs++dvs) H Q E):wpAny (model X.prog X.w) X.A (call (.ref f) us) (EP X pins σ Q) X.xe s:=by
 have r2:bE (vs++dvs) (us++ds):=r.append hd
 have hl:(us++ds).length=ps.length:=by rw[← r2.length];exact F.len _ _ _ _ h
 refine wpAny_call (codeAny_mono (F.run X.A X.stack s H ⟨us,[]⟩ (us++ds) (vs++dvs) Q E hr I.env0 (hb s us I.kIn hl) r2 h) fun r s' hq=>?_)
 cases r with
 | error e=>exact hx pins σ H s e s' I hq
 | ok fl=>
  cases fl with
  | ret u=>exact I.after hq
  | next=>exact False.elim hq
  | brk=>exact False.elim hq
  | cont=>exact False.elim hq
theorem pe_call (F:FnOk X.prog X.w X.K X.mg X.base CX k f fd ps sp) (hr:Room k X.A) (hg:Gl X x) (hm:X.mg x=some (.ref f)) (hk:PySem.W.keepIn X.K (.ref f)=true) (hb:Binds X.K fd ps ds) (hd:bE dvs ds) (hx:Passes CX X E)
  (ha:PA X (e::es) t) (hdb:(x == ("__debug__" : Str))=false:=by decide) (he:starEach (e::es) X.env=(false,eval e X.env)::starEach es X.env:=by rfl) (hpl:(backTo pos (starEach es X.env)).any (·.1)=false:=by rfl) :
  PE X (.Call (.Name x p) (e::es) [] pos) (tCall sp dvs E t):=by
 intro pins s σ H Q I h
 refine wpAny_Call_Name_kw (ld_glob I hg hm ?_ hdb)
 refine PySem.W.callWith_K (h₀:=X.base) I.ok.mod.kin hk (cH (ha pos pins s σ H _ I h) fun us s1 ⟨vs,H1,I1,r,q⟩=>⟨I1.kIn,?_⟩) he hpl
 exact run_fn F hr hb hd hx I1 r q
theorem pe_meth {pl:Sem Bool} (he:PE X o ta) (c:Cls X.K C) (hm:Meth X.K C m f) (F:FnOk X.prog X.w X.K X.mg X.base CX k f fd ps sp) (hr:Room k X.A) (hb:Binds X.K fd ps ds) (hd:bE dvs ds) (hx:Passes CX X E) (ha:PA X (e::es) t)
  (hst:starEach (e::es) X.env=(false,eval e X.env)::starEach es X.env:=by rfl) (hpl:(backTo pos (starEach es X.env)).any (·.1)=false:=by rfl)
  (ht:eval (.Call (.Attribute o m apos) (e::es) [] pos) X.env=(do
   let ov ← eval o X.env
   standAt apos.atName
   let (f,first) ← holding [ov] (getMethod ov m pl)
   callWith pos f first (backTo pos (starEach (e::es) X.env)) (backToKw pos (keywordEach [] X.env))):=by rfl) :
  PE X (.Call (.Attribute o m apos) (e::es) [] pos) (tMeth C m sp dvs E ta t):=by
 intro pins s σ H Q I h
 refine PySem.W.methodCall_KW (pl:=pl) (cH (he pins s σ H _ I h) fun u s1 ⟨x,H1,I1,rx,a,dx,fs,ex,ea,l,q⟩=>?_) ht
 subst ex
 obtain rfl:u=Value.ref a:=rx
 refine getmeth_ok I1 ea c hm l ?_
 refine PySem.W.callWith_K (first:=[.ref a]) (h₀:=X.base) I.ok.mod.kin hm.kp (cH (ha pos pins s1 σ H1 _ I1 q) fun us s2 ⟨vs,H2,I2,r,q2⟩=>⟨I2.kIn,?_⟩) hst hpl
 exact run_fn (us:=.ref a::us) (vs:=.ref a::vs) F hr hb hd hx I2 (.cons rfl r) q2
structure Mk (K:PySem.W.Frag) (C f:Addr):Prop where
 makes:PySem.W.makesIn K C=true
 init:PySem.W.findIn K (.ref C) "__init__" = some (some (.ref f))
 fn:PySem.W.isFn K (.ref f)=true
 kp:PySem.W.keepIn K (.ref C)=true
theorem run_make {pins:List (Addr×Obj)}{σ:St}{H:Hp}{s:Shared}{Q:VK}{us:List Value}{vs:List V} (M:Mk X.K C f) (F:FnOk X.prog X.w X.K X.mg X.base CX k f fd ps sp) (hr:Room (k+1) X.A) (hb:Binds X.K fd ps ds) (hd:bE dvs ds)
  (hx:Passes CX X E) (I:Inv X pins σ H s) (r:bE vs us)
  (h:∀ x dx,H x=none→H dx=none→dx≠x→sp (.ref x::(vs++dvs)) (upd (upd H dx (.own x)) x (.ins C dx [])) (fun v H2=>v=.non∧Q (.ref x) H2) E) :
  wpAny (model X.prog X.w) X.A (call (.ref C) us) (EP X pins σ Q) X.xe s:=by
 have hq:=h (s.heap.objs.size+1) s.heap.objs.size (I.hok.fresh (Nat.le_succ _)) (I.hok.fresh (Nat.le_refl _)) (Nat.ne_of_lt (Nat.lt_succ_self _))
 have I2:=Inv.made (C:=C) I
 have r2:bE (V.ref (s.heap.objs.size+1)::(vs++dvs)) (Value.ref (s.heap.objs.size+1)::(us++ds)):=.cons rfl (r.append hd)
 have hl:(Value.ref (s.heap.objs.size+1)::us++ds).length=ps.length:=by
  have e:=r2.length
  rw[F.len _ _ _ _ hq] at e
  exact e.symm
 refine wpAny_call (make_map (f:=f) I.kIn M.makes M.init (beq_iff_eq.mp M.fn) (codeAny_mono (F.run _ X.stack _ _ ⟨Value.ref (s.heap.objs.size+1)::us,[]⟩ (Value.ref (s.heap.objs.size+1)::(us++ds)) _ _ E (hr.make C us [])
  (I2.env0.make C us []) (hb _ (Value.ref (s.heap.objs.size+1)::us) I2.kIn hl) r2 hq) fun r s' hq'=>?_))
 cases r with
 | error e=>exact hx pins σ _ _ e s' I2 hq'
 | ok fl=>
  cases fl with
  | ret u=>
   obtain⟨v,H',I3,rv,ev,q3⟩:=I2.after hq'
   subst ev
   exact⟨rv,⟨V.ref (s.heap.objs.size+1),H',I3,rfl,q3⟩⟩
  | next=>exact False.elim hq'
  | brk=>exact False.elim hq'
  | cont=>exact False.elim hq'
theorem pe_make (M:Mk X.K C f) (F:FnOk X.prog X.w X.K X.mg X.base CX k f fd ps sp) (hr:Room (k+1) X.A) (hg:Gl X x) (hm:X.mg x=some (.ref C)) (hb:Binds X.K fd ps ds) (hd:bE dvs ds) (hx:Passes CX X E)
  (ha:PA X (e::es) t) (hdb:(x == ("__debug__" : Str))=false:=by decide) (he:starEach (e::es) X.env=(false,eval e X.env)::starEach es X.env:=by rfl) (hpl:(backTo pos (starEach es X.env)).any (·.1)=false:=by rfl) :
  PE X (.Call (.Name x p) (e::es) [] pos) (tMake C sp dvs E t):=by
 intro pins s σ H Q I h
 refine wpAny_Call_Name_kw (ld_glob I hg hm ?_ hdb)
 refine PySem.W.callWith_K (h₀:=X.base) I.ok.mod.kin M.kp (cH (ha pos pins s σ H _ I h) fun us s1 ⟨vs,H1,I1,r,q⟩=>⟨I1.kIn,?_⟩) he hpl
 exact run_make M F hr hb hd hx I1 r q
end
section
variable {X:Cx}{CX:CXT}{k:Nat}{f C:Addr}{fd:FuncData}{ps ks:List Str}{sp:Sp}{E:XK}{x m:Str}{p pos apos kpos:Pos}{e o:Expr}{es:List Expr}{kws:List Keyword}{te ta:TE}{t tk:TA}{nm:Option Str}
variable {g:List Value→List Value→List Value}{gV:List V→List V→List V}
end
structure FnScope (N P:List Str) (sc:Scope):Prop where
 kind:sc.kind=.function
 co:sc.isCoroutine=false
 gen:sc.isGenerator=false
 nd:N.Nodup
 pre:N.take P.length=P
 par:∀ x∈P,sc.names.lookup x=some .local∨sc.names.lookup x=some .cell
 nofree:∀ y∈sc.names,y.2≠.free
theorem bindL_out {kindOf:Str→Option NameKind}{x:Str}:∀ {binds:List (Str×Value)}{m:Str→Option Value},(∀ v,(x,v)∉binds)→bindL kindOf binds m x=m x
 | [],_,_=>rfl
 | (n,v)::r,m,h=>by
  unfold bindL
  rw[bindL_out fun w hw=>h w (List.mem_cons_of_mem _ hw)]
  split
  ·have:x≠n:=by rintro rfl;exact h v List.mem_cons_self
   simp [this]
  ·rfl
theorem bindC_out {kindOf:Str→Option NameKind}{x:Str}:∀ {binds:List (Str×Value)}{m:Str→Option Value},(∀ v,(x,v)∉binds)→bindC kindOf binds m x=m x
 | [],_,_=>rfl
 | (n,v)::r,m,h=>by
  unfold bindC
  rw[bindC_out fun w hw=>h w (List.mem_cons_of_mem _ hw)]
  split
  ·rfl
  ·have:x≠n:=by rintro rfl;exact h v List.mem_cons_self
   simp [this]
theorem bindL_get {kindOf:Str→Option NameKind}{x:Str}{v:Value}:∀ {P:List Str}{vs:List Value}{i:Nat}{m:Str→Option Value},P.Nodup→P[i]? = some x→vs[i]? = some v→kindOf x=some .local→
  bindL kindOf (P.zip vs) m x=some v
 | [],_,_,_,_,h,_,_=>by simp at h
 | _::_,[],_,_,_,_,h,_=>by simp at h
 | p::P,w::vs,0,m,nd,h1,h2,hk=>by
  simp at h1 h2;subst h1;subst h2
  show bindL kindOf ((p,w)::P.zip vs) m p=_
  unfold bindL
  rw[bindL_out fun v hv=>(List.nodup_cons.mp nd).1 (List.of_mem_zip hv).1,if_pos hk]
  simp
 | p::P,w::vs,i+1,m,nd,h1,h2,hk=>by
  show bindL kindOf ((p,w)::P.zip vs) m x=_
  unfold bindL
  exact bindL_get (i:=i) (List.nodup_cons.mp nd).2 (by simpa using h1) (by simpa using h2) hk
theorem bindC_get {kindOf:Str→Option NameKind}{x:Str}{v:Value}:∀ {P:List Str}{vs:List Value}{i:Nat}{m:Str→Option Value},P.Nodup→P[i]? = some x→vs[i]? = some v→kindOf x≠some .local→
  bindC kindOf (P.zip vs) m x=some v
 | [],_,_,_,_,h,_,_=>by simp at h
 | _::_,[],_,_,_,_,h,_=>by simp at h
 | p::P,w::vs,0,m,nd,h1,h2,hk=>by
  simp at h1 h2;subst h1;subst h2
  show bindC kindOf ((p,w)::P.zip vs) m p=_
  unfold bindC
  rw[bindC_out fun v hv=>(List.nodup_cons.mp nd).1 (List.of_mem_zip hv).1,if_neg hk]
  simp
 | p::P,w::vs,i+1,m,nd,h1,h2,hk=>by
  show bindC kindOf ((p,w)::P.zip vs) m x=_
  unfold bindC
  exact bindC_get (i:=i) (List.nodup_cons.mp nd).2 (by simpa using h1) (by simpa using h2) hk
noncomputable def start (N:List Str) (vs:List V):St:=vs.map some++List.replicate (N.length - vs.length) none
noncomputable def cxOf (CX:CXT) (P:Program) (w:World) (K:PySem.W.Frag) (mg:Str→Option Value) (base:Heap) (N:List Str) (qual:Str) (scope:Scope) (f:Addr) (cd:Value) (A:Around) (outer:List Env) (s:Shared) (H:Hp) (E:XK):Cx where
 prog:=P
 w:=w
 K:=K
 mg:=mg
 base:=base
 A:=A.deeper (envOfC qual scope s.heap.objs.size f cd)
 N:=N
 s₀:=s
 H₀:=H
 env:=envOfC qual scope s.heap.objs.size f cd
 outer:=outer
 stack:=envOfC qual scope s.heap.objs.size f cd::outer
 ex:=[]
 calm:=true
 fn:=fun _=>true
 pn:=[]
 xe:=fun e s'=>wpAny (model P w) (A.deeper (envOfC qual scope s.heap.objs.size f cd)) (leaving (envOfC qual scope s.heap.objs.size f cd) e) (fun _ s''=>CX outer H s E e s'') (fun e' s''=>CX outer H s E e' s'') s'
theorem cell_has {sc:Scope}{n:Nat}{x:Str} (h:sc.names.lookup x=some .cell):∃ c,(cellsFrom n sc.names []).lookup x=some c:=by
 have q:=PySem.W.cellsFrom_some sc.names n [] (.inl h)
 exact Option.isSome_iff_exists.mp q
theorem inv_start {CX:CXT}{P:Program}{w:World}{K:PySem.W.Frag}{mg:Str→Option Value}{base:Heap}{N ps:List Str}{qual:Str}{scope:Scope}{f:Addr}{cd:Value}{A:Around}{outer:List Env}{s s1:Shared}{H:Hp}{E:XK}{us:List Value}{vs:List V}
  (S:FnScope N ps scope) (hd:A.handled=none) (e0:Env0 P w K mg base A outer s H) (hl:vs.length=ps.length) (r:bE vs us)
  (x:InCallC s s.heap.objs.size (bindL (envOfC qual scope s.heap.objs.size f cd).kindOf (ps.zip us) fun _=>none) (cellsFrom (s.heap.objs.size+1) scope.names []) (bindC (envOfC qual scope s.heap.objs.size f cd).kindOf (ps.zip us) fun _=>none) s1) :
  Inv (cxOf CX P w K mg base N qual scope f cd A outer s H E) [] (start N vs) H s1:=by
 have hpl:ps.length≤N.length:=by have:=congrArg List.length S.pre;rw[List.length_take] at this;omega
 obtain⟨h1,tk,rfl,hk⟩:=x.done
 have noA:∀ b:Addr,b∉(cxOf CX P w K mg base N qual scope f cd A outer s H E).ex:=fun b z=>absurd (show b∈([]:List Addr) from z) (by simp)
 refine⟨⟨e0.mod,S.kind,rfl,rfl,Nat.le_refl _,fun y z c h1 h2=>?_,fun y hy=>?_,fun y c _ h=>?_,fun _=>hd,Around.frames_deeper e0.frames,.inr ⟨rfl,rfl⟩,fun b z=>absurd z (noA b),e0.bs,e0.bsz,fun b _ _=>noA b,fun b z=>absurd z (noA b),e0.funs,e0.frf⟩,
  rfl,e0.bare,Un.kept hk,⟨_,x.toInCall.ns,fun i y v h1 h2 h3=>?_⟩,fun y c h=>⟨_,x.cell y c h⟩,e0.hok.fresh (Nat.le_refl _),fun y c h=>?_,fun p hp=>absurd (show p∈([]:List (Addr×Obj)) from hp) (by simp),e0.hok.kept hk,?_⟩
 ·exact name_of_addr x.apart (PySem.mem_of_lookup h1) (PySem.mem_of_lookup h2)
 ·have hy:scope.names.lookup y=some .cell∨scope.names.lookup y=some .free:=hy
  rcases hy with hy | hy
  ·exact cell_has hy
  ·exact absurd rfl (S.nofree _ (PySem.mem_of_lookup hy))
 ·exact Nat.le_of_lt (x.above y c (PySem.mem_of_lookup h))
 ·have hi:i < vs.length:=by
   unfold start at h2
   by_cases hi:i < vs.length
   ·exact hi
   ·rw[List.getElem?_append_right (by simpa using hi)] at h2
    rw[List.getElem?_replicate] at h2
    split at h2 <;> cases h2
  have ha:vs[i]? = some v:=by
   unfold start at h2
   rw[List.getElem?_append_left (by simpa using hi),List.getElem?_map] at h2
   cases e:vs[i]? with
   | none=>rw[e] at h2;cases h2
   | some a=>rw[e] at h2;cases h2;rfl
  obtain⟨u,hu,rv⟩:=r.get ha
  have hp:ps[i]? = some y:=by
   rw[← S.pre,List.getElem?_take_of_lt (by omega)];exact h1
  have ndP:ps.Nodup:=by rw[← S.pre];exact S.nd.sublist (List.take_sublist _ _)
  refine⟨u,rv,?_⟩
  rcases S.par y (List.mem_of_getElem? hp) with k | k
  ·exact .inl ⟨k,bindL_get ndP hp hu k⟩
  ·obtain⟨c,e⟩:=cell_has (n:=s.heap.objs.size+1) k
   refine .inr ⟨.inl k,c,e,?_⟩
   have q:=x.cell y c e
   rw[bindC_get ndP hp hu (by show scope.names.lookup y≠_;rw[k];decide)] at q
   exact q
 ·exact e0.hok.fresh (Nat.le_of_lt (x.above y c (PySem.mem_of_lookup h)))
 ·unfold start
  show _=N.length
  rw[List.length_append,List.length_map,List.length_replicate]
  omega
theorem fn_of {CX:CXT}{P:Program}{w:World}{K:PySem.W.Frag}{mg:Str→Option Value}{base:Heap}{k:Nat}{f:Addr}{name qual:Str}{params:Arguments}{body:List Stmt}{scope:Scope}{dV kV doc pm cdv ct oc:Value}{an od:Option Addr}
  {osl:Array (Option Value)}{N ps:List Str}{sp:Sp} (lk:K.lookup f=some ⟨oc,od,.func (PySem.W.fnOf name qual params body scope dV kV doc pm an cdv ct),osl⟩) (hcd:PySem.W.codeIn K cdv qual=true) (S:FnScope N ps scope)
  (len:∀ vs H Q E,sp vs H Q E→vs.length=ps.length)
  (hbody:∀ (A:Around) (outer:List Env) (s:Shared) (H:Hp) (vs:List V) (Q:VK) (E:XK),Room k (A.deeper (envOfC qual scope s.heap.objs.size f cdv))→sp vs H Q E→
   ∃ t,PSs (cxOf CX P w K mg base N qual scope f cdv A outer s H E) body t∧t { nx:=fun _ H'=>Q .non H',rt:=Q } (start N vs) H) :
  FnOk P w K mg base CX (k+1) f (PySem.W.fnOf name qual params body scope dV kV doc pm an cdv ct) ps sp:=by
 refine⟨len,fun A outer s H args us vs Q E hr e0 hb r hsp=>?_⟩
 have hl:=len _ _ _ _ hsp
 have KX:K.In s.heap:=e0.mod.kin.keeps fun b o e=>(e0.bs b o e).1
 have lim:s.heap.NoLimit:=e0.mod.nolimit.keeps fun b o e=>(e0.bs b o e).1
 have hkind:∀ y∈ps.zip us,scope.names.lookup y.1=some .local∨(scope.names.lookup y.1=some .cell∧((cellsFrom (s.heap.objs.size+1) scope.names []).lookup y.1).isSome=true):=fun ⟨n,v⟩ hy=>by
  rcases S.par n (List.of_mem_zip hy).1 with q | q
  ·exact .inl q
  ·exact .inr ⟨q,PySem.W.cellsFrom_some _ _ _ (.inl q)⟩
 refine codeAny_call_function hr.depth (KX _ _ lk) rfl S.co S.gen rfl (PySem.W.codeRec_of KX hcd) (hb _ _ _ _ ?_)
 refine wpAny_newFunctionEnv_cells S.kind hkind fun env he s1 x=>?_
 subst he
 refine⟨lim.keeps x.toInCall.keep,codeAny_func ?_⟩
 obtain⟨t,ht,hq⟩:=hbody A outer s H vs Q E (hr.deeper _) hsp
 have I:Inv (cxOf CX P w K mg base N qual scope f cdv A outer s H E) [] (start N vs) H s1:=inv_start S hr.hd e0 hl r x
 refine wpAny_mono (ht [] s1 (start N vs) H _ I hq) (fun fl s' hs=>?_) fun e s' hs=>hs
 have fin:∀ {σ':St}{H':Hp}{v:V}{u:Value},Inv (cxOf CX P w K mg base N qual scope f cdv A outer s H E) [] σ' H' s'→aY v u→Q v H'→CE outer P w H s Q u s':=
  fun {σ' H' v u} J rv q=>⟨v,H',J.os,J.bare,J.base,J.hok,rv,q⟩
 cases fl with
 | ret u=>
  obtain⟨v,σ',H',J,rv,q⟩:=hs
  exact fin J rv q
 | next=>
  obtain⟨σ',H',J,q⟩:=hs
  exact fin (v:=V.non) (u:=Value.none) J rfl q
 | brk=>
  obtain⟨_,_,_,q⟩:=hs
  exact False.elim q
 | cont=>
  obtain⟨_,_,_,q⟩:=hs
  exact False.elim q
end L2
namespace L2
open PySem PySem.Spec PyProof.Rows
section
variable {X:Cx}{x:Str}{p pos:Pos}{e:Expr}{es:List Expr}{t:TA}{id T:String}{r:List V→Hp→VK→Prop}
noncomputable def tCB (r:List V→Hp→VK→Prop) (t:TA):TE:=fun σ H Q=>t σ H fun vs H1=>r vs H1 Q
theorem aX (hc:eD X (.builtin id) r) (hg:Gl X x) (hm:X.mg x=none) (hv:bootBuiltins x=some (.builtin id)) (ha:PA X (e::es) t) (hn:x ≠ "__name__" := by decide) (hdb:(x == ("__debug__" : Str))=false:=by decide)
  (he:starEach (e::es) X.env=(false,eval e X.env)::starEach es X.env:=by rfl) (hpl:(backTo pos (starEach es X.env)).any (·.1)=false:=by rfl):PE X (.Call (.Name x p) (e::es) [] pos) (tCB r t):=by
 intro pins s σ H Q I h
 refine wpAny_Call_Name_kw (ld_blt I hg hm hv ?_ hn hdb)
 exact PyProof.Rows.callWith_builtin1 (cH (ha pos pins s σ H _ I h) fun us s1 ⟨vs,H1,I1,r1,q1⟩=>hc pins s1 σ H1 vs us Q I1 r1 q1) he hpl
theorem aZ (hc:eD X (.type T) r) (hg:Gl X x) (hm:X.mg x=none) (hv:bootBuiltins x=some (.type T)) (ha:PA X (e::es) t) (hn:x ≠ "__name__" := by decide) (hdb:(x == ("__debug__" : Str))=false:=by decide)
  (he:starEach (e::es) X.env=(false,eval e X.env)::starEach es X.env:=by rfl) (hpl:(backTo pos (starEach es X.env)).any (·.1)=false:=by rfl):PE X (.Call (.Name x p) (e::es) [] pos) (tCB r t):=by
 intro pins s σ H Q I h
 refine wpAny_Call_Name_kw (ld_blt I hg hm hv ?_ hn hdb)
 exact PyProof.Rows.callWith_type1 (cH (ha pos pins s σ H _ I h) fun us s1 ⟨vs,H1,I1,r1,q1⟩=>hc pins s1 σ H1 vs us Q I1 r1 q1) he hpl
end
end L2
namespace HT
open PySem PyProof.Rows
section
open PySem.SeqAt
open PySem.AutoSeq1 (wpAny_loadPart')
open PySem.MeetsSeq PySem.MeetsSeq2 PySem.MeetsSeq3
end
section
variable {prog:Program}{w:World}{A:Around}{E:Value→Shared→Prop}{s:Shared}
theorem cat_tup {t b:Addr}{vs ws:List Value}{Q:Value→Shared→Prop} (ht:IsTup s.heap t vs.toArray) (hb:IsTup s.heap b ws.toArray) (hv:vs≠[])
  (h1:ws=[]→Q (.ref t) s) (h2:ws≠[]→Q (.ref s.heap.objs.size) { s with heap:=s.heap.push { cls:=.type "tuple",data:=.seq (vs++ws).toArray } })
  (hsz:vs.length+ws.length≤sizeLine):wpAny (model prog w) A (binaryOp .Add (.ref t) (.ref b)) Q E s:=by
 obtain⟨⟨cls,dd,data,sl⟩,ho,hc,n,hd⟩:=id ht
 obtain⟨⟨cls2,dd2,data2,sl2⟩,ho2,hc2,n2,hd2⟩:=id hb
 simp only at hc hd hc2 hd2
 subst hc hd hc2 hd2
 have e:vs.toArray++ws.toArray=(vs++ws).toArray:=by simp
 by_cases hw:ws=[]
 ·exact concat_meets ⟨_,ho,rfl⟩ ⟨_,ho2,rfl⟩ noFill_tuple_add seq_tuple_add PySem.F.slot_tuple_add PySem.F.entry_tuple_add (PySem.F.args_tuple_add_2 _ _)
   (tuple_addW1 t b vs.toArray ws.toArray n n2 dd dd2 sl sl2 (by simpa using hv) (by simp [hw])) ⟨ho,ho2,h1 hw⟩
 ·refine concat_meets ⟨_,ho,rfl⟩ ⟨_,ho2,rfl⟩ noFill_tuple_add seq_tuple_add PySem.F.slot_tuple_add PySem.F.entry_tuple_add (PySem.F.args_tuple_add_2 _ _)
   (tuple_addW2 t b vs.toArray ws.toArray n n2 dd dd2 sl sl2 (by simpa using hv) (by simpa using hw) (by rw[List.size_toArray,List.size_toArray];exact hsz)) ⟨ho,ho2,?_⟩
  rw[e]
  exact h2 hw
end
end HT
namespace L2
open PySem PySem.Spec PyProof.Rows
theorem intsAre_of {ns:List Int}:∀ {us:List Value},bE (ns.map V.int) us→IntsAre us ns:=by
 induction ns with
 | nil=>intro us r;rw[List.map_nil] at r;cases r;exact .nil
 | cons n ns ih=>
  intro us r
  rw[List.map_cons] at r
  cases r with
  | cons r1 r2=>
   obtain⟨t,e⟩:=r1
   subst e
   exact .cons n t (ih r2)
section
variable {X:Cx}{e:Expr}{te:TE}{lo hi:Option Expr}{tl th:TO}{pos p2:Pos}
noncomputable def rCatT (K:PySem.W.Frag):R2:=fun x y H Q=>∃ a b xs ys,x=.ref a∧y=.ref b∧bH K H a xs∧bH K H b ys∧xs≠[]∧xs.length+ys.length≤sizeLine∧
 (ys=[]→Q (.ref a) H)∧(ys≠[]→∀ p,H p=none→Q (.ref p) (upd H p (.tup (xs++ys))))
theorem bE.nil_iff {xs:List V}{us:List Value} (r:bE xs us):us=[]↔xs=[]:=by
 cases r with
 | nil=>simp
 | cons _ _=>simp
theorem op_catT:OpR X (binaryOp .Add) (rCatT X.K):=by
 intro pins s σ H x y v u Q I rx ry h
 obtain⟨a,b,xs,ys,rfl,rfl,ha,hb,hx,hz,q1,q2⟩:=h
 cases rx
 cases ry
 obtain⟨its,r1,p1,_⟩:=I.tuple ha
 obtain⟨its2,r2,p2,_⟩:=I.tuple hb
 refine HT.cat_tup p1 p2 (fun z=>hx (r1.nil_iff.mp z)) (fun z=>⟨.ref a,H,I,rfl,q1 (r2.nil_iff.mp z)⟩) (fun z=>?_) (by rw[← r1.length,← r2.length];exact hz)
 refine⟨.ref s.heap.objs.size,_,I.laid (t':=s.toks) (o:=.tup (xs++ys)) (fun b ob q=>Heap.get?_push_of_some _ q) (Nat.le_refl _) ?_,rfl,q2 (fun w=>z (r2.nil_iff.mpr w)) _ (I.hok.fresh (Nat.le_refl _))⟩
 exact⟨by rw[List.length_append];exact hz,_,r1.append r2,IsTup.new _ _⟩
end
end L2
namespace L2
open PySem PySem.Spec PyProof.Rows
noncomputable def ixN (n:Nat) (i:Int):Option Nat:=if 0≤i then (if i < n then some i.toNat else none) else if -(n:Int)≤i then some (i+n).toNat else none
noncomputable def atI {α:Type} (xs:List α) (i:Int):Option α:=(ixN xs.length i).bind fun j=>xs[j]?
theorem ixN_seq {n:Nat}{i:Int}{j:Nat} (h:ixN n i=some j):seqIndex? i n=some j∧j < n∧-(n:Int)≤i∧i < n:=by
 unfold ixN at h
 by_cases h0:0≤i
 ·rw[if_pos h0] at h
  by_cases h1:i < n
  ·rw[if_pos h1] at h
   have e:i.toNat=j:=Option.some.inj h
   exact⟨by rw[seqIndex_of h0 h1,e],by omega,by omega,h1⟩
  ·rw[if_neg h1] at h;cases h
 ·rw[if_neg h0] at h
  by_cases h1 : -(n:Int)≤i
  ·rw[if_pos h1] at h
   have e:(i+n).toNat=j:=Option.some.inj h
   exact⟨by rw[seqIndex_neg (by omega) h1,e],by omega,h1,by omega⟩
  ·rw[if_neg h1] at h;cases h
theorem atI_get {α:Type}{xs:List α}{i:Int}{v:α} (h:atI xs i=some v):∃ j,seqIndex? i xs.length=some j∧xs[j]? = some v∧j < xs.length∧-(xs.length:Int)≤i∧i < xs.length:=by
 unfold atI at h
 cases e:ixN xs.length i with
 | none=>rw[e] at h;cases h
 | some j=>
  rw[e] at h
  obtain⟨h1,h2,h3,h4⟩:=ixN_seq e
  exact⟨j,h1,h,h2,h3,h4⟩
theorem atI_nat {α:Type}{xs:List α}{j:Nat}{v:α} (h:xs[j]? = some v):atI xs (j:Int)=some v:=by
 have hj:j < xs.length:=(List.getElem?_eq_some_iff.mp h).1
 have e:ixN xs.length (j:Int)=some j:=by
  unfold ixN
  rw[if_pos (by omega),if_pos (by omega)];simp
 unfold atI;rw[e];exact h
theorem atI_last {α:Type} (xs:List α) (v:α):atI (xs++[v]) (-1)=some v:=by
 have hl:(xs++[v]).length=xs.length+1:=by simp
 have e:ixN (xs++[v]).length (-1)=some xs.length:=by
  unfold ixN
  rw[hl,if_neg (by decide),if_pos (by omega)]
  congr 1
  omega
 unfold atI
 rw[e]
 show (xs++[v])[xs.length]? = some v
 simp
noncomputable def PlainIx (b:Expr):Prop:=∀ o i,subscripted b false o i=operate [o,i] (getItem o i)
noncomputable def IxR (X:Cx) (r:R2):Prop:=
 ∀ (value slice:Expr) (pins:List (Addr×Obj)) (s:Shared) (σ:St) (H:Hp) (x y:V) (v u:Value) (Q:VK),Inv X pins σ H s→aY x v→aY y u→r x y H Q→
  subscripted slice false v u=operate [v,u] (getItem v u)→wpAny (model X.prog X.w) X.A (subscriptTail value slice v u) (EP X pins σ Q) X.xe s
noncomputable def MtR (X:Cx) (id:String) (r:V→List V→Hp→VK→Prop):Prop:=
 ∀ (pins:List (Addr×Obj)) (s:Shared) (σ:St) (H:Hp) (x:V) (xs:List V) (v:Value) (us:List Value) (Q:VK),Inv X pins σ H s→aY x v→bE xs us→r x xs H Q→
  wpAny (model X.prog X.w) X.A (call (.builtin id) (v::us)) (EP X pins σ Q) X.xe s
section
variable {X:Cx}{a b:Expr}{ta tb:TE}{pos:Pos}
theorem IxR.or {r r':R2} (h:IxR X r) (h':IxR X r'):IxR X (fun x y H Q=>r x y H Q∨r' x y H Q):=by
 intro value slice pins s σ H x y v u Q I rx ry q hs
 rcases q with q | q
 ·exact h value slice pins s σ H x y v u Q I rx ry q hs
 ·exact h' value slice pins s σ H x y v u Q I rx ry q hs
theorem bI {r:R2} (hr:IxR X r) (ha:PE X a ta) (hb:PE X b tb) (hs:PlainIx b):PE X (.Subscript a b pos) (tOp r ta tb):=by
 intro pins s σ H Q I h
 exact Subscript_ (binT ha hb I h fun v u s2 x y H2 I2 rx ry q=>hr a b pins s2 σ H2 x y v u Q I2 rx ry q (hs _ _))
noncomputable def rIxL (K:PySem.W.Frag):R2:=fun x y H Q=>∃ p xs i v,x=.ref p∧y=.int i∧cE K H p xs∧atI xs i=some v∧Q v H
noncomputable def rIxT (K:PySem.W.Frag):R2:=fun x y H Q=>∃ p xs i v,x=.ref p∧y=.int i∧bH K H p xs∧atI xs i=some v∧Q v H
noncomputable def rIxS:R2:=fun x y H Q=>∃ z i c,x=.str z∧y=.int i∧z.length≤sizeLine∧atI z.cps.toList i=some c∧Q (.str ⟨#[c]⟩) H
theorem ix_list:IxR X (rIxL X.K):=by
 intro value slice pins s σ H x y v u Q I rx ry h hs
 obtain⟨p,xs,i,z,rfl,rfl,hq,he,q⟩:=h
 cases rx
 obtain⟨t,rfl⟩:=ry
 obtain⟨its,r,pl,hz⟩:=I.list hq
 obtain⟨j,h1,h2,h3,h4,h5⟩:=atI_get he
 obtain⟨w,ew,rw'⟩:=r.get h2
 have hl:=r.length
 have hn:=line63
 have fin:EP X pins σ Q w s:=⟨z,H,I,rw',q⟩
 by_cases h0:0≤i
 ·have hj:i.toNat=j:=by
   rw[seqIndex_of h0 h5] at h1
   exact Option.some.inj h1
  exact item_listR pl.isList h0 (by omega) (by rw[hj];simpa using ew) fin hs
 ·have hj:(i+(its.toArray.size:Int)).toNat=j:=by
   rw[seqIndex_neg (by omega) h4] at h1
   rw[List.size_toArray,← hl]
   exact Option.some.inj h1
  exact subscriptTail_builtinR (x:=w) pl.isList.typeIs slot_list_getitem.lookup
   (wpAny_getItem_list_neg (Q:=fun r s'=>r=w∧EP X pins σ Q r s') pl.isList (by omega) (by rw[List.size_toArray] <;> omega) (by omega) (by rw[hj];simpa using ew) ⟨rfl,fin⟩) hs
theorem ix_tup:IxR X (rIxT X.K):=by
 intro value slice pins s σ H x y v u Q I rx ry h hs
 obtain⟨p,xs,i,z,rfl,rfl,hq,he,q⟩:=h
 cases rx
 obtain⟨t,rfl⟩:=ry
 obtain⟨its,r,pl,hz⟩:=I.tuple hq
 obtain⟨j,h1,h2,h3,h4,h5⟩:=atI_get he
 obtain⟨w,ew,rw'⟩:=r.get h2
 have hl:=r.length
 have hn:=line63
 have fin:EP X pins σ Q w s:=⟨z,H,I,rw',q⟩
 exact subscriptTail_builtinR (x:=w) pl.typeIs slot_tuple_getitem.lookup
  (getItem_tuple (j:=j) (Q:=fun r s'=>r=w∧EP X pins σ Q r s') pl (by omega) (by omega) (by rw[List.size_toArray,← hl];exact h1) (by simpa using ew) ⟨rfl,fin⟩) hs
theorem ix_str:IxR X rIxS:=by
 intro value slice pins s σ H x y v u Q I rx ry h hs
 obtain⟨z,i,c,rfl,rfl,hz,he,q⟩:=h
 obtain⟨t,rfl⟩:=rx
 obtain⟨t',rfl⟩:=ry
 obtain⟨j,h1,h2,h3,h4,h5⟩:=atI_get he
 have hl:z.cps.toList.length=z.length:=by simp [Str.length]
 rw[hl] at h1 h4 h5
 have hn:=line63
 exact tail_any (typeIs_str s z t) slot_str_getitem.lookup (getItem_str (c:=c) (by
  have e1:decide (i < -(2 ^ 63:Int))=false:=decide_eq_false (by omega)
  have e2:decide (i ≥ 2 ^ 63)=false:=decide_eq_false (by omega)
  rw[e1,e2,Bool.or_false]) (by rw[h1];simpa using h2) ⟨.str ⟨#[c]⟩,H,I.tok _,⟨_,rfl⟩,q⟩) hs
noncomputable def rIx (K:PySem.W.Frag):R2:=fun x y H Q=>rIxL K x y H Q∨rIxT K x y H Q∨rIxS x y H Q
theorem ix_seq:IxR X (rIx X.K):=ix_list.or (ix_tup.or ix_str)
theorem mapSeq_set (its:List Value) (n j:Nat) (u:Value):Obj.mapSeq (·.setIfInBounds j u) { cls:=.type "list",data:=.seq its.toArray n }={ cls:=.type "list",data:=.seq (its.set j u).toArray n }:=by
 simp [Obj.mapSeq]
theorem Inv.lst {pins:List (Addr×Obj)}{σ:St}{H:Hp}{s:Shared}{p:Addr}{xs:List V} (I:Inv X pins σ H s) (h:H p=some (.lst xs)) :
  ∃ (its:List Value) (n:Nat),bE xs its∧s.heap.get? p=some { cls:=.type "list",data:=.seq its.toArray n }∧xs.length≤sizeLine:=by
 obtain⟨z,its,n,r,e⟩:=I.hok p _ h
 exact⟨its,n,r,e,z⟩
theorem Inv.lstUpd {pins:List (Addr×Obj)}{σ:St}{H:Hp}{s:Shared}{p:Addr}{xs ys:List V}{its its':List Value}{n n':Nat}{f:Obj→Obj} (I:Inv X pins σ H s) (h:H p=some (.lst xs))
  (ho:s.heap.get? p=some { cls:=.type "list",data:=.seq its.toArray n }) (hf:f { cls:=.type "list",data:=.seq its.toArray n }={ cls:=.type "list",data:=.seq its'.toArray n' }) (r:bE ys its') (hz:ys.length≤sizeLine) (t:Nat) :
  Inv X pins σ (upd H p (.lst ys)) { s with heap:=s.heap.update p f,toks:=t }:=by
 have e:(s.heap.update p f).get? p=some { cls:=.type "list",data:=.seq its'.toArray n' }:=by
  rw[Heap.get?_update_self f ho (by rw[hf] <;> rfl),hf]
 refine I.write (x:=p) (e:=p) (by rw[h];trivial) (.inl rfl) (fun b u hb q=>(Heap.get?_update_other _ _ (Ne.symm hb)).trans q) ⟨_,e⟩ ?_
 exact⟨hz,its',n',r,e⟩
noncomputable def rSetL:V→V→V→Hp→(Hp→Prop)→Prop:=fun o i v H Q=>∃ p xs k j,o=.ref p∧i=.int k∧H p=some (.lst xs)∧ixN xs.length k=some j∧Q (upd H p (.lst (xs.set j v)))
theorem set_list:PSet X rSetL:=by
 intro pins s σ H o i v ov iv u Q I ro ri rv h
 obtain⟨p,xs,k,j,rfl,rfl,hp,hj,q⟩:=h
 cases ro
 obtain⟨t,rfl⟩:=ri
 obtain⟨its,n,r,ho,hz⟩:=I.lst hp
 obtain⟨h1,h2,h3,h4⟩:=ixN_seq hj
 have hl:=r.length
 have hn:=line63
 have I':Inv X pins σ (upd H p (.lst (xs.set j v))) { s with heap:=s.heap.update p (Obj.mapSeq (·.setIfInBounds j u)) }:=
  I.lstUpd hp ho (mapSeq_set its n j u) (r.set rv j) (by rw[List.length_set];exact hz) s.toks
 by_cases h0:0≤k
 ·have hk:k.toNat=j:=by
   rw[seqIndex_of h0 h4] at h1
   exact Option.some.inj h1
  exact PySem.W.ki_setAt ho h0 (by omega) (by rw[List.size_toArray,← hl];exact h4) (by rw[hk];exact⟨_,I',q⟩)
 ·have hk:(k+(its.toArray.size:Int)).toNat=j:=by
   rw[seqIndex_neg (by omega) h3] at h1
   rw[List.size_toArray,← hl]
   exact Option.some.inj h1
  exact PySem.W.ki_setBack ho (by omega) (by rw[List.size_toArray,← hl];exact h3) (by omega) (by rw[hk];exact⟨_,I',q⟩)
noncomputable def flatV:V→Bool
 | .non=>true
 | .bl _=>true
 | .int _=>true
 | .str _=>true
 | _=>false
noncomputable def eqV:V→V→Bool
 | .non,.non=>true
 | .bl a,.bl b=>a == b
 | .bl a,.int b=>(if a then 1 else 0) == b
 | .int a,.bl b=>a == (if b then 1 else 0)
 | .int a,.int b=>a == b
 | .str a,.str b=>a == b
 | _,_=>false
theorem eqAt_V {A:Around}{s:Shared}{y x:V}{u v:Value} (ry:aY y u) (rx:aY x v) (fy:flatV y=true) (fx:flatV x=true):SeqAt.EqAt A s u v (eqV y x):=by
 cases y with
 | non=>
  cases ry
  cases x with
  | non=>cases rx;exact SeqAt.EqAt.same _
  | bl b=>cases rx;exact SeqAt.EqAt.none_bool b
  | int b=>obtain⟨t,rfl⟩:=rx;exact SeqAt.EqAt.none_int b t
  | str b=>obtain⟨t,rfl⟩:=rx;exact SeqAt.EqAt.none_str b t
  | _=>exact absurd (show false=true from fx) Bool.false_ne_true
 | bl a=>
  cases ry
  cases x with
  | non=>cases rx;exact SeqAt.EqAt.bool_none a
  | bl b=>cases rx;exact SeqAt.EqAt.bool_bool a b
  | int b=>obtain⟨t,rfl⟩:=rx;exact SeqAt.EqAt.bool_int a b t
  | str b=>obtain⟨t,rfl⟩:=rx;exact SeqAt.EqAt.bool_str a b t
  | _=>exact absurd (show false=true from fx) Bool.false_ne_true
 | int a=>
  obtain⟨t',rfl⟩:=ry
  cases x with
  | non=>cases rx;exact SeqAt.EqAt.int_none a t'
  | bl b=>cases rx;exact SeqAt.EqAt.int_bool a t' b
  | int b=>obtain⟨t,rfl⟩:=rx;exact SeqAt.EqAt.int_int a t' b t
  | str b=>obtain⟨t,rfl⟩:=rx;exact SeqAt.EqAt.int_str a t' b t
  | _=>exact absurd (show false=true from fx) Bool.false_ne_true
 | str a=>
  obtain⟨t',rfl⟩:=ry
  cases x with
  | non=>cases rx;exact SeqAt.EqAt.str_none a t'
  | bl b=>cases rx;exact SeqAt.EqAt.str_bool a t' b
  | int b=>obtain⟨t,rfl⟩:=rx;exact SeqAt.EqAt.str_int a t' b t
  | str b=>obtain⟨t,rfl⟩:=rx;exact SeqAt.EqAt.str_str a t' b t
  | _=>exact absurd (show false=true from fx) Bool.false_ne_true
 | _=>exact absurd (show false=true from fy) Bool.false_ne_true
noncomputable def eqU (x:V) (u:Value):Bool:=match u with
 | .none=>eqV .non x
 | .bool b=>eqV (.bl b) x
 | .int i _=>eqV (.int i) x
 | .str z _=>eqV (.str z) x
 | _=>false
theorem eqU_of {x y:V}{u:Value} (r:aY y u) (f:flatV y=true):eqU x u=eqV y x:=by
 cases y with
 | non=>cases r;rfl
 | bl b=>cases r;rfl
 | int i=>obtain⟨t,rfl⟩:=r;rfl
 | str z=>obtain⟨t,rfl⟩:=r;rfl
 | _=>exact absurd (show false=true from f) Bool.false_ne_true
theorem any_eqU {x:V}:∀ {xs:List V}{us:List Value},bE xs us→xs.all flatV=true→us.any (eqU x)=xs.any fun y=>eqV y x
 | _,_,.nil,_=>rfl
 | y::xs,u::us,.cons r t,f=>by
  rw[List.all_cons,Bool.and_eq_true] at f
  rw[List.any_cons,List.any_cons,eqU_of r f.1,any_eqU t f.2]
theorem mem_eqAt {A:Around}{s:Shared}{x:V}{v:Value} (rx:aY x v) (fx:flatV x=true):∀ {xs:List V}{us:List Value},bE xs us→xs.all flatV=true→∀ u∈us,SeqAt.EqAt A s u v (eqU x u)
 | _,_,.nil,_=>fun u hu=>by cases hu
 | y::xs,u::us,.cons r t,f=>fun u' hu=>by
  rw[List.all_cons,Bool.and_eq_true] at f
  rcases List.mem_cons.mp hu with rfl | hu
  ·rw[eqU_of r f.1];exact eqAt_V r rx f.1 fx
  ·exact mem_eqAt rx fx t f.2 u' hu
noncomputable def inV (x:V) (xs:List V):Bool:=xs.any fun y=>eqV y x
noncomputable def rIn (K:PySem.W.Frag) (neg:Bool):R2:=fun x y H Q=>∃ p xs,y=.ref p∧(cE K H p xs∨bH K H p xs)∧flatV x=true∧xs.all flatV=true∧Q (.bl (if neg then !inV x xs else inV x xs)) H
theorem op_in_seq:OpR X (compareOp .In) (rIn X.K false):=by
 intro pins s σ H x y v u Q I rx ry h
 obtain⟨p,xs,rfl,hq,fx,fs,q⟩:=h
 cases ry
 rcases hq with hq | hq
 ·obtain⟨its,r,pl,hz⟩:=I.list hq
  refine SeqAt.in_listAt (eqU x) pl.isList (fun w hw=>mem_eqAt rx fx r fs w (by simpa using hw)) ⟨.bl _,H,I,rfl,?_⟩
  rw[show its.toArray.any (eqU x)=its.any (eqU x) by simp,any_eqU r fs]
  exact q
 ·obtain⟨its,r,pl,hz⟩:=I.tuple hq
  refine SeqAt.in_tupleAt (eqU x) pl (fun w hw=>mem_eqAt rx fx r fs w (by simpa using hw)) ⟨.bl _,H,I,rfl,?_⟩
  rw[show its.toArray.any (eqU x)=its.any (eqU x) by simp,any_eqU r fs]
  exact q
theorem op_notIn_seq:OpR X (compareOp .NotIn) (rIn X.K true):=by
 intro pins s σ H x y v u Q I rx ry h
 obtain⟨p,xs,rfl,hq,fx,fs,q⟩:=h
 cases ry
 rcases hq with hq | hq
 ·obtain⟨its,r,pl,hz⟩:=I.list hq
  refine SeqAt.notIn_listAt (eqU x) pl.isList (fun w hw=>mem_eqAt rx fx r fs w (by simpa using hw)) ⟨.bl _,H,I,rfl,?_⟩
  rw[show its.toArray.any (eqU x)=its.any (eqU x) by simp,any_eqU r fs]
  exact q
 ·obtain⟨its,r,pl,hz⟩:=I.tuple hq
  refine SeqAt.notIn_tupleAt (eqU x) pl (fun w hw=>mem_eqAt rx fx r fs w (by simpa using hw)) ⟨.bl _,H,I,rfl,?_⟩
  rw[show its.toArray.any (eqU x)=its.any (eqU x) by simp,any_eqU r fs]
  exact q
theorem call_len_seq:eD X (.builtin "len") (fun xs H Q=>∃ p ys,xs=[.ref p]∧(cE X.K H p ys∨bH X.K H p ys)∧Q (.int ys.length) H):=by
 intro pins s σ H xs us Q I r h
 obtain⟨p,ys,rfl,hq,q⟩:=h
 obtain⟨u,rfl,rx⟩:=vals1 r
 cases rx
 have hn:=line63
 rcases hq with hq | hq
 ·obtain⟨its,r',pl,hz⟩:=I.list hq
  have hlen:=r'.length
  exact Calls.call_len_list pl.isList (by simp only [List.size_toArray] <;> omega) ⟨.int ys.length,H,I.tok _,⟨s.toks+1,by rw[List.size_toArray,hlen]⟩,q⟩
 ·obtain⟨its,r',pl,hz⟩:=I.tuple hq
  have hlen:=r'.length
  exact len_tuple pl (by simp only [List.size_toArray] <;> omega) ⟨.int ys.length,H,I.tok _,⟨s.toks+1,by rw[List.size_toArray,hlen]⟩,q⟩
theorem call_list_of:eD X (.type "list") (fun xs H Q=>∃ p ys,xs=[.ref p]∧(cE X.K H p ys∨bH X.K H p ys)∧∀ l,H l=none→Q (.ref l) (upd H l (.lst ys))):=by
 intro pins s σ H xs us Q I r h
 obtain⟨p,ys,rfl,hq,q⟩:=h
 obtain⟨u,rfl,rx⟩:=vals1 r
 cases rx
 have fin:∀ (its:List Value),bE ys its→ys.length≤sizeLine→∀ (h':Heap) (c':Nat),(∀ b o',s.heap.get? b=some o'→h'.get? b=some o')→
   h'.get? s.heap.objs.size=some { cls:=.type "list",dict:=none,data:=.seq its.toArray c',slots:=#[] }→EP X pins σ Q (.ref s.heap.objs.size) { s with heap:=h' }:=fun its r' hz h' c' kp e=>
  ⟨.ref s.heap.objs.size,_,I.laid (t':=s.toks) kp (Nat.le_refl _) (show cN X.prog X.w _ h' _ (.lst ys) from ⟨hz,its,c',r',e⟩),rfl,q _ (I.hok.fresh (Nat.le_refl _))⟩
 rcases hq with hq | hq
 ·obtain⟨its,r',pl,hz⟩:=I.list hq
  have hlen:=r'.length
  obtain⟨o,ho,hc,n,hd⟩:=pl.isList
  exact call_list_seq p (.inl rfl) ho hc hd (fun h' c' kp e=>fin its r' hz h' c' kp e) (by simp only [List.size_toArray] <;> omega)
 ·obtain⟨its,r',pl,hz⟩:=I.tuple hq
  have hlen:=r'.length
  obtain⟨o,ho,hc,n,hd⟩:=pl
  exact call_list_seq p (.inr rfl) ho hc hd (fun h' c' kp e=>fin its r' hz h' c' kp e) (by simp only [List.size_toArray] <;> omega)
theorem call_tuple_of:eD X (.type "tuple") (fun xs H Q=>∃ p ys,xs=[.ref p]∧((cE X.K H p ys∧∀ l,H l=none→Q (.ref l) (upd H l (.tup ys)))∨(bH X.K H p ys∧Q (.ref p) H))):=by
 intro pins s σ H xs us Q I r h
 obtain⟨p,ys,rfl,h⟩:=h
 obtain⟨u,rfl,rx⟩:=vals1 r
 cases rx
 rcases h with ⟨hq,q⟩ | ⟨hq,q⟩
 ·obtain⟨its,r',pl,hz⟩:=I.list hq
  have hlen:=r'.length
  refine call_tuple_list pl.isList (fun h' kp=>?_) (by simp only [List.size_toArray] <;> omega)
  have I1:Inv X pins σ H { s with heap:=h' }:=I.kept (t':=s.toks) kp
  have I2:Inv X pins σ (upd H h'.objs.size (.tup ys)) { s with heap:=h'.push { cls:=.type "tuple",data:=.seq its.toArray } }:=
   I1.laid (t':=s.toks) (fun b o e=>Heap.get?_push_of_some _ e) (Nat.le_refl _) (show cN X.prog X.w _ _ _ (.tup ys) from ⟨hz,its,r',IsTup.new _ _⟩)
  exact⟨.ref h'.objs.size,_,I2,rfl,q _ (I1.hok.fresh (Nat.le_refl _))⟩
 ·obtain⟨its,r',pl,hz⟩:=I.tuple hq
  exact call_tuple_same pl ⟨.ref p,H,I,rfl,q⟩
noncomputable def tyV (K:PySem.W.Frag) (T:String) (x:V) (H:Hp):Prop:=match x with
 | .str _=>T = "str"
 | .int _=>T = "int"
 | .ref p=>(T = "list" ∧ ∃ xs,cE K H p xs)∨(T = "tuple" ∧ ∃ o,K.lookup p=some o∧o.cls=.type "tuple" ∧ o.dict=none)∨
   (T = "dict" ∧ ((∃ kvs,H p=some (.dK kvs))∨∃ kvs,H p=some (.dT kvs)))∨(T = "set" ∧ ∃ S n,H p=some (.set S n))
 | _=>False
theorem tyV_is {pins:List (Addr×Obj)}{σ:St}{H:Hp}{s:Shared}{T:String}{x:V}{v:Value} (I:Inv X pins σ H s) (r:aY x v) (ty:tyV X.K T x H) :
  s.TypeIs v T∧∀ a,v=.ref a→∃ ob,s.heap.get? a=some ob∧ob.dict=none:=by
 cases x with
 | str z=>
  obtain⟨t,rfl⟩:=r
  cases (show T = "str" from ty)
  exact⟨typeIs_str s z t,fun _ e=>nomatch e⟩
 | int i=>
  obtain⟨t,rfl⟩:=r
  cases (show T = "int" from ty)
  exact⟨typeIs_int s i t,fun _ e=>nomatch e⟩
 | ref p=>
  cases r
  rcases ty with ⟨rfl,xs,hq⟩ | ⟨rfl,o,hk,hc,hd⟩ | ⟨rfl,hk⟩ | ⟨rfl,S,n,hk⟩
  ·obtain⟨its,_,pl,_⟩:=I.list hq
   refine⟨pl.isList.typeIs,fun a e=>?_⟩
   cases e
   obtain⟨o,n,e,c,hd,_⟩:=pl
   exact⟨o,e,hd⟩
  ·refine⟨⟨o,I.kIn p o hk,hc⟩,fun a e=>?_⟩
   cases e
   exact⟨o,I.kIn _ o hk,hd⟩
  ·have z:∃ o,s.heap.get? p=some o∧o.ExactDict:=by
    rcases hk with ⟨kvs,hk⟩ | ⟨kvs,hk⟩
    ·obtain⟨_,_,_,_,o,_,_,e,ex,_⟩:=I.hok p _ hk
     exact⟨o,e,ex⟩
    ·obtain⟨_,_,_,_,o,_,_,e,ex,_⟩:=I.hok p _ hk
     exact⟨o,e,ex⟩
   obtain⟨o,e,ex⟩:=z
   refine⟨⟨o,e,ex.1⟩,fun a e2=>?_⟩
   cases e2
   exact⟨o,e,ex.2.1⟩
  ·obtain⟨o,_,_,_,e,ex,_⟩:=I.hok p _ hk
   refine⟨⟨o,e,ex.1⟩,fun a e2=>?_⟩
   cases e2
   exact⟨o,e,ex.2.1⟩
 | _=>exact False.elim ty
noncomputable def tBM (K:PySem.W.Frag) (T:String) (r:V→List V→Hp→VK→Prop) (to:TE) (t:TA):TE:=fun σ H Q=>to σ H fun x H1=>tyV K T x H1∧t σ H1 fun xs H2=>r x xs H2 Q
variable {o e:Expr}{es:List Expr}{to:TE}{t:TA}{name:Str}{apos cpos:Pos}{T id:String}{r:V→List V→Hp→VK→Prop}
theorem pe_bm (pa:PlainAttrs T) (slot:Slot T name id) (hty:typeOf (.builtin id)=pure (.type "method_descriptor")) (hm:MtR X id r) (ho:PE X o to) (ha:PA X (e::es) t)
  (hbase:attributeBase o name X.env (eval o X.env)=eval o X.env:=by rfl)
  (hfew:((backTo cpos (starEach (e::es) X.env)).all (fun x=>!x.1) && (backToKw cpos (keywordEach [] X.env)).all (fun x=>x.1.isSome)
   && decide ((e::es).length+([]:List Keyword).length+(if ([]:List Keyword).isEmpty then 0 else 1) < 30))=true:=by rfl)
  (hline:(apos.endLine == cpos.line)=true:=by rfl) (hs:starEach (e::es) X.env=(false,eval e X.env)::starEach es X.env:=by rfl) (hplain:(backTo cpos (starEach es X.env)).any (·.1)=false:=by rfl) :
  PE X (.Call (.Attribute o name apos) (e::es) [] cpos) (tBM X.K T r to t):=by
 intro pins s σ H Q I h
 refine wpAny_Call_method_late hbase hfew hline rfl (cH (ho pins s σ H _ I h) fun v s1 ⟨x,H1,I1,r1,ty,q1⟩=>?_)
 obtain⟨h1,h2⟩:=tyV_is I1 r1 ty
 refine⟨T,id,pa,slot,hty,h1,h2,?_⟩
 have hA:=ha cpos pins s1 σ H1 _ I1 q1
 rw[hs] at hA ⊢
 refine Calls.callWith_builtin (by show (false || (backTo cpos (starEach es X.env)).any (·.1))=false;rw[hplain] <;> rfl) (Calls.evalArgs_plain ?_)
 exact cH hA fun us s2 ⟨vs,H2,I2,r2,q2⟩=>hm pins s2 σ H2 x vs v us Q I2 r1 r2 q2
end
end L2
namespace L2
open PySem PySem.Spec PyProof.Rows
noncomputable def MtM (X:Cx) (id:String) (r:V→List V→Hp→VK→Prop):Prop:=
 ∀ (pins:List (Addr×Obj)) (s:Shared) (σ:St) (H:Hp) (x:V) (xs:List V) (v:Value) (us:List Value) (Q:VK),Inv X pins σ H s→aY x v→bE xs us→r x xs H Q→
  wpAny (model X.prog X.w) X.A (call (.builtin id) (v::us)) (EP X pins σ Q) X.xe s
theorem bE.one {x:V}{us:List Value} (h:bE [x] us):∃ u,us=[u]∧aY x u:=vals1 h
theorem bE.two {x y:V}{us:List Value} (h:bE [x,y] us):∃ u v,us=[u,v]∧aY x u∧aY y v:=vals2 h
theorem bE.rep {xs:List V}{us:List Value} (h:bE xs us):∀ k:Nat,bE (List.replicate k xs).flatten (List.replicate k us).flatten
 | 0=>.nil
 | k+1=>by
  rw[List.replicate_succ,List.replicate_succ,List.flatten_cons,List.flatten_cons]
  exact bE.append h (bE.rep h k)
theorem foldl_rep (its:List Value):∀ (k:Nat) (acc:List Value),
  List.foldl (fun x1 x2=>x1++x2) acc.toArray (List.replicate k its.toArray)=(acc++(List.replicate k its).flatten).toArray
 | 0,acc=>by simp
 | k+1,acc=>by
  have e:acc.toArray++its.toArray=(acc++its).toArray:=by simp
  have e2:(acc++its)++(List.replicate k its).flatten=acc++(List.replicate (k+1) its).flatten:=by
   rw[List.replicate_succ,List.flatten_cons,List.append_assoc]
  rw[← e2,← foldl_rep its k (acc++its),← e,List.replicate_succ,List.foldl_cons]
section
variable {X:Cx}{pins:List (Addr×Obj)}{σ:St}{H:Hp}{s:Shared}{l b:Addr}{xs ys zs:List V}
theorem Inv.lset {its its':List Value}{n:Nat}{f:Array Value→Array Value}{t':Nat} (I:Inv X pins σ H s) (hH:H l=some (.lst xs))
  (e:s.heap.get? l=some { cls:=.type "list",data:=.seq its.toArray n }) (hf:f its.toArray=its'.toArray) (hv:bE ys its') (hz:ys.length≤sizeLine) :
  Inv X pins σ (upd H l (.lst ys)) { s with heap:=s.heap.update l (Obj.mapSeq f),toks:=t' }:=by
 have q:=PySem.IsL.update e f
 rw[hf] at q
 refine I.write (x:=l) (e:=l) (by rw[hH];exact trivial) (.inl rfl) (fun b' u hb hu=>(Heap.get?_update_other s.heap (Obj.mapSeq f) (Ne.symm hb)).trans hu) ⟨_,q⟩ ?_
 exact⟨hz,its',_,hv,q⟩
theorem Inv.lnew {its:List Value}{t':Nat} (I:Inv X pins σ H s) (hv:bE ys its) (hz:ys.length≤sizeLine) :
  Inv X pins σ (upd H s.heap.objs.size (.lst ys)) { s with heap:=s.heap.push { cls:=.type "list",data:=.seq its.toArray },toks:=t' }:=
 I.laid (fun _ _ q=>Heap.get?_push_of_some _ q) (Nat.le_refl _) ⟨hz,its,0,hv,Heap.get?_push_size _ rfl⟩
theorem Inv.fresh (I:Inv X pins σ H s):H s.heap.objs.size=none:=I.hok.fresh (Nat.le_refl _)
theorem Inv.lstM (I:Inv X pins σ H s) (hH:H l=some (.lst xs)):xs.length≤sizeLine∧∃ (its:List Value) (n:Nat),bE xs its∧xs.length=its.length∧s.heap.get? l=some { cls:=.type "list",data:=.seq its.toArray n }:=by
 obtain⟨z,its,n,r,e⟩:=I.hok l _ hH
 exact⟨z,its,n,r,r.length,e⟩
theorem notLongL {n:Nat} (h:n≤sizeLine):Builtin.List.listTooLong n=false:=by
 unfold Builtin.List.listTooLong
 exact decide_eq_false (by omega)
end
section
variable {X:Cx}
noncomputable def rAppend:V→List V→Hp→VK→Prop:=fun x vs H Q=>∃ l xs y,x=.ref l∧vs=[y]∧H l=some (.lst xs)∧xs.length < sizeLine∧Q .non (upd H l (.lst (xs++[y])))
theorem cI:MtM X "list.append" rAppend:=by
 intro pins s σ H x vs v us Q I rx rv h
 obtain⟨l,xs,y,rfl,rfl,hH,hz,q⟩:=h
 cases rx
 obtain⟨u,rfl,ru⟩:=rv.one
 obtain⟨z,its,n,r,hl,e⟩:=I.lstM hH
 refine call_meets F.slot_list_append ⟨_,e,rfl⟩ F.entry_list_append (F.args_list_append_2 _ _) (PySem.list_append l its.toArray n u (by rw[List.size_toArray];omega)) ⟨e,?_⟩
 refine⟨.non,_,I.lset (its':=its++[u]) hH e (by simp) (r.append (.cons ru .nil)) ?_,rfl,q⟩
 rw[List.length_append,List.length_singleton]
 omega
noncomputable def rExtend:V→List V→Hp→VK→Prop:=fun x vs H Q=>∃ l b xs zs,x=.ref l∧vs=[.ref b]∧H l=some (.lst xs)∧H b=some (.lst zs)∧xs.length+zs.length≤sizeLine∧Q .non (upd H l (.lst (xs++zs)))
theorem mt_extend:MtM X "list.extend" rExtend:=by
 intro pins s σ H x vs v us Q I rx rv h
 obtain⟨l,b,xs,zs,rfl,rfl,hH,hB,hz,q⟩:=h
 cases rx
 obtain⟨u,rfl,ru⟩:=rv.one
 cases ru
 obtain⟨z,its,n,r,hl,e⟩:=I.lstM hH
 obtain⟨z2,its2,n2,r2,hl2,e2⟩:=I.lstM hB
 have hsz:its.toArray.size+its2.toArray.size≤sizeLine:=by rw[List.size_toArray,List.size_toArray];omega
 have hlong:¬ (!its.toArray.isEmpty && Builtin.List.listTooLong (its.toArray.size+its2.toArray.size))=true:=by
  rw[notLongL hsz,Bool.and_false]
  exact Bool.false_ne_true
 refine call_meets F.slot_list_extend ⟨_,e,rfl⟩ F.entry_list_extend (F.args_list_extend_2 _ _)
  (AutoSeq1.list_extend_list_list_0 l its.toArray n b its2.toArray n2 hlong (by rw[List.size_toArray];omega) (by omega)) ⟨e,e2,?_⟩
 refine⟨.non,_,I.lset (its':=its++its2) hH e (by simp) (r.append r2) ?_,rfl,q⟩
 rw[List.length_append]
 omega
noncomputable def rCat:R2:=fun x y H Q=>∃ l b xs zs,x=.ref l∧y=.ref b∧H l=some (.lst xs)∧H b=some (.lst zs)∧xs.length+zs.length≤sizeLine∧∀ p,H p=none→Q (.ref p) (upd H p (.lst (xs++zs)))
theorem op_cat:OpR X (binaryOp .Add) rCat:=by
 intro pins s σ H x y v u Q I rx ry h
 obtain⟨l,b,xs,zs,rfl,rfl,hH,hB,hz,q⟩:=h
 cases rx
 cases ry
 obtain⟨z,its,n,r,hl,e⟩:=I.lstM hH
 obtain⟨z2,its2,n2,r2,hl2,e2⟩:=I.lstM hB
 refine PySem.P.add_list e e2 ?_ (by rw[List.size_toArray,List.size_toArray];omega)
 have ea:its.toArray++its2.toArray=(its++its2).toArray:=by simp
 rw[ea]
 exact⟨.ref _,_,I.lnew (t':=s.toks) (r.append r2) (by rw[List.length_append];omega),rfl,q _ I.fresh⟩
theorem len_rep {α:Type} (xs:List α) (k:Nat):(List.replicate k xs).flatten.length=k * xs.length:=by
 induction k with
 | zero=>simp
 | succ k ih=>rw[List.replicate_succ,List.flatten_cons,List.length_append,ih,Nat.succ_mul,Nat.add_comm]
end
section
variable {prog:Program}{w:World}{A:Around}{E:Value→Shared→Prop}{s:Shared}
end
section
variable {X:Cx}
end
end L2
namespace L2
open PySem PySem.Spec PyProof.Rows
section
variable {κ:Type} [DecidableEq κ]
noncomputable def dZ (kvs:List (κ×V)) (k:κ):Option V:=(kvs.find? fun kv=>decide (kv.1=k)).map (·.2)
noncomputable def putK (kvs:List (κ×V)) (k:κ) (v:V):List (κ×V):=
 if (kvs.any fun kv=>decide (kv.1=k))=true then kvs.map (fun kv=>if kv.1=k then (kv.1,v) else kv) else kvs++[(k,v)]
theorem dC {p:κ×V}{r:List (κ×V)}{k:κ} (e:p.1=k):dZ (p::r) k=some p.2:=by simp [dZ,List.find?_cons,e]
theorem cY {p:κ×V}{r:List (κ×V)}{k:κ} (e:¬ p.1=k):dZ (p::r) k=dZ r k:=by simp [dZ,List.find?_cons,e]
theorem valV_any (k:κ):∀ kvs:List (κ×V),(kvs.any fun kv=>decide (kv.1=k))=(dZ kvs k).isSome
 | []=>rfl
 | p::r=>by
  rw[List.any_cons]
  by_cases e:p.1=k
  ·simp only [dC e,decide_eq_true e,Bool.true_or,Option.isSome_some]
  ·rw[cY e,decide_eq_false e,Bool.false_or];exact valV_any k r
theorem valV_map (k j:κ) (y:V):∀ kvs:List (κ×V),dZ (kvs.map fun kv=>if kv.1=k then (kv.1,y) else kv) j=(dZ kvs j).map fun x=>if j=k then y else x
 | []=>rfl
 | p::r=>by
  have ih:=valV_map k j y r
  rw[List.map_cons]
  by_cases h:p.1=k
  ·rw[if_pos h]
   by_cases e:p.1=j
   ·rw[dC (p:=(p.1,y)) e,dC e,Option.map_some,if_pos (e.symm.trans h)]
   ·rw[cY (p:=(p.1,y)) e,cY e,ih]
  ·rw[if_neg h]
   by_cases e:p.1=j
   ·rw[dC (p:=p) e,dC e,Option.map_some,if_neg (fun z=>h (e.trans z))]
   ·rw[cY (p:=p) e,cY e,ih]
theorem valV_snoc (k j:κ) (y:V):∀ kvs:List (κ×V),dZ kvs k=none→dZ (kvs++[(k,y)]) j=if j=k then some y else dZ kvs j
 | [],_=>by
  by_cases e:k=j
  ·rw[if_pos e.symm];exact dC (p:=(k,y)) e
  ·rw[if_neg (fun z=>e z.symm)];exact cY (p:=(k,y)) e
 | p::r,hn=>by
  rw[List.cons_append]
  have hk:¬ p.1=k:=fun z=>by rw[dC z] at hn;cases hn
  rw[cY hk] at hn
  have ih:=valV_snoc k j y r hn
  by_cases e:p.1=j
  ·rw[dC e,dC e,if_neg (fun z=>hk (e.trans z))]
  ·rw[cY e,cY e,ih]
theorem valV_put (kvs:List (κ×V)) (k j:κ) (y:V):dZ (putK kvs k y) j=if j=k then some y else dZ kvs j:=by
 unfold putK
 by_cases a:(kvs.any fun kv=>decide (kv.1=k))=true
 ·rw[if_pos a,valV_map]
  rw[valV_any] at a
  by_cases e:j=k
  ·obtain⟨x,hx⟩:=Option.isSome_iff_exists.mp a
   rw[if_pos e,e,hx,Option.map_some,if_pos rfl]
  ·rw[if_neg e]
   cases dZ kvs j with
   | none=>rfl
   | some x=>rw[Option.map_some,if_neg e]
 ·rw[if_neg a]
  refine valV_snoc k j y kvs ?_
  rw[valV_any] at a
  cases q:dZ kvs k with
  | none=>rfl
  | some x=>rw[q] at a;exact (a rfl).elim
theorem length_putK (kvs:List (κ×V)) (k:κ) (v:V):(putK kvs k v).length≤kvs.length+1:=by
 unfold putK
 split
 ·rw[List.length_map];omega
 ·rw[List.length_append,List.length_cons,List.length_nil];omega
theorem putK_new {kvs:List (κ×V)}{k:κ} (v:V) (h:dZ kvs k=none):putK kvs k v=kvs++[(k,v)]:=by
 unfold putK
 rw[valV_any,h]
 exact if_neg (by decide)
theorem RelO.isSome_eq {o:Option V}{u:Option Value} (r:RelO o u):o.isSome=u.isSome:=by
 cases o with
 | none=>cases u with
  | none=>rfl
  | some _=>exact (show False from r).elim
 | some _=>cases u with
  | none=>exact (show False from r).elim
  | some _=>rfl
theorem RelO.getD {o:Option V}{u:Option Value}{d:V}{d':Value} (r:RelO o u) (rd:aY d d'):aY (o.getD d) (u.getD d'):=by
 cases o with
 | none=>cases u with
  | none=>exact rd
  | some _=>exact (show False from r).elim
 | some _=>cases u with
  | none=>exact (show False from r).elim
  | some _=>exact r
theorem KV.val {kvs:List (κ×V)}{vs:List (κ×Value)} (r:KV kvs vs) (k:κ):RelO (dZ kvs k) (valueAt vs k):=by
 unfold KV at r
 induction r with
 | nil=>exact True.intro
 | @cons p q ps qs h t ih=>
  obtain⟨h1,h2⟩:=h
  by_cases e:p.1=k
  ·have e':q.1=k:=h1.symm.trans e
   have b:valueAt (q::qs) k=some q.2:=by simp [valueAt,List.find?_cons,e']
   rw[dC e,b];exact h2
  ·have e':¬ q.1=k:=fun z=>e (h1.trans z)
   have b:valueAt (q::qs) k=valueAt qs k:=by simp [valueAt,List.find?_cons,e']
   rw[cY e,b];exact ih
theorem KV.any {kvs:List (κ×V)}{vs:List (κ×Value)} (r:KV kvs vs) (k:κ):(kvs.any fun kv=>decide (kv.1=k))=vs.any fun kv=>decide (kv.1=k):=by
 unfold KV at r
 induction r with
 | nil=>rfl
 | cons h t ih=>rw[List.any_cons,List.any_cons,ih,h.1]
theorem KV.repl {kvs:List (κ×V)}{vs:List (κ×Value)} (r:KV kvs vs) (k:κ) {y:V}{u:Value} (ry:aY y u) :
  KV (kvs.map fun kv=>if kv.1=k then (kv.1,y) else kv) (vs.map fun kv=>if kv.1=k then (kv.1,u) else kv):=by
 unfold KV at r ⊢
 induction r with
 | nil=>exact .nil
 | @cons p q ps qs h t ih=>
  rw[List.map_cons,List.map_cons]
  refine .cons ?_ ih
  obtain⟨h1,h2⟩:=h
  by_cases e:p.1=k
  ·rw[if_pos e,if_pos (h1.symm.trans e)];exact⟨h1,ry⟩
  ·rw[if_neg e,if_neg (fun z=>e (h1.trans z))];exact⟨h1,h2⟩
theorem KV.put {kvs:List (κ×V)}{vs:List (κ×Value)} (r:KV kvs vs) (k:κ) {y:V}{u:Value} (ry:aY y u):KV (putK kvs k y) (stored vs k u):=by
 unfold putK stored
 rw[r.any k]
 by_cases e:(vs.any fun kv=>decide (kv.1=k))=true
 ·rw[if_pos e,if_pos e];exact r.repl k ry
 ·rw[if_neg e,if_neg e];exact Paired.snoc r ⟨rfl,ry⟩
theorem KV.length {kvs:List (κ×V)}{vs:List (κ×Value)} (r:KV kvs vs):kvs.length=vs.length:=Paired.length r
end
theorem kV_is {P:Program}{w:World}{k:dQ}{u:Value} (r:aY (kV k) u):(cD P w).is k u=true:=by
 cases k with
 | inl i=>obtain⟨t,e⟩:=(show ∃ t,u=Value.int i t from r);subst e;exact mixKind_int P w i t
 | inr z=>cases z with
  | some x=>obtain⟨t,e⟩:=(show ∃ t,u=Value.str x t from r);subst e;exact mixKind_str P w x t
  | none=>obtain rfl:=(show u=Value.none from r);rfl
theorem items_are {P:Program}{w:World}:∀ {ks:List dQ}{us:List Value},bE (ks.map kV) us→ItemsAre (cD P w) ks us
 | [],_,r=>by rw[List.map_nil] at r;cases r;exact .nil
 | k::ks,_,r=>by
  rw[List.map_cons] at r
  cases r with
  | cons h t=>exact .cons (kV_is h) (items_are t)
noncomputable abbrev KT (H:Hp):List (List dQ×V)→List (List dQ×Addr×Value)→Prop:=Paired fun p q=>p.1=q.1∧H q.2.1=some (.tup (p.1.map kV))∧aY p.2 q.2.2
theorem KT.val {H:Hp}{kvs:List (List dQ×V)}{xs:List (List dQ×Addr×Value)} (r:KT H kvs xs) (k:List dQ):RelO (dZ kvs k) ((atKey xs k).map (·.2)):=by
 induction r with
 | nil=>exact True.intro
 | @cons p q ps qs h t ih=>
  obtain⟨h1,_,h2⟩:=h
  by_cases e:p.1=k
  ·have e':q.1=k:=h1.symm.trans e
   have b:atKey (q::qs) k=some q.2:=by simp [atKey,List.find?_cons,e']
   rw[dC e,b];exact h2
  ·have e':¬ q.1=k:=fun z=>e (h1.trans z)
   have b:atKey (q::qs) k=atKey qs k:=by simp [atKey,List.find?_cons,e']
   rw[cY e,b];exact ih
theorem KT.repl {H:Hp}{kvs:List (List dQ×V)}{xs:List (List dQ×Addr×Value)} (r:KT H kvs xs) (k:List dQ) {y:V}{u:Value} (ry:aY y u) :
  KT H (kvs.map fun kv=>if kv.1=k then (kv.1,y) else kv) (xs.map (putAt k u)):=by
 induction r with
 | nil=>exact .nil
 | @cons p q ps qs h t ih=>
  rw[List.map_cons,List.map_cons]
  refine .cons ?_ ih
  obtain⟨h1,h2,h3⟩:=h
  unfold putAt
  by_cases e:p.1=k
  ·rw[if_pos e,if_pos (h1.symm.trans e)];exact⟨h1,h2,ry⟩
  ·rw[if_neg e,if_neg (fun z=>e (h1.trans z))];exact⟨h1,h2,h3⟩
theorem KT.put {H:Hp}{kvs:List (List dQ×V)}{xs:List (List dQ×Addr×Value)} (r:KT H kvs xs) (k:List dQ) {b:Addr}{y:V}{u:Value} (hb:H b=some (.tup (k.map kV))) (ry:aY y u) :
  KT H (putK kvs k y) (storedH xs k b u):=by
 have e:(kvs.any fun kv=>decide (kv.1=k))=(atKey xs k).isSome:=by
  rw[valV_any,(r.val k).isSome_eq,Option.isSome_map]
 unfold putK storedH
 rw[e]
 by_cases q:(atKey xs k).isSome=true
 ·rw[if_pos q,if_pos q];exact r.repl k ry
 ·rw[if_neg q,if_neg q];exact Paired.snoc r ⟨rfl,hb,ry⟩
theorem KT.keeps {H H':Hp}{kvs:List (List dQ×V)}{xs:List (List dQ×Addr×Value)} (r:KT H kvs xs) (ht:∀ b ys,H b=some (.tup ys)→H' b=some (.tup ys)):KT H' kvs xs:=
 Paired.mapP r fun _ _ z=>⟨z.1,ht _ _ z.2.1,z.2.2⟩
section
variable {P:Program}{w:World}{H:Hp}{h:Heap}{a:Addr}
theorem rd_of {u:HO} (ok:HOk P w H h) (e:Rd H a u):cN P w H h a u:=e.ok ok
theorem dk_rd {kvs:List (dQ×V)} (ok:HOk P w H h) (e:Rd H a (.dK kvs)):kvs.length≤sizeLine∧(a == sysModules)=false∧∃ vs,KV kvs vs∧h.DictOf (cD P w) a vs:=
 show cN P w H h a (.dK kvs) from rd_of ok e
theorem dk_of {kvs:List (dQ×V)} (ok:HOk P w H h) (e:H a=some (.dK kvs)):kvs.length≤sizeLine∧(a == sysModules)=false∧∃ vs,KV kvs vs∧h.DictOf (cD P w) a vs:=dk_rd ok (.inl e)
theorem key_of {ks:List dQ} (ok:HOk P w H h) (e:H a=some (.tup (ks.map kV))):(tupleKind (cD P w)).is h ks a:=by
 obtain⟨_,its,r,o,h1,h2,n,h3⟩:=(show cN P w H h a (.tup (ks.map kV)) from ok a _ e)
 exact⟨o,its.toArray,n,h1,h2,h3,by simpa using items_are r⟩
theorem dt_rd {kvs:List (List dQ×V)} (ok:HOk P w H h) (e:Rd H a (.dT kvs)):kvs.length≤sizeLine∧(a == sysModules)=false∧
  ∃ xs,KT H kvs xs∧h.DictOfH (tupleKind (cD P w)) a xs:=by
 obtain⟨z,y,xs,r,o,es,ep,h1,h2,h3,h4,h5⟩:=(show cN P w H h a (.dT kvs) from rd_of ok e)
 refine⟨z,y,xs,r,o,es,ep,h1,h2,h3,h4,fun x hx=>?_,h5⟩
 have all:∀ {l:List (List dQ×V)}{m:List (List dQ×Addr×Value)},KT H l m→∀ x∈m,(tupleKind (cD P w)).is h x.1 x.2.1:=by
  intro l m q
  induction q with
  | nil=>intro x hx;exact nomatch hx
  | @cons p q ps qs hq t ih=>
   intro x hx
   rcases List.mem_cons.mp hx with e | hx
   ·subst e
    exact key_of ok (by rw[← hq.1];exact hq.2.1)
   ·exact ih x hx
 exact all r x hx
theorem dt_of {kvs:List (List dQ×V)} (ok:HOk P w H h) (e:H a=some (.dT kvs)):kvs.length≤sizeLine∧(a == sysModules)=false∧
  ∃ xs,KT H kvs xs∧h.DictOfH (tupleKind (cD P w)) a xs:=dt_rd ok (.inl e)
end
noncomputable def DGet (H:Hp) (a:Addr) (y:V) (r:Option V):Prop:=
 (∃ kvs k,Rd H a (.dK kvs)∧y=kV k∧r=dZ kvs k)∨∃ kvs k b,Rd H a (.dT kvs)∧y=.ref b∧H b=some (.tup (k.map kV))∧r=dZ kvs k
noncomputable def DPut (H:Hp) (a:Addr) (y v:V) (H':Hp):Prop:=
 (∃ kvs k,H a=some (.dK kvs)∧y=kV k∧kvs.length < sizeLine∧H'=upd H a (.dK (putK kvs k v)))∨
 ∃ kvs k b,H a=some (.dT kvs)∧y=.ref b∧H b=some (.tup (k.map kV))∧kvs.length < sizeLine∧H'=upd H a (.dT (putK kvs k v))
theorem DGet.k {H:Hp}{a:Addr}{kvs:List (dQ×V)}{k:dQ} (e:H a=some (.dK kvs)):DGet H a (kV k) (dZ kvs k):=.inl ⟨kvs,k,.inl e,rfl,rfl⟩
theorem DPut.k {H:Hp}{a:Addr}{kvs:List (dQ×V)}{k:dQ}{v:V} (e:H a=some (.dK kvs)) (hl:kvs.length < sizeLine):DPut H a (kV k) v (upd H a (.dK (putK kvs k v))):=.inl ⟨kvs,k,e,rfl,hl,rfl⟩
section
variable {X:Cx}{pins:List (Addr×Obj)}{σ:St}{H:Hp}{s:Shared}{a:Addr}{y v:V}{u r:Value}{o:Option V}{A:Around}{E:Value→Shared→Prop}
theorem Inv.big (I:Inv X pins σ H s):sysModules < s.heap.objs.size:=by
 have h:mainGlobals < s.heap.objs.size:=(I.mod.glob.keeps I.bk).lt
 exact Nat.lt_trans (by decide) h
theorem d_getItem {Q:Value→Shared→Prop} (hu:A.units+1 < cLine) (I:Inv X pins σ H s) (g:DGet H a y (some v)) (ry:aY y u) (h:∀ w' s',Inv X pins σ H s'→aY v w'→Q w' s') :
  wpAny (model X.prog X.w) A (getItem (.ref a) u) Q E s:=by
 rcases g with ⟨kvs,k,e,ey,l⟩ | ⟨kvs,k,b,e,ey,eb,l⟩
 ·subst ey
  obtain⟨z,hd,vs,rel,dd⟩:=dk_rd I.hok e
  obtain⟨w',hw,rw'⟩:=RelO.some_of (v:=v) (o:=valueAt vs k) (by rw[l];exact rel.val k)
  exact wpAny_getItem_of (kV_is ry) dd.mapOf hw (h w' _ (I.tok _) rw')
 ·subst ey
  cases (show u=Value.ref b from ry)
  obtain⟨z,hd,xs,rel,dd⟩:=dt_rd I.hok e
  obtain⟨w',hw,rw'⟩:=RelO.some_of (v:=v) (o:=(atKey xs k).map (·.2)) (by rw[l];exact rel.val k)
  obtain⟨p,hp,hp2⟩:=Option.map_eq_some_iff.mp hw
  refine wpAny_getItem_heap (tupleKind_room_in1 hu) (key_of I.hok eb) dd hp ?_
  rw[hp2]
  exact h w' _ (I.tok _) rw'
theorem d_in {Q:Value→Shared→Prop} (hu:A.units+1 < cLine) (I:Inv X pins σ H s) (g:DGet H a y o) (ry:aY y u) (h:∀ s',Inv X pins σ H s'→Q (.bool o.isSome) s') :
  wpAny (model X.prog X.w) A (compareOp .In u (.ref a)) Q E s:=by
 rcases g with ⟨kvs,k,e,ey,l⟩ | ⟨kvs,k,b,e,ey,eb,l⟩
 ·subst ey
  obtain⟨z,hd,vs,rel,dd⟩:=dk_rd I.hok e
  refine wpAny_in_of (kV_is ry) hd dd.mapOf ?_
  rw[← (rel.val k).isSome_eq,← l]
  exact h _ (I.tok _)
 ·subst ey
  cases (show u=Value.ref b from ry)
  obtain⟨z,hd,xs,rel,dd⟩:=dt_rd I.hok e
  refine wpAny_in_heap (tupleKind_room_in1 hu) (key_of I.hok eb) hd dd ?_
  have q:=(rel.val k).isSome_eq
  rw[Option.isSome_map] at q
  rw[← q,← l]
  exact h _ (I.tok _)
theorem d_write {h':Heap}{t':Nat}{ob:HO} (I:Inv X pins σ H s) (mu:Mut (H a)) (hs:Heap.SameBut a s.heap h') (he:∃ q,h'.get? a=some q) (new:cN X.prog X.w (upd H a ob) h' a ob) :
  Inv X pins σ (upd H a ob) { s with heap:=h',toks:=t' }:=
 I.write (x:=a) (e:=a) mu (.inl rfl) (fun b q hb z=>(hs.2 b hb).trans z) he new
theorem dk_new {P:Program}{w:World}{H':Hp}{h':Heap}{kvs:List (dQ×V)}{vs:List (dQ×Value)} (z:kvs.length≤sizeLine) (hd:(a == sysModules)=false) (rel:KV kvs vs) (dd:h'.DictOf (cD P w) a vs) :
  cN P w H' h' a (.dK kvs):=⟨z,hd,vs,rel,dd⟩
theorem d_setItem {H':Hp}{Q:Unit→Shared→Prop} (hu:A.units+1 < cLine) (I:Inv X pins σ H s) (g:DPut H a y v H') (ry:aY y u) (rv:aY v r) (h:∀ s',Inv X pins σ H' s'→Q () s') :
  wpAny (model X.prog X.w) A (setItem (.ref a) u r) Q E s:=by
 rcases g with ⟨kvs,k,e,ey,l,eH⟩ | ⟨kvs,k,b,e,ey,eb,l,eH⟩
 ·subst ey eH
  obtain⟨z,hd,vs,rel,dd⟩:=dk_of I.hok e
  have hz:vs.length≤sizeLine:=by rw[← rel.length];exact z
  have hl:(putK kvs k v).length≤sizeLine:=by have:=length_putK kvs k v;omega
  refine wpAny_setItem_pairs (hsz:=hz) (kV_is ry) dd fun h' dd' hs=>h _ ?_
  have he:∃ q,h'.get? a=some q:=let ⟨q,_,_,hq,_⟩:=dd';⟨q,hq⟩
  exact d_write I (by rw[e];exact True.intro) hs he (dk_new hl hd (rel.put k rv) dd')
 ·subst ey eH
  cases (show u=Value.ref b from ry)
  obtain⟨z,hd,xs,rel,dd⟩:=dt_of I.hok e
  have hz:xs.length≤sizeLine:=by rw[← Paired.length rel];exact z
  have hl:(putK kvs k v).length≤sizeLine:=by have:=length_putK kvs k v;omega
  refine wpAny_setItem_heap (hsz:=hz) (tupleKind_room_in1 hu) (key_of I.hok eb) dd fun h' dd' hs=>h _ ?_
  obtain⟨q,es,ep,hq,h2,h3,h4,_,h5⟩:=dd'
  refine d_write I (by rw[e];exact True.intro) hs ⟨q,hq⟩ ⟨hl,hd,_,(rel.put k eb rv).keeps fun c ys ec=>?_,q,es,ep,hq,h2,h3,h4,h5⟩
  rw[aM (ne_of ec e (fun z=>nomatch z))]
  exact ec
end
section
variable {X:Cx}{pins:List (Addr×Obj)}{σ:St}{H:Hp}{s:Shared}{a:Addr}{kvs:List (dQ×V)}{k:dQ}{u:Value}{A:Around}{E:Value→Shared→Prop}
end
noncomputable def NoSl (i:Expr):Prop:=∀ ov iv,subscripted i false ov iv=operate [ov,iv] (getItem ov iv)
theorem subD_of {prog:Program}{w:World}{A:Around}{E:Value→Shared→Prop}{s:Shared}{env:Env}{value slice:Expr}{pos:Pos}{T id:String}{Q:Value→Shared→Prop}
  (hl:typeLookup (.type T) "__getitem__" = pure (some (.builtin id))) (hs:NoSl slice)
  (h:wpAny (model prog w) A (eval value env) (fun o s₁=>wpAny (model prog w) A (eval slice env) (fun i s₂=>s₂.TypeIs o T∧wpAny (model prog w) A (getItem o i) Q E s₂) E s₁) E s) :
  wpAny (model prog w) A (eval (.Subscript value slice pos) env) Q E s:=by
 refine Subscript_ (wpAny_mono h (fun o s₁ h₁=>wpAny_mono h₁ (fun i s₂ h₂=>?_) fun _ _ x=>x) fun _ _ x=>x)
 obtain⟨hT,h₂⟩:=h₂
 unfold subscriptTail
 refine wpAny_bind ?_
 rw[getitemInPython_of_ne hT.not_modules]
 refine wpAny_bind (wpAny_specialOf hT hl ?_)
 have fin:wpAny (model prog w) A (subscripted slice false o i) (fun r s₃=>wpAny (model prog w) A (letTemporaryGo value o r >>= fun _=>pure r) Q E s₃) E s₂:=by
  rw[hs o i]
  exact wpAny_operating (wpAny_mono h₂ (fun r s₃ h₃=>wpAny_bind (wpAny_letTemporaryGo (wpAny_pure h₃))) fun _ _ x=>x)
 first
  | exact wpAny_pure (wpAny_bind fin)
  | exact wpAny_bind (wpAny_pure (wpAny_bind fin))
  | exact wpAny_bind fin
theorem dict_typeIs {X:Cx}{pins:List (Addr×Obj)}{σ:St}{H:Hp}{s:Shared}{a:Addr}{y:V}{o:Option V} (I:Inv X pins σ H s) (g:DGet H a y o):s.TypeIs (.ref a) "dict" := by
 rcases g with ⟨kvs,k,e,_,_⟩ | ⟨kvs,k,b,e,_,_,_⟩
 ·obtain⟨_,_,vs,_,dd⟩:=dk_rd I.hok e
  exact dd.typeIs
 ·obtain⟨_,_,xs,_,dd⟩:=dt_rd I.hok e
  exact dd.typeIs
noncomputable def tDGet (td ty:TE):TE:=fun σ H Q=>td σ H fun x H1=>ty σ H1 fun y H2=>∃ a v,x=.ref a∧DGet H2 a y (some v)∧Q v H2
noncomputable def tDIn (ty td:TE):TE:=fun σ H Q=>ty σ H fun y H1=>td σ H1 fun x H2=>∃ a o,x=.ref a∧DGet H2 a y o∧Q (.bl o.isSome) H2
noncomputable def sDPut (td ty tv:TE):TS:=fun D σ H=>tv σ H fun v H1=>td σ H1 fun x H2=>ty σ H2 fun y H3=>∃ a H4,x=.ref a∧DPut H3 a y v H4∧D.nx σ H4
section
variable {X:Cx}{o i e value:Expr}{pos pos' tpos:Pos}{td ty tv:TE}
theorem pe_dget (hu:X.A.units+1 < cLine) (ho:PE X o td) (hi:PE X i ty) (hs:NoSl i):PE X (.Subscript o i pos) (tDGet td ty):=by
 intro pins s σ H Q I h
 refine subD_of PySem.F.slot_dict_getitem.lookup hs (cH (ho pins s σ H _ I h) fun u s1 ⟨x,H1,I1,rx,q1⟩=>cH (hi pins s1 σ H1 _ I1 q1) fun iv s2 ⟨y,H2,I2,ry,a,v,ex,g,q2⟩=>?_)
 subst ex
 obtain rfl:u=Value.ref a:=rx
 exact⟨dict_typeIs I2 g,d_getItem hu I2 g ry fun w' s3 I3 rw'=>⟨v,H2,I3,rw',q2⟩⟩
theorem pc_din (hu:X.A.units+1 < cLine) (hi:PE X i ty) (ho:PE X o td):PC X .In i o (tDIn ty td):=by
 intro pins s σ H Q I h
 refine cH (hi pins s σ H _ I h) fun iv s1 ⟨y,H1,I1,ry,q1⟩=>cH (ho pins s1 σ H1 _ I1 q1) fun u s2 ⟨x,H2,I2,rx,a,ov,ex,g,q2⟩=>?_
 subst ex
 obtain rfl:u=Value.ref a:=rx
 exact d_in hu I2 g ry fun s3 I3=>⟨.bl ov.isSome,H2,I3,rfl,q2⟩
theorem ps_dput (hu:X.A.units+1 < cLine) (ho:PE X o td) (hi:PE X i ty) (hv:PE X value tv) (hs:swapsWith value (some (.Subscript o i pos')) pos.line X.env=pure false) :
  PS X (.Assign [.Subscript o i pos'] value pos) (sDPut td ty tv):=by
 intro pins s σ H D I h
 refine wpAny_Assign_Subscript (cH (hv pins s σ H _ I h) fun r s1 ⟨v,H1,I1,rv,q1⟩=>cH (ho pins s1 σ H1 _ I1 q1) fun u s2 ⟨x,H2,I2,rx,q2⟩=>cH (hi pins s2 σ H2 _ I2 q2) fun iv s3 ⟨y,H3,I3,ry,a,H4,ex,g,q3⟩=>?_) hs
 subst ex
 obtain rfl:u=Value.ref a:=rx
 exact d_setItem hu I3 g ry rv fun s4 I4=>⟨σ,H4,I4,q3⟩
end
theorem dk_empty {P:Program}{w:World}{H:Hp} (h:Heap) (hb:sysModules < h.objs.size):cN P w H (h.push { cls:=.type "dict",data:=.dict #[] }) h.objs.size (.dK []):=
 ⟨Nat.zero_le _,beq_eq_false_iff_ne.mpr (Ne.symm (Nat.ne_of_lt hb)),[],.nil,Heap.DictOf.new h⟩
noncomputable def tDNewK:TE:=fun _ H Q=>∀ p,H p=none→Q (.ref p) (upd H p (.dK []))
section
variable {X:Cx}{pos:Pos}
theorem pe_dnewK:PE X (.Dict [] [] pos) tDNewK:=fun pins s σ H Q I h=>
 wpAny_Dict_empty ⟨.ref s.heap.objs.size,_,I.laid (a:=s.heap.objs.size) (o:=.dK []) (t':=s.toks) (fun _ _ q=>Heap.get?_push_of_some _ q) (Nat.le_refl _) (dk_empty s.heap I.big),rfl,h _ (I.hok.fresh (Nat.le_refl _))⟩
end
structure M1 (X:Cx) (o:Expr) (m:Str) (apos:Pos) (e:Expr) (cpos:Pos):Prop where
 base:attributeBase o m X.env (eval o X.env)=eval o X.env
 few:((backTo cpos (starEach [e] X.env)).all (fun x=>!x.1) && (backToKw cpos (keywordEach [] X.env)).all (fun x=>x.1.isSome)
  && decide (([e]:List Expr).length+([]:List Keyword).length+(if ([]:List Keyword).isEmpty then 0 else 1) < 30))=true
 line:(apos.endLine == cpos.line)=true
 trees:backTo cpos (starEach [e] X.env)=[(false,eval e X.env)]
structure M2 (X:Cx) (o:Expr) (m:Str) (apos:Pos) (e f:Expr) (cpos:Pos):Prop where
 base:attributeBase o m X.env (eval o X.env)=eval o X.env
 few:((backTo cpos (starEach [e,f] X.env)).all (fun x=>!x.1) && (backToKw cpos (keywordEach [] X.env)).all (fun x=>x.1.isSome)
  && decide (([e,f]:List Expr).length+([]:List Keyword).length+(if ([]:List Keyword).isEmpty then 0 else 1) < 30))=true
 line:(apos.endLine == cpos.line)=true
 trees:backTo cpos (starEach [e,f] X.env)=[(false,eval e X.env),(false,eval f X.env)]
noncomputable def IsD (H:Hp) (a:Addr):Prop:=(∃ kvs,Rd H a (.dK kvs))∨∃ kvs,Rd H a (.dT kvs)
theorem isD_at {X:Cx}{pins:List (Addr×Obj)}{σ:St}{H:Hp}{s:Shared}{a:Addr} (I:Inv X pins σ H s) (d:IsD H a) :
  s.TypeIs (.ref a) "dict" ∧ (∀ b,Value.ref a=.ref b→∃ ob,s.heap.get? b=some ob∧ob.dict=none)∧(a == sysModules)=false:=by
 rcases d with ⟨kvs,e⟩ | ⟨kvs,e⟩
 ·obtain⟨_,hd,vs,_,dd⟩:=dk_rd I.hok e
  refine⟨dd.typeIs,fun b q=>?_,hd⟩
  cases q
  obtain⟨ob,_,_,h1,h2,_⟩:=dd
  exact⟨ob,h1,h2.2.1⟩
 ·obtain⟨_,hd,xs,_,dd⟩:=dt_rd I.hok e
  refine⟨dd.typeIs,fun b q=>?_,hd⟩
  cases q
  obtain⟨ob,_,_,h1,h2,_⟩:=dd
  exact⟨ob,h1,h2.2.1⟩
section
variable {X:Cx}{pins:List (Addr×Obj)}{σ:St}{H:Hp}{s:Shared}{a:Addr}{y d:V}{u r:Value}{o:Option V}{A:Around}{E:Value→Shared→Prop}
theorem d_get1 {Q:Value→Shared→Prop} (hu:A.units+1 < cLine) (I:Inv X pins σ H s) (g:DGet H a y o) (ry:aY y u) (h:∀ w' s',Inv X pins σ H s'→aY (o.getD .non) w'→Q w' s') :
  wpAny (model X.prog X.w) A (call (.builtin "dict.get") [.ref a,u]) Q E s:=by
 rcases g with ⟨kvs,k,e,ey,l⟩ | ⟨kvs,k,b,e,ey,eb,l⟩
 ·subst ey
  obtain⟨z,hd,vs,rel,dd⟩:=dk_rd I.hok e
  refine call_meetsIn PySem.F.slot_dict_get dd.typeIs PySem.F.entry_dict_get (PySem.F.args_dict_get_2 _ _) (meets_dict_get (cD X.prog X.w) a (kV_is ry) hd) ⟨_,dd.mapOf,h _ _ (I.tok _) ?_⟩
  rw[l]
  exact (rel.val k).getD rfl
 ·subst ey
  cases (show u=Value.ref b from ry)
  obtain⟨z,hd,xs,rel,dd⟩:=dt_rd I.hok e
  refine call_meetsIn PySem.F.slot_dict_get dd.typeIs PySem.F.entry_dict_get (PySem.F.args_dict_get_2 _ _) (meetsH_dict_get (tupleKind (cD X.prog X.w)) a b hd) ⟨tupleKind_room_in1 hu,k,xs,key_of I.hok eb,dd,h _ _ (I.tok _) ?_⟩
  rw[l]
  exact (rel.val k).getD rfl
theorem d_get2 {Q:Value→Shared→Prop} (hu:A.units+1 < cLine) (I:Inv X pins σ H s) (g:DGet H a y o) (ry:aY y u) (rd:aY d r) (h:∀ w' s',Inv X pins σ H s'→aY (o.getD d) w'→Q w' s') :
  wpAny (model X.prog X.w) A (call (.builtin "dict.get") [.ref a,u,r]) Q E s:=by
 rcases g with ⟨kvs,k,e,ey,l⟩ | ⟨kvs,k,b,e,ey,eb,l⟩
 ·subst ey
  obtain⟨z,hd,vs,rel,dd⟩:=dk_rd I.hok e
  refine call_meetsIn PySem.F.slot_dict_get dd.typeIs PySem.F.entry_dict_get (PySem.F.args_dict_get_3 _ _ _) (meets_dict_get_default (cD X.prog X.w) a (kV_is ry) hd r) ⟨_,dd.mapOf,h _ _ (I.tok _) ?_⟩
  rw[l]
  exact (rel.val k).getD rd
 ·subst ey
  cases (show u=Value.ref b from ry)
  obtain⟨z,hd,xs,rel,dd⟩:=dt_rd I.hok e
  refine call_meetsIn PySem.F.slot_dict_get dd.typeIs PySem.F.entry_dict_get (PySem.F.args_dict_get_3 _ _ _) (meetsH_dict_get_default (tupleKind (cD X.prog X.w)) a b hd r) ⟨tupleKind_room_in1 hu,k,xs,key_of I.hok eb,dd,h _ _ (I.tok _) ?_⟩
  rw[l]
  exact (rel.val k).getD rd
end
noncomputable def tDGet1 (td ty:TE):TE:=fun σ H Q=>td σ H fun x H1=>∃ a,x=.ref a∧IsD H1 a∧ty σ H1 fun y H2=>∃ o,DGet H2 a y o∧Q (o.getD .non) H2
noncomputable def tDGet2 (td ty tx:TE):TE:=fun σ H Q=>td σ H fun x H1=>∃ a,x=.ref a∧IsD H1 a∧ty σ H1 fun y H2=>tx σ H2 fun z H3=>∃ o,DGet H3 a y o∧Q (o.getD z) H3
section
variable {X:Cx}{o e f:Expr}{apos cpos:Pos}{td ty tx:TE}
theorem pe_dget1 (hu:X.A.units+1 < cLine) (ho:PE X o td) (he:PE X e ty) (m:M1 X o "get" apos e cpos):PE X (.Call (.Attribute o "get" apos) [e] [] cpos) (tDGet1 td ty):=by
 intro pins s σ H Q I h
 refine wpAny_Call_method m.base m.few m.line PySem.F.plainAttrs_dict PySem.F.slot_dict_get PySem.F.type_dict_get (cH (ho pins s σ H _ I h) fun u s1 ⟨x,H1,I1,rx,a,ex,d,q1⟩=>?_)
 subst ex
 obtain rfl:u=Value.ref a:=rx
 obtain⟨t1,t2,_⟩:=isD_at I1 d
 refine⟨t1,t2,?_⟩
 rw[m.trees]
 refine Calls.callWith_builtin rfl (Calls.evalArgs_plain (Calls.spliced_cons (cH (he pins s1 σ H1 _ I1 q1) fun iv s2 ⟨y,H2,I2,ry,ov,g,q2⟩=>Calls.spliced_nil ?_)))
 exact d_get1 hu I2 g ry fun w' s3 I3 rw'=>⟨_,H2,I3,rw',q2⟩
theorem pe_dget2 (hu:X.A.units+1 < cLine) (ho:PE X o td) (he:PE X e ty) (hf:PE X f tx) (m:M2 X o "get" apos e f cpos):PE X (.Call (.Attribute o "get" apos) [e,f] [] cpos) (tDGet2 td ty tx):=by
 intro pins s σ H Q I h
 refine wpAny_Call_method m.base m.few m.line PySem.F.plainAttrs_dict PySem.F.slot_dict_get PySem.F.type_dict_get (cH (ho pins s σ H _ I h) fun u s1 ⟨x,H1,I1,rx,a,ex,d,q1⟩=>?_)
 subst ex
 obtain rfl:u=Value.ref a:=rx
 obtain⟨t1,t2,_⟩:=isD_at I1 d
 refine⟨t1,t2,?_⟩
 rw[m.trees]
 refine Calls.callWith_builtin rfl (Calls.evalArgs_plain (Calls.spliced_cons (cH (he pins s1 σ H1 _ I1 q1) fun iv s2 ⟨y,H2,I2,ry,q2⟩=>
  Calls.spliced_cons (cH (hf pins s2 σ H2 _ I2 q2) fun fv s3 ⟨z,H3,I3,rz,ov,g,q3⟩=>Calls.spliced_nil ?_))))
 exact d_get2 hu I3 g ry rz fun w' s4 I4 rw'=>⟨_,H3,I4,rw',q3⟩
end
section
variable {X:Cx}{pins:List (Addr×Obj)}{σ:St}{H:Hp}{s:Shared}{a:Addr}{kvs:List (dQ×V)}{A:Around}{E:Value→Shared→Prop}
end
section
variable {X:Cx}{pins:List (Addr×Obj)}{σ:St}{H:Hp}{s:Shared}{a:Addr}{y:V}{u:Value}{A:Around}{E:Value→Shared→Prop}
end
end L2
namespace Att
open PySem PySem.W PySem.Calls PyProof.Rows
theorem ints_of_wellAll {P:Params}{h:Heap}:∀ (ns:List Int) (vs:List Value),WellAll P h vs (ns.map WData.int)→IntsAre vs ns:=by
 intro ns
 induction ns with
 | nil=>
  intro vs w
  rw[List.map_nil] at w
  cases w
  exact .nil
 | cons n ns ih=>
  intro vs w
  rw[List.map_cons] at w
  cases w with
  | cons a b=>
   cases a
   exact .cons _ _ (ih _ b)
theorem script_of {l:OpenLaw}{n:Nat} (hn:l.most=some n) {P:Params}{h:Heap}{args:List WData}{vals:List Value}
  (hpre:l.row.toRowW.claim.pre args=true) (hwl:WellAll P h vals args) :
  ∃ a vs ns,vals=[Value.ref a]∧args=[WData.list (ns.map WData.int)]∧h.get? a=some { cls:=.type "list",data:=.seq vs.toArray }∧IntsAre vs ns∧ns.length≤n:=by
 have hsh:WShape.hasAll [] args [.list .int]=true:=(pre_splitW hpre).1
 have hc:l.pre.holds [] { args:=args }=true:=(pre_splitW hpre).2
 obtain⟨d,r,rfl,h1,h2⟩:=hasAllW_cons hsh
 obtain rfl:=hasAllW_nil h2
 obtain⟨xs,rfl,h3⟩:=hasW_list h1
 obtain⟨ns,rfl⟩:=items_int h3
 have hlen:ns.length≤n:=by
  unfold OpenLaw.pre at hc
  have h4:(WTm.not (.lt (.lit (.int (n:Int))) (.len (.arg 0)))).holds [] { args:=[.list (ns.map .int)] }=true:=by
   have h4:=(holds_andW hc).1
   rw[hn] at h4
   exact h4
  have h5:=condW_of h4 (w_not (w_lt w_lit (w_len_list (w_arg rfl))))
  rw[List.length_map] at h5
  refine Nat.le_of_not_lt fun q=>?_
  have q':(n:Int) < ((ns.length:Nat):Int):=by omega
  first
   | (rw[decide_eq_true q'] at h5;exact absurd h5 (by decide))
   | (simp at h5;omega)
 cases hwl with
 | cons w1 w2=>
  cases w2
  cases w1 with
  | list ho hall=>exact⟨_,_,ns,rfl,rfl,ho,ints_of_wellAll ns _ hall,hlen⟩
theorem post_true (l:OpenLaw) (args:List WData):l.row.toRowW.claim.post args (.bool true) args=true:=
 postW_of (r:=l.row.toRowW) (X:=(true == true))
  (show WShape.has [] (.bool true) .bool=true by first | rfl | decide | simp [WShape.has,WShape.arms,WShape.armsAll])
  (show (WTm.eq .res (.lit (.bool true))).value [] { args:=args,res:=some (.bool true),after:=args }=some (.bool (true == true)) from w_eq_bool (w_res rfl) w_lit) rfl
theorem attach_call {l:OpenLaw}{n:Nat}{q:Program}{loose:List Str}{XP:(Str→Option Value)→Heap→Prop}{YP:World→Heap→Prop}{d:DefRec}
  (hn:l.most=some n) (hdf:d.params.defaults=[])
  (call:∀ (w:World) (s₀ s₁:Shared) (mg mb:Str→Option Value) (fa:Addr) (o:Obj) (pm cd doc:Value) (a:Addr) (vs:List Value) (ns:List Int),
   Ground q loose [] XP w s₀ mg mb s₁.heap→YP w s₁.heap→
   s₁.heap.get? fa=some o→o.data=.func (docDef d.name d.params d.body d.scope pm cd doc)→s₁.heap.CodeRec cd d.name→mg d.name=some (.ref fa)→
   s₁.heap.get? a=some { cls:=.type "list",data:=.seq vs.toArray }→IntsAre vs ns→ns.length≤n→s₁.gens = #[]→
   codeAny (model l.prog w) callerA (.call (.ref fa) ⟨[.ref a],[]⟩) (fun r s'=>r=.ok (.ret (.bool true))∧OldK s₁.heap s'.heap∧s'.os=s₁.os∧AllBare s'.gens) s₁) :
  WalkO q loose XP YP l.row.toRowW d [] (fun f vs=>PySem.call f vs):=by
 intro w s₀ s₁ mg mb G Y fa o pm cd doc dV kV ho hd hcd hD hmg hg args vals as hpre hlay hrd hwl hlo
 obtain rfl:dV=.none:=Dflts.none hD hdf
 obtain rfl:kV=.none:=Dflts.noKw hD
 obtain⟨a,vs,ns,rfl,rfl,hobj,hints,hlen⟩:=script_of hn hpre hwl
 refine enter_call (codeAny_mono (call w s₀ s₁ mg mb fa o pm cd doc a vs ns G Y ho (fd_plain hd) hcd hmg hobj hints hlen hg) fun r s' hq=>?_)
 obtain⟨rfl,h2,h3,h4⟩:=hq
 exact⟨.inl ⟨.bool true,.bool true,[],rfl,fun _=>rfl,.bool true,post_true l _,fun _=>⟨List.Pairwise.nil,fun _ hm=>(nomatch hm)⟩⟩,h2,h3,h4⟩
section
variable {prog:Program}{w:World}{A:Around}{E:Value→Shared→Prop}{s:Shared}{K:Frag}
end
end Att
namespace L2
open PySem PySem.Spec PyProof.Rows
theorem vals_ints:∀ {vs:List Value}{ns:List Int},IntsAre vs ns→bE (ns.map V.int) vs
 | _,_,.nil=>.nil
 | _,_,.cons n t h=>.cons ⟨t,rfl⟩ (vals_ints h)
noncomputable def Only (H:Hp):Prop:=∀ b,H b=none∨∃ o xs,H b=some (.frz o (.lst xs))
theorem law_call {P:Program}{w:World}{K:PySem.W.Frag}{mg mb:Str→Option Value}{CX:CXT}{k:Nat}{fa a:Addr}{fd:FuncData}{x:Str}{sp:Sp}{s₁:Shared}{vs:List Value}{ns:List Int}
  (KX:K.In s₁.heap) (hns:s₁.heap.Ns mainGlobals mg) (hb:s₁.heap.Ns builtinsNs mb) (hbb:∀ x:Str,x ≠ "__name__" → mb x=bootBuiltins x) (hlim:s₁.heap.NoLimit) (hg:s₁.gens = #[])
  (ha:s₁.heap.get? a=some { cls:=.type "list",data:=.seq vs.toArray }) (hi:IntsAre vs ns) (hl:ns.length≤sizeLine) (hr:Room k callerA)
  (F:∀ base:Heap,K.In base→base.Ns mainGlobals mg→FnOk P w K mg base CX k fa fd [x] sp) (hbind:∀ (s:Shared) (u:Value),BindsTo s fd ⟨[u],[]⟩ [(x,u)])
  (hsp:∀ H:Hp,Only H→cE K H a (ns.map V.int)→sp [.ref a] H (fun v _=>v=.bl true) fun _ _ _=>False)
  (hCX:∀ H e s',CX [] H s₁ (fun _ _ _=>False) e s'→False) :
  codeAny (model P w) callerA (.call (.ref fa) ⟨[.ref a],[]⟩) (fun r s'=>r=.ok (.ret (.bool true))∧OldK s₁.heap s'.heap∧s'.os=s₁.os∧AllBare s'.gens) s₁:=by
 have rv:=vals_ints hi
 have lenV:=hi.length
 have core:∀ H:Hp,Only H→cE K H a (ns.map V.int)→HOk P w H s₁.heap→(∀ b,H b≠none→b=a)→(H a≠none→K.lookup a=none)→
   codeAny (model P w) callerA (.call (.ref fa) ⟨[.ref a],[]⟩) (fun r s'=>r=.ok (.ret (.bool true))∧OldK s₁.heap s'.heap∧s'.os=s₁.os∧AllBare s'.gens) s₁:=by
  intro H hO hS hok hA hK
  have base_of:∀ {b:Addr}{o:Obj},s₁.heap.get? b=some o→H b=none→(hidT s₁.heap H).get? b=some o:=fun e n=>hidT_get e n
  have noA:∀ {b:Addr}{o:Obj}{es:Array DictEntry}{ep:Nat},s₁.heap.get? b=some o→o.data=.dict es ep→H b=none:=fun {b o es ep} e d=>by
   cases q:H b with
   | none=>rfl
   | some u=>
    have e':b=a:=hA b (by rw[q];simp)
    subst e'
    rw[ha] at e;cases e
    have d':Data.seq vs.toArray _=Data.dict es ep:=d
    cases d'
  have nsK:∀ {b:Addr}{m:Str→Option Value},s₁.heap.Ns b m→(hidT s₁.heap H).Ns b m:=fun {b m} ⟨o,es,ep,e,d,r⟩=>⟨o,es,ep,base_of e (noA e d),d,r⟩
  have hKb:K.In (hidT s₁.heap H):=fun b o e=>base_of (KX b o e) (by
   cases q:H b with
   | none=>rfl
   | some u=>
    have e':b=a:=hA b (by rw[q];simp)
    subst e'
    rw[hK (by rw[q];simp)] at e;cases e)
  have hM:Mod K mg (hidT s₁.heap H):=⟨hKb,nsK hns,⟨mb,nsK hb,hbb⟩,let ⟨mc,h1,h2⟩:=hlim;⟨mc,nsK h1,h2⟩⟩
  have e0:Env0 P w K mg (hidT s₁.heap H) callerA [] s₁ H:=⟨rfl,hM,fun b o e=>of_hidT e,Nat.le_of_eq (hidT_size _ _),trivial,fun b hb=>absurd (show b∈([]:List Addr) from hb) (by simp),hok,.of_eq hg⟩
  refine codeAny_mono ((F _ hKb (nsK hns)).run callerA [] s₁ H ⟨[.ref a],[]⟩ [.ref a] [.ref a] _ _ hr e0 (hbind s₁ (.ref a)) (.cons rfl .nil) (hsp H hO hS)) fun r s' h=>?_
  cases r with
  | error e=>exact (hCX H e s' h).elim
  | ok fl=>
   cases fl with
   | next=>exact False.elim h
   | brk=>exact False.elim h
   | cont=>exact False.elim h
   | ret u=>
    obtain⟨v,H',os,bare,un,hok',r',q⟩:=h
    have q':v=.bl true:=q
    subst q'
    obtain rfl:u=Value.bool true:=r'
    refine⟨rfl,OldK.of_keep fun b o e=>?_,os,bare⟩
    cases q:H b with
    | none=>exact un.keep b o e q (by intro z;exact absurd (show b∈([]:List Addr) from z) (by simp)) (by simp)
    | some u=>
     rcases hO b with z | ⟨ob,xs,z⟩
     ·rw[q] at z;cases z
     ·have z2:=un.frzs b ob _ z
      obtain⟨e1,_⟩:=hok b _ z
      obtain⟨e2,_⟩:=hok' b _ z2
      rw[e] at e1;cases e1
      exact e2
 cases hk:K.lookup a with
 | some o=>
  have e:=KX a o hk
  rw[ha] at e
  cases e
  refine core (fun _=>none) (fun _=>.inl rfl) (.inr ⟨_,vs.toArray,_,hk,rfl,rfl,rfl,by rw[List.size_toArray,lenV];exact hl,by simpa using rv⟩) (fun b u z=>by have z':(none:Option HO)=some u:=z;cases z') (fun b z=>absurd rfl z) fun z=>absurd rfl z
 | none=>
  refine core (fun b=>if b=a then some (.frz { cls:=.type "list",data:=.seq vs.toArray } (.lst (ns.map V.int))) else none) (fun b=>?_) (.inl (.inr ⟨{ cls:=.type "list",data:=.seq vs.toArray },if_pos rfl⟩)) (fun b u z=>?_) (fun b z=>?_) fun _=>hk
  ·by_cases hb:b=a
   ·exact .inr ⟨_,_,if_pos hb⟩
   ·exact .inl (if_neg hb)
  ·by_cases hb:b=a
   ·have z':=(if_pos hb).symm.trans z
    cases z'
    subst hb
    exact⟨ha,by rw[List.length_map];exact hl,vs,_,rv,ha⟩
   ·have z':=(if_neg hb).symm.trans z
    cases z'
  ·by_cases hb:b=a
   ·exact hb
   ·exact absurd (if_neg hb) z
end L2
namespace L2
open PySem PySem.Spec PyProof.Rows
theorem walk_of {l:PySem.W.OpenLaw}{n k:Nat}{q:Program}{loose:List Str}{XP:(Str→Option Value)→Heap→Prop}{YP:World→Heap→Prop}{d:DefRec}{K:Params→PySem.W.Frag}{CX:World→CXT}{sp:World→Sp}{x:Str}
  (hn:l.most=some n) (hn2:n≤sizeLine) (hdf:d.params.defaults=[]) (hr:Room k callerA)
  (hY:∀ (w:World) (h:Heap),YP w h→(K w.params).In h)
  (F:∀ (w:World) (mg:Str→Option Value) (fa:Addr) (h:Heap),(K w.params).In h→h.Ns mainGlobals mg→mg d.name=some (.ref fa)→
   ∃ fd:FuncData,(∀ (s:Shared) (u:Value),BindsTo s fd ⟨[u],[]⟩ [(x,u)])∧
    ∀ base:Heap,(K w.params).In base→base.Ns mainGlobals mg→FnOk l.prog w (K w.params) mg base (CX w) k fa fd [x] (sp w))
  (hsp:∀ (w:World) (H:Hp) (a:Addr) (ns:List Int),ns.length≤n→Only H→cE (K w.params) H a (ns.map V.int)→sp w [.ref a] H (fun v _=>v=.bl true) fun _ _ _=>False)
  (hCX:∀ (w:World) (H:Hp) (s:Shared) (e:Value) (s':Shared),CX w [] H s (fun _ _ _=>False) e s'→False) :
  PySem.W.WalkO q loose XP YP l.row.toRowW d [] (fun f vs=>PySem.call f vs):=by
 refine Att.attach_call hn hdf fun w s₀ s₁ mg mb fa o pm cd doc a vs ns G Y ho hd hcd hmg hobj hints hlen hg=>?_
 have KX:=hY w _ Y
 obtain⟨fd,hb,hF⟩:=F w mg fa _ KX G.T.g hmg
 exact law_call KX G.T.g G.T.b G.T.builtins G.T.nolimit hg hobj hints (Nat.le_trans hlen hn2) hr hF hb (fun H hO hS=>hsp w H a ns hlen hO hS) fun H e s'=>hCX w H s₁ e s'
end L2
namespace L2
open PySem PySem.Spec PyProof.Rows
noncomputable def bQ (s:Stmt) (j:Nat):Stmt:=match s with
 | .ClassDef _ _ _ body _ _ _ _ _ _ _=>body.getD j (.Pass ⟨0,0,0,0⟩)
 | _=>.Pass ⟨0,0,0,0⟩
noncomputable def aW (s:Stmt):Arguments:=match s with
 | .FunctionDef _ a _ _ _ _ _ _ _ _=>a
 | _=>{ posonlyargs:=[],args:=[],vararg:=none,kwonlyargs:=[],kw_defaults:=[],kwarg:=none,defaults:=[] }
noncomputable def aV (s:Stmt):List Stmt:=match s with
 | .FunctionDef _ _ b _ _ _ _ _ _ _=>b
 | _=>[]
noncomputable def aJ (s:Stmt):Scope:=match s with
 | .FunctionDef _ _ _ _ _ _ sc _ _ _=>sc
 | _=>{ kind:=.function,names:=[],isGenerator:=false,isCoroutine:=false }
noncomputable abbrev CX0:CXT:=fun _ _ _ _ _ _=>False
noncomputable abbrev E0:XK:=fun _ _ _=>False
theorem pass0 {X:Cx}:Passes CX0 X E0:=fun _ _ _ _ _ _ _ h=>h.elim
structure Fun (K:PySem.W.Frag) (x qual:Str) (st:Stmt) (f:Addr) (fd:FuncData):Prop where
 ex:∃ (oc:Value) (od:Option Addr) (kV doc pm:Value) (an:Option Addr) (cdv ct:Value) (osl:Array (Option Value)),
  fd=PySem.W.fnOf x qual (aW st) (aV st) (aJ st) .none kV doc pm an cdv ct∧K.lookup f=some ⟨oc,od,.func fd,osl⟩∧PySem.W.codeIn K cdv qual=true
 kp:PySem.W.keepIn K (.ref f)=true
section
variable {P:Program}{w:World}{K:PySem.W.Frag}{mg:Str→Option Value}{base:Heap}
theorem Fun.ok {x qual:Str}{st:Stmt}{f:Addr}{fd:FuncData}{N ps:List Str}{k:Nat}{sp:Sp} (F:Fun K x qual st f fd) (S:FnScope N ps (aJ st)) (len:∀ vs H Q E,sp vs H Q E→vs.length=ps.length)
  (hbody:∀ (cdv:Value) (A:Around) (outer:List Env) (s:Shared) (H:Hp) (vs:List V) (Q:VK) (E:XK),Room k (A.deeper (envOfC qual (aJ st) s.heap.objs.size f cdv))→sp vs H Q E→
   ∃ t,PSs (cxOf CX0 P w K mg base N qual (aJ st) f cdv A outer s H E).nox (aV st) t∧t { nx:=fun _ H'=>Q .non H',rt:=Q } (start N vs) H):FnOk P w K mg base CX0 (k+1) f fd ps sp:=by
 obtain⟨oc,od,kV,doc,pm,an,cdv,ct,osl,rfl,lk,hcd⟩:=F.ex
 refine fn_of lk hcd S len fun A outer s H vs Q E hr hsp=>?_
 obtain⟨t,h,q⟩:=hbody cdv A outer s H vs Q E hr hsp
 exact⟨t,h.nox,q⟩
theorem Fun.binds {x qual:Str}{st:Stmt}{f:Addr}{fd:FuncData}{ps:List Str} (F:Fun K x qual st f fd)
  (h:∀ (kV doc pm:Value) (an:Option Addr) (cdv ct:Value) (us:List Value),us.length=ps.length→bindArgs (PySem.W.fnOf x qual (aW st) (aV st) (aJ st) .none kV doc pm an cdv ct) ⟨us,[]⟩=pure (ps.zip us)):Binds K fd ps []:=by
 obtain⟨oc,od,kV,doc,pm,an,cdv,ct,osl,rfl,lk,hcd⟩:=F.ex
 exact .all (h kV doc pm an cdv ct)
theorem bF {x qual:Str}{st:Stmt}{f:Addr}{oc:Value}{od an:Option Addr}{osl:Array (Option Value)}{kV doc pm cdv ct:Value} (l:K.lookup f=some ⟨oc,od,.func (PySem.W.fnOf x qual (aW st) (aV st) (aJ st) .none kV doc pm an cdv ct),osl⟩)
  (c:PySem.W.codeIn K cdv qual=true) (k:PySem.W.keepIn K (.ref f)=true):Fun K x qual st f (PySem.W.fnOf x qual (aW st) (aV st) (aJ st) .none kV doc pm an cdv ct):=⟨⟨oc,od,kV,doc,pm,an,cdv,ct,osl,rfl,l,c⟩,k⟩
end
theorem hu_of {A:Around}{k:Nat} (hr:Room k A):A.units+1 < cLine:=Nat.lt_of_le_of_lt (Nat.add_le_add_left (by decide:1≤64) _) hr.units
theorem aT {n:Nat} (h:n≤1000):n < sizeLine:=Nat.lt_of_le_of_lt h (by decide)
section
variable {X:Cx}
theorem pv (i:Nat) {x:Str}{pos:Pos} (hN:X.N[i]? = some x:=by rfl) (hv:Vis X.env.scope x:=by first | exact Or.inl rfl | exact Or.inr (Or.inl rfl) | exact Or.inr (Or.inr rfl)) (hd:(x == ("__debug__" : Str))=false:=by decide)
  (hcd:(x == ("__classdict__" : Str))=false:=by decide):PE X (.Name x pos) (cP i):=pe_var hN hv hd hcd
end
theorem iteF {A B:Prop} (h:B):if false=true then A else B:=by
 rw[if_neg Bool.false_ne_true]
 exact h
theorem iteT {A B:Prop} (h:A):if true=true then A else B:=by
 rw[if_pos rfl]
 exact h
theorem ite2 {c A B:Prop} [Decidable c] (h1:c→A) (h2:¬ c→B):if c then A else B:=by
 by_cases h:c
 ·rw[if_pos h]
  exact h1 h
 ·rw[if_neg h]
  exact h2 h
noncomputable def aK (H H':Hp):Prop:=∀ b o,H b=some o→H' b=some o
theorem aK.refl (H:Hp):aK H H:=fun _ _ h=>h
theorem aK.trans {H H1 H2:Hp} (a:aK H H1) (b:aK H1 H2):aK H H2:=fun c o h=>b c o (a c o h)
theorem aK.free {H H':Hp} (e:aK H H') {l:Addr} (h:H' l=Option.none):H l=Option.none:=by
 cases q:H l with
 | none=>rfl
 | some o=>
  rw[e l o q] at h
  cases h
theorem aK.seq {K:PySem.W.Frag}{H H':Hp}{a:Addr}{xs:List V} (e:aK H H') (h:cE K H a xs):cE K H' a xs:=by
 rcases h with (h | ⟨o,h⟩) | h
 ·exact .inl (.inl (e _ _ h))
 ·exact .inl (.inr ⟨o,e _ _ h⟩)
 ·exact .inr h
end L2
set_option maxHeartbeats 4000000
namespace L2
open PySem PySem.Spec PyProof.Rows
theorem lookup_relabel_free {env:Env} (hk:env.scope.kind=.function):∀ {names:List (Str×NameKind)}{x:Str},names.lookup x=some .free→env.kindOf x=some .cell→
  (names.map fun (n,k)=>if (k == NameKind.free && env.scope.kind == .function && env.kindOf n == some .cell) then (n,NameKind.cell) else (n,k)).lookup x=some .cell
 | [],_,h,_=>by simp at h
 | (n,k)::r,x,h,hc=>by
  have ih:=@lookup_relabel_free env hk r x
  show List.lookup x ((if (k == NameKind.free && env.scope.kind == .function && env.kindOf n == some .cell)=true then (n,NameKind.cell) else (n,k))::_)=_
  cases hx:x == n with
  | true=>
   simp only [List.lookup_cons,hx] at h
   cases h
   have e:x=n:=by simpa using hx
   subst e
   rw[if_pos (by rw[hk,hc];decide)]
   simp [List.lookup_cons]
  | false=>
   simp only [List.lookup_cons,hx] at h
   by_cases hq:(k == NameKind.free && env.scope.kind == .function && env.kindOf n == some .cell)=true
   ·rw[if_pos hq];simp only [List.lookup_cons,hx];exact ih h hc
   ·rw[if_neg hq];simp only [List.lookup_cons,hx];exact ih h hc
noncomputable def ClOk (env:Env):List (Str×Addr)→Prop
 | []=>True
 | p::r=>env.cells.lookup p.1=some p.2∧ClOk env r
theorem ClOk.get {env:Env}:∀ {cl:List (Str×Addr)},ClOk env cl→∀ x c,cl.lookup x=some c→env.cells.lookup x=some c
 | [],_,_,_,e=>by simp at e
 | (n,a)::r,h,x,c,e=>by
  cases hx:x == n with
  | true=>
   simp only [List.lookup_cons,hx] at e
   cases e
   have e':x=n:=by simpa using hx
   subst e'
   exact h.1
  | false=>
   simp only [List.lookup_cons,hx] at e
   exact ClOk.get h.2 x c e
noncomputable def FrOk (X:Cx) (scope:Scope) (N':List Str):List (Option Nat)→Nat→Prop
 | [],_=>True
 | none::r,i=>FrOk X scope N' r (i+1)
 | some j::r,i=>(∃ x,N'[i]? = some x∧X.N[j]? = some x∧scope.names.lookup x=some .free∧X.env.kindOf x=some .cell)∧FrOk X scope N' r (i+1)
theorem FrOk.get {X:Cx}{scope:Scope}{N':List Str}:∀ {fr:List (Option Nat)}{k:Nat},FrOk X scope N' fr k→∀ i j,fr[i]? = some (some j)→
  ∃ x,N'[k+i]? = some x∧X.N[j]? = some x∧scope.names.lookup x=some .free∧X.env.kindOf x=some .cell
 | [],_,_,i,j,e=>by simp at e
 | none::r,k,h,0,j,e=>by simp at e
 | some _::r,k,h,0,j,e=>by simp at e;subst e;exact h.1
 | none::r,k,h,i+1,j,e=>by
  have:=FrOk.get (k:=k+1) (show FrOk X scope N' r (k+1) from h) i j (by simpa using e)
  rwa [Nat.add_right_comm] at this
 | some _::r,k,h,i+1,j,e=>by
  have:=FrOk.get (k:=k+1) h.2 i j (by simpa using e)
  rwa [Nat.add_right_comm] at this
structure LcOk (X:Cx) (scope:Scope) (cl:List (Str×Addr)) (N':List Str) (fr:List (Option Nat)):Prop where
 clos:closureFor scope X.env=pure cl
 cls:ClOk X.env cl
 kind:scope.kind=.function
 nocell:(scope.names.all fun p=>p.2 != NameKind.cell)=true
 locs:(scope.names.all fun p=>p.2 != NameKind.local || scope.names.lookup p.1 == some NameKind.local)=true
 frees:(scope.names.all fun p=>p.2 != NameKind.free || (cl.lookup p.1).isSome)=true
 len:fr.length=N'.length
 fr:FrOk X scope N' fr 0
noncomputable def frσ (fr:List (Option Nat)) (σ:St):St:=fr.map fun o=>o.bind fun j=>(σ[j]?).join
noncomputable def cxC (X:Cx) (N':List Str) (scope:Scope) (cl:List (Str×Addr)) (fp:List Addr) (s:Shared) (H:Hp):Cx:=
 { X with N:=N',s₀:=s,H₀:=H,env:=compEnvC scope cl s.heap.objs.size X.env,outer:=X.stack,ex:=fp,fn:=fun _=>false,pn:=[] }
noncomputable def PIf (X:Cx) (ifs:List Expr) (t:TT):Prop:=
 ∀ (pins:List (Addr×Obj)) (s:Shared) (σ:St) (H:Hp) (Q:Bool→Hp→Prop),Inv X pins σ H s→t σ H Q→
  wpAny (model X.prog X.w) X.A (forIn ifs true fun c r=>if r=true then do let ok ← isTrue c X.env (eval c X.env);pure (ForInStep.yield ok) else pure (ForInStep.yield r)) (TP X pins σ Q) X.xe s
noncomputable def tYes:TT:=fun _ H Q=>Q true H
theorem d8 {X:Cx}:PIf X [] tYes:=fun _ _ _ H _ I h=>wpAny_tests_nil ⟨H,I,h⟩
theorem pif_one {X:Cx}{c:Expr}{t:TT} (h:PT X c t):PIf X [c] t:=fun pins s σ H Q I hw=>wpAny_tests_one (h pins s σ H Q I hw)
noncomputable def lcRest (J:It) (g:TG) (tc:TT) (te:TE) (fr:List (Option Nat)) (σ:St) (H1:Hp) (Q:Addr→Hp→Prop):Prop:=
 ∀ D,H1 D=none→∃ W:Nat→Nat→List V→St→Hp→Prop,(∃ m,W 0 m [] (frσ fr σ) (upd H1 D (.lst [])))∧
  ∀ i m ys σ' H',W i m ys σ' H'→(J.stop i H'∧Q D H')∨
   (J.go i H'∧∃ N:List V→St→Hp→Prop,(∀ ys' σ'' H'',N ys' σ'' H''→∃ m',m' < m∧W (i+1) m' ys' σ'' H'')∧
    ∀ x H2,J.yld i H' x H2→g x σ' H2 fun σ3 H3=>tc σ3 H3 fun b H4=>
    if b=true then te σ3 H4 fun y H5=>H5 D=some (.lst ys)∧ys.length < sizeLine∧N (ys++[y]) σ3 (upd H5 D (.lst (ys++[y])))
    else N ys σ3 H4)
theorem lc_gen {J:It}{n:Nat}{g:TG}{tc:TT}{te:TE}{fr:List (Option Nat)}{σ:St}{H1:Hp}{Q:Addr→Hp→Prop} (Pv:Addr→Nat→List V→St→Hp→Prop)
  (h0:∀ D,H1 D=none→Pv D 0 [] (frσ fr σ) (upd H1 D (.lst [])))
  (hstop:∀ D ys σ' H',Pv D n ys σ' H'→J.stop n H'∧Q D H')
  (hgo:∀ D i ys σ' H',i < n→Pv D i ys σ' H'→J.go i H'∧∀ x H2,J.yld i H' x H2→g x σ' H2 fun σ3 H3=>tc σ3 H3 fun b H4=>
    if b=true then te σ3 H4 fun y H5=>H5 D=some (.lst ys)∧ys.length < sizeLine∧Pv D (i+1) (ys++[y]) σ3 (upd H5 D (.lst (ys++[y])))
    else Pv D (i+1) ys σ3 H4):lcRest J g tc te fr σ H1 Q:=by
 intro D hD
 refine⟨fun i m ys σ H=>m=n - i∧i≤n∧Pv D i ys σ H,⟨n,by simp,Nat.zero_le _,h0 D hD⟩,?_⟩
 rintro i m ys σ' H' ⟨rfl,hi,p⟩
 by_cases hlt:i < n
 ·obtain⟨go,step⟩:=hgo D i ys σ' H' hlt p
  exact .inr ⟨go,Pv D (i+1),fun ys' σ'' H'' p'=>⟨n - (i+1),by omega,rfl,hlt,p'⟩,step⟩
 ·have e:i=n:=by omega
  subst e
  exact .inl (hstop D ys σ' H' p)
theorem for_gen {J:It}{n:Nat}{g:TG}{tb:TS}{D:Ends}{σ:St}{H:Hp} (Pv:Nat→St→Hp→Prop) (h0:Pv 0 σ H) (hstop:∀ σ H,Pv n σ H→J.stop n H∧D.nx σ H)
  (hgo:∀ i σ H,i < n→Pv i σ H→J.go i H∧∀ x H',J.yld i H x H'→g x σ H' fun σ2 H2=>tb { D with nx:=Pv (i+1),ct:=Pv (i+1),bk:=D.nx } σ2 H2) :
  ∃ W:Nat→Nat→St→Hp→Prop,(∃ m,W 0 m σ H)∧∀ i m σ H,W i m σ H→
   (J.stop i H∧D.nx σ H)∨(J.go i H∧∃ N:St→Hp→Prop,(∀ σ' H',N σ' H'→∃ m',m' < m∧W (i+1) m' σ' H')∧∀ x H',J.yld i H x H'→g x σ H' fun σ2 H2=>tb { D with nx:=N,ct:=N,bk:=D.nx } σ2 H2):=by
 refine⟨fun i m σ H=>m=n - i∧i≤n∧Pv i σ H,⟨n,by simp,Nat.zero_le _,h0⟩,?_⟩
 rintro i m σ H ⟨rfl,hi,p⟩
 by_cases hlt:i < n
 ·obtain⟨go,step⟩:=hgo i σ H hlt p
  exact .inr ⟨go,Pv (i+1),fun σ' H' p'=>⟨n - (i+1),by omega,rfl,hlt,p'⟩,step⟩
 ·have e:i=n:=by omega
  subst e
  exact .inl (hstop σ H p)
noncomputable def tLC (wi:TI) (fr:List (Option Nat)) (g:TG) (tc:TT) (te:TE):TE:=fun σ H Q=>wi σ H fun J H1=>lcRest J g tc te fr σ H1 fun D H'=>Q (.ref D) H'
section
variable {prog:Program}{w:World}{A:Around}{R:Result→Shared→Prop}{s:Shared}
theorem compLoop_any {elt target iter:Expr}{ifs:List Expr}{scope:Scope}{pos:Pos}{it acc:Value}{env:Env} (I:Nat→Shared→Prop)
  (turn:∀ n s,I n s→wpAny (model prog w) A (pyNext it) (fun r s₁=>match r with
   | none=>R (.ok .next) s₁
   | some v=>wpAny (model prog w) A (letOwnedTupleGo target it v) (fun _ s₁'=>wpAny (model prog w) A (assign target env v) (fun _ s₂=>
     wpAny (model prog w) A (forIn ifs true fun c r=>if r=true then do let ok ← isTrue c env (eval c env);pure (ForInStep.yield ok) else pure (ForInStep.yield r)) (fun ok s₃=>
      if ok=true then wpAny (model prog w) A (eval elt env) (fun x s₄=>
       wpAny (model prog w) A (call (.builtin "list.append") [acc,x]) (fun _ s₅=>∃ m,m < n∧I m s₅) (notedBy (model prog w) A env fun e s'=>R (.error e) s') s₄) (notedBy (model prog w) A env fun e s'=>R (.error e) s') s₃
      else ∃ m,m < n∧I m s₃) (notedBy (model prog w) A env fun e s'=>R (.error e) s') s₂) (notedBy (model prog w) A env fun e s'=>R (.error e) s') s₁') (notedBy (model prog w) A env fun e s'=>R (.error e) s') s₁)
    (notedBy (model prog w) A env fun e s'=>R (.error e) s') s)
  (n:Nat) (h:I n s) :
  codeAny (model prog w) A (.compLoop (.ListComp elt [⟨target,iter,ifs,0⟩] scope pos) 0 it acc env) R s:=by
 refine codeAny_loop rfl I (fun n s hI=>?_) n h
 show wpAny _ A ((compTurn (.ListComp elt [⟨target,iter,ifs,0⟩] scope pos) 0 it acc env).onRaise (fun x=>do noteFrame x env;theTreesLotGoes x)) _ _ s
 refine wpAny_noted ?_
 rw[compTurn_list]
 refine wpAny_bind (wpAny_standAt (wpAny_bind (wpAny_mono (turn n s hI) (fun r s₁ h₁=>?_) fun _ _ h'=>h')))
 cases r with
 | none=>exact wpAny_pure h₁
 | some v=>
  refine wpAny_bind (wpAny_mono h₁ (fun _ s₁' h₁'=>?_) fun _ _ h'=>h')
  refine wpAny_bind (wpAny_mono h₁' (fun _ s₂ h₂=>wpAny_bind (wpAny_mono h₂ (fun ok s₃ h₃=>?_) fun _ _ h'=>h')) fun _ _ h'=>h')
  cases ok with
  | false=>exact wpAny_pure ⟨rfl,h₃⟩
  | true=>
   exact wpAny_bind (wpAny_bind (wpAny_mono h₃ (fun x s₄ h₄=>wpAny_bind (wpAny_mono h₄ (fun _ s₅ h₅=>wpAny_pure (wpAny_pure ⟨rfl,h₅⟩)) fun _ _ h'=>h')) fun _ _ h'=>h'))
end
section
variable {X:Cx}
theorem LcOk.invC {scope:Scope}{cl:List (Str×Addr)}{N':List Str}{fr:List (Option Nat)}{pins:List (Addr×Obj)}{σ:St}{H:Hp}{s:Shared}{h1:Heap}{fp:List Addr}{m1:Str→Option Value}{tk:Nat}
  (S:LcOk X scope cl N' fr) (I:Inv X pins σ H s) (hf:∀ b∈fp,FpOk X pins H b) (hfo:∀ b∈fp,b < s.heap.objs.size)
  (k:∀ b o,s.heap.get? b=some o→h1.get? b=some o) (hn:h1.Ns s.heap.objs.size m1):Inv (cxC X N' scope cl fp s H) [] (frσ fr σ) H { s with heap:=h1,toks:=tk }:=by
 have hfree:=S.frees
 have hcell:=S.nocell
 rw[List.all_eq_true] at hfree hcell
 have fresh:H s.heap.objs.size=none:=I.hok.fresh (Nat.le_refl _)
 have clg:=S.cls.get
 refine⟨⟨I.ok.mod,S.kind,I.ok.glob,I.ok.blt,Nat.le_refl _,fun x y c e1 e2=>I.ok.inj x y c (clg x c e1) (clg y c e2),fun x hx=>?_,(fun x c e=>nomatch e),I.ok.hd,I.ok.frames,.inl rfl,fun b hb=>⟨Nat.ne_of_lt (hfo b hb),fun x c e=>(hf b hb).2.2.2.2.1 x c (clg x c e)⟩,
  I.bs,Nat.le_trans I.ok.bsz I.sz,fun b o e hb=>?_,fun b hb hz=>?_,I.stack,I.stkFree⟩,rfl,I.bare,Un.kept k,⟨m1,hn,fun i x v e1 e2 e3=>?_⟩,fun x c e=>?_,fresh,fun x c e=>I.freeC x c (clg x c e),fun p hp=>absurd (show p∈([]:List (Addr×Obj)) from hp) (by simp),I.hok.kept k,?_⟩
 ·
  have hm:∃ k',(x,k')∈scope.names∧k'=NameKind.free:=by
   have hx':(relabel scope X.env).names.lookup x=some .cell∨(relabel scope X.env).names.lookup x=some .free:=hx
   obtain⟨k',e,hk'⟩:∃ k',(relabel scope X.env).names.lookup x=some k'∧(k'=.cell∨k'=.free):=by
    rcases hx' with e | e
    ·exact⟨_,e,.inl rfl⟩
    ·exact⟨_,e,.inr rfl⟩
   have hmem:=PySem.mem_of_lookup e
   obtain⟨⟨n,kn⟩,hp,he⟩:=List.mem_map.mp hmem
   dsimp only at he
   split at he
   ·rename_i hc
    cases he
    have:kn=.free:=by
     simp only [Bool.and_eq_true,beq_iff_eq] at hc
     exact hc.1.1
    exact⟨kn,hp,this⟩
   ·cases he
    rcases hk' with e' | e'
    ·subst e'
     have:=hcell _ hp
     simp at this
    ·exact⟨_,hp,e'⟩
  obtain⟨k',hp,rfl⟩:=hm
  have:=hfree _ hp
  simp only [bne_self_eq_false,Bool.false_or] at this
  exact Option.isSome_iff_exists.mp this
 ·rcases (hf b hb).2.2.2.1 with z | z
  ·exact I.ok.noex b o e z
  ·have:=Heap.lt_size e
   exact absurd (Nat.lt_of_lt_of_le this (Nat.le_trans I.ok.bsz z)) (Nat.lt_irrefl _)
 ·obtain⟨_,f1,f2,_⟩:=hf b hb
  rcases List.mem_cons.mp (I.stkSub b hz) with e | e
  ·exact f1 e
  ·exact f2 e
 ·
  unfold frσ at e2
  rw[List.getElem?_map] at e2
  cases ef:fr[i]? with
  | none=>rw[ef] at e2;cases e2
  | some o=>
   rw[ef] at e2
   cases o with
   | none=>simp at e2
   | some j=>
    have e2':(σ[j]?).join=some v:=by simpa using e2
    obtain⟨x',h1',h2',h3',h4'⟩:=S.fr.get i j ef
    rw[Nat.zero_add] at h1'
    have ex:x'=x:=by
     have:N'[i]? = some x:=e1
     rw[h1'] at this
     exact Option.some.inj this
    subst ex
    have e2'':σ[j]? = some (some v):=by
     cases q:σ[j]? with
     | none=>rw[q] at e2';cases e2'
     | some z=>rw[q] at e2';simp at e2';rw[e2']
    obtain⟨m,hm,hl⟩:=I.loc
    obtain⟨u,r,lk⟩:=hl j x' v h2' e2'' (.inr (.inl h4'))
    refine⟨u,r,?_⟩
    rcases lk with ⟨q,_⟩ | ⟨_,c,hc,z⟩
    ·rw[h4'] at q;cases q
    ·have hcl:∃ c',cl.lookup x'=some c':=by
      have:=hfree _ (PySem.mem_of_lookup h3')
      simp only [bne_self_eq_false,Bool.false_or] at this
      exact Option.isSome_iff_exists.mp this
     obtain⟨c',hc'⟩:=hcl
     have e':=clg x' c' hc'
     rw[hc] at e'
     cases e'
     obtain⟨oc,hoc,hd⟩:=z
     refine .inr ⟨.inl ?_,c,hc',oc,k c oc hoc,hd⟩
     exact lookup_relabel_free I.ok.kind h3' h4'
 ·obtain⟨v,oc,hoc,hd⟩:=I.cell x c (clg x c e)
  exact⟨v,oc,k c oc hoc,hd⟩
 ·show (frσ fr σ).length=N'.length
  unfold frσ
  rw[List.length_map,S.len]
theorem Inv.outC {scope:Scope}{cl:List (Str×Addr)}{N':List Str}{pins pins':List (Addr×Obj)}{σ σ':St}{H H':Hp}{s s':Shared}{fp:List Addr} (I:Inv X pins σ H s) (J:Inv (cxC X N' scope cl fp s H) pins' σ' H' s')
  (hf:∀ b∈fp,FpOk X pins H b):Inv X pins σ H' s':=
 I.call' (ch:=fp) J.os J.base J.hok J.bare fun b hb=>by
  obtain⟨_,f1,_,f3,f4,f5⟩:=hf b hb
  exact⟨f3,f1,f4,f5⟩
theorem Inv.letgo {pins:List (Addr×Obj)}{σ:St}{H:Hp}{s:Shared}{C:Addr}{h':Heap} (I:Inv X pins σ H s) (f:FpOk X pins H C) (hsb:Heap.SameBut C s.heap h'):Inv X pins σ H { s with heap:=h' }:=by
 obtain⟨f0,f1,f2,f3,f4,f5⟩:=f
 exact I.turned (t':=s.toks) (it:=C) (h':=h') (fun b o hb e=>(hsb.2 b hb).trans e) f0 f1 f3 f4 f5
theorem lc_block {elt tg iter:Expr}{ifs:List Expr}{scope:Scope}{pos:Pos}{N':List Str}{fr:List (Option Nat)}{cl:List (Str×Addr)}{g:TG}{tc:TT}{te:TE}
  {pins:List (Addr×Obj)}{σ:St}{H:Hp}{s:Shared}{J:It}{fp:List Addr}{it:Addr}{tn:Nat→Heap→Prop}{Q:Addr→Hp→Prop}{RR:Value→Addr→Result→Shared→Prop}{E:Value→Shared→Prop}
  (hx:∀ e s,¬ X.xe e s) (hc:X.calm=true) (S:LcOk X scope cl N' fr)
  (hg:∀ fp s H,PG (cxC X N' scope cl fp s H) tg g) (ht:∀ fp s H,PIf (cxC X N' scope cl fp s H) ifs tc) (he:∀ fp s H,PE (cxC X N' scope cl fp s H) elt te)
  (I:Inv X pins σ H s) (T:Turn X.prog X.w X.K tg J fp it tn) (st:tn 0 s.heap) (hf:∀ b∈fp,FpOk X pins H b) (h:lcRest J g tc te fr σ H Q)
  (hRR:∀ D C H' s' m',Inv X pins σ H' s'→Q D H'→s'.heap.Ns C m'→FpOk X pins H' C→RR (.ref D) C (.ok .next) s') :
  wpAny (model X.prog X.w) X.A (newList []) (fun acc s₃=>wpAny (model X.prog X.w) X.A (newFunctionEnv scope X.env.globals cl [] X.env.qual none .none (some X.env)) (fun cenv s₄=>
   codeAny (model X.prog X.w) X.A (.compStart (.ListComp elt [⟨tg,iter,ifs,0⟩] scope pos) 0 (.ref it) acc { cenv with scope:=relabel scope X.env }) (RR acc cenv.locals) s₄) E s₃) E s:=by
 have hcell:=S.nocell
 rw[List.all_eq_true] at hcell
 refine wpAny_newObj_type (wpAny_newFunctionEnv (fun x hx'=>by simpa using hcell x hx') (by intro y hy;simp at hy) (fun h₁ hns₁ hsb₁=>?_) S.kind)
 dsimp only at hns₁ hsb₁ ⊢
 have fresh:H s.heap.objs.size=none:=I.hok.fresh (Nat.le_refl _)
 have I3:Inv X pins σ (upd H s.heap.objs.size (.lst [])) { s with heap:=s.heap.push { cls:=.type "list",data:=.seq ([]:List Value).toArray },toks:=s.toks }:=I.lnew (ys:=[]) (its:=[]) .nil (Nat.zero_le _)
 have hf3:∀ b∈fp,FpOk X pins (upd H s.heap.objs.size (.lst [])) b:=fun b hb=>by
  obtain⟨o,ho,_⟩:=T.obj _ _ st b hb
  exact⟨by rw[aM (Nat.ne_of_lt (Heap.lt_size ho))];exact (hf b hb).1,(hf b hb).2⟩
 generalize hs3:({ s with heap:=s.heap.push { cls:=.type "list",data:=.seq ([]:List Value).toArray },toks:=s.toks }:Shared)=s3 at I3
 have e3:s3.heap=s.heap.push { cls:=.type "list",dict:=none,data:=.seq ([]:List Value).toArray }:=by rw[← hs3]
 have e3s:({ s with heap:=s.heap.push { cls:=.type "list",dict:=none,data:=.seq ([]:List Value).toArray } }:Shared)=s3:=hs3
 have hsz3:s3.heap.objs.size=s.heap.objs.size+1:=by rw[e3,Heap.size_push]
 have hfo:∀ b∈fp,b < s3.heap.objs.size:=fun b hb=>by
  obtain⟨o,ho,_⟩:=T.obj _ _ st b hb
  rw[hsz3]
  exact Nat.lt_succ_of_lt (Heap.lt_size ho)
 rw[← e3] at hns₁ hsb₁ ⊢
 have old3:∀ b o,s3.heap.get? b=some o→h₁.get? b=some o:=fun b o e=>hsb₁.extBut b o (Nat.ne_of_lt (Heap.lt_size e)) (Heap.get?_push_of_some _ e)
 have old:∀ b o,s.heap.get? b=some o→s3.heap.get? b=some o:=fun b o e=>by rw[e3];exact Heap.get?_push_of_some _ e
 have I4:=S.invC (tk:=s3.toks) I3 hf3 hfo old3 hns₁
 obtain⟨W,⟨m0,w0⟩,turn⟩:=h s.heap.objs.size fresh
 have stat:∀ {H':Hp},(∀ b∈fp,H' b=none)→∀ b∈fp,FpOk (cxC X N' scope cl fp s3 (upd H s.heap.objs.size (.lst []))) [] H' b:=fun hn b hb=>by
  refine⟨hn b hb,Nat.ne_of_lt (hfo b hb),?_,.inl hb,fun x c e=>(hf b hb).2.2.2.2.1 x c (S.cls.get x c e),fun p hp=>absurd (show p∈([]:List (Addr×Obj)) from hp) (by simp)⟩
  intro hz
  obtain⟨_,f1,f2,_⟩:=hf b hb
  rcases List.mem_cons.mp (I.stkSub b hz) with e | e
  ·exact f1 e
  ·exact f2 e
 have loop:∀ s4:Shared,s4={ s3 with heap:=h₁,toks:=s3.toks }→
   codeAny (model X.prog X.w) X.A (.compLoop (.ListComp elt [⟨tg,iter,ifs,0⟩] scope pos) 0 (.ref it) (.ref s.heap.objs.size) (compEnvC scope cl s3.heap.objs.size X.env)) (RR (.ref s.heap.objs.size) s3.heap.objs.size) s4:=by
  intro s4 hs4
  refine compLoop_any (fun n s'=>∃ i ys σ' H',Inv (cxC X N' scope cl fp s3 (upd H s.heap.objs.size (.lst []))) [] σ' H' s'∧tn i s'.heap∧(∀ b∈fp,H' b=none)∧W i n ys σ' H') ?_ m0
   ⟨0,[],frσ fr σ,_,by rw[hs4];exact I4,by rw[hs4];exact T.keep _ _ _ st fun b _ o e=>old3 b o (old b o e),fun b hb=>(hf3 b hb).1,w0⟩
  rintro n s5 ⟨i,ys,σ5,H5,I5,st5,fr5,w5⟩
  rcases turn i n ys σ5 H5 w5 with ⟨stop,qn⟩ | ⟨go,N,hN,step⟩
  ·refine cH (T.done (cxC X N' scope cl fp s3 (upd H s.heap.objs.size (.lst []))) rfl rfl rfl hc i [] s5 σ5 H5 _ I5 (stat fr5) st5 stop) fun r s6 ⟨hr,I6⟩=>?_
   subst hr
   obtain⟨m',hm',_⟩:=I6.loc
   exact hRR _ _ H5 s6 m' (I3.outC I6 hf3) qn hm' (I3.fpOk (Nat.le_refl _) I6.free)
  ·refine cH (T.item (cxC X N' scope cl fp s3 (upd H s.heap.objs.size (.lst []))) rfl rfl rfl hc i [] s5 σ5 H5 _ I5 (stat fr5) st5 go) fun r s6 ⟨u,hr,h6⟩=>?_
   subst hr
   refine cH h6 fun _ s7 ⟨x,H7,I7,r7,y7,st7,fr7⟩=>?_
   have I7':=I7.pinned (stat fr7) (T.obj _ _ st7)
   refine wpAny_mono (hg fp s3 _ _ s7 σ5 H7 x u _ I7' r7 (step x H7 y7)) (fun _ s8 ⟨σ8,H8,I8,q8⟩=>?_) fun e s' z=>(hx e s' z).elim
   refine wpAny_mono (ht fp s3 _ _ s8 σ8 H8 _ I8 q8) (fun ok s9 ⟨H9,I9,q9⟩=>?_) fun e s' z=>(hx e s' z).elim
   have again:∀ {s10:Shared}{H10:Hp}{ys':List V},Inv (cxC X N' scope cl fp s3 (upd H s.heap.objs.size (.lst []))) ([]++pinsAt fp s7.heap) σ8 H10 s10→N ys' σ8 H10→
     ∃ m,m < n∧∃ i ys σ' H',Inv (cxC X N' scope cl fp s3 (upd H s.heap.objs.size (.lst []))) [] σ' H' s10∧tn i s10.heap∧(∀ b∈fp,H' b=none)∧W i m ys σ' H':=fun {s10 H10 ys'} I10 n10=>by
    obtain⟨m',hm,w10⟩:=hN ys' σ8 H10 n10
    refine⟨m',hm,i+1,ys',σ8,H10,I10.unpinned,T.keep _ _ _ st7 fun b hb o e=>(I10.pin (b,o) (List.mem_append_right _ (List.mem_append_right _ (mem_pinsAt hb e)))).1,fun b hb=>?_,w10⟩
    obtain⟨o,e,d⟩:=T.obj _ _ st7 b hb
    exact (I10.pin (b,o) (List.mem_append_right _ (List.mem_append_right _ (mem_pinsAt hb e)))).2.1
   cases ok with
   | false=>
    rw[if_neg Bool.false_ne_true] at q9 ⊢
    exact again I9 q9
   | true=>
    rw[if_pos rfl] at q9 ⊢
    refine wpAny_mono (he fp s3 _ _ s9 σ8 H9 _ I9 q9) (fun y s10 ⟨yv,H10,I10,r10,hD,hlen,q10⟩=>?_) fun e s' z=>(hx e s' z).elim
    refine wpAny_mono (cI (X:=cxC X N' scope cl fp s3 (upd H s.heap.objs.size (.lst []))) _ s10 σ8 H10 (.ref s.heap.objs.size) [yv] (.ref s.heap.objs.size) [y] (fun _ H11=>H11=upd H10 s.heap.objs.size (.lst (ys++[yv]))) I10 rfl (.cons r10 .nil)
     ⟨_,ys,yv,rfl,rfl,hD,hlen,rfl⟩) (fun _ s11 ⟨_,H11,I11,_,e11⟩=>?_) fun e s' z=>(hx e s' z).elim
    subst e11
    exact again I11 q10
 exact codeAny_compStart_list (loop _ (by rw[← e3s];rfl)) (T.self X.A 0 _ _ _ (T.keep _ _ _ st fun b _ o e=>old3 b o (old b o e)) (loop _ (by rw[← e3s];rfl)))
theorem pe_lc {elt tg iter:Expr}{ifs:List Expr}{scope:Scope}{pos:Pos}{N':List Str}{fr:List (Option Nat)}{cl:List (Str×Addr)}{wi:TI}{g:TG}{tc:TT}{te:TE}
  (hx:∀ e s,¬ X.xe e s) (hc:X.calm=true) (S:LcOk X scope cl N' fr) (hi:PI X tg iter wi)
  (hg:∀ fp s H,PG (cxC X N' scope cl fp s H) tg g) (ht:∀ fp s H,PIf (cxC X N' scope cl fp s H) ifs tc) (he:∀ fp s H,PE (cxC X N' scope cl fp s H) elt te)
  (hs:∀ x,foldedSetIterable iter X.env x=pure x:=by intro _;rfl):PE X (.ListComp elt [⟨tg,iter,ifs,0⟩] scope pos) (tLC wi fr g tc te):=by
 intro pins s σ H Q I h
 have hloc:=S.locs
 rw[List.all_eq_true] at hloc
 rw[eval_ListComp]
 refine wpAny_comprehension_free (use:=none) rfl hs S.clos S.kind (fun x hx' hl=>by have:=hloc x hx';rw[hl] at this;simpa using this) (cH (hi pins s σ H _ I h) fun v s1 h1=>cH h1 fun itv s2 h2=>?_)
 obtain⟨it,fp,tn,J,H2,e,I2,T,st2,f2,rest⟩:=h2
 subst e
 refine lc_block (RR:=fun acc C=>compPost (model X.prog X.w) X.A X.xe none (EP X pins σ Q) acc C) hx hc S hg ht he I2 T st2 f2 rest ?_
 intro D C H' s' m' I' q hn f
 exact⟨m',hn,fun h' hsb=>⟨.ref D,H',I'.letgo f hsb,rfl,q⟩⟩
theorem ps_set_lc {i:Nat}{y:Str}{py:Pos}{spos:Pos}{elt tg iter:Expr}{ifs:List Expr}{scope:Scope}{pos:Pos}{N':List Str}{fr:List (Option Nat)}{cl:List (Str×Addr)}{wi:TI}{g:TG}{tc:TT}{te:TE}
  (hN:X.N.Nodup) (hy:X.N[i]? = some y) (hk:X.env.scope.names.lookup y=some .local)
  (hx:∀ e s,¬ X.xe e s) (hc:X.calm=true) (S:LcOk X scope cl N' fr) (hi:PI X tg iter wi)
  (hg:∀ fp s H,PG (cxC X N' scope cl fp s H) tg g) (ht:∀ fp s H,PIf (cxC X N' scope cl fp s H) ifs tc) (he:∀ fp s H,PE (cxC X N' scope cl fp s H) elt te)
  (hsw:swapsWith (.ListComp elt [⟨tg,iter,ifs,0⟩] scope pos) (some (.Name y py)) spos.line X.env=pure true:=by rfl)
  (hs:∀ x,foldedSetIterable iter X.env x=pure x:=by intro _;rfl):PS X (.Assign [.Name y py] (.ListComp elt [⟨tg,iter,ifs,0⟩] scope pos) spos) (tAsg (tLC wi fr g tc te) (gName i)):=by
 intro pins s σ H D I h
 have hloc:=S.locs
 rw[List.all_eq_true] at hloc
 rw[exec_Assign_Name_used _ _ _ _ hsw]
 refine wpAny_bind (wpAny_standAt (wpAny_bind ?_))
 show wpAny _ X.A (do let _ ← comprehension (.ListComp elt [⟨tg,iter,ifs,0⟩] scope pos) scope X.env _ (newList []) false (eval iter X.env) (some (assign (.Name y py) X.env))) _ _ s
 refine wpAny_bind (wpAny_mono (wpAny_comprehension_free (use:=some (assign (.Name y py) X.env)) (Q:=fun _ s'=>SP X pins D .next s') rfl hs S.clos S.kind (fun x hx' hl=>by have:=hloc x hx';rw[hl] at this;simpa using this)
  (cH (hi pins s σ H _ I h) fun v s1 h1=>cH h1 fun itv s2 h2=>?_)) (fun _ s' hq=>wpAny_pure (wpAny_pure hq)) fun _ _ e=>e)
 obtain⟨it,fp,tn,J,H2,e,I2,T,st2,f2,rest⟩:=h2
 subst e
 refine lc_block (RR:=fun acc C=>compPost (model X.prog X.w) X.A X.xe (some (assign (.Name y py) X.env)) (fun _ s'=>SP X pins D .next s') acc C) hx hc S hg ht he I2 T st2 f2 rest ?_
 intro Da C H' s' m' I' q hn f
 show wpAny _ X.A (assign (.Name y py) X.env (.ref Da)) _ _ _
 refine wpAny_assign_Name (store_ok2 I' hN hy (.inl hk) (v:=.ref Da) rfl (fun s'' I'' hch=>?_) (.inr hk))
 obtain⟨a,hsb,ha⟩:=hch
 have haC:a≠C:=by
  rcases ha with e | e
  ·rw[e];exact Ne.symm f.2.1
  ·exact f.2.2.2.2.1 _ _ e
 exact⟨m',hn.sameBut hsb (Ne.symm haC),fun h' hs'=>⟨_,H',I''.letgo f hs',q⟩⟩
end
end L2
namespace TwZ
open PySem
open Sem (wp)
noncomputable def cS (h:Heap) (t:Bool) (it a:Addr) (i:Nat):Prop:=if t=true then h.IsTupleIter it a i else h.IsListIter it a i
noncomputable def bM (h:Heap) (t:Bool) (a:Addr) (items:Array Value):Prop:=if t=true then h.IsTuple a items else h.IsList a items
theorem cS.at {h h':Heap}{t:Bool}{it a:Addr}{i:Nat} (x:cS h t it a i) (k:∀ o,h.get? it=some o→h'.get? it=some o):cS h' t it a i:=by
 cases t <;> (obtain⟨o,ho,r⟩:=x;exact⟨o,k o ho,r⟩)
theorem ex {h h':Heap}{b c:Addr}{o:Obj} (hs:Heap.SameBut b h h') (hc:@Ne Nat c b) (e:h.get? c=some o):h'.get? c=some o:=hs.extBut _ _ hc e
theorem cS.ext {h h':Heap}{t:Bool}{it a b:Addr}{i:Nat} (x:cS h t it a i) (hs:Heap.SameBut b h h') (hab:@Ne Nat it b):cS h' t it a i:=x.at fun o e=>hs.extBut _ _ hab e
theorem bM.at {h h':Heap}{t:Bool}{a:Addr}{xs:Array Value} (x:bM h t a xs) (k:∀ o,h.get? a=some o→h'.get? a=some o):bM h' t a xs:=by
 cases t <;> (obtain⟨o,ho,r⟩:=x;exact⟨o,k o ho,r⟩)
theorem bM.ext {h h':Heap}{t:Bool}{a b:Addr}{xs:Array Value} (x:bM h t a xs) (hs:Heap.SameBut b h h') (hab:@Ne Nat a b):bM h' t a xs:=x.at fun o e=>hs.extBut _ _ hab e
theorem bM.lt {h:Heap}{t:Bool}{a:Addr}{xs:Array Value} (x:bM h t a xs):a < h.objs.size:=by
 cases t <;> (obtain⟨o,ho,r⟩:=x;exact Heap.lt_size ho)
theorem cS.obj {h:Heap}{t:Bool}{it a:Addr}{i:Nat} (x:cS h t it a i):∃ o,h.get? it=some o∧∀ v,o.data≠.cell v:=by
 cases t <;> (obtain⟨o,ho,_,d⟩:=x;exact⟨o,ho,fun v z=>by rw[d] at z;cases z⟩)
section
variable {prog:Program}{w:World}{M:Model}{A:Around}{E:Value→Shared→Prop}{s:Shared}
theorem wpAny_alive {a:Addr}{Q:Option Obj→Shared→Prop} (h:Q (s.heap.get? a) s):wpAny M A (loadIfAlive a) Q E s:=fun Γ p _=>by
 unfold loadIfAlive
 rw[Sem.wp_loadIfAlive]
 exact h
theorem nextOf_tuple_item {it l:Addr}{i:Nat}{items}{x:Value}{Q:Value→Shared→Prop} (hit:s.heap.IsTupleIter it l i)
  (hl:s.heap.IsTuple l items) (hx:items[i]? = some x)
  (hQ:∀ h',h'.IsTupleIter it l (i+1)→Heap.SameBut it s.heap h'→Q x { s with heap:=h' }) :
  wpAny (model prog w) A (Builtin.SmallTypes.nextOf (.ref it)) Q E s:=by
 obtain⟨o,ho,hc,hd⟩:=id hit
 obtain⟨ol,hol,_,nl,hdl⟩:=hl
 unfold Builtin.SmallTypes.nextOf
 refine wpAny_bind (wpAny_callSpecial?_slot (name:=Str.ofString "__next__") hit.typeIs F.slot_tuple_iterator_next
  (wpAny_call_entry F.slot_tuple_iterator_next hit.typeIs F.entry_tuple_iterator_next ?_ (F.args_tuple_iterator_next_1 _)))
 show wpAny _ _ (field (.ref it) 0 >>= _) _ _ s
 refine wpAny_bind (wpAny_field ho hd (x:=.ref l) rfl ?_)
 show wpAny _ _ (if (Value.ref l == Value.none)=true then _ else _) _ _ s
 rw[if_neg (show ¬ ((Value.ref l == Value.none)=true) from Bool.false_ne_true)]
 show wpAny _ _ (field (.ref it) 1 >>= _) _ _ s
 refine wpAny_bind (wpAny_field ho hd (x:=.int i 0) rfl ?_)
 show wpAny _ _ (seqItems? (.ref l) >>= _) _ _ s
 refine wpAny_bind (wpAny_seqItems hol hdl ?_)
 simp only [Int.toNat_natCast,hx]
 refine wpAny_bind (wpAny_setField ho hd (by simp) (wpAny_pure ⟨x,rfl,wpAny_pure (hQ _ ?_ (Heap.SameBut.update ..))⟩))
 exact⟨_,Heap.get?_update_self _ ho (Obj.isFreed_of_fields (Obj.data_mapFields hd _)),(Obj.cls_mapFields ..).trans hc,by
  rw[Obj.data_mapFields hd];simp [rawInt]⟩
theorem nextOf_tuple_end {it l:Addr}{i:Nat}{items}{Q:Value→Shared→Prop} (hh:A.handled=none)
  (hit:s.heap.IsTupleIter it l i) (hl:s.heap.IsTuple l items) (hx:items[i]? = none)
  (hE:∀ h' e,Heap.ExtBut it s.heap h'→(∃ o,h'.get? e=some o∧o.cls=.type "StopIteration")→E (.ref e) { s with heap:=h' }) :
  wpAny (model prog w) A (Builtin.SmallTypes.nextOf (.ref it)) Q E s:=by
 obtain⟨o,ho,hc,hd⟩:=id hit
 obtain⟨ol,hol,_,nl,hdl⟩:=hl
 unfold Builtin.SmallTypes.nextOf
 refine wpAny_bind (wpAny_callSpecial?_slot (name:=Str.ofString "__next__") hit.typeIs F.slot_tuple_iterator_next
  (wpAny_call_entry F.slot_tuple_iterator_next hit.typeIs F.entry_tuple_iterator_next ?_ (F.args_tuple_iterator_next_1 _)))
 show wpAny _ _ (field (.ref it) 0 >>= _) _ _ s
 refine wpAny_bind (wpAny_field ho hd (x:=.ref l) rfl ?_)
 show wpAny _ _ (if (Value.ref l == Value.none)=true then _ else _) _ _ s
 rw[if_neg (show ¬ ((Value.ref l == Value.none)=true) from Bool.false_ne_true)]
 show wpAny _ _ (field (.ref it) 1 >>= _) _ _ s
 refine wpAny_bind (wpAny_field ho hd (x:=.int i 0) rfl ?_)
 show wpAny _ _ (seqItems? (.ref l) >>= _) _ _ s
 refine wpAny_bind (wpAny_seqItems hol hdl ?_)
 simp only [Int.toNat_natCast,hx]
 refine wpAny_bind (wpAny_rule (wpAny_bind (wpAny_setField ho hd (by simp) ?_)))
 show wpAny _ _ (newExc (.type "StopIteration") [] >>= _) _ _ _
 refine wpAny_bind ?_
 simp only [newExc,newTuple]
 refine wpAny_bind (wpAny_newObj_type ?_ (by size_fits))
 refine wpAny_bind (m:=firstArgMember _ _) (wpAny_of_eq (a:=Value.none) (by first | rfl | (simp only [firstArgMember];rfl)) ?_)
 refine wpAny_newObj_type ?_ (by size_fits)
 simp only [raiseNew]
 refine wpAny_bind (wpAny_handled ?_)
 first | rw[show A.in1.handled=none from hh] | rw[hh]
 refine wpAny_bind (wpAny_pure (wpAny_throw ?_))
 exact hE _ _ (((Heap.SameBut.update ..).extBut.push _).push _) ⟨_,Heap.get?_push_size _ rfl,rfl⟩
theorem bC {t:Bool}{it l:Addr}{i:Nat}{items}{x:Value}{Q:Value→Shared→Prop} (hit:cS s.heap t it l i)
  (hl:bM s.heap t l items) (hx:items[i]? = some x)
  (hQ:∀ h',cS h' t it l (i+1)→Heap.SameBut it s.heap h'→Q x { s with heap:=h' }) :
  wpAny (model prog w) A (Builtin.SmallTypes.nextOf (.ref it)) Q E s:=by
 cases t with
 | true=>exact nextOf_tuple_item hit hl hx hQ
 | false=>exact wpAny_nextOf_list_item hit hl hx hQ
theorem cK {t:Bool}{it l:Addr}{i:Nat}{items}{Q:Value→Shared→Prop} (hh:A.handled=none)
  (hit:cS s.heap t it l i) (hl:bM s.heap t l items) (hx:items[i]? = none)
  (hE:∀ h' e,Heap.ExtBut it s.heap h'→(∃ o,h'.get? e=some o∧o.cls=.type "StopIteration")→E (.ref e) { s with heap:=h' }) :
  wpAny (model prog w) A (Builtin.SmallTypes.nextOf (.ref it)) Q E s:=by
 cases t with
 | true=>exact nextOf_tuple_end hh hit hl hx hE
 | false=>exact wpAny_nextOf_list_end hh hit hl hx hE
noncomputable abbrev IsZ (h:Heap) (z TI TO:Addr) (f0:Value) (f1:Bool):Prop:=
 h.get? z=some { cls:=.type "zip",dict:=none,data:=.fields #[f0,.bool f1,.bool false,.ref TI,.ref TO],slots:=#[] }
noncomputable abbrev cQ (h:Heap) (T:Addr) (vs:Array Value):Prop:=h.get? T=some { cls:=.type "tuple",data:=.seq vs }
noncomputable def Free0 (f0:Value):Prop:=f0=.none∨∃ a:Int,f0=.int a 0
theorem owned_free {z TI TO:Addr}{f0:Value}{f1:Bool}{Q:Bool→Shared→Prop} (hz:IsZ s.heap z TI TO f0 f1) (hf:Free0 f0) (yes:Q true s)
  (no:∀ h',IsZ h' z TI TO f0 true→Heap.SameBut z s.heap h'→Q false { s with heap:=h' }):wpAny (model prog w) A (Builtin.SmallTypes.ownedTupleIsFree (.ref z)) Q E s:=by
 unfold Builtin.SmallTypes.ownedTupleIsFree
 refine wpAny_bind (wpAny_field hz rfl (x:=f0) rfl ?_)
 rcases hf with rfl | ⟨a,rfl⟩
 ·exact wpAny_pure yes
 ·refine wpAny_bind (wpAny_alive ?_)
  cases h:s.heap.get? a.toNat with
  | none=>exact wpAny_pure yes
  | some o=>
   show wpAny _ _ (field (.ref z) 1 >>= _) _ _ _
   refine wpAny_bind (wpAny_field hz rfl (x:=.bool f1) rfl ?_)
   cases f1 with
   | true=>exact wpAny_pure (no s.heap hz (Heap.SameBut.refl ..))
   | false=>
    show wpAny _ _ (setField (.ref z) 1 (.bool true) >>= _) _ _ _
    refine wpAny_bind (wpAny_setField_rec hz (by simp) fun h₁ hz₁ hs₁=>wpAny_pure (no h₁ hz₁ hs₁))
theorem handOut {z TI TO:Addr}{f0:Value}{f1:Bool}{T:Addr}{Q:Unit→Shared→Prop} (hz:IsZ s.heap z TI TO f0 f1)
  (h:∀ h',IsZ h' z TI TO (rawInt T) false→Heap.SameBut z s.heap h'→Q () { s with heap:=h' }):wpAny (model prog w) A (Builtin.SmallTypes.ownedTupleHandOut (.ref z) (.ref T)) Q E s:=by
 unfold Builtin.SmallTypes.ownedTupleHandOut
 refine wpAny_bind (wpAny_setField_rec hz (by simp) fun h₁ hz₁ hs₁=>?_)
 replace hz₁:IsZ h₁ z TI TO (rawInt T) f1:=hz₁
 refine wpAny_setField_rec hz₁ (by simp) fun h₂ hz₂ hs₂=>?_
 exact h h₂ hz₂ (Heap.SameBut.trans hs₁ hs₂)
theorem seq_set {T:Addr}{vs:Array Value}{x:Value}{k:Nat}{Q:Unit→Shared→Prop} (hT:cQ s.heap T vs) (h3:vs.size≤3)
  (h:∀ h',cQ h' T (vs.setIfInBounds k x)→Heap.SameBut T s.heap h'→Q () { s with heap:=h' }):wpAny (model prog w) A (updateSeq T (·.setIfInBounds k x)) Q E s:=by
 have hl:vs.size≤sizeLine:=Nat.le_trans h3 (by decide)
 refine wpAny_updateSeq (hz:=hl) (_hz':=by rw[Array.size_setIfInBounds];omega) hT rfl (h _ ?_ (Heap.SameBut.update ..))
 show Heap.get? _ _=_
 rw[Heap.get?_update_self _ hT rfl]
 simp [Obj.mapSeq]
theorem nn {n i j:Nat} (h:i≠j):n+i≠n+j:=fun e=>h (Nat.add_left_cancel e)
theorem n0 {n j:Nat} (h:0 < j):n≠n+j:=fun e=>absurd e (Nat.ne_of_lt (Nat.lt_add_of_pos_right h))
theorem aO {n j:Nat} (h:0 < j):n+j≠n:=Ne.symm (n0 h)
theorem al {a n:Nat} (h:a < n) (j:Nat):a≠n+j:=Nat.ne_of_lt (Nat.lt_of_lt_of_le h (Nat.le_add_right n j))
theorem aH {a n:Nat} (h:a < n):a≠n:=Nat.ne_of_lt h
theorem co {c n m k:Nat} (h:c < n∨n+m < c) (hk:k≤m):c≠n+k:=fun e=>h.elim (fun h=>absurd e (al h k)) fun h=>absurd (Nat.lt_of_le_of_lt (Nat.add_le_add_left hk n) h) (by rw[e];exact Nat.lt_irrefl _)
theorem aP {c n m:Nat} (h:c < n∨n+m < c):c≠n:=co (k:=0) h (Nat.zero_le m)
theorem zip3_next {n a1 a2 a3:Nat}{t1 t2 t3:Bool}{k:Nat}{xs ys zs:Array Value}{x y z c1 c2 c3 f0:Value}{f1:Bool}{Q:Value→Shared→Prop} (hf:Free0 f0)
  (hz:IsZ s.heap (n+5) (n+3) (n+4) f0 f1) (hTI:cQ s.heap (n+3) #[.ref n,.ref (n+1),.ref (n+2)]) (hTO:cQ s.heap (n+4) #[c1,c2,c3])
  (i1:cS s.heap t1 n a1 k) (i2:cS s.heap t2 (n+1) a2 k) (i3:cS s.heap t3 (n+2) a3 k) (s1:bM s.heap t1 a1 xs) (s2:bM s.heap t2 a2 ys) (s3:bM s.heap t3 a3 zs)
  (l1:a1 < n) (l2:a2 < n) (l3:a3 < n) (hx:xs[k]? = some x) (hy:ys[k]? = some y) (hw:zs[k]? = some z)
  (hQ:∀ (T:Nat) h' f0' f1' d1 d2 d3,s.heap.objs.size≤T→Free0 f0'→IsZ h' (n+5) (n+3) (n+4) f0' f1'→cQ h' (n+3) #[.ref n,.ref (n+1),.ref (n+2)]→cQ h' (n+4) #[d1,d2,d3]→
   cS h' t1 n a1 (k+1)→cS h' t2 (n+1) a2 (k+1)→cS h' t3 (n+2) a3 (k+1)→cQ h' T #[x,y,z]→
   (∀ (c:Nat) o,(c < n∨n+5 < c)→s.heap.get? c=some o→h'.get? c=some o)→Q (.ref T) { s with heap:=h' }) :
  wpAny (model prog w) A (Builtin.«zip.__next__» ⟨[.ref (n+5)],[]⟩) (fun fin s'=>∃ v,fin=.done (.ret v)∧Q v s') E s:=by
 have hzlt:n+5 < s.heap.objs.size:=Heap.lt_size hz
 show wpAny _ _ (field (.ref (n+5)) 2 >>= _) _ _ _
 refine wpAny_bind (wpAny_field hz rfl (x:=.bool false) rfl ?_)
 show wpAny _ _ (field (.ref (n+5)) 3 >>= _) _ _ _
 refine wpAny_bind (wpAny_field hz rfl (x:=.ref (n+3)) rfl ?_)
 refine wpAny_bind (wpAny_seqItems hTI rfl ?_)
 show wpAny _ _ (Builtin.SmallTypes.ownedTupleIsFree (.ref (n+5)) >>= _) _ _ _
 refine wpAny_bind (owned_free hz hf ?_ ?_)
 ·simp only [if_true]
  refine wpAny_bind (wpAny_rule ?_)
  refine wpAny_bind (wpAny_field hz rfl (x:=.ref (n+4)) rfl ?_)
  refine wpAny_bind (wpAny_setField_rec hz (by simp) fun h₁ hz₁ hs₁=>?_)
  replace hz₁:IsZ h₁ (n+5) (n+3) (n+4) .ellipsis f1:=hz₁
  refine wpAny_bind ?_
  simp only [List.zipIdx_cons,List.zipIdx_nil,List.forIn_cons,List.forIn_nil]
  refine wpAny_bind (wpAny_bind (wpAny_onRaise ?_))
  show wpAny _ _ (Builtin.SmallTypes.nextOf (.ref n) >>= _) _ _ _
  refine wpAny_bind (bC (i1.ext hs₁ (by first | exact nn (by decide) | exact n0 (by decide) | exact aO (by decide) | exact al l1 _ | exact al l2 _ | exact al l3 _ | exact aH l1 | exact aH l2 | exact aH l3 | exact co hc (by decide) | exact aP hc | omega)) (s1.ext hs₁ (by first | exact nn (by decide) | exact n0 (by decide) | exact aO (by decide) | exact al l1 _ | exact al l2 _ | exact al l3 _ | exact aH l1 | exact aH l2 | exact aH l3 | exact co hc (by decide) | exact aP hc | omega)) hx fun h₂ i1₂ hs₂=>wpAny_pure ?_)
  have hTO₂:cQ h₂ (n+4) #[c1,c2,c3]:=ex hs₂ (by first | exact nn (by decide) | exact n0 (by decide) | exact aO (by decide) | exact al l1 _ | exact al l2 _ | exact al l3 _ | exact aH l1 | exact aH l2 | exact aH l3 | exact co hc (by decide) | exact aP hc | omega) (ex hs₁ (by first | exact nn (by decide) | exact n0 (by decide) | exact aO (by decide) | exact al l1 _ | exact al l2 _ | exact al l3 _ | exact aH l1 | exact aH l2 | exact aH l3 | exact co hc (by decide) | exact aP hc | omega) hTO)
  refine wpAny_bind (wpAny_seqItems hTO₂ rfl ?_)
  refine wpAny_bind (seq_set hTO₂ (by simp) fun h₃ hTO₃ hs₃=>?_)
  replace hTO₃:cQ h₃ (n+4) #[x,c2,c3]:=hTO₃
  refine wpAny_bind (wpAny_letGo (wpAny_pure ?_))
  refine wpAny_bind (wpAny_bind (wpAny_onRaise ?_))
  show wpAny _ _ (Builtin.SmallTypes.nextOf (.ref (n+1)) >>= _) _ _ _
  refine wpAny_bind (bC (((i2.ext hs₁ (by first | exact nn (by decide) | exact n0 (by decide) | exact aO (by decide) | exact al l1 _ | exact al l2 _ | exact al l3 _ | exact aH l1 | exact aH l2 | exact aH l3 | exact co hc (by decide) | exact aP hc | omega)).ext hs₂ (by first | exact nn (by decide) | exact n0 (by decide) | exact aO (by decide) | exact al l1 _ | exact al l2 _ | exact al l3 _ | exact aH l1 | exact aH l2 | exact aH l3 | exact co hc (by decide) | exact aP hc | omega)).ext hs₃ (by first | exact nn (by decide) | exact n0 (by decide) | exact aO (by decide) | exact al l1 _ | exact al l2 _ | exact al l3 _ | exact aH l1 | exact aH l2 | exact aH l3 | exact co hc (by decide) | exact aP hc | omega)) (((s2.ext hs₁ (by first | exact nn (by decide) | exact n0 (by decide) | exact aO (by decide) | exact al l1 _ | exact al l2 _ | exact al l3 _ | exact aH l1 | exact aH l2 | exact aH l3 | exact co hc (by decide) | exact aP hc | omega)).ext hs₂ (by first | exact nn (by decide) | exact n0 (by decide) | exact aO (by decide) | exact al l1 _ | exact al l2 _ | exact al l3 _ | exact aH l1 | exact aH l2 | exact aH l3 | exact co hc (by decide) | exact aP hc | omega)).ext hs₃ (by first | exact nn (by decide) | exact n0 (by decide) | exact aO (by decide) | exact al l1 _ | exact al l2 _ | exact al l3 _ | exact aH l1 | exact aH l2 | exact aH l3 | exact co hc (by decide) | exact aP hc | omega)) hy fun h₄ i2₄ hs₄=>wpAny_pure ?_)
  have hTO₄:cQ h₄ (n+4) #[x,c2,c3]:=ex hs₄ (by first | exact nn (by decide) | exact n0 (by decide) | exact aO (by decide) | exact al l1 _ | exact al l2 _ | exact al l3 _ | exact aH l1 | exact aH l2 | exact aH l3 | exact co hc (by decide) | exact aP hc | omega) hTO₃
  refine wpAny_bind (wpAny_seqItems hTO₄ rfl ?_)
  refine wpAny_bind (seq_set hTO₄ (by simp) fun h₅ hTO₅ hs₅=>?_)
  replace hTO₅:cQ h₅ (n+4) #[x,y,c3]:=hTO₅
  refine wpAny_bind (wpAny_letGo (wpAny_pure ?_))
  refine wpAny_bind (wpAny_bind (wpAny_onRaise ?_))
  show wpAny _ _ (Builtin.SmallTypes.nextOf (.ref (n+2)) >>= _) _ _ _
  refine wpAny_bind (bC (((((i3.ext hs₁ (by first | exact nn (by decide) | exact n0 (by decide) | exact aO (by decide) | exact al l1 _ | exact al l2 _ | exact al l3 _ | exact aH l1 | exact aH l2 | exact aH l3 | exact co hc (by decide) | exact aP hc | omega)).ext hs₂ (by first | exact nn (by decide) | exact n0 (by decide) | exact aO (by decide) | exact al l1 _ | exact al l2 _ | exact al l3 _ | exact aH l1 | exact aH l2 | exact aH l3 | exact co hc (by decide) | exact aP hc | omega)).ext hs₃ (by first | exact nn (by decide) | exact n0 (by decide) | exact aO (by decide) | exact al l1 _ | exact al l2 _ | exact al l3 _ | exact aH l1 | exact aH l2 | exact aH l3 | exact co hc (by decide) | exact aP hc | omega)).ext hs₄ (by first | exact nn (by decide) | exact n0 (by decide) | exact aO (by decide) | exact al l1 _ | exact al l2 _ | exact al l3 _ | exact aH l1 | exact aH l2 | exact aH l3 | exact co hc (by decide) | exact aP hc | omega)).ext hs₅ (by first | exact nn (by decide) | exact n0 (by decide) | exact aO (by decide) | exact al l1 _ | exact al l2 _ | exact al l3 _ | exact aH l1 | exact aH l2 | exact aH l3 | exact co hc (by decide) | exact aP hc | omega))
   (((((s3.ext hs₁ (by first | exact nn (by decide) | exact n0 (by decide) | exact aO (by decide) | exact al l1 _ | exact al l2 _ | exact al l3 _ | exact aH l1 | exact aH l2 | exact aH l3 | exact co hc (by decide) | exact aP hc | omega)).ext hs₂ (by first | exact nn (by decide) | exact n0 (by decide) | exact aO (by decide) | exact al l1 _ | exact al l2 _ | exact al l3 _ | exact aH l1 | exact aH l2 | exact aH l3 | exact co hc (by decide) | exact aP hc | omega)).ext hs₃ (by first | exact nn (by decide) | exact n0 (by decide) | exact aO (by decide) | exact al l1 _ | exact al l2 _ | exact al l3 _ | exact aH l1 | exact aH l2 | exact aH l3 | exact co hc (by decide) | exact aP hc | omega)).ext hs₄ (by first | exact nn (by decide) | exact n0 (by decide) | exact aO (by decide) | exact al l1 _ | exact al l2 _ | exact al l3 _ | exact aH l1 | exact aH l2 | exact aH l3 | exact co hc (by decide) | exact aP hc | omega)).ext hs₅ (by first | exact nn (by decide) | exact n0 (by decide) | exact aO (by decide) | exact al l1 _ | exact al l2 _ | exact al l3 _ | exact aH l1 | exact aH l2 | exact aH l3 | exact co hc (by decide) | exact aP hc | omega)) hw fun h₆ i3₆ hs₆=>wpAny_pure ?_)
  have hTO₆:cQ h₆ (n+4) #[x,y,c3]:=ex hs₆ (by first | exact nn (by decide) | exact n0 (by decide) | exact aO (by decide) | exact al l1 _ | exact al l2 _ | exact al l3 _ | exact aH l1 | exact aH l2 | exact aH l3 | exact co hc (by decide) | exact aP hc | omega) hTO₅
  refine wpAny_bind (wpAny_seqItems hTO₆ rfl ?_)
  refine wpAny_bind (seq_set hTO₆ (by simp) fun h₇ hTO₇ hs₇=>?_)
  replace hTO₇:cQ h₇ (n+4) #[x,y,z]:=hTO₇
  refine wpAny_bind (wpAny_letGo (wpAny_pure (wpAny_pure ?_)))
  refine wpAny_bind (wpAny_seqItems hTO₇ rfl ?_)
  refine wpAny_bind (wpAny_newTuple ?_)
  have hsz:h₇.objs.size=s.heap.objs.size:=by rw[hs₇.1,hs₆.1,hs₅.1,hs₄.1,hs₃.1,hs₂.1,hs₁.1]
  have keep:∀ (c:Nat) o,(c < n∨n+5 < c)→s.heap.get? c=some o→h₇.get? c=some o:=fun c o hc e=>
   ex hs₇ (by first | exact nn (by decide) | exact n0 (by decide) | exact aO (by decide) | exact al l1 _ | exact al l2 _ | exact al l3 _ | exact aH l1 | exact aH l2 | exact aH l3 | exact co hc (by decide) | exact aP hc | omega) (ex hs₆ (by first | exact nn (by decide) | exact n0 (by decide) | exact aO (by decide) | exact al l1 _ | exact al l2 _ | exact al l3 _ | exact aH l1 | exact aH l2 | exact aH l3 | exact co hc (by decide) | exact aP hc | omega) (ex hs₅ (by first | exact nn (by decide) | exact n0 (by decide) | exact aO (by decide) | exact al l1 _ | exact al l2 _ | exact al l3 _ | exact aH l1 | exact aH l2 | exact aH l3 | exact co hc (by decide) | exact aP hc | omega) (ex hs₄ (by first | exact nn (by decide) | exact n0 (by decide) | exact aO (by decide) | exact al l1 _ | exact al l2 _ | exact al l3 _ | exact aH l1 | exact aH l2 | exact aH l3 | exact co hc (by decide) | exact aP hc | omega) (ex hs₃ (by first | exact nn (by decide) | exact n0 (by decide) | exact aO (by decide) | exact al l1 _ | exact al l2 _ | exact al l3 _ | exact aH l1 | exact aH l2 | exact aH l3 | exact co hc (by decide) | exact aP hc | omega) (ex hs₂ (by first | exact nn (by decide) | exact n0 (by decide) | exact aO (by decide) | exact al l1 _ | exact al l2 _ | exact al l3 _ | exact aH l1 | exact aH l2 | exact aH l3 | exact co hc (by decide) | exact aP hc | omega) (ex hs₁ (by first | exact nn (by decide) | exact n0 (by decide) | exact aO (by decide) | exact al l1 _ | exact al l2 _ | exact al l3 _ | exact aH l1 | exact aH l2 | exact aH l3 | exact co hc (by decide) | exact aP hc | omega) e))))))
  have hz₇:IsZ h₇ (n+5) (n+3) (n+4) .ellipsis f1:=ex hs₇ (by first | exact nn (by decide) | exact n0 (by decide) | exact aO (by decide) | exact al l1 _ | exact al l2 _ | exact al l3 _ | exact aH l1 | exact aH l2 | exact aH l3 | exact co hc (by decide) | exact aP hc | omega) (ex hs₆ (by first | exact nn (by decide) | exact n0 (by decide) | exact aO (by decide) | exact al l1 _ | exact al l2 _ | exact al l3 _ | exact aH l1 | exact aH l2 | exact aH l3 | exact co hc (by decide) | exact aP hc | omega) (ex hs₅ (by first | exact nn (by decide) | exact n0 (by decide) | exact aO (by decide) | exact al l1 _ | exact al l2 _ | exact al l3 _ | exact aH l1 | exact aH l2 | exact aH l3 | exact co hc (by decide) | exact aP hc | omega) (ex hs₄ (by first | exact nn (by decide) | exact n0 (by decide) | exact aO (by decide) | exact al l1 _ | exact al l2 _ | exact al l3 _ | exact aH l1 | exact aH l2 | exact aH l3 | exact co hc (by decide) | exact aP hc | omega) (ex hs₃ (by first | exact nn (by decide) | exact n0 (by decide) | exact aO (by decide) | exact al l1 _ | exact al l2 _ | exact al l3 _ | exact aH l1 | exact aH l2 | exact aH l3 | exact co hc (by decide) | exact aP hc | omega) (ex hs₂ (by first | exact nn (by decide) | exact n0 (by decide) | exact aO (by decide) | exact al l1 _ | exact al l2 _ | exact al l3 _ | exact aH l1 | exact aH l2 | exact aH l3 | exact co hc (by decide) | exact aP hc | omega) hz₁)))))
  have hTI₇:cQ h₇ (n+3) #[.ref n,.ref (n+1),.ref (n+2)]:=ex hs₇ (by first | exact nn (by decide) | exact n0 (by decide) | exact aO (by decide) | exact al l1 _ | exact al l2 _ | exact al l3 _ | exact aH l1 | exact aH l2 | exact aH l3 | exact co hc (by decide) | exact aP hc | omega) (ex hs₆ (by first | exact nn (by decide) | exact n0 (by decide) | exact aO (by decide) | exact al l1 _ | exact al l2 _ | exact al l3 _ | exact aH l1 | exact aH l2 | exact aH l3 | exact co hc (by decide) | exact aP hc | omega) (ex hs₅ (by first | exact nn (by decide) | exact n0 (by decide) | exact aO (by decide) | exact al l1 _ | exact al l2 _ | exact al l3 _ | exact aH l1 | exact aH l2 | exact aH l3 | exact co hc (by decide) | exact aP hc | omega) (ex hs₄ (by first | exact nn (by decide) | exact n0 (by decide) | exact aO (by decide) | exact al l1 _ | exact al l2 _ | exact al l3 _ | exact aH l1 | exact aH l2 | exact aH l3 | exact co hc (by decide) | exact aP hc | omega) (ex hs₃ (by first | exact nn (by decide) | exact n0 (by decide) | exact aO (by decide) | exact al l1 _ | exact al l2 _ | exact al l3 _ | exact aH l1 | exact aH l2 | exact aH l3 | exact co hc (by decide) | exact aP hc | omega) (ex hs₂ (by first | exact nn (by decide) | exact n0 (by decide) | exact aO (by decide) | exact al l1 _ | exact al l2 _ | exact al l3 _ | exact aH l1 | exact aH l2 | exact aH l3 | exact co hc (by decide) | exact aP hc | omega) (ex hs₁ (by first | exact nn (by decide) | exact n0 (by decide) | exact aO (by decide) | exact al l1 _ | exact al l2 _ | exact al l3 _ | exact aH l1 | exact aH l2 | exact aH l3 | exact co hc (by decide) | exact aP hc | omega) hTI))))))
  have i1₇:=((((i1₂.ext hs₃ (by first | exact nn (by decide) | exact n0 (by decide) | exact aO (by decide) | exact al l1 _ | exact al l2 _ | exact al l3 _ | exact aH l1 | exact aH l2 | exact aH l3 | exact co hc (by decide) | exact aP hc | omega)).ext hs₄ (by first | exact nn (by decide) | exact n0 (by decide) | exact aO (by decide) | exact al l1 _ | exact al l2 _ | exact al l3 _ | exact aH l1 | exact aH l2 | exact aH l3 | exact co hc (by decide) | exact aP hc | omega)).ext hs₅ (by first | exact nn (by decide) | exact n0 (by decide) | exact aO (by decide) | exact al l1 _ | exact al l2 _ | exact al l3 _ | exact aH l1 | exact aH l2 | exact aH l3 | exact co hc (by decide) | exact aP hc | omega)).ext hs₆ (by first | exact nn (by decide) | exact n0 (by decide) | exact aO (by decide) | exact al l1 _ | exact al l2 _ | exact al l3 _ | exact aH l1 | exact aH l2 | exact aH l3 | exact co hc (by decide) | exact aP hc | omega)).ext hs₇ (by first | exact nn (by decide) | exact n0 (by decide) | exact aO (by decide) | exact al l1 _ | exact al l2 _ | exact al l3 _ | exact aH l1 | exact aH l2 | exact aH l3 | exact co hc (by decide) | exact aP hc | omega)
  have i2₇:=((i2₄.ext hs₅ (by first | exact nn (by decide) | exact n0 (by decide) | exact aO (by decide) | exact al l1 _ | exact al l2 _ | exact al l3 _ | exact aH l1 | exact aH l2 | exact aH l3 | exact co hc (by decide) | exact aP hc | omega)).ext hs₆ (by first | exact nn (by decide) | exact n0 (by decide) | exact aO (by decide) | exact al l1 _ | exact al l2 _ | exact al l3 _ | exact aH l1 | exact aH l2 | exact aH l3 | exact co hc (by decide) | exact aP hc | omega)).ext hs₇ (by first | exact nn (by decide) | exact n0 (by decide) | exact aO (by decide) | exact al l1 _ | exact al l2 _ | exact al l3 _ | exact aH l1 | exact aH l2 | exact aH l3 | exact co hc (by decide) | exact aP hc | omega)
  have i3₇:=i3₆.ext hs₇ (by first | exact nn (by decide) | exact n0 (by decide) | exact aO (by decide) | exact al l1 _ | exact al l2 _ | exact al l3 _ | exact aH l1 | exact aH l2 | exact aH l3 | exact co hc (by decide) | exact aP hc | omega)
  have hzlt₇:n+5 < h₇.objs.size:=by rw[hsz];exact hzlt
  have up:∀ {c o},h₇.get? c=some o→(h₇.push { cls:=.type "tuple",data:=.seq #[x,y,z] }).get? c=some o:=fun e=>Heap.get?_push_of_some _ e
  refine wpAny_bind (handOut (z:=n+5) (TI:=n+3) (TO:=n+4) (f0:=.ellipsis) (f1:=f1) (up hz₇) fun h₈ hz₈ hs₈=>?_)
  have up8:∀ {c:Nat}{o},c≠n+5→h₇.get? c=some o→h₈.get? c=some o:=fun hc e=>ex hs₈ hc (up e)
  refine wpAny_pure ⟨_,rfl,hQ h₇.objs.size h₈ (rawInt h₇.objs.size) false x y z (by rw[hsz];exact Nat.le_refl _) (.inr ⟨_,rfl⟩) hz₈ (up8 (by first | exact nn (by decide) | exact n0 (by decide) | exact aO (by decide) | exact al l1 _ | exact al l2 _ | exact al l3 _ | exact aH l1 | exact aH l2 | exact aH l3 | exact co hc (by decide) | exact aP hc | omega) hTI₇) (up8 (by first | exact nn (by decide) | exact n0 (by decide) | exact aO (by decide) | exact al l1 _ | exact al l2 _ | exact al l3 _ | exact aH l1 | exact aH l2 | exact aH l3 | exact co hc (by decide) | exact aP hc | omega) hTO₇) (i1₇.at fun o e=>up8 (by first | exact nn (by decide) | exact n0 (by decide) | exact aO (by decide) | exact al l1 _ | exact al l2 _ | exact al l3 _ | exact aH l1 | exact aH l2 | exact aH l3 | exact co hc (by decide) | exact aP hc | omega) e) (i2₇.at fun o e=>up8 (by first | exact nn (by decide) | exact n0 (by decide) | exact aO (by decide) | exact al l1 _ | exact al l2 _ | exact al l3 _ | exact aH l1 | exact aH l2 | exact aH l3 | exact co hc (by decide) | exact aP hc | omega) e) (i3₇.at fun o e=>up8 (by first | exact nn (by decide) | exact n0 (by decide) | exact aO (by decide) | exact al l1 _ | exact al l2 _ | exact al l3 _ | exact aH l1 | exact aH l2 | exact aH l3 | exact co hc (by decide) | exact aP hc | omega) e)
   (ex hs₈ (by first | exact nn (by decide) | exact n0 (by decide) | exact aO (by decide) | exact al l1 _ | exact al l2 _ | exact al l3 _ | exact aH l1 | exact aH l2 | exact aH l3 | exact co hc (by decide) | exact aP hc | omega) (Heap.get?_push_size _ rfl)) fun c o hc e=>up8 (by first | exact nn (by decide) | exact n0 (by decide) | exact aO (by decide) | exact al l1 _ | exact al l2 _ | exact al l3 _ | exact aH l1 | exact aH l2 | exact aH l3 | exact co hc (by decide) | exact aP hc | omega) (keep c o hc e)⟩
 ·intro h₁ hz₁ hs₁
  simp only [Bool.false_eq_true,if_false]
  refine wpAny_bind ?_
  rw[← Array.forIn_toList]
  simp only [List.forIn_cons,List.forIn_nil]
  refine wpAny_bind (wpAny_bind (wpAny_holding ?_))
  show wpAny _ _ (Builtin.SmallTypes.nextOf (.ref n) >>= _) _ _ _
  refine wpAny_bind (bC (i1.ext hs₁ (by first | exact nn (by decide) | exact n0 (by decide) | exact aO (by decide) | exact al l1 _ | exact al l2 _ | exact al l3 _ | exact aH l1 | exact aH l2 | exact aH l3 | exact co hc (by decide) | exact aP hc | omega)) (s1.ext hs₁ (by first | exact nn (by decide) | exact n0 (by decide) | exact aO (by decide) | exact al l1 _ | exact al l2 _ | exact al l3 _ | exact aH l1 | exact aH l2 | exact aH l3 | exact co hc (by decide) | exact aP hc | omega)) hx fun h₂ i1₂ hs₂=>wpAny_pure (wpAny_pure ?_))
  refine wpAny_bind (wpAny_bind (wpAny_holding ?_))
  show wpAny _ _ (Builtin.SmallTypes.nextOf (.ref (n+1)) >>= _) _ _ _
  refine wpAny_bind (bC ((i2.ext hs₁ (by first | exact nn (by decide) | exact n0 (by decide) | exact aO (by decide) | exact al l1 _ | exact al l2 _ | exact al l3 _ | exact aH l1 | exact aH l2 | exact aH l3 | exact co hc (by decide) | exact aP hc | omega)).ext hs₂ (by first | exact nn (by decide) | exact n0 (by decide) | exact aO (by decide) | exact al l1 _ | exact al l2 _ | exact al l3 _ | exact aH l1 | exact aH l2 | exact aH l3 | exact co hc (by decide) | exact aP hc | omega)) ((s2.ext hs₁ (by first | exact nn (by decide) | exact n0 (by decide) | exact aO (by decide) | exact al l1 _ | exact al l2 _ | exact al l3 _ | exact aH l1 | exact aH l2 | exact aH l3 | exact co hc (by decide) | exact aP hc | omega)).ext hs₂ (by first | exact nn (by decide) | exact n0 (by decide) | exact aO (by decide) | exact al l1 _ | exact al l2 _ | exact al l3 _ | exact aH l1 | exact aH l2 | exact aH l3 | exact co hc (by decide) | exact aP hc | omega)) hy fun h₃ i2₃ hs₃=>wpAny_pure (wpAny_pure ?_))
  refine wpAny_bind (wpAny_bind (wpAny_holding ?_))
  show wpAny _ _ (Builtin.SmallTypes.nextOf (.ref (n+2)) >>= _) _ _ _
  refine wpAny_bind (bC (((i3.ext hs₁ (by first | exact nn (by decide) | exact n0 (by decide) | exact aO (by decide) | exact al l1 _ | exact al l2 _ | exact al l3 _ | exact aH l1 | exact aH l2 | exact aH l3 | exact co hc (by decide) | exact aP hc | omega)).ext hs₂ (by first | exact nn (by decide) | exact n0 (by decide) | exact aO (by decide) | exact al l1 _ | exact al l2 _ | exact al l3 _ | exact aH l1 | exact aH l2 | exact aH l3 | exact co hc (by decide) | exact aP hc | omega)).ext hs₃ (by first | exact nn (by decide) | exact n0 (by decide) | exact aO (by decide) | exact al l1 _ | exact al l2 _ | exact al l3 _ | exact aH l1 | exact aH l2 | exact aH l3 | exact co hc (by decide) | exact aP hc | omega)) (((s3.ext hs₁ (by first | exact nn (by decide) | exact n0 (by decide) | exact aO (by decide) | exact al l1 _ | exact al l2 _ | exact al l3 _ | exact aH l1 | exact aH l2 | exact aH l3 | exact co hc (by decide) | exact aP hc | omega)).ext hs₂ (by first | exact nn (by decide) | exact n0 (by decide) | exact aO (by decide) | exact al l1 _ | exact al l2 _ | exact al l3 _ | exact aH l1 | exact aH l2 | exact aH l3 | exact co hc (by decide) | exact aP hc | omega)).ext hs₃ (by first | exact nn (by decide) | exact n0 (by decide) | exact aO (by decide) | exact al l1 _ | exact al l2 _ | exact al l3 _ | exact aH l1 | exact aH l2 | exact aH l3 | exact co hc (by decide) | exact aP hc | omega)) hw fun h₄ i3₄ hs₄=>wpAny_pure (wpAny_pure (wpAny_pure ?_)))
  refine wpAny_bind (wpAny_newTuple (hsz:=by show 3≤sizeLine;decide) (wpAny_pure ⟨_,rfl,?_⟩))
  have hsz:h₄.objs.size=s.heap.objs.size:=by rw[hs₄.1,hs₃.1,hs₂.1,hs₁.1]
  have up:∀ {c o},h₄.get? c=some o→(h₄.push { cls:=.type "tuple",data:=.seq #[x,y,z] }).get? c=some o:=fun e=>Heap.get?_push_of_some _ e
  have keep:∀ (c:Nat) o,(c < n∨n+5 < c)→s.heap.get? c=some o→h₄.get? c=some o:=fun c o hc e=>ex hs₄ (by first | exact nn (by decide) | exact n0 (by decide) | exact aO (by decide) | exact al l1 _ | exact al l2 _ | exact al l3 _ | exact aH l1 | exact aH l2 | exact aH l3 | exact co hc (by decide) | exact aP hc | omega) (ex hs₃ (by first | exact nn (by decide) | exact n0 (by decide) | exact aO (by decide) | exact al l1 _ | exact al l2 _ | exact al l3 _ | exact aH l1 | exact aH l2 | exact aH l3 | exact co hc (by decide) | exact aP hc | omega) (ex hs₂ (by first | exact nn (by decide) | exact n0 (by decide) | exact aO (by decide) | exact al l1 _ | exact al l2 _ | exact al l3 _ | exact aH l1 | exact aH l2 | exact aH l3 | exact co hc (by decide) | exact aP hc | omega) (ex hs₁ (by first | exact nn (by decide) | exact n0 (by decide) | exact aO (by decide) | exact al l1 _ | exact al l2 _ | exact al l3 _ | exact aH l1 | exact aH l2 | exact aH l3 | exact co hc (by decide) | exact aP hc | omega) e)))
  refine hQ h₄.objs.size (h₄.push { cls:=.type "tuple",data:=.seq #[x,y,z] }) f0 true c1 c2 c3 (by rw[hsz];exact Nat.le_refl _) hf (up (ex hs₄ (by first | exact nn (by decide) | exact n0 (by decide) | exact aO (by decide) | exact al l1 _ | exact al l2 _ | exact al l3 _ | exact aH l1 | exact aH l2 | exact aH l3 | exact co hc (by decide) | exact aP hc | omega) (ex hs₃ (by first | exact nn (by decide) | exact n0 (by decide) | exact aO (by decide) | exact al l1 _ | exact al l2 _ | exact al l3 _ | exact aH l1 | exact aH l2 | exact aH l3 | exact co hc (by decide) | exact aP hc | omega) (ex hs₂ (by first | exact nn (by decide) | exact n0 (by decide) | exact aO (by decide) | exact al l1 _ | exact al l2 _ | exact al l3 _ | exact aH l1 | exact aH l2 | exact aH l3 | exact co hc (by decide) | exact aP hc | omega) hz₁))))
   (up (ex hs₄ (by first | exact nn (by decide) | exact n0 (by decide) | exact aO (by decide) | exact al l1 _ | exact al l2 _ | exact al l3 _ | exact aH l1 | exact aH l2 | exact aH l3 | exact co hc (by decide) | exact aP hc | omega) (ex hs₃ (by first | exact nn (by decide) | exact n0 (by decide) | exact aO (by decide) | exact al l1 _ | exact al l2 _ | exact al l3 _ | exact aH l1 | exact aH l2 | exact aH l3 | exact co hc (by decide) | exact aP hc | omega) (ex hs₂ (by first | exact nn (by decide) | exact n0 (by decide) | exact aO (by decide) | exact al l1 _ | exact al l2 _ | exact al l3 _ | exact aH l1 | exact aH l2 | exact aH l3 | exact co hc (by decide) | exact aP hc | omega) (ex hs₁ (by first | exact nn (by decide) | exact n0 (by decide) | exact aO (by decide) | exact al l1 _ | exact al l2 _ | exact al l3 _ | exact aH l1 | exact aH l2 | exact aH l3 | exact co hc (by decide) | exact aP hc | omega) hTI))))) (up (ex hs₄ (by first | exact nn (by decide) | exact n0 (by decide) | exact aO (by decide) | exact al l1 _ | exact al l2 _ | exact al l3 _ | exact aH l1 | exact aH l2 | exact aH l3 | exact co hc (by decide) | exact aP hc | omega) (ex hs₃ (by first | exact nn (by decide) | exact n0 (by decide) | exact aO (by decide) | exact al l1 _ | exact al l2 _ | exact al l3 _ | exact aH l1 | exact aH l2 | exact aH l3 | exact co hc (by decide) | exact aP hc | omega) (ex hs₂ (by first | exact nn (by decide) | exact n0 (by decide) | exact aO (by decide) | exact al l1 _ | exact al l2 _ | exact al l3 _ | exact aH l1 | exact aH l2 | exact aH l3 | exact co hc (by decide) | exact aP hc | omega) (ex hs₁ (by first | exact nn (by decide) | exact n0 (by decide) | exact aO (by decide) | exact al l1 _ | exact al l2 _ | exact al l3 _ | exact aH l1 | exact aH l2 | exact aH l3 | exact co hc (by decide) | exact aP hc | omega) hTO)))))
   (((i1₂.ext hs₃ (by first | exact nn (by decide) | exact n0 (by decide) | exact aO (by decide) | exact al l1 _ | exact al l2 _ | exact al l3 _ | exact aH l1 | exact aH l2 | exact aH l3 | exact co hc (by decide) | exact aP hc | omega)).ext hs₄ (by first | exact nn (by decide) | exact n0 (by decide) | exact aO (by decide) | exact al l1 _ | exact al l2 _ | exact al l3 _ | exact aH l1 | exact aH l2 | exact aH l3 | exact co hc (by decide) | exact aP hc | omega)).at fun o e=>up e) ((i2₃.ext hs₄ (by first | exact nn (by decide) | exact n0 (by decide) | exact aO (by decide) | exact al l1 _ | exact al l2 _ | exact al l3 _ | exact aH l1 | exact aH l2 | exact aH l3 | exact co hc (by decide) | exact aP hc | omega)).at fun o e=>up e) (i3₄.at fun o e=>up e) (Heap.get?_push_size _ rfl) fun c o hc e=>up (keep c o hc e)
theorem zip3_end {n a1 a2 a3:Nat}{t1 t2 t3:Bool}{k:Nat}{xs ys zs:Array Value}{c1 c2 c3 f0:Value}{f1:Bool}{Q:Fin→Shared→Prop} (hh:A.handled=none) (hf:Free0 f0)
  (hz:IsZ s.heap (n+5) (n+3) (n+4) f0 f1) (hTI:cQ s.heap (n+3) #[.ref n,.ref (n+1),.ref (n+2)]) (hTO:cQ s.heap (n+4) #[c1,c2,c3])
  (i1:cS s.heap t1 n a1 k) (i2:cS s.heap t2 (n+1) a2 k) (i3:cS s.heap t3 (n+2) a3 k) (s1:bM s.heap t1 a1 xs) (s2:bM s.heap t2 a2 ys) (s3:bM s.heap t3 a3 zs)
  (l1:a1 < n) (l2:a2 < n) (l3:a3 < n) (hend:xs[k]? = none∨ys[k]? = none∨zs[k]? = none)
  (hE:∀ h' e,(∀ (c:Nat) o,(c < n∨n+5 < c)→s.heap.get? c=some o→h'.get? c=some o)→(∃ o,h'.get? e=some o∧o.cls=.type "StopIteration")→E (.ref e) { s with heap:=h' }) :
  wpAny (model prog w) A (Builtin.«zip.__next__» ⟨[.ref (n+5)],[]⟩) Q E s:=by
 show wpAny _ _ (field (.ref (n+5)) 2 >>= _) _ _ _
 refine wpAny_bind (wpAny_field hz rfl (x:=.bool false) rfl ?_)
 show wpAny _ _ (field (.ref (n+5)) 3 >>= _) _ _ _
 refine wpAny_bind (wpAny_field hz rfl (x:=.ref (n+3)) rfl ?_)
 refine wpAny_bind (wpAny_seqItems hTI rfl ?_)
 show wpAny _ _ (Builtin.SmallTypes.ownedTupleIsFree (.ref (n+5)) >>= _) _ _ _
 refine wpAny_bind (owned_free hz hf ?_ ?_)
 ·simp only [if_true]
  refine wpAny_bind (wpAny_rule ?_)
  refine wpAny_bind (wpAny_field hz rfl (x:=.ref (n+4)) rfl ?_)
  refine wpAny_bind (wpAny_setField_rec hz (by simp) fun h₁ hz₁ hs₁=>?_)
  replace hz₁:IsZ h₁ (n+5) (n+3) (n+4) .ellipsis f1:=hz₁
  refine wpAny_bind ?_
  simp only [List.zipIdx_cons,List.zipIdx_nil,List.forIn_cons,List.forIn_nil]
  have fin:∀ {h₂ h₃:Heap}{e j:Nat}{oe:Obj},IsZ h₂ (n+5) (n+3) (n+4) .ellipsis f1→Heap.ExtBut j h₂ h₃→@Ne Nat (n+5) j→(n≤j∧j≤n+5)→(∀ (c:Nat) o,(c < n∨n+5 < c)→s.heap.get? c=some o→h₂.get? c=some o)→h₃.get? e=some oe→oe.cls=.type "StopIteration" →
    wpAny (model prog w) A (setField (.ref (n+5)) 0 .none) (fun _ s'=>E (.ref e) s') E { s with heap:=h₃ }:=fun {h₂ h₃ e j oe} hz₂ hx hj hr hk hoe hce=>by
   have hz₃:IsZ h₃ (n+5) (n+3) (n+4) .ellipsis f1:=hx _ _ hj hz₂
   have hez:e≠n+5:=fun q=>by subst q;rw[hz₃] at hoe;cases hoe;simp at hce
   refine wpAny_setField_rec hz₃ (by simp) fun h₄ _ hs₄=>hE h₄ e (fun c o hc q=>ex hs₄ (by first | exact nn (by decide) | exact n0 (by decide) | exact aO (by decide) | exact al l1 _ | exact al l2 _ | exact al l3 _ | exact aH l1 | exact aH l2 | exact aH l3 | exact co hc (by decide) | exact aP hc | omega) (hx c o (show @Ne Nat c j by omega) (hk c o hc q))) ⟨oe,hs₄.extBut _ _ hez hoe,hce⟩
  refine wpAny_bind (wpAny_bind (wpAny_onRaise ?_))
  show wpAny _ _ (Builtin.SmallTypes.nextOf (.ref n) >>= _) _ _ _
  cases hx:xs[k]? with
  | none=>
   refine wpAny_bind (cK hh (i1.ext hs₁ (by first | exact nn (by decide) | exact n0 (by decide) | exact aO (by decide) | exact al l1 _ | exact al l2 _ | exact al l3 _ | exact aH l1 | exact aH l2 | exact aH l3 | exact co hc (by decide) | exact aP hc | omega)) (s1.ext hs₁ (by first | exact nn (by decide) | exact n0 (by decide) | exact aO (by decide) | exact al l1 _ | exact al l2 _ | exact al l3 _ | exact aH l1 | exact aH l2 | exact aH l3 | exact co hc (by decide) | exact aP hc | omega)) hx fun h₂ e hs₂ he=>?_)
   obtain⟨oe,hoe,hce⟩:=he
   exact fin hz₁ hs₂ (by first | exact nn (by decide) | exact n0 (by decide) | exact aO (by decide) | exact al l1 _ | exact al l2 _ | exact al l3 _ | exact aH l1 | exact aH l2 | exact aH l3 | exact co hc (by decide) | exact aP hc | omega) (by first | exact nn (by decide) | exact n0 (by decide) | exact aO (by decide) | exact al l1 _ | exact al l2 _ | exact al l3 _ | exact aH l1 | exact aH l2 | exact aH l3 | exact co hc (by decide) | exact aP hc | omega) (fun c o hc q=>ex hs₁ (by first | exact nn (by decide) | exact n0 (by decide) | exact aO (by decide) | exact al l1 _ | exact al l2 _ | exact al l3 _ | exact aH l1 | exact aH l2 | exact aH l3 | exact co hc (by decide) | exact aP hc | omega) q) hoe hce
  | some x=>
   refine wpAny_bind (bC (i1.ext hs₁ (by first | exact nn (by decide) | exact n0 (by decide) | exact aO (by decide) | exact al l1 _ | exact al l2 _ | exact al l3 _ | exact aH l1 | exact aH l2 | exact aH l3 | exact co hc (by decide) | exact aP hc | omega)) (s1.ext hs₁ (by first | exact nn (by decide) | exact n0 (by decide) | exact aO (by decide) | exact al l1 _ | exact al l2 _ | exact al l3 _ | exact aH l1 | exact aH l2 | exact aH l3 | exact co hc (by decide) | exact aP hc | omega)) hx fun h₂ i1₂ hs₂=>wpAny_pure ?_)
   have hTO₂:cQ h₂ (n+4) #[c1,c2,c3]:=ex hs₂ (by first | exact nn (by decide) | exact n0 (by decide) | exact aO (by decide) | exact al l1 _ | exact al l2 _ | exact al l3 _ | exact aH l1 | exact aH l2 | exact aH l3 | exact co hc (by decide) | exact aP hc | omega) (ex hs₁ (by first | exact nn (by decide) | exact n0 (by decide) | exact aO (by decide) | exact al l1 _ | exact al l2 _ | exact al l3 _ | exact aH l1 | exact aH l2 | exact aH l3 | exact co hc (by decide) | exact aP hc | omega) hTO)
   refine wpAny_bind (wpAny_seqItems hTO₂ rfl ?_)
   refine wpAny_bind (seq_set hTO₂ (by simp) fun h₃ hTO₃ hs₃=>?_)
   replace hTO₃:cQ h₃ (n+4) #[x,c2,c3]:=hTO₃
   refine wpAny_bind (wpAny_letGo (wpAny_pure ?_))
   have hz₃:IsZ h₃ (n+5) (n+3) (n+4) .ellipsis f1:=ex hs₃ (by first | exact nn (by decide) | exact n0 (by decide) | exact aO (by decide) | exact al l1 _ | exact al l2 _ | exact al l3 _ | exact aH l1 | exact aH l2 | exact aH l3 | exact co hc (by decide) | exact aP hc | omega) (ex hs₂ (by first | exact nn (by decide) | exact n0 (by decide) | exact aO (by decide) | exact al l1 _ | exact al l2 _ | exact al l3 _ | exact aH l1 | exact aH l2 | exact aH l3 | exact co hc (by decide) | exact aP hc | omega) hz₁)
   have k₃:∀ (c:Nat) o,(c < n∨n+5 < c)→s.heap.get? c=some o→h₃.get? c=some o:=fun c o hc e=>ex hs₃ (by first | exact nn (by decide) | exact n0 (by decide) | exact aO (by decide) | exact al l1 _ | exact al l2 _ | exact al l3 _ | exact aH l1 | exact aH l2 | exact aH l3 | exact co hc (by decide) | exact aP hc | omega) (ex hs₂ (by first | exact nn (by decide) | exact n0 (by decide) | exact aO (by decide) | exact al l1 _ | exact al l2 _ | exact al l3 _ | exact aH l1 | exact aH l2 | exact aH l3 | exact co hc (by decide) | exact aP hc | omega) (ex hs₁ (by first | exact nn (by decide) | exact n0 (by decide) | exact aO (by decide) | exact al l1 _ | exact al l2 _ | exact al l3 _ | exact aH l1 | exact aH l2 | exact aH l3 | exact co hc (by decide) | exact aP hc | omega) e))
   refine wpAny_bind (wpAny_bind (wpAny_onRaise ?_))
   show wpAny _ _ (Builtin.SmallTypes.nextOf (.ref (n+1)) >>= _) _ _ _
   cases hy:ys[k]? with
   | none=>
    refine wpAny_bind (cK hh (((i2.ext hs₁ (by first | exact nn (by decide) | exact n0 (by decide) | exact aO (by decide) | exact al l1 _ | exact al l2 _ | exact al l3 _ | exact aH l1 | exact aH l2 | exact aH l3 | exact co hc (by decide) | exact aP hc | omega)).ext hs₂ (by first | exact nn (by decide) | exact n0 (by decide) | exact aO (by decide) | exact al l1 _ | exact al l2 _ | exact al l3 _ | exact aH l1 | exact aH l2 | exact aH l3 | exact co hc (by decide) | exact aP hc | omega)).ext hs₃ (by first | exact nn (by decide) | exact n0 (by decide) | exact aO (by decide) | exact al l1 _ | exact al l2 _ | exact al l3 _ | exact aH l1 | exact aH l2 | exact aH l3 | exact co hc (by decide) | exact aP hc | omega)) (((s2.ext hs₁ (by first | exact nn (by decide) | exact n0 (by decide) | exact aO (by decide) | exact al l1 _ | exact al l2 _ | exact al l3 _ | exact aH l1 | exact aH l2 | exact aH l3 | exact co hc (by decide) | exact aP hc | omega)).ext hs₂ (by first | exact nn (by decide) | exact n0 (by decide) | exact aO (by decide) | exact al l1 _ | exact al l2 _ | exact al l3 _ | exact aH l1 | exact aH l2 | exact aH l3 | exact co hc (by decide) | exact aP hc | omega)).ext hs₃ (by first | exact nn (by decide) | exact n0 (by decide) | exact aO (by decide) | exact al l1 _ | exact al l2 _ | exact al l3 _ | exact aH l1 | exact aH l2 | exact aH l3 | exact co hc (by decide) | exact aP hc | omega)) hy fun h₄ e hs₄ he=>?_)
    obtain⟨oe,hoe,hce⟩:=he
    exact fin hz₃ hs₄ (by first | exact nn (by decide) | exact n0 (by decide) | exact aO (by decide) | exact al l1 _ | exact al l2 _ | exact al l3 _ | exact aH l1 | exact aH l2 | exact aH l3 | exact co hc (by decide) | exact aP hc | omega) (by first | exact nn (by decide) | exact n0 (by decide) | exact aO (by decide) | exact al l1 _ | exact al l2 _ | exact al l3 _ | exact aH l1 | exact aH l2 | exact aH l3 | exact co hc (by decide) | exact aP hc | omega) k₃ hoe hce
   | some y=>
    have hw:zs[k]? = none:=by rcases hend with h | h | h;rw[hx] at h;cases h;rw[hy] at h;cases h;exact h
    refine wpAny_bind (bC (((i2.ext hs₁ (by first | exact nn (by decide) | exact n0 (by decide) | exact aO (by decide) | exact al l1 _ | exact al l2 _ | exact al l3 _ | exact aH l1 | exact aH l2 | exact aH l3 | exact co hc (by decide) | exact aP hc | omega)).ext hs₂ (by first | exact nn (by decide) | exact n0 (by decide) | exact aO (by decide) | exact al l1 _ | exact al l2 _ | exact al l3 _ | exact aH l1 | exact aH l2 | exact aH l3 | exact co hc (by decide) | exact aP hc | omega)).ext hs₃ (by first | exact nn (by decide) | exact n0 (by decide) | exact aO (by decide) | exact al l1 _ | exact al l2 _ | exact al l3 _ | exact aH l1 | exact aH l2 | exact aH l3 | exact co hc (by decide) | exact aP hc | omega)) (((s2.ext hs₁ (by first | exact nn (by decide) | exact n0 (by decide) | exact aO (by decide) | exact al l1 _ | exact al l2 _ | exact al l3 _ | exact aH l1 | exact aH l2 | exact aH l3 | exact co hc (by decide) | exact aP hc | omega)).ext hs₂ (by first | exact nn (by decide) | exact n0 (by decide) | exact aO (by decide) | exact al l1 _ | exact al l2 _ | exact al l3 _ | exact aH l1 | exact aH l2 | exact aH l3 | exact co hc (by decide) | exact aP hc | omega)).ext hs₃ (by first | exact nn (by decide) | exact n0 (by decide) | exact aO (by decide) | exact al l1 _ | exact al l2 _ | exact al l3 _ | exact aH l1 | exact aH l2 | exact aH l3 | exact co hc (by decide) | exact aP hc | omega)) hy fun h₄ i2₄ hs₄=>wpAny_pure ?_)
    have hTO₄:cQ h₄ (n+4) #[x,c2,c3]:=ex hs₄ (by first | exact nn (by decide) | exact n0 (by decide) | exact aO (by decide) | exact al l1 _ | exact al l2 _ | exact al l3 _ | exact aH l1 | exact aH l2 | exact aH l3 | exact co hc (by decide) | exact aP hc | omega) hTO₃
    refine wpAny_bind (wpAny_seqItems hTO₄ rfl ?_)
    refine wpAny_bind (seq_set hTO₄ (by simp) fun h₅ hTO₅ hs₅=>?_)
    refine wpAny_bind (wpAny_letGo (wpAny_pure ?_))
    refine wpAny_bind (wpAny_bind (wpAny_onRaise ?_))
    show wpAny _ _ (Builtin.SmallTypes.nextOf (.ref (n+2)) >>= _) _ _ _
    refine wpAny_bind (cK hh (((((i3.ext hs₁ (by first | exact nn (by decide) | exact n0 (by decide) | exact aO (by decide) | exact al l1 _ | exact al l2 _ | exact al l3 _ | exact aH l1 | exact aH l2 | exact aH l3 | exact co hc (by decide) | exact aP hc | omega)).ext hs₂ (by first | exact nn (by decide) | exact n0 (by decide) | exact aO (by decide) | exact al l1 _ | exact al l2 _ | exact al l3 _ | exact aH l1 | exact aH l2 | exact aH l3 | exact co hc (by decide) | exact aP hc | omega)).ext hs₃ (by first | exact nn (by decide) | exact n0 (by decide) | exact aO (by decide) | exact al l1 _ | exact al l2 _ | exact al l3 _ | exact aH l1 | exact aH l2 | exact aH l3 | exact co hc (by decide) | exact aP hc | omega)).ext hs₄ (by first | exact nn (by decide) | exact n0 (by decide) | exact aO (by decide) | exact al l1 _ | exact al l2 _ | exact al l3 _ | exact aH l1 | exact aH l2 | exact aH l3 | exact co hc (by decide) | exact aP hc | omega)).ext hs₅ (by first | exact nn (by decide) | exact n0 (by decide) | exact aO (by decide) | exact al l1 _ | exact al l2 _ | exact al l3 _ | exact aH l1 | exact aH l2 | exact aH l3 | exact co hc (by decide) | exact aP hc | omega))
     (((((s3.ext hs₁ (by first | exact nn (by decide) | exact n0 (by decide) | exact aO (by decide) | exact al l1 _ | exact al l2 _ | exact al l3 _ | exact aH l1 | exact aH l2 | exact aH l3 | exact co hc (by decide) | exact aP hc | omega)).ext hs₂ (by first | exact nn (by decide) | exact n0 (by decide) | exact aO (by decide) | exact al l1 _ | exact al l2 _ | exact al l3 _ | exact aH l1 | exact aH l2 | exact aH l3 | exact co hc (by decide) | exact aP hc | omega)).ext hs₃ (by first | exact nn (by decide) | exact n0 (by decide) | exact aO (by decide) | exact al l1 _ | exact al l2 _ | exact al l3 _ | exact aH l1 | exact aH l2 | exact aH l3 | exact co hc (by decide) | exact aP hc | omega)).ext hs₄ (by first | exact nn (by decide) | exact n0 (by decide) | exact aO (by decide) | exact al l1 _ | exact al l2 _ | exact al l3 _ | exact aH l1 | exact aH l2 | exact aH l3 | exact co hc (by decide) | exact aP hc | omega)).ext hs₅ (by first | exact nn (by decide) | exact n0 (by decide) | exact aO (by decide) | exact al l1 _ | exact al l2 _ | exact al l3 _ | exact aH l1 | exact aH l2 | exact aH l3 | exact co hc (by decide) | exact aP hc | omega)) hw fun h₆ e hs₆ he=>?_)
    obtain⟨oe,hoe,hce⟩:=he
    exact fin (ex hs₅ (by first | exact nn (by decide) | exact n0 (by decide) | exact aO (by decide) | exact al l1 _ | exact al l2 _ | exact al l3 _ | exact aH l1 | exact aH l2 | exact aH l3 | exact co hc (by decide) | exact aP hc | omega) (ex hs₄ (by first | exact nn (by decide) | exact n0 (by decide) | exact aO (by decide) | exact al l1 _ | exact al l2 _ | exact al l3 _ | exact aH l1 | exact aH l2 | exact aH l3 | exact co hc (by decide) | exact aP hc | omega) hz₃)) hs₆ (by first | exact nn (by decide) | exact n0 (by decide) | exact aO (by decide) | exact al l1 _ | exact al l2 _ | exact al l3 _ | exact aH l1 | exact aH l2 | exact aH l3 | exact co hc (by decide) | exact aP hc | omega) (by first | exact nn (by decide) | exact n0 (by decide) | exact aO (by decide) | exact al l1 _ | exact al l2 _ | exact al l3 _ | exact aH l1 | exact aH l2 | exact aH l3 | exact co hc (by decide) | exact aP hc | omega) (fun c o hc q=>ex hs₅ (by first | exact nn (by decide) | exact n0 (by decide) | exact aO (by decide) | exact al l1 _ | exact al l2 _ | exact al l3 _ | exact aH l1 | exact aH l2 | exact aH l3 | exact co hc (by decide) | exact aP hc | omega) (ex hs₄ (by first | exact nn (by decide) | exact n0 (by decide) | exact aO (by decide) | exact al l1 _ | exact al l2 _ | exact al l3 _ | exact aH l1 | exact aH l2 | exact aH l3 | exact co hc (by decide) | exact aP hc | omega) (k₃ c o hc q))) hoe hce
 ·intro h₁ hz₁ hs₁
  simp only [Bool.false_eq_true,if_false]
  refine wpAny_bind ?_
  rw[← Array.forIn_toList]
  simp only [List.forIn_cons,List.forIn_nil]
  refine wpAny_bind (wpAny_bind (wpAny_holding ?_))
  show wpAny _ _ (Builtin.SmallTypes.nextOf (.ref n) >>= _) _ _ _
  cases hx:xs[k]? with
  | none=>
   refine wpAny_bind (cK hh (i1.ext hs₁ (by first | exact nn (by decide) | exact n0 (by decide) | exact aO (by decide) | exact al l1 _ | exact al l2 _ | exact al l3 _ | exact aH l1 | exact aH l2 | exact aH l3 | exact co hc (by decide) | exact aP hc | omega)) (s1.ext hs₁ (by first | exact nn (by decide) | exact n0 (by decide) | exact aO (by decide) | exact al l1 _ | exact al l2 _ | exact al l3 _ | exact aH l1 | exact aH l2 | exact aH l3 | exact co hc (by decide) | exact aP hc | omega)) hx fun h₂ e hs₂ he=>?_)
   exact hE h₂ e (fun c o hc q=>hs₂ c o (show @Ne Nat c n by omega) (ex hs₁ (by first | exact nn (by decide) | exact n0 (by decide) | exact aO (by decide) | exact al l1 _ | exact al l2 _ | exact al l3 _ | exact aH l1 | exact aH l2 | exact aH l3 | exact co hc (by decide) | exact aP hc | omega) q)) he
  | some x=>
   refine wpAny_bind (bC (i1.ext hs₁ (by first | exact nn (by decide) | exact n0 (by decide) | exact aO (by decide) | exact al l1 _ | exact al l2 _ | exact al l3 _ | exact aH l1 | exact aH l2 | exact aH l3 | exact co hc (by decide) | exact aP hc | omega)) (s1.ext hs₁ (by first | exact nn (by decide) | exact n0 (by decide) | exact aO (by decide) | exact al l1 _ | exact al l2 _ | exact al l3 _ | exact aH l1 | exact aH l2 | exact aH l3 | exact co hc (by decide) | exact aP hc | omega)) hx fun h₂ i1₂ hs₂=>wpAny_pure (wpAny_pure ?_))
   refine wpAny_bind (wpAny_bind (wpAny_holding ?_))
   show wpAny _ _ (Builtin.SmallTypes.nextOf (.ref (n+1)) >>= _) _ _ _
   cases hy:ys[k]? with
   | none=>
    refine wpAny_bind (cK hh ((i2.ext hs₁ (by first | exact nn (by decide) | exact n0 (by decide) | exact aO (by decide) | exact al l1 _ | exact al l2 _ | exact al l3 _ | exact aH l1 | exact aH l2 | exact aH l3 | exact co hc (by decide) | exact aP hc | omega)).ext hs₂ (by first | exact nn (by decide) | exact n0 (by decide) | exact aO (by decide) | exact al l1 _ | exact al l2 _ | exact al l3 _ | exact aH l1 | exact aH l2 | exact aH l3 | exact co hc (by decide) | exact aP hc | omega)) ((s2.ext hs₁ (by first | exact nn (by decide) | exact n0 (by decide) | exact aO (by decide) | exact al l1 _ | exact al l2 _ | exact al l3 _ | exact aH l1 | exact aH l2 | exact aH l3 | exact co hc (by decide) | exact aP hc | omega)).ext hs₂ (by first | exact nn (by decide) | exact n0 (by decide) | exact aO (by decide) | exact al l1 _ | exact al l2 _ | exact al l3 _ | exact aH l1 | exact aH l2 | exact aH l3 | exact co hc (by decide) | exact aP hc | omega)) hy fun h₃ e hs₃ he=>?_)
    exact hE h₃ e (fun c o hc q=>hs₃ c o (show @Ne Nat c (n+1) by omega) (ex hs₂ (by first | exact nn (by decide) | exact n0 (by decide) | exact aO (by decide) | exact al l1 _ | exact al l2 _ | exact al l3 _ | exact aH l1 | exact aH l2 | exact aH l3 | exact co hc (by decide) | exact aP hc | omega) (ex hs₁ (by first | exact nn (by decide) | exact n0 (by decide) | exact aO (by decide) | exact al l1 _ | exact al l2 _ | exact al l3 _ | exact aH l1 | exact aH l2 | exact aH l3 | exact co hc (by decide) | exact aP hc | omega) q))) he
   | some y=>
    have hw:zs[k]? = none:=by rcases hend with h | h | h;rw[hx] at h;cases h;rw[hy] at h;cases h;exact h
    refine wpAny_bind (bC ((i2.ext hs₁ (by first | exact nn (by decide) | exact n0 (by decide) | exact aO (by decide) | exact al l1 _ | exact al l2 _ | exact al l3 _ | exact aH l1 | exact aH l2 | exact aH l3 | exact co hc (by decide) | exact aP hc | omega)).ext hs₂ (by first | exact nn (by decide) | exact n0 (by decide) | exact aO (by decide) | exact al l1 _ | exact al l2 _ | exact al l3 _ | exact aH l1 | exact aH l2 | exact aH l3 | exact co hc (by decide) | exact aP hc | omega)) ((s2.ext hs₁ (by first | exact nn (by decide) | exact n0 (by decide) | exact aO (by decide) | exact al l1 _ | exact al l2 _ | exact al l3 _ | exact aH l1 | exact aH l2 | exact aH l3 | exact co hc (by decide) | exact aP hc | omega)).ext hs₂ (by first | exact nn (by decide) | exact n0 (by decide) | exact aO (by decide) | exact al l1 _ | exact al l2 _ | exact al l3 _ | exact aH l1 | exact aH l2 | exact aH l3 | exact co hc (by decide) | exact aP hc | omega)) hy fun h₃ i2₃ hs₃=>wpAny_pure (wpAny_pure ?_))
    refine wpAny_bind (wpAny_bind (wpAny_holding ?_))
    show wpAny _ _ (Builtin.SmallTypes.nextOf (.ref (n+2)) >>= _) _ _ _
    refine wpAny_bind (cK hh (((i3.ext hs₁ (by first | exact nn (by decide) | exact n0 (by decide) | exact aO (by decide) | exact al l1 _ | exact al l2 _ | exact al l3 _ | exact aH l1 | exact aH l2 | exact aH l3 | exact co hc (by decide) | exact aP hc | omega)).ext hs₂ (by first | exact nn (by decide) | exact n0 (by decide) | exact aO (by decide) | exact al l1 _ | exact al l2 _ | exact al l3 _ | exact aH l1 | exact aH l2 | exact aH l3 | exact co hc (by decide) | exact aP hc | omega)).ext hs₃ (by first | exact nn (by decide) | exact n0 (by decide) | exact aO (by decide) | exact al l1 _ | exact al l2 _ | exact al l3 _ | exact aH l1 | exact aH l2 | exact aH l3 | exact co hc (by decide) | exact aP hc | omega)) (((s3.ext hs₁ (by first | exact nn (by decide) | exact n0 (by decide) | exact aO (by decide) | exact al l1 _ | exact al l2 _ | exact al l3 _ | exact aH l1 | exact aH l2 | exact aH l3 | exact co hc (by decide) | exact aP hc | omega)).ext hs₂ (by first | exact nn (by decide) | exact n0 (by decide) | exact aO (by decide) | exact al l1 _ | exact al l2 _ | exact al l3 _ | exact aH l1 | exact aH l2 | exact aH l3 | exact co hc (by decide) | exact aP hc | omega)).ext hs₃ (by first | exact nn (by decide) | exact n0 (by decide) | exact aO (by decide) | exact al l1 _ | exact al l2 _ | exact al l3 _ | exact aH l1 | exact aH l2 | exact aH l3 | exact co hc (by decide) | exact aP hc | omega)) hw fun h₄ e hs₄ he=>?_)
    exact hE h₄ e (fun c o hc q=>hs₄ c o (show @Ne Nat c (n+2) by omega) (ex hs₃ (by first | exact nn (by decide) | exact n0 (by decide) | exact aO (by decide) | exact al l1 _ | exact al l2 _ | exact al l3 _ | exact aH l1 | exact aH l2 | exact aH l3 | exact co hc (by decide) | exact aP hc | omega) (ex hs₂ (by first | exact nn (by decide) | exact n0 (by decide) | exact aO (by decide) | exact al l1 _ | exact al l2 _ | exact al l3 _ | exact aH l1 | exact aH l2 | exact aH l3 | exact co hc (by decide) | exact aP hc | omega) (ex hs₁ (by first | exact nn (by decide) | exact n0 (by decide) | exact aO (by decide) | exact al l1 _ | exact al l2 _ | exact al l3 _ | exact aH l1 | exact aH l2 | exact aH l3 | exact co hc (by decide) | exact aP hc | omega) q)))) he
theorem zip2_next {n a1 a2:Nat}{t1 t2:Bool}{k:Nat}{xs ys:Array Value}{x y c1 c2 f0:Value}{f1:Bool}{Q:Value→Shared→Prop} (hf:Free0 f0)
  (hz:IsZ s.heap (n+4) (n+2) (n+3) f0 f1) (hTI:cQ s.heap (n+2) #[.ref n,.ref (n+1)]) (hTO:cQ s.heap (n+3) #[c1,c2])
  (i1:cS s.heap t1 n a1 k) (i2:cS s.heap t2 (n+1) a2 k) (s1:bM s.heap t1 a1 xs) (s2:bM s.heap t2 a2 ys)
  (l1:a1 < n) (l2:a2 < n) (hx:xs[k]? = some x) (hy:ys[k]? = some y)
  (hQ:∀ (T:Nat) h' f0' f1' d1 d2,s.heap.objs.size≤T→Free0 f0'→IsZ h' (n+4) (n+2) (n+3) f0' f1'→cQ h' (n+2) #[.ref n,.ref (n+1)]→cQ h' (n+3) #[d1,d2]→
   cS h' t1 n a1 (k+1)→cS h' t2 (n+1) a2 (k+1)→cQ h' T #[x,y]→
   (∀ (c:Nat) o,(c < n∨n+4 < c)→s.heap.get? c=some o→h'.get? c=some o)→Q (.ref T) { s with heap:=h' }) :
  wpAny (model prog w) A (Builtin.«zip.__next__» ⟨[.ref (n+4)],[]⟩) (fun fin s'=>∃ v,fin=.done (.ret v)∧Q v s') E s:=by
 have hzlt:n+4 < s.heap.objs.size:=Heap.lt_size hz
 show wpAny _ _ (field (.ref (n+4)) 2 >>= _) _ _ _
 refine wpAny_bind (wpAny_field hz rfl (x:=.bool false) rfl ?_)
 show wpAny _ _ (field (.ref (n+4)) 3 >>= _) _ _ _
 refine wpAny_bind (wpAny_field hz rfl (x:=.ref (n+2)) rfl ?_)
 refine wpAny_bind (wpAny_seqItems hTI rfl ?_)
 show wpAny _ _ (Builtin.SmallTypes.ownedTupleIsFree (.ref (n+4)) >>= _) _ _ _
 refine wpAny_bind (owned_free hz hf ?_ ?_)
 ·simp only [if_true]
  refine wpAny_bind (wpAny_rule ?_)
  refine wpAny_bind (wpAny_field hz rfl (x:=.ref (n+3)) rfl ?_)
  refine wpAny_bind (wpAny_setField_rec hz (by simp) fun h₁ hz₁ hs₁=>?_)
  replace hz₁:IsZ h₁ (n+4) (n+2) (n+3) .ellipsis f1:=hz₁
  refine wpAny_bind ?_
  simp only [List.zipIdx_cons,List.zipIdx_nil,List.forIn_cons,List.forIn_nil]
  refine wpAny_bind (wpAny_bind (wpAny_onRaise ?_))
  show wpAny _ _ (Builtin.SmallTypes.nextOf (.ref n) >>= _) _ _ _
  refine wpAny_bind (bC (i1.ext hs₁ (by first | exact nn (by decide) | exact n0 (by decide) | exact aO (by decide) | exact al l1 _ | exact al l2 _ | exact aH l1 | exact aH l2 | exact co hc (by decide) | exact aP hc | omega)) (s1.ext hs₁ (by first | exact nn (by decide) | exact n0 (by decide) | exact aO (by decide) | exact al l1 _ | exact al l2 _ | exact aH l1 | exact aH l2 | exact co hc (by decide) | exact aP hc | omega)) hx fun h₂ i1₂ hs₂=>wpAny_pure ?_)
  have hTO₂:cQ h₂ (n+3) #[c1,c2]:=ex hs₂ (by first | exact nn (by decide) | exact n0 (by decide) | exact aO (by decide) | exact al l1 _ | exact al l2 _ | exact aH l1 | exact aH l2 | exact co hc (by decide) | exact aP hc | omega) (ex hs₁ (by first | exact nn (by decide) | exact n0 (by decide) | exact aO (by decide) | exact al l1 _ | exact al l2 _ | exact aH l1 | exact aH l2 | exact co hc (by decide) | exact aP hc | omega) hTO)
  refine wpAny_bind (wpAny_seqItems hTO₂ rfl ?_)
  refine wpAny_bind (seq_set hTO₂ (by simp) fun h₃ hTO₃ hs₃=>?_)
  replace hTO₃:cQ h₃ (n+3) #[x,c2]:=hTO₃
  refine wpAny_bind (wpAny_letGo (wpAny_pure ?_))
  refine wpAny_bind (wpAny_bind (wpAny_onRaise ?_))
  show wpAny _ _ (Builtin.SmallTypes.nextOf (.ref (n+1)) >>= _) _ _ _
  refine wpAny_bind (bC (((i2.ext hs₁ (by first | exact nn (by decide) | exact n0 (by decide) | exact aO (by decide) | exact al l1 _ | exact al l2 _ | exact aH l1 | exact aH l2 | exact co hc (by decide) | exact aP hc | omega)).ext hs₂ (by first | exact nn (by decide) | exact n0 (by decide) | exact aO (by decide) | exact al l1 _ | exact al l2 _ | exact aH l1 | exact aH l2 | exact co hc (by decide) | exact aP hc | omega)).ext hs₃ (by first | exact nn (by decide) | exact n0 (by decide) | exact aO (by decide) | exact al l1 _ | exact al l2 _ | exact aH l1 | exact aH l2 | exact co hc (by decide) | exact aP hc | omega)) (((s2.ext hs₁ (by first | exact nn (by decide) | exact n0 (by decide) | exact aO (by decide) | exact al l1 _ | exact al l2 _ | exact aH l1 | exact aH l2 | exact co hc (by decide) | exact aP hc | omega)).ext hs₂ (by first | exact nn (by decide) | exact n0 (by decide) | exact aO (by decide) | exact al l1 _ | exact al l2 _ | exact aH l1 | exact aH l2 | exact co hc (by decide) | exact aP hc | omega)).ext hs₃ (by first | exact nn (by decide) | exact n0 (by decide) | exact aO (by decide) | exact al l1 _ | exact al l2 _ | exact aH l1 | exact aH l2 | exact co hc (by decide) | exact aP hc | omega)) hy fun h₄ i2₄ hs₄=>wpAny_pure ?_)
  have hTO₄:cQ h₄ (n+3) #[x,c2]:=ex hs₄ (by first | exact nn (by decide) | exact n0 (by decide) | exact aO (by decide) | exact al l1 _ | exact al l2 _ | exact aH l1 | exact aH l2 | exact co hc (by decide) | exact aP hc | omega) hTO₃
  refine wpAny_bind (wpAny_seqItems hTO₄ rfl ?_)
  refine wpAny_bind (seq_set hTO₄ (by simp) fun h₇ hTO₇ hs₇=>?_)
  replace hTO₇:cQ h₇ (n+3) #[x,y]:=hTO₇
  refine wpAny_bind (wpAny_letGo (wpAny_pure (wpAny_pure ?_)))
  refine wpAny_bind (wpAny_seqItems hTO₇ rfl ?_)
  refine wpAny_bind (wpAny_newTuple ?_)
  have hsz:h₇.objs.size=s.heap.objs.size:=by rw[hs₇.1,hs₄.1,hs₃.1,hs₂.1,hs₁.1]
  have keep:∀ (c:Nat) o,(c < n∨n+4 < c)→s.heap.get? c=some o→h₇.get? c=some o:=fun c o hc e=>
   ex hs₇ (by first | exact nn (by decide) | exact n0 (by decide) | exact aO (by decide) | exact al l1 _ | exact al l2 _ | exact aH l1 | exact aH l2 | exact co hc (by decide) | exact aP hc | omega) (ex hs₄ (by first | exact nn (by decide) | exact n0 (by decide) | exact aO (by decide) | exact al l1 _ | exact al l2 _ | exact aH l1 | exact aH l2 | exact co hc (by decide) | exact aP hc | omega) (ex hs₃ (by first | exact nn (by decide) | exact n0 (by decide) | exact aO (by decide) | exact al l1 _ | exact al l2 _ | exact aH l1 | exact aH l2 | exact co hc (by decide) | exact aP hc | omega) (ex hs₂ (by first | exact nn (by decide) | exact n0 (by decide) | exact aO (by decide) | exact al l1 _ | exact al l2 _ | exact aH l1 | exact aH l2 | exact co hc (by decide) | exact aP hc | omega) (ex hs₁ (by first | exact nn (by decide) | exact n0 (by decide) | exact aO (by decide) | exact al l1 _ | exact al l2 _ | exact aH l1 | exact aH l2 | exact co hc (by decide) | exact aP hc | omega) e))))
  have hz₇:IsZ h₇ (n+4) (n+2) (n+3) .ellipsis f1:=ex hs₇ (by first | exact nn (by decide) | exact n0 (by decide) | exact aO (by decide) | exact al l1 _ | exact al l2 _ | exact aH l1 | exact aH l2 | exact co hc (by decide) | exact aP hc | omega) (ex hs₄ (by first | exact nn (by decide) | exact n0 (by decide) | exact aO (by decide) | exact al l1 _ | exact al l2 _ | exact aH l1 | exact aH l2 | exact co hc (by decide) | exact aP hc | omega) (ex hs₃ (by first | exact nn (by decide) | exact n0 (by decide) | exact aO (by decide) | exact al l1 _ | exact al l2 _ | exact aH l1 | exact aH l2 | exact co hc (by decide) | exact aP hc | omega) (ex hs₂ (by first | exact nn (by decide) | exact n0 (by decide) | exact aO (by decide) | exact al l1 _ | exact al l2 _ | exact aH l1 | exact aH l2 | exact co hc (by decide) | exact aP hc | omega) hz₁)))
  have hTI₇:cQ h₇ (n+2) #[.ref n,.ref (n+1)]:=ex hs₇ (by first | exact nn (by decide) | exact n0 (by decide) | exact aO (by decide) | exact al l1 _ | exact al l2 _ | exact aH l1 | exact aH l2 | exact co hc (by decide) | exact aP hc | omega) (ex hs₄ (by first | exact nn (by decide) | exact n0 (by decide) | exact aO (by decide) | exact al l1 _ | exact al l2 _ | exact aH l1 | exact aH l2 | exact co hc (by decide) | exact aP hc | omega) (ex hs₃ (by first | exact nn (by decide) | exact n0 (by decide) | exact aO (by decide) | exact al l1 _ | exact al l2 _ | exact aH l1 | exact aH l2 | exact co hc (by decide) | exact aP hc | omega) (ex hs₂ (by first | exact nn (by decide) | exact n0 (by decide) | exact aO (by decide) | exact al l1 _ | exact al l2 _ | exact aH l1 | exact aH l2 | exact co hc (by decide) | exact aP hc | omega) (ex hs₁ (by first | exact nn (by decide) | exact n0 (by decide) | exact aO (by decide) | exact al l1 _ | exact al l2 _ | exact aH l1 | exact aH l2 | exact co hc (by decide) | exact aP hc | omega) hTI))))
  have i1₇:=((i1₂.ext hs₃ (by first | exact nn (by decide) | exact n0 (by decide) | exact aO (by decide) | exact al l1 _ | exact al l2 _ | exact aH l1 | exact aH l2 | exact co hc (by decide) | exact aP hc | omega)).ext hs₄ (by first | exact nn (by decide) | exact n0 (by decide) | exact aO (by decide) | exact al l1 _ | exact al l2 _ | exact aH l1 | exact aH l2 | exact co hc (by decide) | exact aP hc | omega)).ext hs₇ (by first | exact nn (by decide) | exact n0 (by decide) | exact aO (by decide) | exact al l1 _ | exact al l2 _ | exact aH l1 | exact aH l2 | exact co hc (by decide) | exact aP hc | omega)
  have i2₇:=i2₄.ext hs₇ (by first | exact nn (by decide) | exact n0 (by decide) | exact aO (by decide) | exact al l1 _ | exact al l2 _ | exact aH l1 | exact aH l2 | exact co hc (by decide) | exact aP hc | omega)
  have hzlt₇:n+4 < h₇.objs.size:=by rw[hsz];exact hzlt
  have up:∀ {c o},h₇.get? c=some o→(h₇.push { cls:=.type "tuple",data:=.seq #[x,y] }).get? c=some o:=fun e=>Heap.get?_push_of_some _ e
  refine wpAny_bind (handOut (z:=n+4) (TI:=n+2) (TO:=n+3) (f0:=.ellipsis) (f1:=f1) (up hz₇) fun h₈ hz₈ hs₈=>?_)
  have up8:∀ {c:Nat}{o},c≠n+4→h₇.get? c=some o→h₈.get? c=some o:=fun hc e=>ex hs₈ hc (up e)
  refine wpAny_pure ⟨_,rfl,hQ h₇.objs.size h₈ (rawInt h₇.objs.size) false x y (by rw[hsz];exact Nat.le_refl _) (.inr ⟨_,rfl⟩) hz₈ (up8 (by first | exact nn (by decide) | exact n0 (by decide) | exact aO (by decide) | exact al l1 _ | exact al l2 _ | exact aH l1 | exact aH l2 | exact co hc (by decide) | exact aP hc | omega) hTI₇) (up8 (by first | exact nn (by decide) | exact n0 (by decide) | exact aO (by decide) | exact al l1 _ | exact al l2 _ | exact aH l1 | exact aH l2 | exact co hc (by decide) | exact aP hc | omega) hTO₇) (i1₇.at fun o e=>up8 (by first | exact nn (by decide) | exact n0 (by decide) | exact aO (by decide) | exact al l1 _ | exact al l2 _ | exact aH l1 | exact aH l2 | exact co hc (by decide) | exact aP hc | omega) e) (i2₇.at fun o e=>up8 (by first | exact nn (by decide) | exact n0 (by decide) | exact aO (by decide) | exact al l1 _ | exact al l2 _ | exact aH l1 | exact aH l2 | exact co hc (by decide) | exact aP hc | omega) e)
   (ex hs₈ (by first | exact nn (by decide) | exact n0 (by decide) | exact aO (by decide) | exact al l1 _ | exact al l2 _ | exact aH l1 | exact aH l2 | exact co hc (by decide) | exact aP hc | omega) (Heap.get?_push_size _ rfl)) fun c o hc e=>up8 (by first | exact nn (by decide) | exact n0 (by decide) | exact aO (by decide) | exact al l1 _ | exact al l2 _ | exact aH l1 | exact aH l2 | exact co hc (by decide) | exact aP hc | omega) (keep c o hc e)⟩
 ·intro h₁ hz₁ hs₁
  simp only [Bool.false_eq_true,if_false]
  refine wpAny_bind ?_
  rw[← Array.forIn_toList]
  simp only [List.forIn_cons,List.forIn_nil]
  refine wpAny_bind (wpAny_bind (wpAny_holding ?_))
  show wpAny _ _ (Builtin.SmallTypes.nextOf (.ref n) >>= _) _ _ _
  refine wpAny_bind (bC (i1.ext hs₁ (by first | exact nn (by decide) | exact n0 (by decide) | exact aO (by decide) | exact al l1 _ | exact al l2 _ | exact aH l1 | exact aH l2 | exact co hc (by decide) | exact aP hc | omega)) (s1.ext hs₁ (by first | exact nn (by decide) | exact n0 (by decide) | exact aO (by decide) | exact al l1 _ | exact al l2 _ | exact aH l1 | exact aH l2 | exact co hc (by decide) | exact aP hc | omega)) hx fun h₂ i1₂ hs₂=>wpAny_pure (wpAny_pure ?_))
  refine wpAny_bind (wpAny_bind (wpAny_holding ?_))
  show wpAny _ _ (Builtin.SmallTypes.nextOf (.ref (n+1)) >>= _) _ _ _
  refine wpAny_bind (bC ((i2.ext hs₁ (by first | exact nn (by decide) | exact n0 (by decide) | exact aO (by decide) | exact al l1 _ | exact al l2 _ | exact aH l1 | exact aH l2 | exact co hc (by decide) | exact aP hc | omega)).ext hs₂ (by first | exact nn (by decide) | exact n0 (by decide) | exact aO (by decide) | exact al l1 _ | exact al l2 _ | exact aH l1 | exact aH l2 | exact co hc (by decide) | exact aP hc | omega)) ((s2.ext hs₁ (by first | exact nn (by decide) | exact n0 (by decide) | exact aO (by decide) | exact al l1 _ | exact al l2 _ | exact aH l1 | exact aH l2 | exact co hc (by decide) | exact aP hc | omega)).ext hs₂ (by first | exact nn (by decide) | exact n0 (by decide) | exact aO (by decide) | exact al l1 _ | exact al l2 _ | exact aH l1 | exact aH l2 | exact co hc (by decide) | exact aP hc | omega)) hy fun h₄ i2₄ hs₄=>wpAny_pure (wpAny_pure (wpAny_pure ?_)))
  refine wpAny_bind (wpAny_newTuple (hsz:=by show 2≤sizeLine;decide) (wpAny_pure ⟨_,rfl,?_⟩))
  have hsz:h₄.objs.size=s.heap.objs.size:=by rw[hs₄.1,hs₂.1,hs₁.1]
  have up:∀ {c o},h₄.get? c=some o→(h₄.push { cls:=.type "tuple",data:=.seq #[x,y] }).get? c=some o:=fun e=>Heap.get?_push_of_some _ e
  have keep:∀ (c:Nat) o,(c < n∨n+4 < c)→s.heap.get? c=some o→h₄.get? c=some o:=fun c o hc e=>ex hs₄ (by first | exact nn (by decide) | exact n0 (by decide) | exact aO (by decide) | exact al l1 _ | exact al l2 _ | exact aH l1 | exact aH l2 | exact co hc (by decide) | exact aP hc | omega) (ex hs₂ (by first | exact nn (by decide) | exact n0 (by decide) | exact aO (by decide) | exact al l1 _ | exact al l2 _ | exact aH l1 | exact aH l2 | exact co hc (by decide) | exact aP hc | omega) (ex hs₁ (by first | exact nn (by decide) | exact n0 (by decide) | exact aO (by decide) | exact al l1 _ | exact al l2 _ | exact aH l1 | exact aH l2 | exact co hc (by decide) | exact aP hc | omega) e))
  refine hQ h₄.objs.size (h₄.push { cls:=.type "tuple",data:=.seq #[x,y] }) f0 true c1 c2 (by rw[hsz];exact Nat.le_refl _) hf (up (ex hs₄ (by first | exact nn (by decide) | exact n0 (by decide) | exact aO (by decide) | exact al l1 _ | exact al l2 _ | exact aH l1 | exact aH l2 | exact co hc (by decide) | exact aP hc | omega) (ex hs₂ (by first | exact nn (by decide) | exact n0 (by decide) | exact aO (by decide) | exact al l1 _ | exact al l2 _ | exact aH l1 | exact aH l2 | exact co hc (by decide) | exact aP hc | omega) hz₁)))
   (up (ex hs₄ (by first | exact nn (by decide) | exact n0 (by decide) | exact aO (by decide) | exact al l1 _ | exact al l2 _ | exact aH l1 | exact aH l2 | exact co hc (by decide) | exact aP hc | omega) (ex hs₂ (by first | exact nn (by decide) | exact n0 (by decide) | exact aO (by decide) | exact al l1 _ | exact al l2 _ | exact aH l1 | exact aH l2 | exact co hc (by decide) | exact aP hc | omega) (ex hs₁ (by first | exact nn (by decide) | exact n0 (by decide) | exact aO (by decide) | exact al l1 _ | exact al l2 _ | exact aH l1 | exact aH l2 | exact co hc (by decide) | exact aP hc | omega) hTI)))) (up (ex hs₄ (by first | exact nn (by decide) | exact n0 (by decide) | exact aO (by decide) | exact al l1 _ | exact al l2 _ | exact aH l1 | exact aH l2 | exact co hc (by decide) | exact aP hc | omega) (ex hs₂ (by first | exact nn (by decide) | exact n0 (by decide) | exact aO (by decide) | exact al l1 _ | exact al l2 _ | exact aH l1 | exact aH l2 | exact co hc (by decide) | exact aP hc | omega) (ex hs₁ (by first | exact nn (by decide) | exact n0 (by decide) | exact aO (by decide) | exact al l1 _ | exact al l2 _ | exact aH l1 | exact aH l2 | exact co hc (by decide) | exact aP hc | omega) hTO))))
   ((i1₂.ext hs₄ (by first | exact nn (by decide) | exact n0 (by decide) | exact aO (by decide) | exact al l1 _ | exact al l2 _ | exact aH l1 | exact aH l2 | exact co hc (by decide) | exact aP hc | omega)).at fun o e=>up e) (i2₄.at fun o e=>up e) (Heap.get?_push_size _ rfl) fun c o hc e=>up (keep c o hc e)
theorem zip2_end {n a1 a2:Nat}{t1 t2:Bool}{k:Nat}{xs ys:Array Value}{c1 c2 f0:Value}{f1:Bool}{Q:Fin→Shared→Prop} (hh:A.handled=none) (hf:Free0 f0)
  (hz:IsZ s.heap (n+4) (n+2) (n+3) f0 f1) (hTI:cQ s.heap (n+2) #[.ref n,.ref (n+1)]) (hTO:cQ s.heap (n+3) #[c1,c2])
  (i1:cS s.heap t1 n a1 k) (i2:cS s.heap t2 (n+1) a2 k) (s1:bM s.heap t1 a1 xs) (s2:bM s.heap t2 a2 ys)
  (l1:a1 < n) (l2:a2 < n) (hend:xs[k]? = none∨ys[k]? = none)
  (hE:∀ h' e,(∀ (c:Nat) o,(c < n∨n+4 < c)→s.heap.get? c=some o→h'.get? c=some o)→(∃ o,h'.get? e=some o∧o.cls=.type "StopIteration")→E (.ref e) { s with heap:=h' }) :
  wpAny (model prog w) A (Builtin.«zip.__next__» ⟨[.ref (n+4)],[]⟩) Q E s:=by
 show wpAny _ _ (field (.ref (n+4)) 2 >>= _) _ _ _
 refine wpAny_bind (wpAny_field hz rfl (x:=.bool false) rfl ?_)
 show wpAny _ _ (field (.ref (n+4)) 3 >>= _) _ _ _
 refine wpAny_bind (wpAny_field hz rfl (x:=.ref (n+2)) rfl ?_)
 refine wpAny_bind (wpAny_seqItems hTI rfl ?_)
 show wpAny _ _ (Builtin.SmallTypes.ownedTupleIsFree (.ref (n+4)) >>= _) _ _ _
 refine wpAny_bind (owned_free hz hf ?_ ?_)
 ·simp only [if_true]
  refine wpAny_bind (wpAny_rule ?_)
  refine wpAny_bind (wpAny_field hz rfl (x:=.ref (n+3)) rfl ?_)
  refine wpAny_bind (wpAny_setField_rec hz (by simp) fun h₁ hz₁ hs₁=>?_)
  replace hz₁:IsZ h₁ (n+4) (n+2) (n+3) .ellipsis f1:=hz₁
  refine wpAny_bind ?_
  simp only [List.zipIdx_cons,List.zipIdx_nil,List.forIn_cons,List.forIn_nil]
  have fin:∀ {h₂ h₃:Heap}{e j:Nat}{oe:Obj},IsZ h₂ (n+4) (n+2) (n+3) .ellipsis f1→Heap.ExtBut j h₂ h₃→@Ne Nat (n+4) j→(n≤j∧j≤n+4)→(∀ (c:Nat) o,(c < n∨n+4 < c)→s.heap.get? c=some o→h₂.get? c=some o)→h₃.get? e=some oe→oe.cls=.type "StopIteration" →
    wpAny (model prog w) A (setField (.ref (n+4)) 0 .none) (fun _ s'=>E (.ref e) s') E { s with heap:=h₃ }:=fun {h₂ h₃ e j oe} hz₂ hx hj hr hk hoe hce=>by
   have hz₃:IsZ h₃ (n+4) (n+2) (n+3) .ellipsis f1:=hx _ _ hj hz₂
   have hez:e≠n+4:=fun q=>by subst q;rw[hz₃] at hoe;cases hoe;simp at hce
   refine wpAny_setField_rec hz₃ (by simp) fun h₄ _ hs₄=>hE h₄ e (fun c o hc q=>ex hs₄ (by first | exact nn (by decide) | exact n0 (by decide) | exact aO (by decide) | exact al l1 _ | exact al l2 _ | exact aH l1 | exact aH l2 | exact co hc (by decide) | exact aP hc | omega) (hx c o (show @Ne Nat c j by omega) (hk c o hc q))) ⟨oe,hs₄.extBut _ _ hez hoe,hce⟩
  refine wpAny_bind (wpAny_bind (wpAny_onRaise ?_))
  show wpAny _ _ (Builtin.SmallTypes.nextOf (.ref n) >>= _) _ _ _
  cases hx:xs[k]? with
  | none=>
   refine wpAny_bind (cK hh (i1.ext hs₁ (by first | exact nn (by decide) | exact n0 (by decide) | exact aO (by decide) | exact al l1 _ | exact al l2 _ | exact aH l1 | exact aH l2 | exact co hc (by decide) | exact aP hc | omega)) (s1.ext hs₁ (by first | exact nn (by decide) | exact n0 (by decide) | exact aO (by decide) | exact al l1 _ | exact al l2 _ | exact aH l1 | exact aH l2 | exact co hc (by decide) | exact aP hc | omega)) hx fun h₂ e hs₂ he=>?_)
   obtain⟨oe,hoe,hce⟩:=he
   exact fin hz₁ hs₂ (by first | exact nn (by decide) | exact n0 (by decide) | exact aO (by decide) | exact al l1 _ | exact al l2 _ | exact aH l1 | exact aH l2 | exact co hc (by decide) | exact aP hc | omega) (by first | exact nn (by decide) | exact n0 (by decide) | exact aO (by decide) | exact al l1 _ | exact al l2 _ | exact aH l1 | exact aH l2 | exact co hc (by decide) | exact aP hc | omega) (fun c o hc q=>ex hs₁ (by first | exact nn (by decide) | exact n0 (by decide) | exact aO (by decide) | exact al l1 _ | exact al l2 _ | exact aH l1 | exact aH l2 | exact co hc (by decide) | exact aP hc | omega) q) hoe hce
  | some x=>
   have hy:ys[k]? = none:=by rcases hend with h | h;rw[hx] at h;cases h;exact h
   refine wpAny_bind (bC (i1.ext hs₁ (by first | exact nn (by decide) | exact n0 (by decide) | exact aO (by decide) | exact al l1 _ | exact al l2 _ | exact aH l1 | exact aH l2 | exact co hc (by decide) | exact aP hc | omega)) (s1.ext hs₁ (by first | exact nn (by decide) | exact n0 (by decide) | exact aO (by decide) | exact al l1 _ | exact al l2 _ | exact aH l1 | exact aH l2 | exact co hc (by decide) | exact aP hc | omega)) hx fun h₂ i1₂ hs₂=>wpAny_pure ?_)
   have hTO₂:cQ h₂ (n+3) #[c1,c2]:=ex hs₂ (by first | exact nn (by decide) | exact n0 (by decide) | exact aO (by decide) | exact al l1 _ | exact al l2 _ | exact aH l1 | exact aH l2 | exact co hc (by decide) | exact aP hc | omega) (ex hs₁ (by first | exact nn (by decide) | exact n0 (by decide) | exact aO (by decide) | exact al l1 _ | exact al l2 _ | exact aH l1 | exact aH l2 | exact co hc (by decide) | exact aP hc | omega) hTO)
   refine wpAny_bind (wpAny_seqItems hTO₂ rfl ?_)
   refine wpAny_bind (seq_set hTO₂ (by simp) fun h₃ hTO₃ hs₃=>?_)
   refine wpAny_bind (wpAny_letGo (wpAny_pure ?_))
   have hz₃:IsZ h₃ (n+4) (n+2) (n+3) .ellipsis f1:=ex hs₃ (by first | exact nn (by decide) | exact n0 (by decide) | exact aO (by decide) | exact al l1 _ | exact al l2 _ | exact aH l1 | exact aH l2 | exact co hc (by decide) | exact aP hc | omega) (ex hs₂ (by first | exact nn (by decide) | exact n0 (by decide) | exact aO (by decide) | exact al l1 _ | exact al l2 _ | exact aH l1 | exact aH l2 | exact co hc (by decide) | exact aP hc | omega) hz₁)
   have k₃:∀ (c:Nat) o,(c < n∨n+4 < c)→s.heap.get? c=some o→h₃.get? c=some o:=fun c o hc e=>ex hs₃ (by first | exact nn (by decide) | exact n0 (by decide) | exact aO (by decide) | exact al l1 _ | exact al l2 _ | exact aH l1 | exact aH l2 | exact co hc (by decide) | exact aP hc | omega) (ex hs₂ (by first | exact nn (by decide) | exact n0 (by decide) | exact aO (by decide) | exact al l1 _ | exact al l2 _ | exact aH l1 | exact aH l2 | exact co hc (by decide) | exact aP hc | omega) (ex hs₁ (by first | exact nn (by decide) | exact n0 (by decide) | exact aO (by decide) | exact al l1 _ | exact al l2 _ | exact aH l1 | exact aH l2 | exact co hc (by decide) | exact aP hc | omega) e))
   refine wpAny_bind (wpAny_bind (wpAny_onRaise ?_))
   show wpAny _ _ (Builtin.SmallTypes.nextOf (.ref (n+1)) >>= _) _ _ _
   refine wpAny_bind (cK hh (((i2.ext hs₁ (by first | exact nn (by decide) | exact n0 (by decide) | exact aO (by decide) | exact al l1 _ | exact al l2 _ | exact aH l1 | exact aH l2 | exact co hc (by decide) | exact aP hc | omega)).ext hs₂ (by first | exact nn (by decide) | exact n0 (by decide) | exact aO (by decide) | exact al l1 _ | exact al l2 _ | exact aH l1 | exact aH l2 | exact co hc (by decide) | exact aP hc | omega)).ext hs₃ (by first | exact nn (by decide) | exact n0 (by decide) | exact aO (by decide) | exact al l1 _ | exact al l2 _ | exact aH l1 | exact aH l2 | exact co hc (by decide) | exact aP hc | omega)) (((s2.ext hs₁ (by first | exact nn (by decide) | exact n0 (by decide) | exact aO (by decide) | exact al l1 _ | exact al l2 _ | exact aH l1 | exact aH l2 | exact co hc (by decide) | exact aP hc | omega)).ext hs₂ (by first | exact nn (by decide) | exact n0 (by decide) | exact aO (by decide) | exact al l1 _ | exact al l2 _ | exact aH l1 | exact aH l2 | exact co hc (by decide) | exact aP hc | omega)).ext hs₃ (by first | exact nn (by decide) | exact n0 (by decide) | exact aO (by decide) | exact al l1 _ | exact al l2 _ | exact aH l1 | exact aH l2 | exact co hc (by decide) | exact aP hc | omega)) hy fun h₄ e hs₄ he=>?_)
   obtain⟨oe,hoe,hce⟩:=he
   exact fin hz₃ hs₄ (by first | exact nn (by decide) | exact n0 (by decide) | exact aO (by decide) | exact al l1 _ | exact al l2 _ | exact aH l1 | exact aH l2 | exact co hc (by decide) | exact aP hc | omega) (by first | exact nn (by decide) | exact n0 (by decide) | exact aO (by decide) | exact al l1 _ | exact al l2 _ | exact aH l1 | exact aH l2 | exact co hc (by decide) | exact aP hc | omega) k₃ hoe hce
 ·intro h₁ hz₁ hs₁
  simp only [Bool.false_eq_true,if_false]
  refine wpAny_bind ?_
  rw[← Array.forIn_toList]
  simp only [List.forIn_cons,List.forIn_nil]
  refine wpAny_bind (wpAny_bind (wpAny_holding ?_))
  show wpAny _ _ (Builtin.SmallTypes.nextOf (.ref n) >>= _) _ _ _
  cases hx:xs[k]? with
  | none=>
   refine wpAny_bind (cK hh (i1.ext hs₁ (by first | exact nn (by decide) | exact n0 (by decide) | exact aO (by decide) | exact al l1 _ | exact al l2 _ | exact aH l1 | exact aH l2 | exact co hc (by decide) | exact aP hc | omega)) (s1.ext hs₁ (by first | exact nn (by decide) | exact n0 (by decide) | exact aO (by decide) | exact al l1 _ | exact al l2 _ | exact aH l1 | exact aH l2 | exact co hc (by decide) | exact aP hc | omega)) hx fun h₂ e hs₂ he=>?_)
   exact hE h₂ e (fun c o hc q=>hs₂ c o (show @Ne Nat c n by omega) (ex hs₁ (by first | exact nn (by decide) | exact n0 (by decide) | exact aO (by decide) | exact al l1 _ | exact al l2 _ | exact aH l1 | exact aH l2 | exact co hc (by decide) | exact aP hc | omega) q)) he
  | some x=>
   have hy:ys[k]? = none:=by rcases hend with h | h;rw[hx] at h;cases h;exact h
   refine wpAny_bind (bC (i1.ext hs₁ (by first | exact nn (by decide) | exact n0 (by decide) | exact aO (by decide) | exact al l1 _ | exact al l2 _ | exact aH l1 | exact aH l2 | exact co hc (by decide) | exact aP hc | omega)) (s1.ext hs₁ (by first | exact nn (by decide) | exact n0 (by decide) | exact aO (by decide) | exact al l1 _ | exact al l2 _ | exact aH l1 | exact aH l2 | exact co hc (by decide) | exact aP hc | omega)) hx fun h₂ i1₂ hs₂=>wpAny_pure (wpAny_pure ?_))
   refine wpAny_bind (wpAny_bind (wpAny_holding ?_))
   show wpAny _ _ (Builtin.SmallTypes.nextOf (.ref (n+1)) >>= _) _ _ _
   refine wpAny_bind (cK hh ((i2.ext hs₁ (by first | exact nn (by decide) | exact n0 (by decide) | exact aO (by decide) | exact al l1 _ | exact al l2 _ | exact aH l1 | exact aH l2 | exact co hc (by decide) | exact aP hc | omega)).ext hs₂ (by first | exact nn (by decide) | exact n0 (by decide) | exact aO (by decide) | exact al l1 _ | exact al l2 _ | exact aH l1 | exact aH l2 | exact co hc (by decide) | exact aP hc | omega)) ((s2.ext hs₁ (by first | exact nn (by decide) | exact n0 (by decide) | exact aO (by decide) | exact al l1 _ | exact al l2 _ | exact aH l1 | exact aH l2 | exact co hc (by decide) | exact aP hc | omega)).ext hs₂ (by first | exact nn (by decide) | exact n0 (by decide) | exact aO (by decide) | exact al l1 _ | exact al l2 _ | exact aH l1 | exact aH l2 | exact co hc (by decide) | exact aP hc | omega)) hy fun h₃ e hs₃ he=>?_)
   exact hE h₃ e (fun c o hc q=>hs₃ c o (show @Ne Nat c (n+1) by omega) (ex hs₂ (by first | exact nn (by decide) | exact n0 (by decide) | exact aO (by decide) | exact al l1 _ | exact al l2 _ | exact aH l1 | exact aH l2 | exact co hc (by decide) | exact aP hc | omega) (ex hs₁ (by first | exact nn (by decide) | exact n0 (by decide) | exact aO (by decide) | exact al l1 _ | exact al l2 _ | exact aH l1 | exact aH l2 | exact co hc (by decide) | exact aP hc | omega) q))) he
theorem pyNext_zip {z TI TO:Addr}{f0:Value}{f1:Bool}{Q:Option Value→Shared→Prop} (hz:IsZ s.heap z TI TO f0 f1)
  (h:wpAny (model prog w) A.in1 (Builtin.«zip.__next__» ⟨[.ref z],[]⟩) (fun fin s'=>∃ v,fin=.done (.ret v)∧Q (some v) s') (fun e s'=>(∃ a o,e=.ref a∧s'.heap.get? a=some o∧o.cls=.type "StopIteration")∧Q none s') s) :
  wpAny (model prog w) A (pyNext (.ref z)) Q E s:=by
 have hT:s.TypeIs (.ref z) "zip" := ⟨_,hz,rfl⟩
 unfold pyNext
 refine wpAny_bind (wpAny_attempt (wpAny_callSpecial?_slot (name:=Str.ofString "__next__") hT F.slot_zip_next
  (wpAny_call_entry F.slot_zip_next hT F.entry_zip_next (wpAny_mono h (fun fin s' h'=>?_) fun e s' h'=>?_) (F.args_zip_next_1 _))))
 ·obtain⟨v,rfl,q⟩:=h'
  exact⟨v,rfl,wpAny_pure q⟩
 ·obtain⟨⟨a,o,rfl,ho,hc⟩,q⟩:=h'
  exact wpAny_bind (wpAny_isInstance (T := "StopIteration") (b:=true) ⟨o,ho,hc⟩ isSubtype_stop (wpAny_pure q))
theorem letGo_zip {tg:Expr}{z TI TO T:Addr}{f0:Value}{f1:Bool}{Q:Unit→Shared→Prop} (hf:Free0 f0) (hz:IsZ s.heap z TI TO f0 f1)
  (hQ:∀ h' f0',Free0 f0'→IsZ h' z TI TO f0' f1→Heap.SameBut z s.heap h'→Q () { s with heap:=h' }):wpAny (model prog w) A (letOwnedTupleGo tg (.ref z) (.ref T)) Q E s:=by
 have same:Q () s:=hQ s.heap f0 hf hz (Heap.SameBut.refl ..)
 have core:wpAny (model prog w) A (do
   let o ← load z
   match o.cls,o.data with
   | .type n,.fields vs=>
    if ["enumerate","zip","dict_itemiterator","dict_reverseitemiterator","odict_iterator","itertools.zip_longest","itertools.pairwise"].contains n && vs[0]? == some (rawInt T) then
     rule "for.unpacks-the-owned-tuple"
     updateField z 0 .none
   | _,_=>pure ()) Q E s:=by
  refine wpAny_bind (wpAny_load hz ?_)
  show wpAny _ _ (if (["enumerate","zip","dict_itemiterator","dict_reverseitemiterator","odict_iterator","itertools.zip_longest","itertools.pairwise"].contains "zip" &&
   (#[f0,.bool f1,.bool false,.ref TI,.ref TO]:Array Value)[0]? == some (rawInt T))=true then _ else _) Q E s
  split
  ·refine wpAny_bind (wpAny_rule ?_)
   show wpAny _ _ (setField (.ref z) 0 .none) Q E s
   exact wpAny_setField_rec hz (by simp) fun h' hz' hs'=>hQ h' .none (.inl rfl) hz' hs'
  ·exact wpAny_pure same
 unfold letOwnedTupleGo
 cases tg <;> first
  | exact wpAny_pure same
  | exact core
theorem pyIter_zip {z TI TO:Addr}{f0:Value}{f1:Bool}{Q:Value→Shared→Prop} (hz:IsZ s.heap z TI TO f0 f1) (h:Q (.ref z) s):wpAny (model prog w) A (pyIter (.ref z)) Q E s:=by
 have hT:s.TypeIs (.ref z) "zip" := ⟨_,hz,rfl⟩
 refine wpAny_pyIter_slot hT F.slot_zip_iter (wpAny_call_entry F.slot_zip_iter hT F.entry_zip_iter ?_ (F.args_zip_iter_1 _))
 show wpAny _ _ (ret (.ref z)) _ _ s
 exact wpAny_pure ⟨_,rfl,"zip",_,hT,F.slot_zip_next.lookup,h⟩
noncomputable def itObj (t:Bool) (a:Addr):Obj:={ cls:=.type (if t=true then "tuple_iterator" else "list_iterator"),data:=.fields #[.ref a,.int 0 0] }
theorem dM {t:Bool}{a:Addr}{items:Array Value}{Q:Value→Shared→Prop} (hs:bM s.heap t a items) (hQ:Q (.ref s.heap.objs.size) { s with heap:=s.heap.push (itObj t a) }) :
  wpAny (model prog w) A (pyIter (.ref a)) Q E s:=by
 cases t with
 | true=>exact wpAny_pyIter_tuple hs hQ
 | false=>exact wpAny_pyIter_list hs hQ
theorem itObj_is {h:Heap}{t:Bool}{a it:Addr} (e:h.get? it=some (itObj t a)):cS h t it a 0:=by
 cases t <;> exact⟨_,e,rfl,rfl⟩
noncomputable abbrev zA (h:Heap) (t:Bool) (a:Addr):Heap:=h.push (itObj t a)
noncomputable abbrev zTup (h:Heap) (vs:List Value):Heap:=h.push { cls:=.type "tuple",data:=.seq vs.toArray }
noncomputable abbrev z2B (h:Heap) (t1 t2:Bool) (l1 l2:Addr):Heap:=zTup (zA (zA h t1 l1) t2 l2) [.ref h.objs.size,.ref (zA h t1 l1).objs.size]
noncomputable abbrev z2H (h:Heap) (t1 t2:Bool) (l1 l2:Addr):Heap:=zTup (z2B h t1 t2 l1 l2) [.none,.none]
noncomputable abbrev z2E (h:Heap) (t1 t2:Bool) (l1 l2:Addr):Heap:=(z2H h t1 t2 l1 l2).push { cls:=.type "zip",data:=.fields #[.none,.bool false,.bool false,.ref (zA (zA h t1 l1) t2 l2).objs.size,.ref (z2B h t1 t2 l1 l2).objs.size] }
noncomputable abbrev z3B (h:Heap) (t1 t2 t3:Bool) (l1 l2 l3:Addr):Heap:=zTup (zA (zA (zA h t1 l1) t2 l2) t3 l3) [.ref h.objs.size,.ref (zA h t1 l1).objs.size,.ref (zA (zA h t1 l1) t2 l2).objs.size]
noncomputable abbrev z3H (h:Heap) (t1 t2 t3:Bool) (l1 l2 l3:Addr):Heap:=zTup (z3B h t1 t2 t3 l1 l2 l3) [.none,.none,.none]
noncomputable abbrev z3E (h:Heap) (t1 t2 t3:Bool) (l1 l2 l3:Addr):Heap:=(z3H h t1 t2 t3 l1 l2 l3).push { cls:=.type "zip",data:=.fields #[.none,.bool false,.bool false,.ref (zA (zA (zA h t1 l1) t2 l2) t3 l3).objs.size,.ref (z3B h t1 t2 t3 l1 l2 l3).objs.size] }
theorem meets_zip2 (t1 t2:Bool) (l1 l2:Addr) (xs ys:Array Value) :
  Meets (Builtin.«zip.__new__» ⟨[.type "zip",.ref l1,.ref l2],[]⟩) (fun _ R s=>bM s.heap t1 l1 xs∧bM s.heap t2 l2 ys∧
   R (.ok (.ret (.ref (z2H s.heap t1 t2 l1 l2).objs.size))) { s with heap:=z2E s.heap t1 t2 l1 l2 }):=
 .of_wp fun prog w A R s h=>by
  obtain⟨hp,g,d,tk,os⟩:=s;obtain⟨hl1,hl2,h⟩:=h
  have hsub:=sub_zip
  have hL1:bM (Shared.heap ⟨hp,g,d,tk,os⟩) t1 l1 xs:=hl1
  have hL2:bM (Shared.heap ⟨hp.push (itObj t1 l1),g,d,tk,os⟩) t2 l2 ys:=hl2.at fun o e=>Heap.get?_push_of_some _ e
  wp_walk using dM hL1,dM hL2
  exact⟨_,rfl,h⟩
theorem meets_zip3 (t1 t2 t3:Bool) (l1 l2 l3:Addr) (xs ys zs:Array Value) :
  Meets (Builtin.«zip.__new__» ⟨[.type "zip",.ref l1,.ref l2,.ref l3],[]⟩) (fun _ R s=>bM s.heap t1 l1 xs∧bM s.heap t2 l2 ys∧bM s.heap t3 l3 zs∧
   R (.ok (.ret (.ref (z3H s.heap t1 t2 t3 l1 l2 l3).objs.size))) { s with heap:=z3E s.heap t1 t2 t3 l1 l2 l3 }):=
 .of_wp fun prog w A R s h=>by
  obtain⟨hp,g,d,tk,os⟩:=s;obtain⟨hl1,hl2,hl3,h⟩:=h
  have hsub:=sub_zip
  have hL1:bM (Shared.heap ⟨hp,g,d,tk,os⟩) t1 l1 xs:=hl1
  have hL2:bM (Shared.heap ⟨hp.push (itObj t1 l1),g,d,tk,os⟩) t2 l2 ys:=hl2.at fun o e=>Heap.get?_push_of_some _ e
  have hL3:bM (Shared.heap ⟨(hp.push (itObj t1 l1)).push (itObj t2 l2),g,d,tk,os⟩) t3 l3 zs:=hl3.at fun o e=>Heap.get?_push_of_some _ (Heap.get?_push_of_some _ e)
  wp_walk using dM hL1,dM hL2,dM hL3
  exact⟨_,rfl,h⟩
theorem typeCall_zip_3 (a b c:Value):checkTypeCall "zip" ⟨[a,b,c],[]⟩=pure ():=by kernel_rfl
theorem newCall_zip_3 (a b c:Value):checkBuiltinCall "zip.__new__" ⟨[.type "zip",a,b,c],[]⟩=pure ():=by kernel_rfl
theorem args_object_init_4 (a b c d:Value):argsOk "object.__init__" ⟨[a,b,c,d],[]⟩:=by
 unfold argsOk;rw[signature?_of (id := "object.__init__") (n:=['_','_','t','i','n','i','_','_']) (o:=['t','c','e','j','b','o']) (by kernel_rfl) F.owner_object];kernel_rfl
theorem call_zip2 {t1 t2:Bool}{l1 l2:Addr}{xs ys:Array Value}{Q:Value→Shared→Prop} (hl1:bM s.heap t1 l1 xs) (hl2:bM s.heap t2 l2 ys)
  (h:∀ h',IsZ h' (s.heap.objs.size+4) (s.heap.objs.size+2) (s.heap.objs.size+3) .none false→cQ h' (s.heap.objs.size+2) #[.ref s.heap.objs.size,.ref (s.heap.objs.size+1)]→
   cQ h' (s.heap.objs.size+3) #[.none,.none]→cS h' t1 s.heap.objs.size l1 0→cS h' t2 (s.heap.objs.size+1) l2 0→
   (∀ c o,s.heap.get? c=some o→h'.get? c=some o)→Q (.ref (s.heap.objs.size+4)) { s with heap:=h' }):wpAny (model prog w) A (call (.type "zip") [.ref l1,.ref l2]) Q E s:=by
 refine callType_new F.called_zip (by decide) (F.typeCall_zip_2 _ _) (F.newCall_zip_2 _ _) (fun obj=>F.args_object_init_3 obj _ _) F.entry_zip_new (meets_zip2 t1 t2 l1 l2 xs ys) ⟨hl1,hl2,?_⟩
 generalize s.heap=h0 at *
 have z1:(zA h0 t1 l1).objs.size=h0.objs.size+1:=Heap.size_push ..
 have z2:(zA (zA h0 t1 l1) t2 l2).objs.size=h0.objs.size+2:=by rw[Heap.size_push,z1]
 have z3:(z2B h0 t1 t2 l1 l2).objs.size=h0.objs.size+3:=by rw[Heap.size_push,z2]
 have z4:(z2H h0 t1 t2 l1 l2).objs.size=h0.objs.size+4:=by rw[Heap.size_push,z3]
 have g5:(z2E h0 t1 t2 l1 l2).get? (z2H h0 t1 t2 l1 l2).objs.size=some _:=Heap.get?_push_size _ rfl
 have g4:(z2E h0 t1 t2 l1 l2).get? (z2B h0 t1 t2 l1 l2).objs.size=some _:=Heap.get?_push_of_some _ (Heap.get?_push_size _ rfl)
 have g3:(z2E h0 t1 t2 l1 l2).get? (zA (zA h0 t1 l1) t2 l2).objs.size=some _:=Heap.get?_push_of_some _ (Heap.get?_push_of_some _ (Heap.get?_push_size _ rfl))
 have g2:(z2E h0 t1 t2 l1 l2).get? (zA h0 t1 l1).objs.size=some _:=Heap.get?_push_of_some _ (Heap.get?_push_of_some _ (Heap.get?_push_of_some _ (Heap.get?_push_size _ rfl)))
 have g1:(z2E h0 t1 t2 l1 l2).get? h0.objs.size=some _:=Heap.get?_push_of_some _ (Heap.get?_push_of_some _ (Heap.get?_push_of_some _ (Heap.get?_push_of_some _ (Heap.get?_push_size _ rfl))))
 show _∧_
 rw[z2,z3,z4] at g5
 rw[z1,z2] at g3
 rw[z3] at g4
 rw[z1] at g2
 rw[z4]
 exact⟨⟨_,g5,rfl⟩,h _ g5 g3 g4 (itObj_is g1) (itObj_is g2) fun c o x=>Heap.get?_push_of_some _ (Heap.get?_push_of_some _ (Heap.get?_push_of_some _ (Heap.get?_push_of_some _ (Heap.get?_push_of_some _ x))))⟩
theorem call_zip3 {t1 t2 t3:Bool}{l1 l2 l3:Addr}{xs ys zs:Array Value}{Q:Value→Shared→Prop} (hl1:bM s.heap t1 l1 xs) (hl2:bM s.heap t2 l2 ys) (hl3:bM s.heap t3 l3 zs)
  (h:∀ h',IsZ h' (s.heap.objs.size+5) (s.heap.objs.size+3) (s.heap.objs.size+4) .none false→cQ h' (s.heap.objs.size+3) #[.ref s.heap.objs.size,.ref (s.heap.objs.size+1),.ref (s.heap.objs.size+2)]→
   cQ h' (s.heap.objs.size+4) #[.none,.none,.none]→cS h' t1 s.heap.objs.size l1 0→cS h' t2 (s.heap.objs.size+1) l2 0→cS h' t3 (s.heap.objs.size+2) l3 0→
   (∀ c o,s.heap.get? c=some o→h'.get? c=some o)→Q (.ref (s.heap.objs.size+5)) { s with heap:=h' }):wpAny (model prog w) A (call (.type "zip") [.ref l1,.ref l2,.ref l3]) Q E s:=by
 refine callType_new F.called_zip (by decide) (typeCall_zip_3 _ _ _) (newCall_zip_3 _ _ _) (fun obj=>args_object_init_4 obj _ _ _) F.entry_zip_new (meets_zip3 t1 t2 t3 l1 l2 l3 xs ys zs) ⟨hl1,hl2,hl3,?_⟩
 generalize s.heap=h0 at *
 have z1:(zA h0 t1 l1).objs.size=h0.objs.size+1:=Heap.size_push ..
 have z2:(zA (zA h0 t1 l1) t2 l2).objs.size=h0.objs.size+2:=by rw[Heap.size_push,z1]
 have z2':(zA (zA (zA h0 t1 l1) t2 l2) t3 l3).objs.size=h0.objs.size+3:=by rw[Heap.size_push,z2]
 have z3:(z3B h0 t1 t2 t3 l1 l2 l3).objs.size=h0.objs.size+4:=by rw[Heap.size_push,z2']
 have z4:(z3H h0 t1 t2 t3 l1 l2 l3).objs.size=h0.objs.size+5:=by rw[Heap.size_push,z3]
 have g5:(z3E h0 t1 t2 t3 l1 l2 l3).get? (z3H h0 t1 t2 t3 l1 l2 l3).objs.size=some _:=Heap.get?_push_size _ rfl
 have g4:(z3E h0 t1 t2 t3 l1 l2 l3).get? (z3B h0 t1 t2 t3 l1 l2 l3).objs.size=some _:=Heap.get?_push_of_some _ (Heap.get?_push_size _ rfl)
 have g3:(z3E h0 t1 t2 t3 l1 l2 l3).get? (zA (zA (zA h0 t1 l1) t2 l2) t3 l3).objs.size=some _:=Heap.get?_push_of_some _ (Heap.get?_push_of_some _ (Heap.get?_push_size _ rfl))
 have g2':(z3E h0 t1 t2 t3 l1 l2 l3).get? (zA (zA h0 t1 l1) t2 l2).objs.size=some _:=Heap.get?_push_of_some _ (Heap.get?_push_of_some _ (Heap.get?_push_of_some _ (Heap.get?_push_size _ rfl)))
 have g2:(z3E h0 t1 t2 t3 l1 l2 l3).get? (zA h0 t1 l1).objs.size=some _:=Heap.get?_push_of_some _ (Heap.get?_push_of_some _ (Heap.get?_push_of_some _ (Heap.get?_push_of_some _ (Heap.get?_push_size _ rfl))))
 have g1:(z3E h0 t1 t2 t3 l1 l2 l3).get? h0.objs.size=some _:=Heap.get?_push_of_some _ (Heap.get?_push_of_some _ (Heap.get?_push_of_some _ (Heap.get?_push_of_some _ (Heap.get?_push_of_some _ (Heap.get?_push_size _ rfl)))))
 show _∧_
 rw[z2',z3,z4] at g5
 rw[z1,z2,z2'] at g3
 rw[z3] at g4
 rw[z2] at g2'
 rw[z1] at g2
 rw[z4]
 exact⟨⟨_,g5,rfl⟩,h _ g5 g3 g4 (itObj_is g1) (itObj_is g2) (itObj_is g2') fun c o x=>Heap.get?_push_of_some _ (Heap.get?_push_of_some _ (Heap.get?_push_of_some _ (Heap.get?_push_of_some _ (Heap.get?_push_of_some _ (Heap.get?_push_of_some _ x)))))⟩
end
end TwZ
namespace TwZ
open PySem
open Sem (wp)
open AutoSeq1 (wpAny_loadPart')
section
variable {prog:Program}{w:World}{M:Model}{A:Around}{E:Value→Shared→Prop}{s:Shared}
noncomputable abbrev IsEn (h:Heap) (e it:Addr) (f0:Value) (f1:Bool) (i:Int) (old:Value):Prop:=
 h.get? e=some { cls:=.type "enumerate",dict:=none,data:=.fields #[f0,.bool f1,.ref it,rawInt i,.none,old],slots:=#[] }
theorem ownedE_free {e it:Addr}{f0:Value}{f1:Bool}{i:Int}{old:Value}{Q:Bool→Shared→Prop} (hz:IsEn s.heap e it f0 f1 i old) (hf:Free0 f0) (yes:Q true s)
  (no:∀ h',IsEn h' e it f0 true i old→Heap.SameBut e s.heap h'→Q false { s with heap:=h' }):wpAny (model prog w) A (Builtin.SmallTypes.ownedTupleIsFree (.ref e)) Q E s:=by
 unfold Builtin.SmallTypes.ownedTupleIsFree
 refine wpAny_bind (wpAny_field hz rfl (x:=f0) rfl ?_)
 rcases hf with rfl | ⟨a,rfl⟩
 ·exact wpAny_pure yes
 ·refine wpAny_bind (wpAny_alive ?_)
  cases h:s.heap.get? a.toNat with
  | none=>exact wpAny_pure yes
  | some o=>
   show wpAny _ _ (field (.ref e) 1 >>= _) _ _ _
   refine wpAny_bind (wpAny_field hz rfl (x:=.bool f1) rfl ?_)
   cases f1 with
   | true=>exact wpAny_pure (no s.heap hz (Heap.SameBut.refl ..))
   | false=>
    show wpAny _ _ (setField (.ref e) 1 (.bool true) >>= _) _ _ _
    refine wpAny_bind (wpAny_setField_rec hz (by simp) fun h₁ hz₁ hs₁=>wpAny_pure (no h₁ hz₁ hs₁))
theorem handOutE {e it:Addr}{f0:Value}{f1:Bool}{i:Int}{old:Value}{T:Addr}{Q:Unit→Shared→Prop} (hz:IsEn s.heap e it f0 f1 i old)
  (h:∀ h',IsEn h' e it (rawInt T) false i old→Heap.SameBut e s.heap h'→Q () { s with heap:=h' }):wpAny (model prog w) A (Builtin.SmallTypes.ownedTupleHandOut (.ref e) (.ref T)) Q E s:=by
 unfold Builtin.SmallTypes.ownedTupleHandOut
 refine wpAny_bind (wpAny_setField_rec hz (by simp) fun h₁ hz₁ hs₁=>?_)
 replace hz₁:IsEn h₁ e it (rawInt T) f1 i old:=hz₁
 refine wpAny_setField_rec hz₁ (by simp) fun h₂ hz₂ hs₂=>?_
 exact h h₂ hz₂ (Heap.SameBut.trans hs₁ hs₂)
theorem enum_next {n a:Nat}{t:Bool}{k:Nat}{xs:Array Value}{x old f0:Value}{f1:Bool}{Q:Value→Shared→Prop} (hf:Free0 f0)
  (he:IsEn s.heap (n+1) n f0 f1 k old) (i1:cS s.heap t n a k) (s1:bM s.heap t a xs) (l1:a < n) (hx:xs[k]? = some x)
  (hQ:∀ (T:Nat) h' f0' f1' old',s.heap.objs.size≤T→Free0 f0'→IsEn h' (n+1) n f0' f1' ((k:Int)+1) old'→cS h' t n a (k+1)→cQ h' T #[.int k s.toks,x]→
   (∀ (c:Nat) o,(c < n∨n+1 < c)→s.heap.get? c=some o→h'.get? c=some o)→Q (.ref T) { s with heap:=h',toks:=s.toks+1 }) :
  wpAny (model prog w) A (Builtin.«enumerate.__next__» ⟨[.ref (n+1)],[]⟩) (fun fin s'=>∃ v,fin=.done (.ret v)∧Q v s') E s:=by
 obtain⟨hp,g,d,tk,os⟩:=s
 have helt:n+1 < hp.objs.size:=Heap.lt_size he
 show wpAny _ _ (field (.ref (n+1)) 2 >>= _) _ _ _
 refine wpAny_bind (wpAny_field he rfl (x:=.ref n) rfl ?_)
 refine wpAny_bind (bC i1 s1 hx fun h₁ i1₁ hs₁=>?_)
 replace hs₁:Heap.SameBut n hp h₁:=hs₁
 have he₁:IsEn h₁ (n+1) n f0 f1 k old:=ex hs₁ (by omega) he
 show wpAny _ _ (field (.ref (n+1)) 3 >>= _) _ _ ⟨h₁,g,d,tk,os⟩
 refine wpAny_bind (wpAny_field he₁ rfl (x:=rawInt k) rfl ?_)
 show wpAny _ _ (field (.ref (n+1)) 4 >>= _) _ _ ⟨h₁,g,d,tk,os⟩
 refine wpAny_bind (wpAny_field he₁ rfl (x:=.none) rfl ?_)
 show wpAny _ _ (mkInt k >>= _) _ _ ⟨h₁,g,d,tk,os⟩
 refine wpAny_bind (wpAny_mkInt ?_)
 show wpAny _ _ (setField (.ref (n+1)) 3 (rawInt ((k:Int)+1)) >>= _) _ _ ⟨h₁,g,d,tk+1,os⟩
 refine wpAny_bind (wpAny_setField_rec he₁ (by simp) fun h₂ he₂ hs₂=>?_)
 replace hs₂:Heap.SameBut (n+1) h₁ h₂:=hs₂
 replace he₂:IsEn h₂ (n+1) n f0 f1 ((k:Int)+1) old:=he₂
 show wpAny _ _ (setField (.ref (n+1)) 4 .none >>= _) _ _ ⟨h₂,g,d,tk+1,os⟩
 refine wpAny_bind (wpAny_setField_rec he₂ (by simp) fun h₃ he₃ hs₃=>?_)
 replace hs₃:Heap.SameBut (n+1) h₂ h₃:=hs₃
 replace he₃:IsEn h₃ (n+1) n f0 f1 ((k:Int)+1) old:=he₃
 show wpAny _ _ (newTuple [.int k tk,x] >>= _) _ _ ⟨h₃,g,d,tk+1,os⟩
 refine wpAny_bind (wpAny_newTuple ?_)
 have he₄:IsEn (h₃.push { cls:=.type "tuple",data:=.seq #[.int k tk,x] }) (n+1) n f0 f1 ((k:Int)+1) old:=Heap.get?_push_of_some _ he₃
 have hsz:h₃.objs.size=hp.objs.size:=by rw[hs₃.1,hs₂.1,hs₁.1]
 have ht₄:cQ (h₃.push { cls:=.type "tuple",data:=.seq #[.int k tk,x] }) h₃.objs.size #[.int k tk,x]:=Heap.get?_push_size _ rfl
 have k₄:∀ (c:Nat) o,(c < n∨n+1 < c)→hp.get? c=some o→(h₃.push { cls:=.type "tuple",data:=.seq #[.int k tk,x] }).get? c=some o:=fun c o hc e=>
  Heap.get?_push_of_some _ (ex hs₃ (by omega) (ex hs₂ (by omega) (ex hs₁ (by omega) e)))
 have i1₄:cS (h₃.push { cls:=.type "tuple",data:=.seq #[.int k tk,x] }) t n a (k+1):=((i1₁.ext hs₂ (by omega)).ext hs₃ (by omega)).at fun o e=>Heap.get?_push_of_some _ e
 have hlt₃:n+1 < h₃.objs.size:=by rw[hsz];exact helt
 generalize hh₄:h₃.push { cls:=.type "tuple",data:=.seq #[.int k tk,x] }=h₄ at he₄ ht₄ k₄ i1₄
 have hTle:hp.objs.size≤h₃.objs.size:=Nat.le_of_eq hsz.symm
 show wpAny _ _ (Builtin.SmallTypes.ownedTupleIsFree (.ref (n+1)) >>= _) _ _ ⟨h₄,g,d,tk+1,os⟩
 refine wpAny_bind (ownedE_free he₄ hf ?_ ?_)
 ·simp only [if_true]
  refine wpAny_bind (wpAny_rule ?_)
  refine wpAny_bind (wpAny_field he₄ rfl (x:=old) rfl ?_)
  refine wpAny_bind (wpAny_setField_rec he₄ (by simp) fun h₅ he₅ hs₅=>?_)
  replace hs₅:Heap.SameBut (n+1) h₄ h₅:=hs₅
  replace he₅:IsEn h₅ (n+1) n f0 f1 ((k:Int)+1) x:=he₅
  refine wpAny_bind (handOutE (s:=⟨h₅,g,d,tk+1,os⟩) he₅ fun h₆ he₆ hs₆=>?_)
  replace hs₆:Heap.SameBut (n+1) h₅ h₆:=hs₆
  refine wpAny_bind (wpAny_letGo (wpAny_pure ⟨_,rfl,?_⟩))
  exact hQ h₃.objs.size h₆ _ _ _ hTle (.inr ⟨_,rfl⟩) he₆ ((i1₄.ext hs₅ (by omega)).ext hs₆ (by omega)) (ex hs₆ (by omega) (ex hs₅ (by omega) ht₄)) fun c o hc e=>ex hs₆ (by omega) (ex hs₅ (by omega) (k₄ c o hc e))
 ·intro h₅ he₅ hs₅
  replace hs₅:Heap.SameBut (n+1) h₄ h₅:=hs₅
  simp only [Bool.false_eq_true,if_false]
  refine wpAny_pure ⟨_,rfl,?_⟩
  exact hQ h₃.objs.size h₅ _ _ _ hTle hf he₅ (i1₄.ext hs₅ (by omega)) (ex hs₅ (by omega) ht₄) fun c o hc e=>ex hs₅ (by omega) (k₄ c o hc e)
theorem enum_end {n a:Nat}{t:Bool}{k:Nat}{xs:Array Value}{old f0:Value}{f1:Bool}{Q:Fin→Shared→Prop} (hh:A.handled=none)
  (he:IsEn s.heap (n+1) n f0 f1 k old) (i1:cS s.heap t n a k) (s1:bM s.heap t a xs) (hx:xs[k]? = none)
  (hE:∀ h' e,(∀ (c:Nat) o,(c < n∨n+1 < c)→s.heap.get? c=some o→h'.get? c=some o)→(∃ o,h'.get? e=some o∧o.cls=.type "StopIteration")→E (.ref e) { s with heap:=h' }) :
  wpAny (model prog w) A (Builtin.«enumerate.__next__» ⟨[.ref (n+1)],[]⟩) Q E s:=by
 show wpAny _ _ (field (.ref (n+1)) 2 >>= _) _ _ _
 refine wpAny_bind (wpAny_field he rfl (x:=.ref n) rfl ?_)
 refine wpAny_bind (cK hh i1 s1 hx fun h' e hk he'=>hE h' e (fun c o hc q=>hk c o (show @Ne Nat c n by omega) q) he')
theorem pyNext_enum {e it:Addr}{f0:Value}{f1:Bool}{i:Int}{old:Value}{Q:Option Value→Shared→Prop} (he:IsEn s.heap e it f0 f1 i old)
  (h:wpAny (model prog w) A.in1 (Builtin.«enumerate.__next__» ⟨[.ref e],[]⟩) (fun fin s'=>∃ v,fin=.done (.ret v)∧Q (some v) s') (fun e s'=>(∃ a o,e=.ref a∧s'.heap.get? a=some o∧o.cls=.type "StopIteration")∧Q none s') s) :
  wpAny (model prog w) A (pyNext (.ref e)) Q E s:=by
 have hT:s.TypeIs (.ref e) "enumerate" := ⟨_,he,rfl⟩
 unfold pyNext
 refine wpAny_bind (wpAny_attempt (wpAny_callSpecial?_slot (name:=Str.ofString "__next__") hT F.slot_enumerate_next
  (wpAny_call_entry F.slot_enumerate_next hT F.entry_enumerate_next (wpAny_mono h (fun fin s' h'=>?_) fun e s' h'=>?_) (F.args_enumerate_next_1 _))))
 ·obtain⟨v,rfl,q⟩:=h'
  exact⟨v,rfl,wpAny_pure q⟩
 ·obtain⟨⟨a,o,rfl,ho,hc⟩,q⟩:=h'
  exact wpAny_bind (wpAny_isInstance (T := "StopIteration") (b:=true) ⟨o,ho,hc⟩ isSubtype_stop (wpAny_pure q))
theorem letGo_enum {tg:Expr}{e it T:Addr}{f0:Value}{f1:Bool}{i:Int}{old:Value}{Q:Unit→Shared→Prop} (hf:Free0 f0) (hz:IsEn s.heap e it f0 f1 i old)
  (hQ:∀ h' f0',Free0 f0'→IsEn h' e it f0' f1 i old→Heap.SameBut e s.heap h'→Q () { s with heap:=h' }):wpAny (model prog w) A (letOwnedTupleGo tg (.ref e) (.ref T)) Q E s:=by
 have same:Q () s:=hQ s.heap f0 hf hz (Heap.SameBut.refl ..)
 have core:wpAny (model prog w) A (do
   let o ← load e
   match o.cls,o.data with
   | .type n,.fields vs=>
    if ["enumerate","zip","dict_itemiterator","dict_reverseitemiterator","odict_iterator","itertools.zip_longest","itertools.pairwise"].contains n && vs[0]? == some (rawInt T) then
     rule "for.unpacks-the-owned-tuple"
     updateField e 0 .none
   | _,_=>pure ()) Q E s:=by
  refine wpAny_bind (wpAny_load hz ?_)
  show wpAny _ _ (if (["enumerate","zip","dict_itemiterator","dict_reverseitemiterator","odict_iterator","itertools.zip_longest","itertools.pairwise"].contains "enumerate" &&
   (#[f0,.bool f1,.ref it,rawInt i,.none,old]:Array Value)[0]? == some (rawInt T))=true then _ else _) Q E s
  split
  ·refine wpAny_bind (wpAny_rule ?_)
   show wpAny _ _ (setField (.ref e) 0 .none) Q E s
   exact wpAny_setField_rec hz (by simp) fun h' hz' hs'=>hQ h' .none (.inl rfl) hz' hs'
  ·exact wpAny_pure same
 unfold letOwnedTupleGo
 cases tg <;> first
  | exact wpAny_pure same
  | exact core
theorem pyIter_enum {e it:Addr}{f0:Value}{f1:Bool}{i:Int}{old:Value}{Q:Value→Shared→Prop} (he:IsEn s.heap e it f0 f1 i old) (h:Q (.ref e) s):wpAny (model prog w) A (pyIter (.ref e)) Q E s:=by
 have hT:s.TypeIs (.ref e) "enumerate" := ⟨_,he,rfl⟩
 refine wpAny_pyIter_slot hT F.slot_enumerate_iter (wpAny_call_entry F.slot_enumerate_iter hT F.entry_enumerate_iter ?_ (F.args_enumerate_iter_1 _))
 show wpAny _ _ (ret (.ref e)) _ _ s
 exact wpAny_pure ⟨_,rfl,"enumerate",_,hT,F.slot_enumerate_next.lookup,h⟩
theorem meets_enum (t:Bool) (l:Addr) (xs:Array Value) :
  Meets (Builtin.«enumerate.__new__» ⟨[.type "enumerate",.ref l],[]⟩) (fun _ R s=>bM s.heap t l xs∧
   R (.ok (.ret (.ref (zA s.heap t l).objs.size))) { s with heap:=(zA s.heap t l).push { cls:=.type "enumerate",data:=.fields #[.none,.bool false,.ref s.heap.objs.size,rawInt 0,.none,.none] } }):=
 .of_wp fun prog w A R s h=>by
  obtain⟨hp,g,d,tk,os⟩:=s;obtain⟨hl,h⟩:=h
  have hsub:=sub_enumerate
  have hL:bM (Shared.heap ⟨hp,g,d,tk,os⟩) t l xs:=hl
  wp_walk
  refine wpAny_stack_any fun st=>wpAny_pure ?_
  split
  ·rename_i c _ _ _ _ _
   cases (c == Value.type "enumerate")
   ·wp_walk using dM hL
    exact⟨_,rfl,h⟩
   ·wp_walk using dM hL
    exact⟨_,rfl,h⟩
  ·wp_walk using dM hL
   exact⟨_,rfl,h⟩
theorem call_enum {t:Bool}{l:Addr}{xs:Array Value}{Q:Value→Shared→Prop} (hL:bM s.heap t l xs)
  (h:∀ h',IsEn h' (s.heap.objs.size+1) s.heap.objs.size .none false 0 .none→cS h' t s.heap.objs.size l 0→(∀ b o,s.heap.get? b=some o→h'.get? b=some o)→Q (.ref (s.heap.objs.size+1)) { s with heap:=h' }) :
  wpAny (model prog w) A (call (.type "enumerate") [.ref l]) Q E s:=by
 refine callType_new F.called_enumerate (by decide) (F.typeCall_enumerate_1 _) (F.newCall_enumerate_1 _) (fun obj=>F.args_object_init_2 obj _) F.entry_enumerate_new (meets_enum t l xs) ⟨hL,?_⟩
 have hz:(zA s.heap t l).objs.size=s.heap.objs.size+1:=Heap.size_push ..
 show _∧_
 rw[hz]
 have he:IsEn ((zA s.heap t l).push { cls:=.type "enumerate",data:=.fields #[.none,.bool false,.ref s.heap.objs.size,rawInt 0,.none,.none] }) (s.heap.objs.size+1) s.heap.objs.size .none false 0 .none:=by
  have:=Heap.get?_push_size (zA s.heap t l) (o:={ cls:=.type "enumerate",data:=.fields #[.none,.bool false,.ref s.heap.objs.size,rawInt 0,.none,.none] }) rfl
  rw[hz] at this;exact this
 exact⟨⟨_,he,rfl⟩,h _ he (itObj_is (Heap.get?_push_of_some _ (Heap.get?_push_size _ rfl))) fun b o x=>Heap.get?_push_of_some _ (Heap.get?_push_of_some _ x)⟩
end
end TwZ
namespace L2
open PySem PySem.Spec PyProof.Rows TwZ
noncomputable def SqB (K:PySem.W.Frag) (H:Hp) (t:Bool) (a:Addr) (xs:List V):Prop:=if t=true then bH K H a xs else cE K H a xs
section
variable {X:Cx}{pins:List (Addr×Obj)}{σ:St}{H:Hp}{s:Shared}
theorem Inv.src {t:Bool}{a:Addr}{xs:List V} (I:Inv X pins σ H s) (h:SqB X.K H t a xs):∃ its:List Value,bE xs its∧bM s.heap t a its.toArray∧xs.length≤sizeLine:=by
 cases t with
 | true=>
  obtain⟨its,r,p,z⟩:=I.tuple h
  exact⟨its,r,(show s.heap.IsTuple a its.toArray from p),z⟩
 | false=>
  obtain⟨its,r,p,z⟩:=I.list h
  exact⟨its,r,p.isList,z⟩
theorem Inv.src_inj {t:Bool}{a:Addr}{xs ys:List V} (I:Inv X pins σ H s) (h:SqB X.K H t a xs) (h':SqB X.K H t a ys):xs=ys:=by
 cases t with
 | true=>exact I.tuple_inj h h'
 | false=>exact I.list_inj h h'
theorem Inv.turnedT {fp:List Addr}{h':Heap}{t':Nat}{T:Addr}{xs:List V}{its:List Value} (I:Inv X pins σ H s) (hf:∀ b∈fp,FpOk X pins H b) (k:∀ b o,b∉fp→s.heap.get? b=some o→h'.get? b=some o)
  (hT:s.heap.objs.size≤T) (hv:bE xs its) (hz:xs.length≤sizeLine) (ht:IsTup h' T its.toArray):Inv X pins σ (upd H T (.tup xs)) { s with heap:=h',toks:=t' }:=by
 have hn:H T=none:=I.hok.fresh hT
 have nT:∀ b u,H b=some u→b≠T:=fun b u e=>aN e hn
 have nfp:∀ b u,H b=some u→b∉fp:=fun b u e hb=>by rw[(hf b hb).1] at e;cases e
 have nTh:∀ b o,s.heap.get? b=some o→b≠T:=fun b o e z=>by rw[z] at e;exact absurd (Nat.lt_of_lt_of_le (Heap.lt_size e) hT) (Nat.lt_irrefl _)
 refine I.step (g':=s.gens) (d':=s.drawn) (ch:=fp) (fun b hb=>?_) (fun b o _ _ hc e _=>k b o hc e) (fun b o _ _ hc e _=>⟨o.slots,k b o hc e⟩) (fun b o hc e n=>by rw[aM (nTh b o e)];exact n)
  (fun b o hc e=>⟨o,k b o hc e⟩) (fun b ys e=>by rw[aM (nT b _ e)];exact e) (fun b o u e=>by rw[aM (nT b _ e)];exact e) (fun b ps e=>⟨#[],by rw[aM (nT b _ e),e];simp⟩) (fun m hm=>?_) (fun b u e=>?_) I.bare
 ·obtain⟨_,f1,_,f3,f4,f5⟩:=hf b hb
  exact⟨f3,f1,f4,f5⟩
 ·obtain⟨o,es,ep,ho,r⟩:=hm
  exact⟨o,es,ep,k _ o (fun hb=>(hf _ hb).2.1 rfl) ho,r⟩
 ·by_cases hb:b=T
  ·subst hb
   rw[aB] at e
   cases e
   exact⟨hz,its,hv,ht⟩
  ·rw[aM hb] at e
   refine (I.hok b u e).stay (fun c v hc q=>k c v ?_ q) (fun c q=>by rw[aM (nT c _ q)];exact q) fun c ys q=>by rw[aM (nT c _ q)];exact q
   rcases hc with z | z
   ·rw[z];exact nfp b u e
   ·exact nfp c _ z
theorem Inv.turnedL {fp:List Addr}{h':Heap}{t':Nat} (I:Inv X pins σ H s) (hf:∀ b∈fp,FpOk X pins H b) (k:∀ b o,b∉fp→s.heap.get? b=some o→h'.get? b=some o):Inv X pins σ H { s with heap:=h',toks:=t' }:=by
 have nfp:∀ b u,H b=some u→b∉fp:=fun b u e hb=>by rw[(hf b hb).1] at e;cases e
 refine I.step (g':=s.gens) (d':=s.drawn) (ch:=fp) (fun b hb=>?_) (fun b o _ _ hc e _=>k b o hc e) (fun b o _ _ hc e _=>⟨o.slots,k b o hc e⟩) (fun b o hc e n=>n)
  (fun b o hc e=>⟨o,k b o hc e⟩) (fun b ys e=>e) (fun b o u e=>e) (fun b ps e=>⟨#[],by rw[e];simp⟩) (fun m hm=>?_) (fun b u e=>?_) I.bare
 ·obtain⟨_,f1,_,f3,f4,f5⟩:=hf b hb
  exact⟨f3,f1,f4,f5⟩
 ·obtain⟨o,es,ep,ho,r⟩:=hm
  exact⟨o,es,ep,k _ o (fun hb=>(hf _ hb).2.1 rfl) ho,r⟩
 ·refine (I.hok b u e).stay (fun c v hc q=>k c v ?_ q) (fun c q=>q) fun c ys q=>q
  rcases hc with z | z
  ·rw[z];exact nfp b u e
  ·exact nfp c _ z
end
noncomputable def Itz3 (K:PySem.W.Frag) (t1 t2 t3:Bool) (a1 a2 a3:Addr):It:=
 ⟨fun i H=>∃ xs ys zs x y z,SqB K H t1 a1 xs∧SqB K H t2 a2 ys∧SqB K H t3 a3 zs∧xs[i]? = some x∧ys[i]? = some y∧zs[i]? = some z,
  fun i H v H'=>∃ T x y z,H T=none∧v=.ref T∧(∀ xs,SqB K H t1 a1 xs→xs[i]? = some x)∧(∀ xs,SqB K H t2 a2 xs→xs[i]? = some y)∧(∀ xs,SqB K H t3 a3 xs→xs[i]? = some z)∧H'=upd H T (.tup [x,y,z]),
  fun i H=>∃ xs ys zs,SqB K H t1 a1 xs∧SqB K H t2 a2 ys∧SqB K H t3 a3 zs∧(xs.length≤i∨ys.length≤i∨zs.length≤i)⟩
noncomputable def tnz3 (n a1 a2 a3:Nat) (t1 t2 t3:Bool) (i:Nat) (h:Heap):Prop:=
 ∃ f0 f1 c1 c2 c3,Free0 f0∧IsZ h (n+5) (n+3) (n+4) f0 f1∧cQ h (n+3) #[.ref n,.ref (n+1),.ref (n+2)]∧cQ h (n+4) #[c1,c2,c3]∧
  cS h t1 n a1 i∧cS h t2 (n+1) a2 i∧cS h t3 (n+2) a3 i∧a1 < n∧a2 < n∧a3 < n
noncomputable def fpz (n:Nat) (m:Nat):List Addr:=(List.range m).map fun k=>(n+k:Nat)
theorem cX {n m:Nat}{b:Addr}:b∈fpz n m↔∃ k,k < m∧b=n+k:=by
 unfold fpz
 rw[List.mem_map]
 constructor
 ·rintro⟨k,hk,e⟩;exact⟨k,List.mem_range.mp hk,e.symm⟩
 ·rintro⟨k,hk,e⟩;exact⟨k,List.mem_range.mpr hk,e.symm⟩
theorem not_fpz {n m:Nat}{b:Nat} (h:(b:Addr)∉fpz n m) (hm:0 < m):b < n∨n+(m - 1) < b:=by
 by_cases h1:b < n
 ·exact .inl h1
 ·by_cases h2:n+(m - 1) < b
  ·exact .inr h2
  ·exact absurd (cX.mpr ⟨b - n,by omega,by show (b:Nat)=n+(b - n);omega⟩) h
theorem turn_zip3 {P:Program}{w:World}{K:PySem.W.Frag}{tg:Expr} (n a1 a2 a3:Nat) (t1 t2 t3:Bool):Turn P w K tg (Itz3 K t1 t2 t3 a1 a2 a3) (fpz n 6) (n+5) (tnz3 n a1 a2 a3 t1 t2 t3) where
 mem:=cX.mpr ⟨5,by decide,rfl⟩
 obj:=fun i h st b hb=>by
  obtain⟨f0,f1,c1,c2,c3,hf,hz,hTI,hTO,i1,i2,i3,_⟩:=st
  obtain⟨k,hk,rfl⟩:=cX.mp hb
  have hk':k=0∨k=1∨k=2∨k=3∨k=4∨k=5:=by omega
  rcases hk' with rfl | rfl | rfl | rfl | rfl | rfl
  ·exact i1.obj
  ·exact i2.obj
  ·exact i3.obj
  ·exact⟨_,hTI,fun v z=>by cases z⟩
  ·exact⟨_,hTO,fun v z=>by cases z⟩
  ·exact⟨_,hz,fun v z=>by cases z⟩
 keep:=fun i h h' st k=>by
  obtain⟨f0,f1,c1,c2,c3,hf,hz,hTI,hTO,i1,i2,i3,l⟩:=st
  have m:∀ j,j < 6→((n+j:Nat):Addr)∈fpz n 6:=fun j hj=>cX.mpr ⟨j,hj,rfl⟩
  exact⟨f0,f1,c1,c2,c3,hf,k _ (m 5 (by decide)) _ hz,k _ (m 3 (by decide)) _ hTI,k _ (m 4 (by decide)) _ hTO,i1.at fun o e=>k _ (m 0 (by decide)) _ e,i2.at fun o e=>k _ (m 1 (by decide)) _ e,i3.at fun o e=>k _ (m 2 (by decide)) _ e,l⟩
 item:=by
  intro X hP hw hK hc i pins s σ H E I hf st hg
  subst hP hw hK
  obtain⟨f0,f1,c1,c2,c3,f,hz,hTI,hTO,i1,i2,i3,l1,l2,l3⟩:=st
  obtain⟨xs,ys,zs,x,y,z,q1,q2,q3,hx,hy,hw⟩:=hg
  obtain⟨us,r1,p1,_⟩:=I.src q1
  obtain⟨vs,r2,p2,_⟩:=I.src q2
  obtain⟨ws,r3,p3,_⟩:=I.src q3
  obtain⟨u,hu,ru⟩:=r1.get hx
  obtain⟨v,hv,rv⟩:=r2.get hy
  obtain⟨w',hw',rw'⟩:=r3.get hw
  refine pyNext_zip hz (zip3_next f hz hTI hTO i1 i2 i3 p1 p2 p3 l1 l2 l3 (by simpa using hu) (by simpa using hv) (by simpa using hw') fun T h' f0' f1' d1 d2 d3 hT f' hz' hTI' hTO' i1' i2' i3' hTp hk=>?_)
  refine⟨_,rfl,letGo_zip (s:={ s with heap:=h' }) f' hz' fun h'' f0'' f'' hz'' hs=>?_⟩
  replace hs:Heap.SameBut (n+5) h' h'':=hs
  have hTn:n+5 < T:=Nat.lt_of_lt_of_le (Heap.lt_size hz) hT
  have hTp':cQ h'' T #[u,v,w']:=ex hs (by omega) hTp
  have IT:Inv X pins σ (upd H T (.tup [x,y,z])) { s with heap:=h'',toks:=s.toks }:=I.turnedT (fp:=fpz n 6) hf (fun b o hb e=>ex (c:=b) hs (by have:=not_fpz (b:=b) hb (by decide);have:n+(6 - 1)=n+5:=rfl;omega) (hk b o (not_fpz (b:=b) hb (by decide)) e)) hT (its:=[u,v,w']) (.cons ru (.cons rv (.cons rw' .nil))) (by show 3≤sizeLine;decide) ⟨_,hTp',rfl,_,rfl⟩
  refine⟨.ref T,upd H T (.tup [x,y,z]),IT,rfl,
   ⟨T,x,y,z,I.hok.fresh hT,rfl,fun as q=>by rw[I.src_inj q q1];exact hx,fun as q=>by rw[I.src_inj q q2];exact hy,fun as q=>by rw[I.src_inj q q3];exact hw,rfl⟩,
   ⟨f0'',f1',d1,d2,d3,f'',hz'',ex hs (by omega) hTI',ex hs (by omega) hTO',i1'.ext hs (by omega),i2'.ext hs (by omega),i3'.ext hs (by omega),l1,l2,l3⟩,fun b hb=>?_⟩
  ·obtain⟨j,hj,rfl⟩:=cX.mp hb
   rw[aM (show ((n+j:Nat):Addr)≠T from (show @Ne Nat (n+j) T by omega))]
   exact (hf _ hb).1
 done:=by
  intro X hP hw hK hc i pins s σ H E I hf st hg
  subst hP hw hK
  obtain⟨f0,f1,c1,c2,c3,f,hz,hTI,hTO,i1,i2,i3,l1,l2,l3⟩:=st
  obtain⟨xs,ys,zs,q1,q2,q3,hend⟩:=hg
  obtain⟨us,r1,p1,_⟩:=I.src q1
  obtain⟨vs,r2,p2,_⟩:=I.src q2
  obtain⟨ws,r3,p3,_⟩:=I.src q3
  have e1:=r1.length
  have e2:=r2.length
  have e3:=r3.length
  refine pyNext_zip hz (zip3_end (I.ok.hd hc) f hz hTI hTO i1 i2 i3 p1 p2 p3 l1 l2 l3 (by
   rcases hend with h | h | h
   ·exact .inl (by simp;omega)
   ·exact .inr (.inl (by simp;omega))
   ·exact .inr (.inr (by simp;omega))) fun h' e hk he=>?_)
  obtain⟨o,ho,hcl⟩:=he
  exact⟨⟨e,o,rfl,ho,hcl⟩,rfl,I.turnedL (t':=s.toks) hf fun b o hb q=>hk b o (not_fpz (b:=b) hb (by decide)) q⟩
 self:=fun _ _ _ _ _ st h=>by
  obtain⟨f0,f1,c1,c2,c3,f,hz,_⟩:=st
  exact pyIter_zip hz h
noncomputable def Itz2 (K:PySem.W.Frag) (t1 t2:Bool) (a1 a2:Addr):It:=
 ⟨fun i H=>∃ xs ys x y,SqB K H t1 a1 xs∧SqB K H t2 a2 ys∧xs[i]? = some x∧ys[i]? = some y,
  fun i H v H'=>∃ T x y,H T=none∧v=.ref T∧(∀ xs,SqB K H t1 a1 xs→xs[i]? = some x)∧(∀ xs,SqB K H t2 a2 xs→xs[i]? = some y)∧H'=upd H T (.tup [x,y]),
  fun i H=>∃ xs ys,SqB K H t1 a1 xs∧SqB K H t2 a2 ys∧(xs.length≤i∨ys.length≤i)⟩
noncomputable def tnz2 (n a1 a2:Nat) (t1 t2:Bool) (i:Nat) (h:Heap):Prop:=
 ∃ f0 f1 c1 c2,Free0 f0∧IsZ h (n+4) (n+2) (n+3) f0 f1∧cQ h (n+2) #[.ref n,.ref (n+1)]∧cQ h (n+3) #[c1,c2]∧cS h t1 n a1 i∧cS h t2 (n+1) a2 i∧a1 < n∧a2 < n
theorem turn_zip2 {P:Program}{w:World}{K:PySem.W.Frag}{tg:Expr} (n a1 a2:Nat) (t1 t2:Bool):Turn P w K tg (Itz2 K t1 t2 a1 a2) (fpz n 5) (n+4) (tnz2 n a1 a2 t1 t2) where
 mem:=cX.mpr ⟨4,by decide,rfl⟩
 obj:=fun i h st b hb=>by
  obtain⟨f0,f1,c1,c2,hf,hz,hTI,hTO,i1,i2,_⟩:=st
  obtain⟨k,hk,rfl⟩:=cX.mp hb
  have hk':k=0∨k=1∨k=2∨k=3∨k=4:=by omega
  rcases hk' with rfl | rfl | rfl | rfl | rfl
  ·exact i1.obj
  ·exact i2.obj
  ·exact⟨_,hTI,fun v z=>by cases z⟩
  ·exact⟨_,hTO,fun v z=>by cases z⟩
  ·exact⟨_,hz,fun v z=>by cases z⟩
 keep:=fun i h h' st k=>by
  obtain⟨f0,f1,c1,c2,hf,hz,hTI,hTO,i1,i2,l⟩:=st
  have m:∀ j,j < 5→((n+j:Nat):Addr)∈fpz n 5:=fun j hj=>cX.mpr ⟨j,hj,rfl⟩
  exact⟨f0,f1,c1,c2,hf,k _ (m 4 (by decide)) _ hz,k _ (m 2 (by decide)) _ hTI,k _ (m 3 (by decide)) _ hTO,i1.at fun o e=>k _ (m 0 (by decide)) _ e,i2.at fun o e=>k _ (m 1 (by decide)) _ e,l⟩
 item:=by
  intro X hP hw hK hc i pins s σ H E I hf st hg
  subst hP hw hK
  obtain⟨f0,f1,c1,c2,f,hz,hTI,hTO,i1,i2,l1,l2⟩:=st
  obtain⟨xs,ys,x,y,q1,q2,hx,hy⟩:=hg
  obtain⟨us,r1,p1,_⟩:=I.src q1
  obtain⟨vs,r2,p2,_⟩:=I.src q2
  obtain⟨u,hu,ru⟩:=r1.get hx
  obtain⟨v,hv,rv⟩:=r2.get hy
  refine pyNext_zip hz (zip2_next f hz hTI hTO i1 i2 p1 p2 l1 l2 (by simpa using hu) (by simpa using hv) fun T h' f0' f1' d1 d2 hT f' hz' hTI' hTO' i1' i2' hTp hk=>?_)
  refine⟨_,rfl,letGo_zip (s:={ s with heap:=h' }) f' hz' fun h'' f0'' f'' hz'' hs=>?_⟩
  replace hs:Heap.SameBut (n+4) h' h'':=hs
  have hTn:n+4 < T:=Nat.lt_of_lt_of_le (Heap.lt_size hz) hT
  have hTp':cQ h'' T #[u,v]:=ex hs (by omega) hTp
  have IT:Inv X pins σ (upd H T (.tup [x,y])) { s with heap:=h'',toks:=s.toks }:=I.turnedT (fp:=fpz n 5) hf (fun b o hb e=>ex (c:=b) hs (by have:=not_fpz (b:=b) hb (by decide);have:n+(5 - 1)=n+4:=rfl;omega) (hk b o (not_fpz (b:=b) hb (by decide)) e)) hT (its:=[u,v]) (.cons ru (.cons rv .nil)) (by show 2≤sizeLine;decide) ⟨_,hTp',rfl,_,rfl⟩
  refine⟨.ref T,upd H T (.tup [x,y]),IT,rfl,
   ⟨T,x,y,I.hok.fresh hT,rfl,fun as q=>by rw[I.src_inj q q1];exact hx,fun as q=>by rw[I.src_inj q q2];exact hy,rfl⟩,
   ⟨f0'',f1',d1,d2,f'',hz'',ex hs (by omega) hTI',ex hs (by omega) hTO',i1'.ext hs (by omega),i2'.ext hs (by omega),l1,l2⟩,fun b hb=>?_⟩
  ·obtain⟨j,hj,rfl⟩:=cX.mp hb
   rw[aM (show ((n+j:Nat):Addr)≠T from (show @Ne Nat (n+j) T by omega))]
   exact (hf _ hb).1
 done:=by
  intro X hP hw hK hc i pins s σ H E I hf st hg
  subst hP hw hK
  obtain⟨f0,f1,c1,c2,f,hz,hTI,hTO,i1,i2,l1,l2⟩:=st
  obtain⟨xs,ys,q1,q2,hend⟩:=hg
  obtain⟨us,r1,p1,_⟩:=I.src q1
  obtain⟨vs,r2,p2,_⟩:=I.src q2
  have e1:=r1.length
  have e2:=r2.length
  refine pyNext_zip hz (zip2_end (I.ok.hd hc) f hz hTI hTO i1 i2 p1 p2 l1 l2 (by
   rcases hend with h | h
   ·exact .inl (by simp;omega)
   ·exact .inr (by simp;omega)) fun h' e hk he=>?_)
  obtain⟨o,ho,hcl⟩:=he
  exact⟨⟨e,o,rfl,ho,hcl⟩,rfl,I.turnedL (t':=s.toks) hf fun b o hb q=>hk b o (not_fpz (b:=b) hb (by decide)) q⟩
 self:=fun _ _ _ _ _ st h=>by
  obtain⟨f0,f1,c1,c2,f,hz,_⟩:=st
  exact pyIter_zip hz h
noncomputable def Ite (K:PySem.W.Frag) (t:Bool) (a:Addr):It:=
 ⟨fun i H=>∃ xs x,SqB K H t a xs∧xs[i]? = some x,
  fun i H v H'=>∃ T x,H T=none∧v=.ref T∧(∀ xs,SqB K H t a xs→xs[i]? = some x)∧H'=upd H T (.tup [.int i,x]),
  fun i H=>∃ xs,SqB K H t a xs∧xs.length≤i⟩
noncomputable def tne (n a:Nat) (t:Bool) (i:Nat) (h:Heap):Prop:=∃ f0 f1 old,Free0 f0∧IsEn h (n+1) n f0 f1 i old∧cS h t n a i∧a < n
theorem turn_enum {P:Program}{w:World}{K:PySem.W.Frag}{tg:Expr} (n a:Nat) (t:Bool):Turn P w K tg (Ite K t a) (fpz n 2) (n+1) (tne n a t) where
 mem:=cX.mpr ⟨1,by decide,rfl⟩
 obj:=fun i h st b hb=>by
  obtain⟨f0,f1,old,hf,he,i1,_⟩:=st
  obtain⟨k,hk,rfl⟩:=cX.mp hb
  have hk':k=0∨k=1:=by omega
  rcases hk' with rfl | rfl
  ·exact i1.obj
  ·exact⟨_,he,fun v z=>by cases z⟩
 keep:=fun i h h' st k=>by
  obtain⟨f0,f1,old,hf,he,i1,l⟩:=st
  have m:∀ j,j < 2→((n+j:Nat):Addr)∈fpz n 2:=fun j hj=>cX.mpr ⟨j,hj,rfl⟩
  exact⟨f0,f1,old,hf,k _ (m 1 (by decide)) _ he,i1.at fun o e=>k _ (m 0 (by decide)) _ e,l⟩
 item:=by
  intro X hP hw hK hc i pins s σ H E I hf st hg
  subst hP hw hK
  obtain⟨f0,f1,old,f,he,i1,l1⟩:=st
  obtain⟨xs,x,q1,hx⟩:=hg
  obtain⟨us,r1,p1,_⟩:=I.src q1
  obtain⟨u,hu,ru⟩:=r1.get hx
  refine pyNext_enum he (enum_next f he i1 p1 l1 (by simpa using hu) fun T h' f0' f1' old' hT f' he' i1' hTp hk=>?_)
  refine⟨_,rfl,letGo_enum (s:={ s with heap:=h',toks:=s.toks+1 }) f' he' fun h'' f0'' f'' he'' hs=>?_⟩
  replace hs:Heap.SameBut (n+1) h' h'':=hs
  have hTn:n+1 < T:=Nat.lt_of_lt_of_le (Heap.lt_size he) hT
  have hTp':cQ h'' T #[.int i s.toks,u]:=ex hs (by omega) hTp
  have IT:Inv X pins σ (upd H T (.tup [.int i,x])) { s with heap:=h'',toks:=s.toks+1 }:=I.turnedT (fp:=fpz n 2) hf (fun b o hb e=>ex (c:=b) hs (by have:=not_fpz (b:=b) hb (by decide);have:n+(2 - 1)=n+1:=rfl;omega) (hk b o (not_fpz (b:=b) hb (by decide)) e)) hT (its:=[.int i s.toks,u]) (.cons ⟨_,rfl⟩ (.cons ru .nil)) (by show 2≤sizeLine;decide) ⟨_,hTp',rfl,_,rfl⟩
  have he2:IsEn h'' (n+1) n f0'' f1' ((i+1:Nat):Int) old':=by
   have:((i+1:Nat):Int)=(i:Int)+1:=by push_cast;rfl
   rw[this];exact he''
  refine⟨.ref T,upd H T (.tup [.int i,x]),IT,rfl,⟨T,x,I.hok.fresh hT,rfl,fun as q=>by rw[I.src_inj q q1];exact hx,rfl⟩,⟨f0'',f1',old',f'',he2,i1'.ext hs (by omega),l1⟩,fun b hb=>?_⟩
  ·obtain⟨j,hj,rfl⟩:=cX.mp hb
   rw[aM (show ((n+j:Nat):Addr)≠T from (show @Ne Nat (n+j) T by omega))]
   exact (hf _ hb).1
 done:=by
  intro X hP hw hK hc i pins s σ H E I hf st hg
  subst hP hw hK
  obtain⟨f0,f1,old,f,he,i1,l1⟩:=st
  obtain⟨xs,q1,hend⟩:=hg
  obtain⟨us,r1,p1,_⟩:=I.src q1
  have e1:=r1.length
  refine pyNext_enum he (enum_end (I.ok.hd hc) he i1 p1 (by simp;omega) fun h' e hk he=>?_)
  obtain⟨o,ho,hcl⟩:=he
  exact⟨⟨e,o,rfl,ho,hcl⟩,rfl,I.turnedL (t':=s.toks) hf fun b o hb q=>hk b o (not_fpz (b:=b) hb (by decide)) q⟩
 self:=fun _ _ _ _ _ st h=>by
  obtain⟨f0,f1,old,f,he,_⟩:=st
  exact pyIter_enum he h
section
variable {X:Cx}{tg:Expr}
theorem boot_zip:bootBuiltins "zip" = some (.type "zip"):=by decide +kernel
theorem boot_enum:bootBuiltins "enumerate" = some (.type "enumerate"):=by decide +kernel
noncomputable def iZip2 (K:PySem.W.Frag) (ta:TA):TI:=fun σ H R=>ta σ H fun vs H1=>∃ t1 t2 a1 a2,vs=[.ref a1,.ref a2]∧(∃ xs,SqB K H1 t1 a1 xs)∧(∃ xs,SqB K H1 t2 a2 xs)∧R (Itz2 K t1 t2 a1 a2) H1
noncomputable def iZip3 (K:PySem.W.Frag) (ta:TA):TI:=fun σ H R=>ta σ H fun vs H1=>∃ t1 t2 t3 a1 a2 a3,vs=[.ref a1,.ref a2,.ref a3]∧(∃ xs,SqB K H1 t1 a1 xs)∧(∃ xs,SqB K H1 t2 a2 xs)∧(∃ xs,SqB K H1 t3 a3 xs)∧R (Itz3 K t1 t2 t3 a1 a2 a3) H1
noncomputable def iEnum (K:PySem.W.Frag) (ta:TA):TI:=fun σ H R=>ta σ H fun vs H1=>∃ t a,vs=[.ref a]∧(∃ xs,SqB K H1 t a xs)∧R (Ite K t a) H1
theorem pi_enum {a:Expr}{ta:TA}{p pos:Pos} (hg:Gl X "enumerate") (hm:X.mg "enumerate" = none) (ha:PA X [a] ta) (hs:starEach [a] X.env=[(false,eval a X.env)]:=by rfl):PI X tg (.Call (.Name "enumerate" p) [a] [] pos) (iEnum X.K ta):=by
 intro pins s σ H R I h
 refine Call_ (ld_blt I hg hm boot_enum (PyProof.Rows.callWith_type1 (cH (ha pos pins s σ H _ I h) fun us s1 ⟨vs,H1,I1,r1,q1⟩=>?_) hs rfl))
 obtain⟨t,a1,e,⟨xs,hq⟩,q⟩:=q1
 subst e
 cases r1 with
 | cons r rr=>
  cases rr
  cases r
  obtain⟨its,rv,p,hz⟩:=I1.src hq
  refine call_enum p fun h' he i1 hk=>?_
  refine pyIter_enum (s:={ s1 with heap:=h' }) he ?_
  refine⟨_,fpz s1.heap.objs.size 2,tne s1.heap.objs.size a1 t,_,H1,rfl,I1.kept (t':=s1.toks) hk,turn_enum _ _ _,⟨.none,false,.none,.inl rfl,he,i1,p.lt⟩,fun b hb=>?_,q⟩
  obtain⟨k,_,rfl⟩:=cX.mp hb
  exact I1.fpOk (Nat.le_add_right _ _) (I1.hok.fresh (Nat.le_add_right _ _))
theorem pi_zip2 {a b:Expr}{ta:TA}{p pos:Pos} (hg:Gl X "zip") (hm:X.mg "zip" = none) (ha:PA X [a,b] ta) (hs:starEach [a,b] X.env=[(false,eval a X.env),(false,eval b X.env)]:=by rfl) (hs2:starEach [b] X.env=[(false,eval b X.env)]:=by rfl) :
  PI X tg (.Call (.Name "zip" p) [a,b] [] pos) (iZip2 X.K ta):=by
 intro pins s σ H R I h
 refine Call_ (ld_blt I hg hm boot_zip (PyProof.Rows.callWith_type1 (cH (ha pos pins s σ H _ I h) fun us s1 ⟨vs,H1,I1,r1,q1⟩=>?_) (by rw[hs,hs2]) (by rw[hs2];rfl)))
 obtain⟨t1,t2,a1,a2,e,⟨xs,hq1⟩,⟨ys,hq2⟩,q⟩:=q1
 subst e
 cases r1 with
 | cons r rr=>
  cases rr with
  | cons r' rr=>
   cases rr
   cases r
   cases r'
   obtain⟨its,rv,p1,hz⟩:=I1.src hq1
   obtain⟨its2,rv2,p2,hz2⟩:=I1.src hq2
   refine call_zip2 p1 p2 fun h' hz' hTI hTO i1 i2 hk=>?_
   refine pyIter_zip (s:={ s1 with heap:=h' }) hz' ?_
   refine⟨_,fpz s1.heap.objs.size 5,tnz2 s1.heap.objs.size a1 a2 t1 t2,_,H1,rfl,I1.kept (t':=s1.toks) hk,turn_zip2 _ _ _ _ _,⟨.none,false,_,_,.inl rfl,hz',hTI,hTO,i1,i2,p1.lt,p2.lt⟩,fun b hb=>?_,q⟩
   obtain⟨k,_,rfl⟩:=cX.mp hb
   exact I1.fpOk (Nat.le_add_right _ _) (I1.hok.fresh (Nat.le_add_right _ _))
theorem pi_zip3 {a b c:Expr}{ta:TA}{p pos:Pos} (hg:Gl X "zip") (hm:X.mg "zip" = none) (ha:PA X [a,b,c] ta) (hs:starEach [a,b,c] X.env=[(false,eval a X.env),(false,eval b X.env),(false,eval c X.env)]:=by rfl)
  (hs2:starEach [b,c] X.env=[(false,eval b X.env),(false,eval c X.env)]:=by rfl) :
  PI X tg (.Call (.Name "zip" p) [a,b,c] [] pos) (iZip3 X.K ta):=by
 intro pins s σ H R I h
 refine Call_ (ld_blt I hg hm boot_zip (PyProof.Rows.callWith_type1 (cH (ha pos pins s σ H _ I h) fun us s1 ⟨vs,H1,I1,r1,q1⟩=>?_) (by rw[hs,hs2]) (by rw[hs2];rfl)))
 obtain⟨t1,t2,t3,a1,a2,a3,e,⟨xs,hq1⟩,⟨ys,hq2⟩,⟨zs,hq3⟩,q⟩:=q1
 subst e
 cases r1 with
 | cons r rr=>
  cases rr with
  | cons r' rr=>
   cases rr with
   | cons r'' rr=>
    cases rr
    cases r
    cases r'
    cases r''
    obtain⟨its,rv,p1,hz⟩:=I1.src hq1
    obtain⟨its2,rv2,p2,hz2⟩:=I1.src hq2
    obtain⟨its3,rv3,p3,hz3⟩:=I1.src hq3
    refine call_zip3 p1 p2 p3 fun h' hz' hTI hTO i1 i2 i3 hk=>?_
    refine pyIter_zip (s:={ s1 with heap:=h' }) hz' ?_
    refine⟨_,fpz s1.heap.objs.size 6,tnz3 s1.heap.objs.size a1 a2 a3 t1 t2 t3,_,H1,rfl,I1.kept (t':=s1.toks) hk,turn_zip3 _ _ _ _ _ _ _,⟨.none,false,_,_,_,.inl rfl,hz',hTI,hTO,i1,i2,i3,p1.lt,p2.lt,p3.lt⟩,fun b hb=>?_,q⟩
    obtain⟨k,_,rfl⟩:=cX.mp hb
    exact I1.fpOk (Nat.le_add_right _ _) (I1.hok.fresh (Nat.le_add_right _ _))
end
end L2
namespace L2
open PySem PySem.Spec PyProof.Rows TwZ
section
variable {prog:Program}{w:World}{A:Around}{E:Value→Shared→Prop}{s:Shared}{l:Addr}{xs:Array (Int×Tok)}
theorem sum_intTup {Q:Value→Shared→Prop} (hh:A.handled=none) (hl:s.heap.IsTuple l (intItems xs))
  (h:∀ h' tk t',(∀ b o,s.heap.get? b=some o→h'.get? b=some o)→Q (.int (preSum (numAt xs) xs.size) t') { s with heap:=h',toks:=tk }) :
  wpAny (model prog w) A (call (.builtin "sum") [.ref l]) Q E s:=by
 have hlt:l < s.heap.objs.size:=by obtain⟨_,e,_⟩:=hl;exact Heap.lt_size e
 refine call_sum_walkG (wpAny_pyIter_tuple hl ?_)
 refine⟨_,_,_,_,_,_,numAt xs,rfl,Walks.tuple (A:=A.in1) hh _ l (Nat.ne_of_lt hlt) (intItems xs),⟨⟨_,Heap.get?_push_size _ rfl,rfl,rfl⟩,hl.push _⟩,fun b hb=>?_,(fun _ _=>intItems_at),fun h' tk t' hk=>?_⟩
 ·show b < (s.heap.push _).objs.size
  rw[Heap.size_push]
  rcases List.mem_cons.mp hb with rfl | hb
  ·exact Nat.lt_succ_self _
  ·rcases List.mem_cons.mp hb with rfl | hb
   ·exact Nat.lt_succ_of_lt hlt
   ·cases hb
 ·have:=h h' tk t' (fun b o e=>hk b o (fun hm=>by rw[List.mem_singleton.mp hm] at e;exact Nat.lt_irrefl _ (Heap.lt_size e)) (Heap.get?_push_of_some _ e))
  simpa [intItems] using this
theorem sum_intSrc {t:Bool}{vs:List Value}{ns:List Int}{Q:Value→Shared→Prop} (hh:A.handled=none) (hl:bM s.heap t l vs.toArray) (hi:IntsAre vs ns)
  (h:∀ h' tk t',(∀ b o,s.heap.get? b=some o→h'.get? b=some o)→Q (.int ns.sum t') { s with heap:=h',toks:=tk }) :
  wpAny (model prog w) A (call (.builtin "sum") [.ref l]) Q E s:=by
 obtain⟨xs,hx⟩:=hi.allInts.items
 have hn:numsOf vs.toArray.toList=ns:=by rw[show vs.toArray.toList=vs from rfl,hi.numsOf]
 rw[hx] at hl hn
 rw[nums_intItems] at hn
 have e:preSum (numAt xs) xs.size=ns.sum:=by rw[preSum_eq,List.take_of_length_le (by simp),hn]
 cases t with
 | true=>exact sum_intTup hh hl fun h' tk t' hk=>by rw[e];exact h h' tk t' hk
 | false=>exact sum_intListG hh hl fun h' tk t' hk=>by rw[e];exact h h' tk t' hk
theorem all_src {t:Bool}{vs:List Value}{bs:List Bool}{Q:Value→Shared→Prop} (hh:A.handled=none) (hl:bM s.heap t l vs.toArray) (hb:bE (bs.map V.bl) vs)
  (h:∀ h' tk,(∀ b o,s.heap.get? b=some o→h'.get? b=some o)→Q (.bool (bs.all id)) { s with heap:=h',toks:=tk }):wpAny (model prog w) A (call (.builtin "all") [.ref l]) Q E s:=by
 have hlt:l < s.heap.objs.size:=hl.lt
 have hlen:=hb.length
 rw[List.length_map] at hlen
 have key:∀ (P:Nat→Value→Prop),(∀ i v,P i v→vs[i]? = some v)→TruthOf prog w A.in1 P (fun i=>(bs[i]?).getD true):=fun P hP i v s' Q' E' hp hQ=>by
  have hv:=hP i v hp
  have hi:i < vs.length:=(List.getElem?_eq_some_iff.mp hv).1
  have hb':(bs.map V.bl)[i]? = some (V.bl bs[i]):=by simp [show i < bs.length by omega]
  obtain⟨u,hu,ru⟩:=hb.get hb'
  rw[hv] at hu
  cases hu
  cases ru
  have e:(bs[i]?).getD true=bs[i]:=by simp [show i < bs.length by omega]
  have hQ2:Q' ((bs[i]?).getD true) s':=hQ
  rw[e] at hQ2
  exact wpAny_truthy_bool hQ2
 have rng:((List.range vs.toArray.size).all fun i=>(bs[i]?).getD true)=bs.all id:=by
  rw[List.size_toArray,← hlen,Bool.eq_iff_iff,List.all_eq_true,List.all_eq_true]
  constructor
  ·intro hq b hb'
   obtain⟨i,hi,rfl⟩:=List.getElem_of_mem hb'
   have:=hq i (List.mem_range.mpr hi)
   simpa [hi] using this
  ·intro hq i hi
   have hi':=List.mem_range.mp hi
   have:=hq bs[i] (List.getElem_mem hi')
   simpa [hi'] using this
 have kept:∀ {h':Heap}{o:Obj},(∀ b x,b∉[s.heap.objs.size]→(s.heap.push o).get? b=some x→h'.get? b=some x)→∀ b x,s.heap.get? b=some x→h'.get? b=some x:=fun hk b x e=>
  hk b x (fun hm=>by rw[List.mem_singleton.mp hm] at e;exact Nat.lt_irrefl _ (Heap.lt_size e)) (Heap.get?_push_of_some _ e)
 cases t with
 | true=>
  refine call_all_walk (wpAny_pyIter_tuple hl ?_)
  refine⟨s.heap.objs.size,[s.heap.objs.size,l],[s.heap.objs.size],vs.toArray.size,_,_,fun i=>(bs[i]?).getD true,rfl,Walks.tuple (A:=A.in1) hh _ l (Nat.ne_of_lt hlt) vs.toArray,
   ⟨⟨_,Heap.get?_push_size _ rfl,rfl,rfl⟩,Heap.IsTuple.push hl _⟩,key _ (fun i v hp=>by simpa using hp),fun h' tk hk=>?_⟩
  rw[rng]
  exact h h' tk (kept hk)
 | false=>
  refine call_all_walk (wpAny_pyIter_list hl ?_)
  refine⟨s.heap.objs.size,[s.heap.objs.size,l],[s.heap.objs.size],vs.toArray.size,_,_,fun i=>(bs[i]?).getD true,rfl,Walks.list (A:=A.in1) hh _ l (Nat.ne_of_lt hlt) vs.toArray,
   ⟨⟨_,Heap.get?_push_size _ rfl,rfl,rfl⟩,Heap.IsList.push hl _⟩,key _ (fun i v hp=>by simpa using hp),fun h' tk hk=>?_⟩
  rw[rng]
  exact h h' tk (kept hk)
end
section
variable {X:Cx}
noncomputable def rSum (K:PySem.W.Frag):List V→Hp→VK→Prop:=fun xs H Q=>∃ (t:Bool) (p:Addr) (ns:List Int),xs=[.ref p]∧SqB K H t p (ns.map V.int)∧Q (.int ns.sum) H
theorem call_sumB (hc:X.calm=true):eD X (.builtin "sum") (rSum X.K):=by
 intro pins s σ H xs us Q I r h
 obtain⟨t,p,ns,rfl,hq,q⟩:=h
 obtain⟨u,rfl,ru⟩:=r.one
 cases ru
 obtain⟨its,rv,p1,hz⟩:=I.src hq
 refine sum_intSrc (I.ok.hd hc) p1 (intsAre_of rv) fun h' tk t' hk=>⟨.int ns.sum,H,I.kept hk,⟨t',rfl⟩,q⟩
noncomputable def rAll (K:PySem.W.Frag):List V→Hp→VK→Prop:=fun xs H Q=>∃ (t:Bool) (p:Addr) (bs:List Bool),xs=[.ref p]∧SqB K H t p (bs.map V.bl)∧Q (.bl (bs.all id)) H
theorem call_allB (hc:X.calm=true):eD X (.builtin "all") (rAll X.K):=by
 intro pins s σ H xs us Q I r h
 obtain⟨t,p,bs,rfl,hq,q⟩:=h
 obtain⟨u,rfl,ru⟩:=r.one
 cases ru
 obtain⟨its,rv,p1,hz⟩:=I.src hq
 refine all_src (I.ok.hd hc) p1 rv fun h' tk hk=>⟨.bl (bs.all id),H,I.kept hk,rfl,q⟩
noncomputable def TyS (K:PySem.W.Frag) (H:Hp) (x:V) (t:Value):Prop:=TyOf K H x t∨∃ a ys,x=.ref a∧bH K H a ys∧t=.type "tuple"
noncomputable def rIsi (K:PySem.W.Frag):List V→Hp→VK→Prop:=fun xs H Q=>∃ x T t b,xs=[x,.ty T]∧TyS K H x t∧PySem.W.kitOne K t (.type T)=some b∧Q (.bl b) H
theorem call_isi:eD X (.builtin "isinstance") (rIsi X.K):=by
 intro pins s σ H xs us Q I r h
 obtain⟨x,T,t,b,rfl,ty,e,q⟩:=h
 obtain⟨u,v,rfl,ru,rv⟩:=r.two
 cases rv
 rcases ty with ty | ⟨a,ys,rfl,hq,rfl⟩
 ·exact isinst_ok I ru ty e fun tk=>⟨.bl b,H,I.tok tk,rfl,q⟩
 ·cases (show u=Value.ref a from ru)
  obtain⟨its,rv',⟨o,h1,h2,_⟩,_⟩:=I.tuple hq
  exact PySem.W.kia_one PySem.W.kitx_tuple I.kIn ⟨o,h1,h2⟩ e (fun z=>nomatch z) fun tk=>⟨.bl b,H,I.tok tk,rfl,q⟩
end
theorem noFill_tuple_mul:fillsNumberSlot (.type "tuple") "mul" = pure false:=
 PySem.fillsNumberSlot_seq (id := "tuple.__mul__") (r:=some (.builtin "tuple.__rmul__")) F.slot_tuple_mul.lookup (by decide +kernel) F.slot_tuple_rmul.lookup (by decide +kernel)
theorem repeat_tuple:seqRepeat? (.type "tuple")=pure (some (.builtin "tuple.__mul__")):=by
 unfold seqRepeat?
 rw[PySem.seqSlot_of (T := "tuple") (name := "__mul__") (id := "tuple.__mul__") F.slot_tuple_mul.lookup (by decide +kernel),PySem.seqSlot_of (T := "tuple") (name := "__rmul__") (id := "tuple.__rmul__") F.slot_tuple_rmul.lookup (by decide +kernel)]
 rfl
theorem int_rmul_tuple (a:Int) (t:Tok) (l:Addr) (items:Array Value) (n:Nat) (dd:Option Addr) (sl:Array (Option Value)) :
  Meets (Builtin.«int.__rmul__» ⟨[.int a t,.ref l],[]⟩) (fun _ R s=>s.heap.get? l=some { cls:=.type "tuple",dict:=dd,data:=.seq items n,slots:=sl }∧R (.ok (.ret Value.notImplemented)) s):=
 .of_wp fun prog w A R s h=>by obtain⟨hp,g,d,tk,os⟩:=s;obtain⟨hl,h⟩:=h;wp_walk;exact⟨_,rfl,h⟩
theorem tuple_mul_one (l:Addr) (items:Array Value) (n:Nat) (u:Tok) (dd:Option Addr) (sl:Array (Option Value)) :
  Meets (Builtin.«tuple.__mul__» ⟨[.ref l,.int 1 u],[]⟩) (fun _ R s=>s.heap.get? l=some { cls:=.type "tuple",dict:=dd,data:=.seq items n,slots:=sl }∧R (.ok (.ret (.ref l))) s):=
 .of_wp fun prog w A R s h=>by
  obtain⟨hp,g,d,tk,os⟩:=s;obtain⟨hl,h⟩:=h
  have c1:(items.isEmpty || (1:Int) == 1)=true:=by simp
  wp_walk
  exact⟨_,rfl,h⟩
theorem tuple_mul_many (l:Addr) (items:Array Value) (n:Nat) (x:Int) (u:Tok) (dd:Option Addr) (sl:Array (Option Value)) (c0:¬ (decide (x < -(2 ^ 63)) || decide (x ≥ 2 ^ 63))=true) (c1:¬ (items.isEmpty || x == 1)=true)
  (c2:¬ (decide (x≤0) || items.isEmpty)=true) (c3:¬ (items.size:Int) * x > (2 ^ 63 - 1) / 8) (c4:¬ Builtin.Tuple.tupleTooMany ((items.size:Int) * x)=true) (hsz:(List.foldl (fun x1 x2=>x1++x2) #[] (List.replicate x.toNat items)).size≤sizeLine) :
  Meets (Builtin.«tuple.__mul__» ⟨[.ref l,.int x u],[]⟩) (fun _ R s=>s.heap.get? l=some { cls:=.type "tuple",dict:=dd,data:=.seq items n,slots:=sl }∧
   R (.ok (.ret (.ref s.heap.objs.size))) { s with heap:=s.heap.push { cls:=.type "tuple",data:=.seq (List.foldl (fun x1 x2=>x1++x2) #[] (List.replicate x.toNat items)) } }):=
 .of_wp fun prog w A R s h=>by
  obtain⟨hp,g,d,tk,os⟩:=s;obtain⟨hl,h⟩:=h
  wp_walk
  rw[if_neg c0]
  wp_walk
  all_goals (try rw[if_neg c1])
  wp_walk
  all_goals (try rw[if_neg c2])
  wp_walk
  all_goals (try rw[if_neg c3])
  wp_walk
  all_goals (try rw[if_neg c4])
  wp_walk
  exact⟨_,rfl,h⟩
theorem aK.tup {K:PySem.W.Frag}{H H':Hp}{a:Addr}{xs:List V} (e:aK H H') (h:bH K H a xs):bH K H' a xs:=by
 rcases h with (h | ⟨o,h⟩) | h
 ·exact .inl (.inl (e _ _ h))
 ·exact .inl (.inr ⟨o,e _ _ h⟩)
 ·exact .inr h
theorem aK.new {H:Hp}{p:Addr}{o:HO} (h:H p=none):aK H (upd H p o):=fun b u e=>by rw[aM (aN e h)];exact e
section
variable {X:Cx}
noncomputable def rRepT (K:PySem.W.Frag):R2:=fun x y H Q=>∃ (l:Addr) (k:Int) (xs:List V),x=.ref l∧y=.int k∧bH K H l xs∧1≤k∧k < 1000000∧xs≠[]∧xs.length≤10∧
 ∀ p H',aK H H'→bH K H' p (List.replicate k.toNat xs).flatten→Q (.ref p) H'
theorem op_repT:OpR X (binaryOp .Mult) (rRepT X.K):=by
 intro pins s σ H x y v u Q I rx ry h
 obtain⟨l,k,xs,rfl,rfl,hq,h1,h2,hne,hl10,q⟩:=h
 cases rx
 obtain⟨t,rfl⟩:=ry
 obtain⟨its,r,ht,z⟩:=I.tuple hq
 have hlen:=r.length
 obtain⟨⟨cls,dd,data,sl⟩,e,hc,n,hd⟩:=id ht
 simp only at hc hd
 subst hc hd
 refine wpAny_binaryOp_repeat_ref (T := "tuple") (U := "int") (by decide) ⟨_,e,rfl⟩ (fun s'=>typeIs_int s' k t) noFill_tuple_mul F.fills_int_mul F.slot_int_rmul repeat_tuple F.slot_int_index.lookup
  (call_meets F.slot_int_rmul (typeIs_int s k t) F.entry_int_rmul (F.args_int_rmul_2 _ _) (int_rmul_tuple k t l its.toArray n dd sl) ⟨e,rfl,⟨_,e,rfl⟩,?_⟩)
 by_cases hk:k=1
 ·subst hk
  refine call_meets F.slot_tuple_mul ⟨_,e,rfl⟩ F.entry_tuple_mul (F.args_tuple_mul_2 _ _) (tuple_mul_one l its.toArray n t dd sl) ⟨e,?_⟩
  refine⟨.ref l,H,I,rfl,q l H (aK.refl H) ?_⟩
  have e1:(List.replicate (1:Int).toNat xs).flatten=xs:=by simp
  rw[e1];exact hq
 ·have hne':its≠[]:=fun z=>by rw[z] at hlen;exact hne (List.eq_nil_of_length_eq_zero hlen)
  have f0:List.foldl (fun x1 x2=>x1++x2) #[] (List.replicate k.toNat its.toArray)=(List.replicate k.toNat its).flatten.toArray:=by
   have:=foldl_rep its k.toNat []
   rw[List.nil_append] at this
   exact this
  have hemp:its.toArray.isEmpty=false:=by cases its with
   | nil=>exact absurd rfl hne'
   | cons a r=>rfl
  have hszN:k.toNat * its.length≤sizeLine:=by
   have a1:its.length≤10:=by omega
   have a2:k.toNat≤1000000:=by omega
   have:=Nat.mul_le_mul a2 a1
   rw[sizeLine_eq];omega
  have hprod:((its.toArray.size:Nat):Int) * k≤16777216:=by
   have a1:((its.toArray.size:Nat):Int)≤10:=by rw[List.size_toArray];omega
   have:=Int.mul_le_mul a1 (show k≤1000000 by omega) (by omega) (by omega)
   omega
  refine call_meets F.slot_tuple_mul ⟨_,e,rfl⟩ F.entry_tuple_mul (F.args_tuple_mul_2 _ _) (tuple_mul_many l its.toArray n k t dd sl (by simp;omega) (by rw[hemp];simp;exact hk) (by rw[hemp];simp;omega) (by omega) (by
    unfold Builtin.Tuple.tupleTooMany
    rw[decide_eq_true_iff]
    rw[sizeLine_eq]
    omega) (by rw[f0,List.size_toArray,len_rep];exact hszN)) ⟨e,?_⟩
  have I1:=I.laid (a:=s.heap.objs.size) (o:=.tup (List.replicate k.toNat xs).flatten) (h':=s.heap.push { cls:=.type "tuple",data:=.seq (List.foldl (fun x1 x2=>x1++x2) #[] (List.replicate k.toNat its.toArray)) }) (t':=s.toks)
   (fun _ _ q=>Heap.get?_push_of_some _ q) (Nat.le_refl _) ⟨by rw[len_rep,hlen];exact hszN,(List.replicate k.toNat its).flatten,r.rep k.toNat,⟨_,Heap.get?_push_size _ rfl,rfl,0,by simp only [f0]⟩⟩
  exact⟨.ref _,_,I1,rfl,q _ _ (aK.new I.fresh) (bH.of aB)⟩
end
inductive D where
 | non | bl (b:Bool) | int (i:Int) | str (x:Str) | tup (ds:List D)
mutual
noncomputable def Is (K:PySem.W.Frag) (H:Hp):D→V→Prop
 | .non,v=>v=.non
 | .bl b,v=>v=.bl b
 | .int i,v=>v=.int i
 | .str x,v=>v=.str x
 | .tup ds,v=>∃ a xs,v=.ref a∧bH K H a xs∧IsL K H ds xs
noncomputable def IsL (K:PySem.W.Frag) (H:Hp):List D→List V→Prop
 | [],xs=>xs=[]
 | d::ds,xs=>∃ x r,xs=x::r∧Is K H d x∧IsL K H ds r
end
noncomputable def bL (K:PySem.W.Frag) (H H':Hp):Prop:=∀ a xs,bH K H a xs→bH K H' a xs
theorem bL.refl {K:PySem.W.Frag} (H:Hp):bL K H H:=fun _ _ h=>h
theorem bL.trans {K:PySem.W.Frag}{H H1 H2:Hp} (a:bL K H H1) (b:bL K H1 H2):bL K H H2:=fun c xs h=>b c xs (a c xs h)
theorem aK.ts {K:PySem.W.Frag}{H H':Hp} (e:aK H H'):bL K H H':=fun _ _ h=>e.tup h
mutual
theorem Is.mono {K:PySem.W.Frag}{H H':Hp} (t:bL K H H'):∀ (d:D) (v:V),Is K H d v→Is K H' d v
 | .non,_,h=>h
 | .bl _,_,h=>h
 | .int _,_,h=>h
 | .str _,_,h=>h
 | .tup ds,v,h=>by
  rw[Is] at h ⊢
  obtain⟨a,xs,e,q,l⟩:=h
  exact⟨a,xs,e,t a xs q,IsL.mono t ds xs l⟩
theorem IsL.mono {K:PySem.W.Frag}{H H':Hp} (t:bL K H H'):∀ (ds:List D) (xs:List V),IsL K H ds xs→IsL K H' ds xs
 | [],xs,h=>h
 | d::ds,xs,h=>by
  rw[IsL] at h ⊢
  obtain⟨x,r,e,hx,hr⟩:=h
  exact⟨x,r,e,Is.mono t d x hx,IsL.mono t ds r hr⟩
end
theorem IsL.length {K:PySem.W.Frag}{H:Hp}:∀ {ds:List D}{xs:List V},IsL K H ds xs→xs.length=ds.length
 | [],xs,h=>by rw[IsL] at h;subst h;rfl
 | d::ds,xs,h=>by
  rw[IsL] at h
  obtain⟨x,r,rfl,_,hr⟩:=h
  rw[List.length_cons,List.length_cons,IsL.length hr]
theorem IsL.get {K:PySem.W.Frag}{H:Hp}:∀ {ds:List D}{xs:List V}{i:Nat}{d:D},IsL K H ds xs→ds[i]? = some d→∃ x,xs[i]? = some x∧Is K H d x
 | [],_,_,_,_,e=>by simp at e
 | d::ds,xs,0,d',h,e=>by
  rw[IsL] at h
  obtain⟨x,r,rfl,hx,hr⟩:=h
  simp at e
  subst e
  exact⟨x,rfl,hx⟩
 | d::ds,xs,i+1,d',h,e=>by
  rw[IsL] at h
  obtain⟨x,r,rfl,hx,hr⟩:=h
  obtain⟨y,h1,h2⟩:=IsL.get hr (i:=i) (by simpa using e)
  exact⟨y,by simpa using h1,h2⟩
theorem IsL.get' {K:PySem.W.Frag}{H:Hp}{ds:List D}{xs:List V}{i:Nat}{x:V} (h:IsL K H ds xs) (e:xs[i]? = some x):∃ d,ds[i]? = some d∧Is K H d x:=by
 have hl:=h.length
 have hi:i < ds.length:=by rw[← hl];exact (List.getElem?_eq_some_iff.mp e).1
 obtain⟨y,h1,h2⟩:=h.get (i:=i) (d:=ds[i]) (by simp [hi])
 rw[e] at h1
 cases h1
 exact⟨ds[i],by simp [hi],h2⟩
theorem IsL.snoc {K:PySem.W.Frag}{H:Hp}{d:D}{x:V} (hd:Is K H d x):∀ {ds:List D}{xs:List V},IsL K H ds xs→IsL K H (ds++[d]) (xs++[x])
 | [],xs,h=>by
  rw[IsL] at h
  subst h
  show IsL K H [d] [x]
  rw[IsL]
  exact⟨x,[],rfl,hd,by rw[IsL]⟩
 | d'::ds,xs,h=>by
  rw[IsL] at h
  obtain⟨y,r,rfl,hy,hr⟩:=h
  show IsL K H (d'::(ds++[d])) (y::(r++[x]))
  rw[IsL]
  exact⟨y,r++[x],rfl,hy,IsL.snoc hd hr⟩
theorem IsL.ints {K:PySem.W.Frag}{H:Hp}:∀ {ns:List Int}{xs:List V},IsL K H (ns.map D.int) xs→xs=ns.map V.int
 | [],xs,h=>by rw[List.map_nil,IsL] at h;exact h
 | n::ns,xs,h=>by
  rw[List.map_cons,IsL] at h
  obtain⟨x,r,rfl,hx,hr⟩:=h
  rw[Is] at hx
  rw[hx,IsL.ints hr,List.map_cons]
theorem IsL.of_ints {K:PySem.W.Frag}{H:Hp}:∀ (ns:List Int),IsL K H (ns.map D.int) (ns.map V.int)
 | []=>by rw[List.map_nil,List.map_nil,IsL]
 | n::ns=>by
  rw[List.map_cons,List.map_cons,IsL]
  exact⟨_,_,rfl,by rw[Is],IsL.of_ints ns⟩
theorem IsL.bools {K:PySem.W.Frag}{H:Hp}:∀ {ns:List Bool}{xs:List V},IsL K H (ns.map D.bl) xs→xs=ns.map V.bl
 | [],xs,h=>by rw[List.map_nil,IsL] at h;exact h
 | n::ns,xs,h=>by
  rw[List.map_cons,IsL] at h
  obtain⟨x,r,rfl,hx,hr⟩:=h
  rw[Is] at hx
  rw[hx,IsL.bools hr,List.map_cons]
theorem IsL.of_bools {K:PySem.W.Frag}{H:Hp}:∀ (ns:List Bool),IsL K H (ns.map D.bl) (ns.map V.bl)
 | []=>by rw[List.map_nil,List.map_nil,IsL]
 | n::ns=>by
  rw[List.map_cons,List.map_cons,IsL]
  exact⟨_,_,rfl,by rw[Is],IsL.of_bools ns⟩
section
variable {X:Cx}{pins:List (Addr×Obj)}{σ:St}{H:Hp}{s:Shared}
end
section
variable {X:Cx}
end
end L2
namespace L2
open PySem PySem.Spec PyProof.Rows TwZ
structure Callee (P:Program) (w:World) (K:PySem.W.Frag) (mg:Str→Option Value) (base:Heap) (x:Str) (ps:List Str) (k:Nat) (sp:Sp) (f:Addr) (fd:FuncData):Prop where
 ok:FnOk P w K mg base CX0 k f fd ps sp
 mg:mg x=some (.ref f)
 kp:PySem.W.keepIn K (.ref f)=true
 bd:Binds K fd ps []
theorem cU {X:Cx}{x:Str}{ps:List Str}{k n:Nat}{sp:Sp}{f:Addr}{fd:FuncData}{e:Expr}{es:List Expr}{t:TA}{p pos:Pos} (G:Callee X.prog X.w X.K X.mg X.base x ps k sp f fd) (hr:Room n X.A) (ha:PA X (e::es) t) (hg:Gl X x:=by rfl) (hle:k≤n:=by decide)
  (hdb:(x == ("__debug__" : Str))=false:=by decide) (he:starEach (e::es) X.env=(false,eval e X.env)::starEach es X.env:=by rfl) (hpl:(backTo pos (starEach es X.env)).any (·.1)=false:=by rfl) :
  PE X (.Call (.Name x p) (e::es) [] pos) (tCall sp [] E0 t):=pe_call G.ok (hr.mono hle) hg G.mg G.kp G.bd .nil pass0 ha hdb he hpl
theorem boot_isi:bootBuiltins "isinstance" = some (.builtin "isinstance"):=by decide +kernel
noncomputable def cB (t:Addr) (H H':Hp):Prop:=∀ b o,b≠t→H b=some o→H' b=some o
theorem cB.refl {t:Addr} (H:Hp):cB t H H:=fun _ _ _ h=>h
theorem cB.trans {t:Addr}{H H1 H2:Hp} (a:cB t H H1) (b:cB t H1 H2):cB t H H2:=fun c o hc h=>b c o hc (a c o hc h)
theorem aK.but {t:Addr}{H H':Hp} (a:aK H H'):cB t H H':=fun b o _ h=>a b o h
theorem cB.upd {t:Addr}{H:Hp}{o:HO}:cB t H (upd H t o):=fun b u hb h=>by rw[aM hb];exact h
theorem cB.ts {K:PySem.W.Frag}{t:Addr}{H H':Hp} (a:cB t H H') (hm:Mut (H t)):bL K H H':=by
 intro b xs h
 have ne:∀ {o:HO},H b=some o→¬ Mut (some o)→b≠t:=fun e n z=>by rw[← z,e] at hm;exact n hm
 rcases h with (h | ⟨o,h⟩) | h
 ·exact .inl (.inl (a _ _ (ne h (fun z=>z)) h))
 ·exact .inl (.inr ⟨o,a _ _ (ne h (fun z=>z)) h⟩)
 ·exact .inr h
theorem cB.free {t l:Addr}{H H':Hp} (a:cB t H H') (hl:l≠t) (h:H' l=none):H l=none:=by
 cases q:H l with
 | none=>rfl
 | some o=>rw[a l o hl q] at h;cases h
noncomputable def rGetL (K:PySem.W.Frag):V→V→Hp→VK→Prop:=fun o i H Q=>∃ (p:Addr) (xs:List V) (k:Int) (v:V),o=.ref p∧i=.int k∧cE K H p xs∧0≤k∧k < 2 ^ 63∧xs[k.toNat]? = some v∧Q v H
theorem get_list {X:Cx}:PGet X (rGetL X.K):=by
 intro pins s σ H o i ov iv Q I ro ri h
 obtain⟨p,xs,k,v,rfl,rfl,hq,h0,h1,hx,q⟩:=h
 cases ro
 obtain⟨t,rfl⟩:=ri
 obtain⟨its,r,pl,hz⟩:=I.list hq
 obtain⟨w',ew,rw'⟩:=r.get hx
 exact wpAny_getItem_list pl.isList h0 h1 (by simpa using ew) ⟨v,H,I,rw',q⟩
theorem ixN_nat {n:Nat}{k:Int} (h0:0≤k) (h1:k < n):ixN n k=some k.toNat:=by
 unfold ixN
 rw[if_pos h0,if_pos h1]
theorem atI_int {α:Type}{xs:List α}{k:Int}{v:α} (h0:0≤k) (h:xs[k.toNat]? = some v):atI xs k=some v:=by
 obtain⟨j,rfl⟩:=Int.eq_ofNat_of_zero_le h0
 exact atI_nat (by simpa using h)
theorem Is.tupOf {K:PySem.W.Frag}{H:Hp}{ds:List D}{a:Addr}{xs:List V} (q:bH K H a xs) (l:IsL K H ds xs):Is K H (.tup ds) (.ref a):=by
 rw[Is];exact⟨a,xs,rfl,q,l⟩
theorem Is.un {K:PySem.W.Frag}{H:Hp}{ds:List D}{v:V} (h:Is K H (.tup ds) v):∃ a xs,v=.ref a∧bH K H a xs∧IsL K H ds xs:=by
 rw[Is] at h;exact h
theorem IsL.un {K:PySem.W.Frag}{H:Hp}{d:D}{ds:List D}{xs:List V} (h:IsL K H (d::ds) xs):∃ x r,xs=x::r∧Is K H d x∧IsL K H ds r:=by
 rw[IsL] at h;exact h
theorem IsL.un0 {K:PySem.W.Frag}{H:Hp}{xs:List V} (h:IsL K H [] xs):xs=[]:=by
 rw[IsL] at h;exact h
theorem IsL.cons {K:PySem.W.Frag}{H:Hp}{d:D}{ds:List D}{x:V}{xs:List V} (hd:Is K H d x) (h:IsL K H ds xs):IsL K H (d::ds) (x::xs):=by
 rw[IsL];exact⟨x,xs,rfl,hd,h⟩
theorem IsL.nil {K:PySem.W.Frag}{H:Hp}:IsL K H [] []:=by rw[IsL]
theorem Is.i {K:PySem.W.Frag}{H:Hp} (i:Int):Is K H (.int i) (.int i):=by rw[Is]
theorem Is.b {K:PySem.W.Frag}{H:Hp} (i:Bool):Is K H (.bl i) (.bl i):=by rw[Is]
theorem Is.s {K:PySem.W.Frag}{H:Hp} (i:Str):Is K H (.str i) (.str i):=by rw[Is]
theorem Is.n {K:PySem.W.Frag}{H:Hp}:Is K H .non .non:=by rw[Is]
theorem Is.ui {K:PySem.W.Frag}{H:Hp}{i:Int}{v:V} (h:Is K H (.int i) v):v=.int i:=by rw[Is] at h;exact h
theorem Is.ub {K:PySem.W.Frag}{H:Hp}{i:Bool}{v:V} (h:Is K H (.bl i) v):v=.bl i:=by rw[Is] at h;exact h
theorem Is.us {K:PySem.W.Frag}{H:Hp}{i:Str}{v:V} (h:Is K H (.str i) v):v=.str i:=by rw[Is] at h;exact h
theorem Is.u0 {K:PySem.W.Frag}{H:Hp}{v:V} (h:Is K H .non v):v=.non:=by rw[Is] at h;exact h
end L2
namespace Tw
open PySem L2
structure Vs where
 size:Int
 brim:Int
 outs:List (Option Int×Int)
 holds:Bool
 spill:Option Int
 acts:List (Str×Int)
noncomputable abbrev Spt:=Int×Int×Bool
structure Net where
 vs:List Vs
 sps:List Spt
noncomputable def tgD:Option Int→D
 | none=>.non
 | some i=>.int i
noncomputable def tgV:Option Int→V
 | none=>.non
 | some i=>.int i
noncomputable def outD (o:Option Int×Int):D:=.tup [tgD o.1,.int o.2]
noncomputable def actD (a:Str×Int):D:=.tup [.str a.1,.int a.2]
noncomputable def vsD (v:Vs):D:=.tup [.int v.size,.int v.brim,.tup (v.outs.map outD),.bl v.holds,tgD v.spill,.tup (v.acts.map actD)]
noncomputable def spD (s:Spt):D:=.tup [.int s.1,.int s.2.1,.bl s.2.2]
noncomputable def netD (n:Net):D:=.tup [.tup (n.vs.map vsD),.tup (n.sps.map spD)]
noncomputable def stD (held coming:List Int) (doors:List Bool):D:=.tup [.tup (held.map D.int),.tup (coming.map D.int),.tup (doors.map D.bl)]
theorem Is.tg {K:PySem.W.Frag}{H:Hp}{t:Option Int}{v:V} (h:Is K H (tgD t) v):v=tgV t:=by
 cases t with
 | none=>exact h.u0
 | some i=>exact h.ui
theorem Is.tgOf {K:PySem.W.Frag}{H:Hp} (t:Option Int):Is K H (tgD t) (tgV t):=by
 cases t with
 | none=>exact Is.n
 | some i=>exact Is.i i
structure OutOk (n:Nat) (o:Option Int×Int):Prop where
 tg:∀ t,o.1=some t→0≤t∧t < n
 lo:1≤o.2
 hi:o.2≤60
structure ActOk (m:Nat) (a:Str×Int):Prop where
 word:a.1 = "open" ∨ a.1 = "shut" ∨ a.1 = "turn"
 lo:0≤a.2
 hi:a.2 < m
structure VOk (n m:Nat) (v:Vs):Prop where
 size:1≤v.size
 ne:v.outs≠[]
 o3:v.outs.length≤3
 outs:∀ o∈v.outs,OutOk n o
 spill:∀ t,v.spill=some t→0≤t∧t < n
 a3:v.acts.length≤3
 acts:∀ a∈v.acts,ActOk m a
structure NetOk (net:Net):Prop where
 lo:1≤net.vs.length
 hi:net.vs.length≤12
 sp:net.sps.length≤12
 vs:∀ v∈net.vs,VOk net.vs.length net.sps.length v
 sps:∀ s∈net.sps,0≤s.1∧s.1 < net.vs.length
noncomputable def whole (outs:List (Option Int×Int)):Int:=(outs.map (·.2)).sum
theorem whole_pos {n:Nat}:∀ {outs:List (Option Int×Int)},outs≠[]→(∀ o∈outs,OutOk n o)→1≤whole outs
 | [],h,_=>absurd rfl h
 | o::r,_,h=>by
  have h1:=(h o List.mem_cons_self).lo
  have h2:0≤whole r:=by
   clear h1
   have:∀ (r:List (Option Int×Int)),(∀ o∈r,OutOk n o)→0≤whole r:=by
    intro r
    induction r with
    | nil=>intro _;exact Int.le_refl _
    | cons o r ih=>
     intro h
     have h1:=(h o List.mem_cons_self).lo
     have h2:=ih fun o ho=>h o (List.mem_cons_of_mem _ ho)
     show 0≤o.2+whole r
     omega
   exact this r fun o ho=>h o (List.mem_cons_of_mem _ ho)
  show 1≤o.2+whole r
  omega
theorem whole_le {n:Nat}:∀ {outs:List (Option Int×Int)},(∀ o∈outs,OutOk n o)→whole outs≤60 * outs.length
 | [],_=>Int.le_refl _
 | o::r,h=>by
  have h1:=(h o List.mem_cons_self).hi
  have h2:=whole_le fun o ho=>h o (List.mem_cons_of_mem _ ho)
  show o.2+whole r≤_
  rw[List.length_cons]
  omega
noncomputable def bJ (k:Option Int):List (Option Int×Int)→Int
 | []=>0
 | g::r=>(if g.1=k then g.2 else 0)+bJ k r
theorem sumFor_append (k:Option Int):∀ (a b:List (Option Int×Int)),bJ k (a++b)=bJ k a+bJ k b
 | [],b=>by simp [bJ]
 | g::r,b=>by
  show (if g.1=k then g.2 else 0)+bJ k (r++b)=(if g.1=k then g.2 else 0)+bJ k r+bJ k b
  rw[sumFor_append k r b];omega
noncomputable def cC (v:Vs) (has:Int):Int:=min has v.brim
noncomputable def dO (v:Vs) (has:Int):Bool:=decide (v.size≤cC v has)
noncomputable def shared (v:Vs) (here:Int):List (Option Int×Int):=v.outs.map fun o=>(o.1,here / whole v.outs * o.2)
noncomputable def dP (v:Vs) (has:Int):List (Option Int×Int):=
 (v.spill,has - cC v has)::(if dO v has=true then shared v (cC v has)++(if v.holds=true then [] else [(none,cC v has % whole v.outs)]) else [])
noncomputable def vStay (v:Vs) (has:Int):Int:=if dO v has=true then (if v.holds=true then cC v has % whole v.outs else 0) else cC v has
theorem vGoes_len {n m:Nat}{v:Vs} (ok:VOk n m v) (has:Int):(dP v has).length≤5:=by
 unfold dP shared
 have:=ok.o3
 split
 ·split <;> simp <;> omega
 ·simp
noncomputable def fill1 (has:List Int) (s:Spt) (d:Bool):List Int:=if d=true then has.set s.1.toNat (has.getD s.1.toNat 0+s.2.1) else has
noncomputable def fillL:List Int→List Spt→List Bool→List Int
 | has,s::ss,d::ds=>fillL (fill1 has s d) ss ds
 | has,_,_=>has
noncomputable def add3:List Int→List Int→List Int→List Int
 | a::as,b::bs,c::cs=>(a+b+c)::add3 as bs cs
 | _,_,_=>[]
noncomputable def bB (net:Net) (held coming poured:List Int) (doors:List Bool):List Int:=fillL (add3 held coming poured) net.sps doors
noncomputable def dX:List Vs→List Int→List (Option Int×Int)
 | v::vs,h::hs=>dP v h++dX vs hs
 | _,_=>[]
noncomputable def eA:List Vs→List Int→List Int
 | v::vs,h::hs=>vStay v h::eA vs hs
 | _,_=>[]
noncomputable def cJ:Nat→List Vs→List Int→List Nat
 | i,v::vs,h::hs=>if dO v h=true then i::cJ (i+1) vs hs else cJ (i+1) vs hs
 | _,_,_=>[]
noncomputable def act1 (doors:List Bool) (a:Str×Int):List Bool:=doors.set a.2.toNat (if a.1 = "open" then true else if a.1 = "turn" then !(doors.getD a.2.toNat false) else false)
noncomputable def dF (doors:List Bool) (as:List (Str×Int)):List Bool:=as.foldl act1 doors
noncomputable def cG (vs:List Vs) (doors:List Bool) (tip:List Nat):List Bool:=tip.foldl (fun ds i=>match vs[i]? with | some v=>dF ds v.acts | none=>ds) doors
noncomputable def laterL (n:Nat) (goes:List (Option Int×Int)):List Int:=(List.range n).map fun (k:Nat)=>bJ (some (k:Int)) goes
structure Tick where
 held:List Int
 coming:List Int
 doors:List Bool
 tip:List Nat
 ground:Int
noncomputable def cZ (net:Net) (held coming poured:List Int) (doors:List Bool):Tick:=
 let hs:=bB net held coming poured doors
 ⟨eA net.vs hs,laterL net.vs.length (dX net.vs hs),cG net.vs doors (cJ 0 net.vs hs),cJ 0 net.vs hs,bJ none (dX net.vs hs)⟩
noncomputable def tickD (t:Tick):D:=.tup [stD t.held t.coming t.doors,.tup (t.tip.map fun (i:Nat)=>D.int (i:Int)),.int t.ground]
end Tw
namespace L2
open PySem PySem.Spec PyProof.Rows TwZ
section
variable {K:PySem.W.Frag}{g:TG}{tc:TT}{te:TE}{fr:List (Option Nat)}{σ:St}{H1:Hp}{Q:Addr→Hp→Prop}
theorem lc_tup {a:Addr}{xs:List V} (Pv:Addr→Nat→List V→St→Hp→Prop) (hq:∀ D i ys σ H,Pv D i ys σ H→bH K H a xs)
  (h0:∀ D,H1 D=none→Pv D 0 [] (frσ fr σ) (upd H1 D (.lst []))) (hstop:∀ D ys σ' H',Pv D xs.length ys σ' H'→Q D H')
  (hgo:∀ D i x ys σ' H',xs[i]? = some x→Pv D i ys σ' H'→g x σ' H' fun σ3 H3=>tc σ3 H3 fun b H4=>
    if b=true then te σ3 H4 fun y H5=>H5 D=some (.lst ys)∧ys.length < sizeLine∧Pv D (i+1) (ys++[y]) σ3 (upd H5 D (.lst (ys++[y])))
    else Pv D (i+1) ys σ3 H4):lcRest (Itt K a) g tc te fr σ H1 Q:=by
 refine lc_gen (n:=xs.length) Pv h0 (fun D ys σ' H' p=>⟨⟨xs,hq D _ ys σ' H' p,Nat.le_refl _⟩,hstop D ys σ' H' p⟩) fun D i ys σ' H' hi p=>⟨⟨xs,xs[i],hq D _ ys σ' H' p,by simp [hi]⟩,fun x H2 y=>?_⟩
 obtain⟨e,y⟩:=y
 subst e
 exact hgo D i x ys σ' _ (y xs (hq D _ ys σ' _ p)) p
theorem lc_range {n:Nat} (Pv:Addr→Nat→List V→St→Hp→Prop)
  (h0:∀ D,H1 D=none→Pv D 0 [] (frσ fr σ) (upd H1 D (.lst []))) (hstop:∀ D ys σ' H',Pv D n ys σ' H'→Q D H')
  (hgo:∀ D i ys σ' H',i < n→Pv D i ys σ' H'→g (.int (i:Int)) σ' H' fun σ3 H3=>tc σ3 H3 fun b H4=>
    if b=true then te σ3 H4 fun y H5=>H5 D=some (.lst ys)∧ys.length < sizeLine∧Pv D (i+1) (ys++[y]) σ3 (upd H5 D (.lst (ys++[y])))
    else Pv D (i+1) ys σ3 H4):lcRest (Itr 0 n) g tc te fr σ H1 Q:=by
 refine lc_gen (n:=n) Pv h0 (fun D ys σ' H' p=>⟨Nat.le_refl _,hstop D ys σ' H' p⟩) fun D i ys σ' H' hi p=>⟨hi,fun x H2 y=>?_⟩
 obtain⟨e,y⟩:=y
 subst e y
 rw[Int.zero_add]
 exact hgo D i ys σ' _ hi p
theorem lc_zip3 {t1 t2 t3:Bool}{a1 a2 a3:Addr}{xs ys zs:List V}{n:Nat} (h1:xs.length=n) (h2:ys.length=n) (h3:zs.length=n) (Pv:Addr→Nat→List V→St→Hp→Prop)
  (hq:∀ D i r σ H,Pv D i r σ H→SqB K H t1 a1 xs∧SqB K H t2 a2 ys∧SqB K H t3 a3 zs)
  (h0:∀ D,H1 D=none→Pv D 0 [] (frσ fr σ) (upd H1 D (.lst []))) (hstop:∀ D r σ' H',Pv D n r σ' H'→Q D H')
  (hgo:∀ D i x y z r σ' H' T,xs[i]? = some x→ys[i]? = some y→zs[i]? = some z→Pv D i r σ' H'→H' T=none→g (.ref T) σ' (upd H' T (.tup [x,y,z])) fun σ3 H3=>tc σ3 H3 fun b H4=>
    if b=true then te σ3 H4 fun y H5=>H5 D=some (.lst r)∧r.length < sizeLine∧Pv D (i+1) (r++[y]) σ3 (upd H5 D (.lst (r++[y])))
    else Pv D (i+1) r σ3 H4):lcRest (Itz3 K t1 t2 t3 a1 a2 a3) g tc te fr σ H1 Q:=by
 refine lc_gen (n:=n) Pv h0 (fun D r σ' H' p=>?_) fun D i r σ' H' hi p=>?_
 ·obtain⟨q1,q2,q3⟩:=hq D _ r σ' H' p
  exact⟨⟨xs,ys,zs,q1,q2,q3,.inl (by omega)⟩,hstop D r σ' H' p⟩
 ·obtain⟨q1,q2,q3⟩:=hq D _ r σ' H' p
  refine⟨⟨xs,ys,zs,xs[i]'(by omega),ys[i]'(by omega),zs[i]'(by omega),q1,q2,q3,by simp,by simp,by simp⟩,?_⟩
  rintro v H2 ⟨T,x,y,z,hT,rfl,e1,e2,e3,rfl⟩
  exact hgo D i x y z r σ' H' T (e1 xs q1) (e2 ys q2) (e3 zs q3) p hT
end
section
variable {K:PySem.W.Frag}{g:TG}{tb:TS}{D:Ends}{σ:St}{H:Hp}
noncomputable abbrev ForRest (J:It) (g:TG) (tb:TS) (D:Ends) (σ:St) (H:Hp):Prop:=
 ∃ W:Nat→Nat→St→Hp→Prop,(∃ m,W 0 m σ H)∧∀ i m σ H,W i m σ H→
   (J.stop i H∧D.nx σ H)∨(J.go i H∧∃ N:St→Hp→Prop,(∀ σ' H',N σ' H'→∃ m',m' < m∧W (i+1) m' σ' H')∧∀ x H',J.yld i H x H'→g x σ H' fun σ2 H2=>tb { D with nx:=N,ct:=N,bk:=D.nx } σ2 H2)
theorem for_zip2 {t1 t2:Bool}{a1 a2:Addr}{xs ys:List V}{n:Nat} (h1:xs.length=n) (h2:ys.length=n) (Pv:Nat→St→Hp→Prop) (hq:∀ i σ H,Pv i σ H→SqB K H t1 a1 xs∧SqB K H t2 a2 ys)
  (h0:Pv 0 σ H) (hstop:∀ σ H,Pv n σ H→D.nx σ H)
  (hgo:∀ i x y σ H T,xs[i]? = some x→ys[i]? = some y→Pv i σ H→H T=none→g (.ref T) σ (upd H T (.tup [x,y])) fun σ2 H2=>tb { D with nx:=Pv (i+1),ct:=Pv (i+1),bk:=D.nx } σ2 H2):ForRest (Itz2 K t1 t2 a1 a2) g tb D σ H:=by
 refine for_gen (n:=n) Pv h0 (fun σ H p=>?_) fun i σ H hi p=>?_
 ·obtain⟨q1,q2⟩:=hq _ σ H p
  exact⟨⟨xs,ys,q1,q2,.inl (by omega)⟩,hstop σ H p⟩
 ·obtain⟨q1,q2⟩:=hq _ σ H p
  refine⟨⟨xs,ys,xs[i]'(by omega),ys[i]'(by omega),q1,q2,by simp,by simp⟩,?_⟩
  rintro v H2 ⟨T,x,y,hT,rfl,e1,e2,rfl⟩
  exact hgo i x y σ H T (e1 xs q1) (e2 ys q2) p hT
theorem for_enum {t:Bool}{a:Addr}{xs:List V} (Pv:Nat→St→Hp→Prop) (hq:∀ i σ H,Pv i σ H→SqB K H t a xs)
  (h0:Pv 0 σ H) (hstop:∀ σ H,Pv xs.length σ H→D.nx σ H)
  (hgo:∀ i x σ H T,xs[i]? = some x→Pv i σ H→H T=none→g (.ref T) σ (upd H T (.tup [.int (i:Int),x])) fun σ2 H2=>tb { D with nx:=Pv (i+1),ct:=Pv (i+1),bk:=D.nx } σ2 H2):ForRest (Ite K t a) g tb D σ H:=by
 refine for_gen (n:=xs.length) Pv h0 (fun σ H p=>?_) fun i σ H hi p=>?_
 ·exact⟨⟨xs,hq _ σ H p,Nat.le_refl _⟩,hstop σ H p⟩
 ·refine⟨⟨xs,xs[i],hq _ σ H p,by simp [hi]⟩,?_⟩
  rintro v H2 ⟨T,x,hT,rfl,e1,rfl⟩
  exact hgo i x σ H T (e1 xs (hq _ σ H p)) p hT
end
theorem yes_of {σ:St}{H:Hp}{A B:Hp→Prop} (h:A H):tYes σ H fun b H4=>if b=true then A H4 else B H4:=by
 show if true=true then A H else B H
 rw[if_pos rfl];exact h
theorem dW {i:Nat}{v:V}{σ:St}{H:Hp}{A B:St→Hp→Prop} (h:A (σ.set i (some v)) H):gName i v σ H fun σ3 H3=>tYes σ3 H3 fun b H4=>if b=true then A σ3 H4 else B σ3 H4:=yes_of (σ:=σ.set i (some v)) (A:=A (σ.set i (some v))) (B:=B (σ.set i (some v))) h
theorem aK.put {H H':Hp}{p:Addr}{o:HO} (a:aK H H') (h:H p=none):aK H (upd H' p o):=fun b u e=>by rw[aM (aN e h)];exact a b u e
theorem bL.put {K:PySem.W.Frag}{H H':Hp}{p:Addr}{o:HO} (a:bL K H H') (h:H' p=none∨Mut (H' p)):bL K H (upd H' p o):=a.trans (by
 rcases h with h | h
 ·exact (aK.new h).ts
 ·exact cB.ts cB.upd h)
noncomputable def CDivB (i j:Int):Prop:=0 < j∧j < 2 ^ 200
theorem op_fdivB {X:Cx}:OpR X (binaryOp .FloorDiv) (rI CDivB fun i j=>.int (i / j)):=opI fun i j _ _ _ _ _ hc q=>by
 have h1:(0:Int) < j:=hc.1
 have h2:j < 2 ^ 200:=hc.2
 refine floordiv_int (by omega) (by rw[Int.fdiv_eq_ediv_of_nonneg i (by omega)];exact q) (.inl (PyProof.noPylong_of_log2 ?_))
 have h0:j.natAbs≠0:=by omega
 have h3:j.natAbs < 2 ^ 200:=by omega
 have:=(Nat.log2_lt h0).mpr h3
 omega
theorem bt_int:bootBuiltins "int" = some (.type "int"):=by decide +kernel
theorem bY:bootBuiltins "tuple" = some (.type "tuple"):=by decide +kernel
theorem bt_list:bootBuiltins "list" = some (.type "list"):=by decide +kernel
theorem bt_bool:bootBuiltins "bool" = some (.type "bool"):=by decide +kernel
section
variable {X:Cx}{K:PySem.W.Frag}{tg:Expr}{pos:Pos}
theorem aR {es:List Expr}{k:Nat}{t:TGs}{n:Nat} (hK:X.K=K) (hc:X.calm=true) (h:PGs X es t)
  (hn:(assignEach es X.env).length=n:=by rfl) (hst:(assignEach es X.env).findIdx? (·.1)=none:=by rfl):PG X (.Tuple es k pos) (gTup K n t):=by
 subst hK;exact pg_tup hc h hn hst
theorem aS (hK:X.K=K):IxR X (rIx K):=by subst hK;exact ix_seq
noncomputable def rLen (K:PySem.W.Frag):List V→Hp→VK→Prop:=fun xs H Q=>∃ p ys,xs=[.ref p]∧(cE K H p ys∨bH K H p ys)∧Q (.int ys.length) H
theorem bZ (hK:X.K=K):eD X (.builtin "len") (rLen K):=by subst hK;exact call_len_seq
theorem call_sumK (hK:X.K=K) (hc:X.calm=true):eD X (.builtin "sum") (rSum K):=by subst hK;exact call_sumB hc
theorem call_allK (hK:X.K=K) (hc:X.calm=true):eD X (.builtin "all") (rAll K):=by subst hK;exact call_allB hc
theorem call_isiK (hK:X.K=K):eD X (.builtin "isinstance") (rIsi K):=by subst hK;exact call_isi
noncomputable def rTupOf (K:PySem.W.Frag):List V→Hp→VK→Prop:=fun xs H Q=>∃ p ys,xs=[.ref p]∧((cE K H p ys∧∀ l,H l=none→Q (.ref l) (upd H l (.tup ys)))∨(bH K H p ys∧Q (.ref p) H))
theorem bV (hK:X.K=K):eD X (.type "tuple") (rTupOf K):=by subst hK;exact call_tuple_of
noncomputable def rLstOf (K:PySem.W.Frag):List V→Hp→VK→Prop:=fun xs H Q=>∃ p ys,xs=[.ref p]∧(cE K H p ys∨bH K H p ys)∧∀ l,H l=none→Q (.ref l) (upd H l (.lst ys))
theorem call_lstK (hK:X.K=K):eD X (.type "list") (rLstOf K):=by subst hK;exact call_list_of
theorem pi_listK {l:Expr}{tl:TE} (hK:X.K=K) (hl:PE X l tl):PI X tg l (iList K tl):=by subst hK;exact pi_list hl
theorem dH {l:Expr}{tl:TE} (hK:X.K=K) (hl:PE X l tl):PI X tg l (iTup K tl):=by subst hK;exact pi_tup hl
theorem pi_enumK {a:Expr}{ta:TA}{p:Pos} (hK:X.K=K) (hg:Gl X "enumerate") (hm:X.mg "enumerate" = none) (ha:PA X [a] ta) (hs:starEach [a] X.env=[(false,eval a X.env)]:=by rfl):PI X tg (.Call (.Name "enumerate" p) [a] [] pos) (iEnum K ta):=by
 subst hK;exact pi_enum hg hm ha hs
theorem pi_zip2K {a b:Expr}{ta:TA}{p:Pos} (hK:X.K=K) (hg:Gl X "zip") (hm:X.mg "zip" = none) (ha:PA X [a,b] ta) (hs:starEach [a,b] X.env=[(false,eval a X.env),(false,eval b X.env)]:=by rfl) (hs2:starEach [b] X.env=[(false,eval b X.env)]:=by rfl) :
  PI X tg (.Call (.Name "zip" p) [a,b] [] pos) (iZip2 K ta):=by subst hK;exact pi_zip2 hg hm ha hs hs2
theorem pi_zip3K {a b c:Expr}{ta:TA}{p:Pos} (hK:X.K=K) (hg:Gl X "zip") (hm:X.mg "zip" = none) (ha:PA X [a,b,c] ta) (hs:starEach [a,b,c] X.env=[(false,eval a X.env),(false,eval b X.env),(false,eval c X.env)]:=by rfl)
  (hs2:starEach [b,c] X.env=[(false,eval b X.env),(false,eval c X.env)]:=by rfl):PI X tg (.Call (.Name "zip" p) [a,b,c] [] pos) (iZip3 K ta):=by subst hK;exact pi_zip3 hg hm ha hs hs2
theorem op_repTK (hK:X.K=K):OpR X (binaryOp .Mult) (rRepT K):=by subst hK;exact op_repT
theorem get_listK (hK:X.K=K):PGet X (rGetL K):=by subst hK;exact get_list
theorem pe_bmK {o e:Expr}{es:List Expr}{to:TE}{t:TA}{name:Str}{apos cpos:Pos}{T id:String}{r:V→List V→Hp→VK→Prop} (hK:X.K=K)
  (pa:PlainAttrs T) (slot:Slot T name id) (hty:typeOf (.builtin id)=pure (.type "method_descriptor")) (hm:MtR X id r) (ho:PE X o to) (ha:PA X (e::es) t)
  (hbase:attributeBase o name X.env (eval o X.env)=eval o X.env:=by rfl)
  (hfew:((backTo cpos (starEach (e::es) X.env)).all (fun x=>!x.1) && (backToKw cpos (keywordEach [] X.env)).all (fun x=>x.1.isSome)
   && decide ((e::es).length+([]:List Keyword).length+(if ([]:List Keyword).isEmpty then 0 else 1) < 30))=true:=by rfl)
  (hline:(apos.endLine == cpos.line)=true:=by rfl) (hs:starEach (e::es) X.env=(false,eval e X.env)::starEach es X.env:=by rfl) (hplain:(backTo cpos (starEach es X.env)).any (·.1)=false:=by rfl) :
  PE X (.Call (.Attribute o name apos) (e::es) [] cpos) (tBM K T r to t):=by subst hK;exact pe_bm pa slot hty hm ho ha hbase hfew hline hs hplain
end
end L2
namespace L2
open PySem PySem.Spec PyProof.Rows TwZ
noncomputable def Itd (a:Addr) (o:Obj) (kvs:List (dQ×V)):It where
 go:=fun i H=>H a=some (.frz o (.dK kvs))∧i < kvs.length
 yld:=fun i H x H'=>H=H'∧∃ k v,kvs[i]? = some (k,v)∧x=kV k
 stop:=fun i H=>H a=some (.frz o (.dK kvs))∧kvs.length≤i
theorem rel_key {k:dQ}{u:Value}{P:Program}{w:World} (h:(cD P w).is k u=true):aY (kV k) u:=by
 rcases bW h with ⟨i,t,rfl,rfl⟩ | ⟨x,t,rfl,rfl⟩ | ⟨rfl,rfl⟩
 ·exact⟨t,rfl⟩
 ·exact⟨t,rfl⟩
 ·exact rfl
theorem dictAt_of {P:Program}{w:World}{H:Hp}{h:Heap}{a:Addr}{o:Obj}{kvs:List (dQ×V)}{es:Array DictEntry}{ep:Nat} (ok:HOk P w H h) (e:H a=some (.frz o (.dK kvs))) (hd:o.data=.dict es ep) :
  ∃ vs,KV kvs vs∧h.DictAt (cD P w) a vs ep:=by
 obtain⟨g,_,_,vs,rel,o',es',ep',h1,h2,h3,h4,h5,h6⟩:=(show cN P w H h a (.frz o (.dK kvs)) from ok a _ e)
 rw[g] at h1
 cases h1
 rw[hd] at h3
 cases h3
 exact⟨vs,rel,o,es,g,h2,hd,h4,h5,h6⟩
theorem KV.len {kvs:List (dQ×V)}{vs:List (dQ×Value)} (r:KV kvs vs):kvs.length=vs.length:=Paired.length r
theorem KV.at {kvs:List (dQ×V)}{vs:List (dQ×Value)} (r:KV kvs vs):∀ {i:Nat}{k:dQ}{v:V},kvs[i]? = some (k,v)→∃ u,vs[i]? = some (k,u):=by
 induction r with
 | nil=>intro i k v h;simp at h
 | @cons p q ps qs hq t ih=>
  intro i k v h
  cases i with
  | zero=>
   have:p=(k,v):=by simpa using h
   subst this
   exact⟨q.2,by rw[List.getElem?_cons_zero];exact congrArg some (Prod.ext hq.1.symm rfl)⟩
  | succ i=>exact ih (by simpa using h)
theorem turn_dict {P:Program}{w:World}{K:PySem.W.Frag}{tg:Expr} (a it:Addr) (o:Obj) (kvs:List (dQ×V)) {es:Array DictEntry}{ep:Nat} (hd:o.data=.dict es ep):Turn P w K tg (Itd a o kvs) [it] it (fun i h=>h.IsKeyIter it a i kvs.length ep) where
 mem:=by simp
 obj:=fun i h st b hb=>by
  have e:b=it:=by simpa using hb
  subst e
  obtain⟨o,e,c,d⟩:=st
  exact⟨o,e,fun v z=>by rw[d] at z;cases z⟩
 keep:=fun i h h' st k=>st.at fun o e=>k it (by simp) o e
 item:=by
  intro X hP hw hK hc i pins s σ H E I hf st hg
  subst hP hw hK
  obtain⟨e,hi⟩:=hg
  obtain⟨vs,rel,da⟩:=dictAt_of I.hok e hd
  have hl:=rel.len
  have hki:kvs[i]? = some (kvs[i].1,kvs[i].2):=by simp [hi]
  obtain⟨u,hu⟩:=rel.at hki
  obtain⟨f0,f1,f2,f3,f4,f5⟩:=hf it (by simp)
  rw[hl] at st
  refine wpAny_pyNext_dict_item st da hu fun key h' hk st' sb=>?_
  have I1:Inv X pins σ H { s with heap:=h' }:=I.turned (t':=s.toks) (fun b o hb e=>(sb.2 b hb).trans e) f0 f1 f3 f4 f5
  obtain⟨o,e,c,d⟩:=id st'
  rw[← hl] at st'
  exact⟨key,rfl,go_of (s:={ s with heap:=h' }) e c d (by decide) ⟨_,H,I1,rel_key hk,⟨rfl,_,_,hki,rfl⟩,st',fun b hb=>(hf b hb).1⟩⟩
 done:=by
  intro X hP hw hK hc i pins s σ H E I hf st hg
  subst hP hw hK
  obtain⟨e,hi⟩:=hg
  obtain⟨vs,rel,da⟩:=dictAt_of I.hok e hd
  have hl:=rel.len
  obtain⟨f0,f1,f2,f3,f4,f5⟩:=hf it (by simp)
  rw[hl] at st
  exact wpAny_pyNext_dict_end (I.ok.hd hc) st da (by simp;omega) fun h' eb=>⟨rfl,I.turned (t':=s.toks) (fun b o hb e=>eb b o hb e) f0 f1 f3 f4 f5⟩
 self:=fun _ _ _ _ _ st h=>wpAny_pyIter_keyiter st h
section
variable {X:Cx}{tg:Expr}
noncomputable def iDict (tl:TE):TI:=fun σ H R=>tl σ H fun x H1=>∃ a kvs,x=.ref a∧H1 a=some (.dK kvs)∧∀ o,R (Itd a o kvs) (upd H1 a (.frz o (.dK kvs)))
theorem pi_dict {l:Expr}{tl:TE} (hl:PE X l tl):PI X tg l (iDict tl):=by
 intro pins s σ H R I h
 refine cH (hl pins s σ H _ I h) fun v s1 ⟨x,H1,I1,r1,q1⟩=>?_
 obtain⟨a,kvs,e,ha,q⟩:=q1
 subst e
 cases r1
 obtain⟨z,hs,vs,rel,o,es,ep,g1,g2,g3,g4,g5,g6⟩:=dk_of I1.hok ha
 have I2:Inv X pins σ (upd H1 a (.frz o (.dK kvs))) { s1 with heap:=s1.heap,toks:=s1.toks }:=
  d_write I1 (by rw[ha];exact True.intro) (Heap.SameBut.refl _ _) ⟨o,g1⟩ ⟨g1,z,hs,vs,rel,o,es,ep,g1,g2,g3,g4,g5,g6⟩
 have hl:=rel.len
 refine wpAny_pyIter_dict (knd:=cD X.prog X.w) (kvs:=vs) (ep:=ep) hs ⟨o,es,g1,g2,g3,g4,g5,g6⟩ ?_
 refine⟨s1.heap.objs.size,[s1.heap.objs.size],_,_,_,rfl,I2.kept (t':=s1.toks) fun b o e=>Heap.get?_push_of_some _ e,turn_dict a _ o kvs g3,⟨_,Heap.get?_push_size _ rfl,rfl,by rw[hl];rfl⟩,fun b hb=>?_,q o⟩
 have e:b=s1.heap.objs.size:=by simpa using hb
 subst e
 exact I2.fpOk (Nat.le_refl _) (I2.hok.fresh (Nat.le_refl _))
end
theorem for_dict {a:Addr}{o:Obj}{kvs:List (dQ×V)}{g:TG}{tb:TS}{D:Ends}{σ:St}{H:Hp} (Pv:Nat→St→Hp→Prop) (hq:∀ i σ H,Pv i σ H→H a=some (.frz o (.dK kvs)))
  (h0:Pv 0 σ H) (hstop:∀ σ H,Pv kvs.length σ H→D.nx σ H)
  (hgo:∀ i k v σ H,kvs[i]? = some (k,v)→Pv i σ H→g (kV k) σ H fun σ2 H2=>tb { D with nx:=Pv (i+1),ct:=Pv (i+1),bk:=D.nx } σ2 H2) :
  ∃ W:Nat→Nat→St→Hp→Prop,(∃ m,W 0 m σ H)∧∀ i m σ H,W i m σ H→
   ((Itd a o kvs).stop i H∧D.nx σ H)∨((Itd a o kvs).go i H∧∃ N:St→Hp→Prop,(∀ σ' H',N σ' H'→∃ m',m' < m∧W (i+1) m' σ' H')∧∀ x H',(Itd a o kvs).yld i H x H'→g x σ H' fun σ2 H2=>tb { D with nx:=N,ct:=N,bk:=D.nx } σ2 H2):=by
 refine for_gen (n:=kvs.length) Pv h0 (fun σ H p=>⟨⟨hq _ σ H p,Nat.le_refl _⟩,hstop σ H p⟩) fun i σ H hi p=>⟨⟨hq _ σ H p,hi⟩,?_⟩
 rintro x H' ⟨rfl,k,v,e,rfl⟩
 exact hgo i k v σ H e p
theorem lc_dict {a:Addr}{o:Obj}{kvs:List (dQ×V)}{g:TG}{tc:TT}{te:TE}{fr:List (Option Nat)}{σ:St}{H1:Hp}{Q:Addr→Hp→Prop} (Pv:Addr→Nat→List V→St→Hp→Prop) (hq:∀ D i ys σ H,Pv D i ys σ H→H a=some (.frz o (.dK kvs)))
  (h0:∀ D,H1 D=none→Pv D 0 [] (frσ fr σ) (upd H1 D (.lst []))) (hstop:∀ D ys σ' H',Pv D kvs.length ys σ' H'→Q D H')
  (hgo:∀ D i k v ys σ' H',kvs[i]? = some (k,v)→Pv D i ys σ' H'→g (kV k) σ' H' fun σ3 H3=>tc σ3 H3 fun b H4=>
    if b=true then te σ3 H4 fun y H5=>H5 D=some (.lst ys)∧ys.length < sizeLine∧Pv D (i+1) (ys++[y]) σ3 (upd H5 D (.lst (ys++[y])))
    else Pv D (i+1) ys σ3 H4):lcRest (Itd a o kvs) g tc te fr σ H1 Q:=by
 refine lc_gen (n:=kvs.length) Pv h0 (fun D ys σ' H' p=>⟨⟨hq D _ ys σ' H' p,Nat.le_refl _⟩,hstop D ys σ' H' p⟩) fun D i ys σ' H' hi p=>⟨⟨hq D _ ys σ' H' p,hi⟩,?_⟩
 rintro x H2 ⟨rfl,k,v,e,rfl⟩
 exact hgo D i k v ys σ' H' e p
noncomputable def dcRest (J:It) (g:TG) (tc:TT) (tk tv:TE) (fr:List (Option Nat)) (σ:St) (H1:Hp) (Q:Addr→Hp→Prop):Prop:=
 ∀ D,H1 D=none→∃ W:Nat→Nat→St→Hp→Prop,(∃ m,W 0 m (frσ fr σ) (upd H1 D (.dK [])))∧
  ∀ i m σ' H',W i m σ' H'→(J.stop i H'∧Q D H')∨
   (J.go i H'∧∃ N:St→Hp→Prop,(∀ σ'' H'',N σ'' H''→∃ m',m' < m∧W (i+1) m' σ'' H'')∧
    ∀ x H2,J.yld i H' x H2→g x σ' H2 fun σ3 H3=>tc σ3 H3 fun b H4=>
    if b=true then tk σ3 H4 fun y H5=>tv σ3 H5 fun z H6=>∃ kvs k,y=kV k∧H6 D=some (.dK kvs)∧kvs.length < sizeLine∧N σ3 (upd H6 D (.dK (putK kvs k z)))
    else N σ3 H4)
theorem dc_gen {J:It}{n:Nat}{g:TG}{tc:TT}{tk tv:TE}{fr:List (Option Nat)}{σ:St}{H1:Hp}{Q:Addr→Hp→Prop} (Pv:Addr→Nat→St→Hp→Prop)
  (h0:∀ D,H1 D=none→Pv D 0 (frσ fr σ) (upd H1 D (.dK [])))
  (hstop:∀ D σ' H',Pv D n σ' H'→J.stop n H'∧Q D H')
  (hgo:∀ D i σ' H',i < n→Pv D i σ' H'→J.go i H'∧∀ x H2,J.yld i H' x H2→g x σ' H2 fun σ3 H3=>tc σ3 H3 fun b H4=>
    if b=true then tk σ3 H4 fun y H5=>tv σ3 H5 fun z H6=>∃ kvs k,y=kV k∧H6 D=some (.dK kvs)∧kvs.length < sizeLine∧Pv D (i+1) σ3 (upd H6 D (.dK (putK kvs k z)))
    else Pv D (i+1) σ3 H4):dcRest J g tc tk tv fr σ H1 Q:=by
 intro D hD
 refine⟨fun i m σ H=>m=n - i∧i≤n∧Pv D i σ H,⟨n,by simp,Nat.zero_le _,h0 D hD⟩,?_⟩
 rintro i m σ' H' ⟨rfl,hi,p⟩
 by_cases hlt:i < n
 ·obtain⟨go,step⟩:=hgo D i σ' H' hlt p
  exact .inr ⟨go,Pv D (i+1),fun σ'' H'' p'=>⟨n - (i+1),by omega,rfl,hlt,p'⟩,step⟩
 ·have e:i=n:=by omega
  subst e
  exact .inl (hstop D σ' H' p)
noncomputable def tDC (wi:TI) (fr:List (Option Nat)) (g:TG) (tc:TT) (tk tv:TE):TE:=fun σ H Q=>wi σ H fun J H1=>dcRest J g tc tk tv fr σ H1 fun D H'=>Q (.ref D) H'
section
variable {prog:Program}{w:World}{A:Around}{R:Result→Shared→Prop}{s:Shared}
theorem compLoop_anyD {kx vx target iter:Expr}{ifs:List Expr}{scope:Scope}{pos:Pos}{it:Value}{D:Addr}{env:Env} (I:Nat→Shared→Prop)
  (turn:∀ n s,I n s→wpAny (model prog w) A (pyNext it) (fun r s₁=>match r with
   | none=>R (.ok .next) s₁
   | some v=>wpAny (model prog w) A (letOwnedTupleGo target it v) (fun _ s₁'=>wpAny (model prog w) A (assign target env v) (fun _ s₂=>
     wpAny (model prog w) A (forIn ifs true fun c r=>if r=true then do let ok ← isTrue c env (eval c env);pure (ForInStep.yield ok) else pure (ForInStep.yield r)) (fun ok s₃=>
      if ok=true then wpAny (model prog w) A (eval kx env) (fun kv s₄=>wpAny (model prog w) A (eval vx env) (fun vv s₅=>
       wpAny (model prog w) A (dictSet D kv vv) (fun _ s₆=>∃ m,m < n∧I m s₆) (notedBy (model prog w) A env fun e s'=>R (.error e) s') s₅) (notedBy (model prog w) A env fun e s'=>R (.error e) s') s₄) (notedBy (model prog w) A env fun e s'=>R (.error e) s') s₃
      else ∃ m,m < n∧I m s₃) (notedBy (model prog w) A env fun e s'=>R (.error e) s') s₂) (notedBy (model prog w) A env fun e s'=>R (.error e) s') s₁') (notedBy (model prog w) A env fun e s'=>R (.error e) s') s₁)
    (notedBy (model prog w) A env fun e s'=>R (.error e) s') s)
  (n:Nat) (h:I n s) :
  codeAny (model prog w) A (.compLoop (.DictComp kx vx [⟨target,iter,ifs,0⟩] scope pos) 0 it (.ref D) env) R s:=by
 refine codeAny_loop rfl I (fun n s hI=>?_) n h
 show wpAny _ A ((compTurn (.DictComp kx vx [⟨target,iter,ifs,0⟩] scope pos) 0 it (.ref D) env).onRaise (fun x=>do noteFrame x env;theTreesLotGoes x)) _ _ s
 refine wpAny_noted ?_
 rw[compTurn_dict]
 refine wpAny_bind (wpAny_standAt (wpAny_bind (wpAny_mono (turn n s hI) (fun r s₁ h₁=>?_) fun _ _ h'=>h')))
 cases r with
 | none=>exact wpAny_pure h₁
 | some v=>
  refine wpAny_bind (wpAny_mono h₁ (fun _ s₁' h₁'=>?_) fun _ _ h'=>h')
  refine wpAny_bind (wpAny_mono h₁' (fun _ s₂ h₂=>wpAny_bind (wpAny_mono h₂ (fun ok s₃ h₃=>?_) fun _ _ h'=>h')) fun _ _ h'=>h')
  cases ok with
  | false=>exact wpAny_pure ⟨rfl,h₃⟩
  | true=>
   exact wpAny_bind (wpAny_bind (wpAny_mono h₃ (fun kv s₄ h₄=>wpAny_bind (wpAny_holding (wpAny_mono h₄ (fun vv s₅ h₅=>wpAny_bind (wpAny_standAt (wpAny_holding (wpAny_mono h₅ (fun _ s₆ h₆=>wpAny_pure ⟨rfl,h₆⟩) fun _ _ h'=>h')))) fun _ _ h'=>h'))) fun _ _ h'=>h'))
end
section
variable {X:Cx}{pins:List (Addr×Obj)}{σ:St}{H:Hp}{s:Shared}{a:Addr}{v:V}{u r:Value}{A:Around}{E:Value→Shared→Prop}{kvs:List (dQ×V)}{k:dQ}
theorem d_dictSet {Q:Unit→Shared→Prop} (I:Inv X pins σ H s) (e:H a=some (.dK kvs)) (l:kvs.length < sizeLine) (ry:aY (kV k) u) (rv:aY v r) (h:∀ s',Inv X pins σ (upd H a (.dK (putK kvs k v))) s'→Q () s') :
  wpAny (model X.prog X.w) A (dictSet a u r) Q E s:=by
 obtain⟨z,hd,vs,rel,dd⟩:=dk_of I.hok e
 have hz:vs.length≤sizeLine:=by rw[← rel.length];exact z
 have hl:(putK kvs k v).length≤sizeLine:=by have:=length_putK kvs k v;omega
 refine wpAny_dictSet_pairs (hsz:=hz) (kV_is ry) dd fun h' dd' hs=>h _ ?_
 have he:∃ q,h'.get? a=some q:=let ⟨q,_,_,hq,_⟩:=dd';⟨q,hq⟩
 exact d_write I (by rw[e];exact True.intro) hs he (dk_new hl hd (rel.put k rv) dd')
end
section
variable {X:Cx}
theorem dc_block {kx vx tg iter:Expr}{ifs:List Expr}{scope:Scope}{pos:Pos}{N':List Str}{fr:List (Option Nat)}{cl:List (Str×Addr)}{g:TG}{tc:TT}{tk tv:TE}
  {pins:List (Addr×Obj)}{σ:St}{H:Hp}{s:Shared}{J:It}{fp:List Addr}{it:Addr}{tn:Nat→Heap→Prop}{Q:Addr→Hp→Prop}{RR:Value→Addr→Result→Shared→Prop}{E:Value→Shared→Prop}
  (hx:∀ e s,¬ X.xe e s) (hc:X.calm=true) (S:LcOk X scope cl N' fr)
  (hg:∀ fp s H,PG (cxC X N' scope cl fp s H) tg g) (ht:∀ fp s H,PIf (cxC X N' scope cl fp s H) ifs tc) (hk:∀ fp s H,PE (cxC X N' scope cl fp s H) kx tk) (hv:∀ fp s H,PE (cxC X N' scope cl fp s H) vx tv)
  (I:Inv X pins σ H s) (T:Turn X.prog X.w X.K tg J fp it tn) (st:tn 0 s.heap) (hf:∀ b∈fp,FpOk X pins H b) (h:dcRest J g tc tk tv fr σ H Q)
  (hRR:∀ D C H' s' m',Inv X pins σ H' s'→Q D H'→s'.heap.Ns C m'→FpOk X pins H' C→RR (.ref D) C (.ok .next) s') :
  wpAny (model X.prog X.w) X.A newDict (fun acc s₃=>wpAny (model X.prog X.w) X.A (newFunctionEnv scope X.env.globals cl [] X.env.qual none .none (some X.env)) (fun cenv s₄=>
   codeAny (model X.prog X.w) X.A (.compStart (.DictComp kx vx [⟨tg,iter,ifs,0⟩] scope pos) 0 (.ref it) acc { cenv with scope:=relabel scope X.env }) (RR acc cenv.locals) s₄) E s₃) E s:=by
 have hcell:=S.nocell
 rw[List.all_eq_true] at hcell
 refine wpAny_newObj_type (wpAny_newFunctionEnv (fun x hx'=>by simpa using hcell x hx') (by intro y hy;simp at hy) (fun h₁ hns₁ hsb₁=>?_) S.kind)
 dsimp only at hns₁ hsb₁ ⊢
 have fresh:H s.heap.objs.size=none:=I.hok.fresh (Nat.le_refl _)
 have I3:Inv X pins σ (upd H s.heap.objs.size (.dK [])) { s with heap:=s.heap.push { cls:=.type "dict",data:=.dict #[] },toks:=s.toks }:=
  I.laid (a:=s.heap.objs.size) (o:=.dK []) (t':=s.toks) (fun _ _ q=>Heap.get?_push_of_some _ q) (Nat.le_refl _) (dk_empty s.heap I.big)
 have hf3:∀ b∈fp,FpOk X pins (upd H s.heap.objs.size (.dK [])) b:=fun b hb=>by
  obtain⟨o,ho,_⟩:=T.obj _ _ st b hb
  exact⟨by rw[aM (Nat.ne_of_lt (Heap.lt_size ho))];exact (hf b hb).1,(hf b hb).2⟩
 generalize hs3:({ s with heap:=s.heap.push { cls:=.type "dict",data:=.dict #[] },toks:=s.toks }:Shared)=s3 at I3
 have e3:s3.heap=s.heap.push { cls:=.type "dict",dict:=none,data:=.dict #[] }:=by rw[← hs3]
 have e3s:({ s with heap:=s.heap.push { cls:=.type "dict",dict:=none,data:=.dict #[] } }:Shared)=s3:=hs3
 have hsz3:s3.heap.objs.size=s.heap.objs.size+1:=by rw[e3,Heap.size_push]
 have hfo:∀ b∈fp,b < s3.heap.objs.size:=fun b hb=>by
  obtain⟨o,ho,_⟩:=T.obj _ _ st b hb
  rw[hsz3]
  exact Nat.lt_succ_of_lt (Heap.lt_size ho)
 rw[← e3] at hns₁ hsb₁ ⊢
 have old3:∀ b o,s3.heap.get? b=some o→h₁.get? b=some o:=fun b o e=>hsb₁.extBut b o (Nat.ne_of_lt (Heap.lt_size e)) (Heap.get?_push_of_some _ e)
 have old:∀ b o,s.heap.get? b=some o→s3.heap.get? b=some o:=fun b o e=>by rw[e3];exact Heap.get?_push_of_some _ e
 have I4:=S.invC (tk:=s3.toks) I3 hf3 hfo old3 hns₁
 obtain⟨W,⟨m0,w0⟩,turn⟩:=h s.heap.objs.size fresh
 have stat:∀ {H':Hp},(∀ b∈fp,H' b=none)→∀ b∈fp,FpOk (cxC X N' scope cl fp s3 (upd H s.heap.objs.size (.dK []))) [] H' b:=fun hn b hb=>by
  refine⟨hn b hb,Nat.ne_of_lt (hfo b hb),?_,.inl hb,fun x c e=>(hf b hb).2.2.2.2.1 x c (S.cls.get x c e),fun p hp=>absurd (show p∈([]:List (Addr×Obj)) from hp) (by simp)⟩
  intro hz
  obtain⟨_,f1,f2,_⟩:=hf b hb
  rcases List.mem_cons.mp (I.stkSub b hz) with e | e
  ·exact f1 e
  ·exact f2 e
 have loop:∀ s4:Shared,s4={ s3 with heap:=h₁,toks:=s3.toks }→
   codeAny (model X.prog X.w) X.A (.compLoop (.DictComp kx vx [⟨tg,iter,ifs,0⟩] scope pos) 0 (.ref it) (.ref s.heap.objs.size) (compEnvC scope cl s3.heap.objs.size X.env)) (RR (.ref s.heap.objs.size) s3.heap.objs.size) s4:=by
  intro s4 hs4
  refine compLoop_anyD (fun n s'=>∃ i σ' H',Inv (cxC X N' scope cl fp s3 (upd H s.heap.objs.size (.dK []))) [] σ' H' s'∧tn i s'.heap∧(∀ b∈fp,H' b=none)∧W i n σ' H') ?_ m0
   ⟨0,frσ fr σ,_,by rw[hs4];exact I4,by rw[hs4];exact T.keep _ _ _ st fun b _ o e=>old3 b o (old b o e),fun b hb=>(hf3 b hb).1,w0⟩
  rintro n s5 ⟨i,σ5,H5,I5,st5,fr5,w5⟩
  rcases turn i n σ5 H5 w5 with ⟨stop,qn⟩ | ⟨go,N,hN,step⟩
  ·refine cH (T.done (cxC X N' scope cl fp s3 (upd H s.heap.objs.size (.dK []))) rfl rfl rfl hc i [] s5 σ5 H5 _ I5 (stat fr5) st5 stop) fun r s6 ⟨hr,I6⟩=>?_
   subst hr
   obtain⟨m',hm',_⟩:=I6.loc
   exact hRR _ _ H5 s6 m' (I3.outC I6 hf3) qn hm' (I3.fpOk (Nat.le_refl _) I6.free)
  ·refine cH (T.item (cxC X N' scope cl fp s3 (upd H s.heap.objs.size (.dK []))) rfl rfl rfl hc i [] s5 σ5 H5 _ I5 (stat fr5) st5 go) fun r s6 ⟨u,hr,h6⟩=>?_
   subst hr
   refine cH h6 fun _ s7 ⟨x,H7,I7,r7,y7,st7,fr7⟩=>?_
   have I7':=I7.pinned (stat fr7) (T.obj _ _ st7)
   refine wpAny_mono (hg fp s3 _ _ s7 σ5 H7 x u _ I7' r7 (step x H7 y7)) (fun _ s8 ⟨σ8,H8,I8,q8⟩=>?_) fun e s' z=>(hx e s' z).elim
   refine wpAny_mono (ht fp s3 _ _ s8 σ8 H8 _ I8 q8) (fun ok s9 ⟨H9,I9,q9⟩=>?_) fun e s' z=>(hx e s' z).elim
   have again:∀ {s10:Shared}{H10:Hp},Inv (cxC X N' scope cl fp s3 (upd H s.heap.objs.size (.dK []))) ([]++pinsAt fp s7.heap) σ8 H10 s10→N σ8 H10→
     ∃ m,m < n∧∃ i σ' H',Inv (cxC X N' scope cl fp s3 (upd H s.heap.objs.size (.dK []))) [] σ' H' s10∧tn i s10.heap∧(∀ b∈fp,H' b=none)∧W i m σ' H':=fun {s10 H10} I10 n10=>by
    obtain⟨m',hm,w10⟩:=hN σ8 H10 n10
    refine⟨m',hm,i+1,σ8,H10,I10.unpinned,T.keep _ _ _ st7 fun b hb o e=>(I10.pin (b,o) (List.mem_append_right _ (List.mem_append_right _ (mem_pinsAt hb e)))).1,fun b hb=>?_,w10⟩
    obtain⟨o,e,d⟩:=T.obj _ _ st7 b hb
    exact (I10.pin (b,o) (List.mem_append_right _ (List.mem_append_right _ (mem_pinsAt hb e)))).2.1
   cases ok with
   | false=>
    rw[if_neg Bool.false_ne_true] at q9 ⊢
    exact again I9 q9
   | true=>
    rw[if_pos rfl] at q9 ⊢
    refine wpAny_mono (hk fp s3 _ _ s9 σ8 H9 _ I9 q9) (fun y s10 ⟨yv,H10,I10,r10,q10⟩=>?_) fun e s' z=>(hx e s' z).elim
    refine wpAny_mono (hv fp s3 _ _ s10 σ8 H10 _ I10 q10) (fun z s11 ⟨zv,H11,I11,r11,kvs,kk,ey,hD,hlen,q11⟩=>?_) fun e s' z=>(hx e s' z).elim
    subst ey
    exact d_dictSet (X:=cxC X N' scope cl fp s3 (upd H s.heap.objs.size (.dK []))) I11 hD hlen r10 r11 fun s12 I12=>again I12 q11
 exact codeAny_compStart_dict (loop _ (by rw[← e3s];rfl)) (T.self X.A 0 _ _ _ (T.keep _ _ _ st fun b _ o e=>old3 b o (old b o e)) (loop _ (by rw[← e3s];rfl)))
theorem pe_dc {kx vx tg iter:Expr}{ifs:List Expr}{scope:Scope}{pos:Pos}{N':List Str}{fr:List (Option Nat)}{cl:List (Str×Addr)}{wi:TI}{g:TG}{tc:TT}{tk tv:TE}
  (hx:∀ e s,¬ X.xe e s) (hc:X.calm=true) (S:LcOk X scope cl N' fr) (hi:PI X tg iter wi)
  (hg:∀ fp s H,PG (cxC X N' scope cl fp s H) tg g) (ht:∀ fp s H,PIf (cxC X N' scope cl fp s H) ifs tc) (hk:∀ fp s H,PE (cxC X N' scope cl fp s H) kx tk) (hv:∀ fp s H,PE (cxC X N' scope cl fp s H) vx tv)
  (hs:∀ x,foldedSetIterable iter X.env x=pure x:=by intro _;rfl):PE X (.DictComp kx vx [⟨tg,iter,ifs,0⟩] scope pos) (tDC wi fr g tc tk tv):=by
 intro pins s σ H Q I h
 have hloc:=S.locs
 rw[List.all_eq_true] at hloc
 show wpAny _ X.A (comprehension (.DictComp kx vx [⟨tg,iter,ifs,0⟩] scope pos) scope X.env _ newDict false (eval iter X.env)) _ _ s
 refine wpAny_comprehension_free (use:=none) rfl hs S.clos S.kind (fun x hx' hl=>by have:=hloc x hx';rw[hl] at this;simpa using this) (cH (hi pins s σ H _ I h) fun v s1 h1=>cH h1 fun itv s2 h2=>?_)
 obtain⟨it,fp,tn,J,H2,e,I2,T,st2,f2,rest⟩:=h2
 subst e
 refine dc_block (RR:=fun acc C=>compPost (model X.prog X.w) X.A X.xe none (EP X pins σ Q) acc C) hx hc S hg ht hk hv I2 T st2 f2 rest ?_
 intro D C H' s' m' I' q hn f
 exact⟨m',hn,fun h' hsb=>⟨.ref D,H',I'.letgo f hsb,rfl,q⟩⟩
end
end L2
namespace Tw
open PySem L2
noncomputable def aU (i:Nat):Stmt:=PySem.Challenge.pw_tipwell_k22_whole_trimmed_act_alike.main.body.getD i (.Pass ⟨0,0,0,0⟩)
structure Txt (mg:Str→Option Value):Prop where
 b_len:mg "len" = none
 b_sum:mg "sum" = none
 b_all:mg "all" = none
 b_max:mg "max" = none
 b_min:mg "min" = none
 b_int:mg "int" = none
 b_tuple:mg "tuple" = none
 b_list:mg "list" = none
 b_bool:mg "bool" = none
 b_range:mg "range" = none
 b_zip:mg "zip" = none
 b_enumerate:mg "enumerate" = none
 b_isinstance:mg "isinstance" = none
 b_divmod:mg "divmod" = none
 b_set:mg "set" = none
 b_sorted:mg "sorted" = none
noncomputable def keyO:Option Int→dQ
 | none=>.inr none
 | some i=>.inl i
theorem keyO_V (k:Option Int):kV (keyO k)=tgV k:=by cases k <;> rfl
theorem keyO_inj {a b:Option Int} (h:keyO a=keyO b):a=b:=by
 cases a <;> cases b <;> simp_all [keyO]
noncomputable def DictG (H:Hp) (d:Addr) (gs:List (Option Int×Int)):Prop:=
 ∃ kvs:List (dQ×V),H d=some (.dK kvs)∧kvs.length≤gs.length∧∀ k:Option Int,(dZ kvs (keyO k)).getD (.int 0)=.int (bJ k gs)
theorem DictG.mut {H:Hp}{d:Addr}{gs:List (Option Int×Int)} (h:DictG H d gs):Mut (H d):=by
 obtain⟨kvs,e,_⟩:=h;rw[e];exact trivial
section
variable {P:Program}{w:World}{K:PySem.W.Frag}{mg:Str→Option Value}{base:Heap}
noncomputable def spSend:Sp:=fun vs H Q _=>∃ (d:Addr) (t:Option Int) (a:Int) (gs:List (Option Int×Int)),vs=[.ref d,tgV t,.int a]∧DictG H d gs∧gs.length≤1000∧
 ∀ H',cB d H H'→DictG H' d (gs++[(t,a)])→Q .non H'
theorem sc_send:FnScope ["sent","target","amount"] ["sent","target","amount"] (aJ (aU 40)):=⟨rfl,rfl,rfl,by decide +kernel,rfl,by decide +kernel,by decide +kernel⟩
theorem ok_send {f:Addr}{fd:FuncData} (F:Fun K "send" "send" (aU 40) f fd) (T:Txt mg):FnOk P w K mg base CX0 1 f fd ["sent","target","amount"] spSend:=by
 refine F.ok sc_send (fun vs H Q E h=>?_) (fun cdv A outer s H vs Q E hr h=>?_)
 ·obtain⟨d,t,a,gs,rfl,_⟩:=h;rfl
 ·obtain⟨d,t,a,gs,rfl,⟨kvs,hd,hl,hv⟩,hg,k⟩:=h
  have sc:=sc_send
  have hu:=hu_of hr
  refine⟨_,(aL (ps_dput hu (pv 0) (pv 1) (bA d9 (pe_dget2 hu (pv 0) (pv 1) aI ⟨rfl,rfl,rfl,rfl⟩) (pv 2)) rfl)),?_⟩
  have hget:=DGet.k (k:=keyO t) hd
  rw[keyO_V] at hget
  have hput:=DPut.k (k:=keyO t) (v:=V.int (bJ t gs+a)) hd (aT (by omega))
  rw[keyO_V] at hput
  refine⟨_,rfl,d,rfl,.inl ⟨kvs,.inl hd⟩,_,rfl,dZ kvs (keyO t),hget,_,rfl,_,_,hv t,rfl,_,rfl,_,rfl,d,_,rfl,hput,?_⟩
  refine k _ cB.upd ⟨_,aB,?_,fun k'=>?_⟩
  ·have:=length_putK kvs (keyO t) (V.int (bJ t gs+a))
   rw[List.length_append];simp;omega
  ·rw[valV_put,sumFor_append]
   by_cases e:k'=t
   ·subst e
    rw[if_pos rfl]
    show V.int _=V.int _
    simp [bJ]
   ·rw[if_neg (fun z=>e (keyO_inj z)),hv k']
    have:¬ t=k':=fun z=>e z.symm
    simp [bJ,this]
end
end Tw
namespace Tw
open PySem L2
section
variable {P:Program}{w:World}{K:PySem.W.Frag}{mg:Str→Option Value}{base:Heap}
theorem cF {α:Type}{xs:List α}{i:Nat}{x:α} (h:xs[i]? = some x):xs.take (i+1)=xs.take i++[x]:=by
 rw[List.take_succ,h];rfl
theorem outs_at {H:Hp}{outs:List (Option Int×Int)}{xs:List V}{i:Nat}{x:V} (l:IsL K H (outs.map outD) xs) (h:xs[i]? = some x) :
  ∃ o,outs[i]? = some o∧∃ a,x=.ref a∧bH K H a [tgV o.1,.int o.2]:=by
 obtain⟨d,hd,hx⟩:=l.get' h
 rw[List.getElem?_map] at hd
 cases e:outs[i]? with
 | none=>rw[e] at hd;cases hd
 | some o=>
  rw[e] at hd
  cases hd
  refine⟨o,rfl,?_⟩
  obtain⟨a,ys,rfl,q,l⟩:=(show Is K H (.tup [tgD o.1,.int o.2]) x from hx).un
  obtain⟨y,r,rfl,hy,l⟩:=l.un
  obtain⟨z,r,rfl,hz,l⟩:=l.un
  have:=l.un0
  subst this
  rw[Is.tg hy,hz.ui] at q
  exact⟨a,rfl,q⟩
noncomputable def spShare (K:PySem.W.Frag):Sp:=fun vs H Q _=>∃ (o d:Addr) (has:Int) (outs gs:List (Option Int×Int)) (n:Nat),vs=[.ref o,.int has,.ref d]∧Is K H (.tup (outs.map outD)) (.ref o)∧DictG H d gs∧gs.length+3≤1000∧
 outs≠[]∧outs.length≤3∧(∀ x∈outs,OutOk n x)∧∀ H',cB d H H'→DictG H' d (gs++outs.map fun x=>(x.1,has / whole outs * x.2))→Q (.int (has % whole outs)) H'
theorem sc_share_out:FnScope ["outs","has","sent","whole","times","target","parts"] ["outs","has","sent"] (aJ (aU 39)):=⟨rfl,rfl,rfl,by decide +kernel,rfl,by decide +kernel,by decide +kernel⟩
theorem ok_share_out {f fS:Addr}{fd fdS:FuncData} (F:Fun K "share_out" "share_out" (aU 39) f fd) (T:Txt mg) (G_send:Callee P w K mg base "send" ["sent","target","amount"] 1 spSend fS fdS):FnOk P w K mg base CX0 2 f fd ["outs","has","sent"] (spShare K):=by
 refine F.ok sc_share_out (fun vs H Q E h=>?_) (fun cdv A outer s H vs Q E hr h=>?_)
 ·obtain⟨o,d,has,outs,gs,n,rfl,_⟩:=h;rfl
 ·obtain⟨o,d,has,outs,gs,n,rfl,ho,hd,hg,hne,h3,hok,k⟩:=h
  have sc:=sc_share_out
  refine⟨_,(aG (bD (i:=3) sc.nd rfl (Or.inl rfl) (aX (call_sumK (K:=K) rfl rfl) rfl T.b_sum PyProof.Rows.boot_sum (aA (pe_lc (fun _ _ h=>h) rfl (LcOk.mk (N':=["target","parts"]) (fr:=[none,none]) rfl trivial rfl rfl rfl rfl rfl trivial) (dH (K:=K) rfl (pv 0)) (fun _ _ _=>(aR (K:=K) (n:=2) rfl rfl (aE (aF (i:=0) (show (["target","parts"]:List Str).Nodup by decide +kernel) rfl (Or.inl rfl) (Or.inr rfl)) (aE (aF (i:=1) (show (["target","parts"]:List Str).Nodup by decide +kernel) rfl (Or.inl rfl) (Or.inr rfl)) aQ)))) (fun _ _ _=>d8) (fun _ _ _=>(pv 1))) aD)))
   (aG (bD (i:=4) sc.nd rfl (Or.inl rfl) (bA op_fdiv (pv 1) (aX (call_max2 rfl) rfl T.b_max PyProof.Rows.boot_max (aA aI (aA (pv 3) aD)))))
   (aG (dR PassesOwn.never rfl (dH (K:=K) rfl (pv 0)) (aR (K:=K) (n:=2) rfl rfl (aE (aF (i:=5) sc.nd rfl (Or.inl rfl)) (aE (aF (i:=6) sc.nd rfl (Or.inl rfl)) aQ))) (aL (cA (cU G_send hr (aA (pv 2) (aA (pv 5) (aA (bA op_mul (pv 6) (pv 4)) aD)))))))
   (aL (b9 (bA op_sub (pv 1) (bA op_mul (pv 3) (pv 4)))))))),?_⟩
  have hw1:=whole_pos hne hok
  have hw2:=whole_le hok
  obtain⟨o',xs,e,hq,hl⟩:=ho.un
  cases e
  have hxl:xs.length=outs.length:=by rw[hl.length,List.length_map]
  refine⟨_,rfl,o,rfl,⟨_,hq⟩,lc_tup (K:=K) (a:=o) (xs:=xs) (fun D i ys σ' H'=>H D=none∧aK H H'∧H' D=some (.lst ys)∧ys=(outs.take i).map (fun x=>V.int x.2)∧∃ x y,σ'=[x,y])
   (fun D i ys σ' H' p=>p.2.1.tup hq) (fun D hD=>⟨hD,aK.new hD,aB,by simp,none,none,rfl⟩) ?_ ?_⟩
  rotate_left
  ·rintro D i x ys σ' H' hx ⟨hD,sm,hDl,rfl,v1,v2,rfl⟩
   obtain⟨ot,hot,a,rfl,qa⟩:=outs_at hl hx
   have hil:=(List.getElem?_eq_some_iff.mp hot).1
   refine⟨a,_,rfl,sm.tup qa,rfl,_,_,rfl,_,_,rfl,rfl,?_⟩
   refine yes_of ⟨_,rfl,hDl,aT (by simp;omega),hD,sm.put hD,aB,?_,_,_,rfl⟩
   rw[cF hot];simp
  ·rintro D ys σ' H1 ⟨hD,sm,hDl,rfl,_⟩
   rw[hxl,List.take_length] at hDl
   refine⟨false,D,outs.map (·.2),rfl,cE.of (by rw[List.map_map];exact hDl),?_⟩
   refine⟨_,rfl,_,rfl,_,_,rfl,_,_,rfl,rfl,?_,?_⟩
   ·show 0 < (if whole outs > 1 then whole outs else 1)∧(if whole outs > 1 then whole outs else 1) < 1073741824
    split <;> omega
   have hm:(if whole outs > 1 then whole outs else 1)=whole outs:=by split <;> omega
   show tSeq _ _ _ [some (V.ref o),some (V.int has),some (V.ref d),some (V.int (whole outs)),some (V.int (has / (if whole outs > 1 then whole outs else 1))),none,none] _
   rw[hm]
   have hd1:DictG H1 d gs:=by obtain⟨kvs,e,r⟩:=hd;exact⟨kvs,sm _ _ e,r⟩
   have tsH:bL K H H1:=sm.ts
   refine⟨_,rfl,o,rfl,⟨_,sm.tup hq⟩,for_tup (K:=K) (a:=o) (xs:=xs) (fun i σ' H'=>cB d H1 H'∧DictG H' d (gs++(outs.take i).map fun x=>(x.1,has / whole outs * x.2))∧
    ∃ x y,σ'=[some (V.ref o),some (V.int has),some (V.ref d),some (V.int (whole outs)),some (V.int (has / whole outs)),x,y]) ⟨cB.refl _,by simpa using hd1,none,none,rfl⟩
    (fun i σ' H' _ p=>(p.1.ts hd1.mut) _ _ (sm.tup hq)) ?_ ?_⟩
   ·rintro i x σ' H2 hx ⟨bt,dg,v1,v2,rfl⟩
    obtain⟨ot,hot,a,rfl,qa⟩:=outs_at hl hx
    have hil:=(List.getElem?_eq_some_iff.mp hot).1
    have hom:=hok ot (List.mem_of_getElem? hot)
    refine⟨a,_,rfl,(bt.ts hd1.mut) _ _ (sm.tup qa),rfl,_,_,rfl,_,_,rfl,rfl,?_⟩
    refine⟨_,rfl,_,rfl,_,rfl,_,rfl,_,_,rfl,rfl,.inl ⟨by have:=hom.lo;omega,by have:=hom.hi;omega⟩,d,ot.1,ot.2 * (has / whole outs),_,rfl,dg,by simp;omega,fun H' bt' dg'=>?_⟩
    refine⟨bt.trans bt',?_,_,_,rfl⟩
    rw[cF hot,List.map_append,← List.append_assoc]
    rw[Int.mul_comm] at dg'
    exact dg'
   ·rintro σ' H2 ⟨bt,dg,v1,v2,rfl⟩
    rw[hxl,List.take_length] at dg
    refine⟨_,rfl,_,rfl,_,rfl,_,_,rfl,rfl,.inl ⟨by omega,by omega⟩,_,_,rfl,rfl,?_⟩
    have e:has - whole outs * (has / whole outs)=has % whole outs:=by
     have:=Int.emod_add_mul_ediv has (whole outs);omega
    show Q (V.int (has - whole outs * (has / whole outs))) H2
    rw[e]
    exact k H2 (sm.but.trans bt) dg
theorem vs_un {H:Hp}{v:Vs}{x:V} (h:Is K H (vsD v) x):∃ (a:Addr) (o c:V),x=.ref a∧bH K H a [.int v.size,.int v.brim,o,.bl v.holds,tgV v.spill,c]∧Is K H (.tup (v.outs.map outD)) o∧Is K H (.tup (v.acts.map actD)) c:=by
 obtain⟨a,xs,rfl,q,l⟩:=(show Is K H (.tup [.int v.size,.int v.brim,.tup (v.outs.map outD),.bl v.holds,tgD v.spill,.tup (v.acts.map actD)]) x from h).un
 obtain⟨x1,r,rfl,h1,l⟩:=l.un
 obtain⟨x2,r,rfl,h2,l⟩:=l.un
 obtain⟨x3,r,rfl,h3,l⟩:=l.un
 obtain⟨x4,r,rfl,h4,l⟩:=l.un
 obtain⟨x5,r,rfl,h5,l⟩:=l.un
 obtain⟨x6,r,rfl,h6,l⟩:=l.un
 have:=l.un0
 subst this
 rw[h1.ui,h2.ui,h4.ub,Is.tg h5] at q
 exact⟨a,x3,x6,rfl,q,h3,h6⟩
noncomputable def spSettle (K:PySem.W.Frag):Sp:=fun vs H Q _=>∃ (x:V) (d:Addr) (has:Int) (v:Vs) (gs:List (Option Int×Int)) (n m:Nat),vs=[x,.int has,.ref d]∧Is K H (vsD v) x∧DictG H d gs∧gs.length+5≤1000∧VOk n m v∧
 ∀ p H',cB d H H'→DictG H' d (gs++dP v has)→bH K H' p [.int (vStay v has),.bl (dO v has)]→Q (.ref p) H'
theorem sc_settle:FnScope ["vessel","has","sent","size","brim","outs","holds","spill","acts","over","left"] ["vessel","has","sent"] (aJ (aU 38)):=⟨rfl,rfl,rfl,by decide +kernel,rfl,by decide +kernel,by decide +kernel⟩
theorem ok_settle {f fS fO:Addr}{fd fdS fdO:FuncData} (F:Fun K "settle" "settle" (aU 38) f fd) (T:Txt mg) (G_send:Callee P w K mg base "send" ["sent","target","amount"] 1 spSend fS fdS)
  (G_share_out:Callee P w K mg base "share_out" ["outs","has","sent"] 2 (spShare K) fO fdO):FnOk P w K mg base CX0 3 f fd ["vessel","has","sent"] (spSettle K):=by
 refine F.ok sc_settle (fun vs H Q E h=>?_) (fun cdv A outer s H vs Q E hr h=>?_)
 ·obtain⟨x,d,has,v,gs,n,m,rfl,_⟩:=h;rfl
 ·obtain⟨x,d,has,v,gs,n,m,rfl,hx,hd,hg,ok,k⟩:=h
  have sc:=sc_settle
  refine⟨_,(aG (bK (pv 0) (aR (K:=K) (n:=6) rfl rfl (aE (aF (i:=3) sc.nd rfl (Or.inl rfl)) (aE (aF (i:=4) sc.nd rfl (Or.inl rfl)) (aE (aF (i:=5) sc.nd rfl (Or.inl rfl)) (aE (aF (i:=6) sc.nd rfl (Or.inl rfl)) (aE (aF (i:=7) sc.nd rfl (Or.inl rfl)) (aE (aF (i:=8) sc.nd rfl (Or.inl rfl)) aQ))))))))
   (aG (bD (i:=9) sc.nd rfl (Or.inl rfl) (aX (call_max2 rfl) rfl T.b_max PyProof.Rows.boot_max (aA aI (aA (bA op_sub (pv 1) (pv 4)) aD))))
   (aG (cA (cU G_send hr (aA (pv 2) (aA (pv 7) (aA (pv 9) aD)))))
   (aG (ps_aug (i:=1) sc.nd rfl (Or.inl rfl) (pv 9) ip_sub)
   (aG (dD (d7 op_lt (pv 1) (pv 3) (dA _)) (aL (b9 (bT (aA (pv 1) (aA pe_bl aD))))) bO)
   (aG (bD (i:=10) sc.nd rfl (Or.inl rfl) (cU G_share_out hr (aA (pv 5) (aA (pv 1) (aA (pv 2) aD)))))
   (aG (dD (d6 (pv 6)) (aL (b9 (bT (aA (pv 10) (aA pe_bl aD))))) bO)
   (aG (cA (cU G_send hr (aA (pv 2) (aA pe_non (aA (pv 10) aD)))))
   (aL (b9 (bT (aA aI (aA pe_bl aD))))))))))))),?_⟩
  obtain⟨a,o,c,rfl,q,ho,hc⟩:=vs_un hx
  refine⟨_,rfl,a,_,rfl,q,rfl,_,_,rfl,_,_,rfl,_,_,rfl,_,_,rfl,_,_,rfl,_,_,rfl,rfl,?_⟩
  refine⟨_,rfl,_,rfl,_,_,rfl,rfl,_,_,rfl,?_⟩
  have eo:(if has - v.brim > 0 then has - v.brim else 0)=has - cC v has:=by unfold cC;split <;> omega
  show tSeq _ _ _ [some (V.ref a),some (V.int has),some (V.ref d),some (V.int v.size),some (V.int v.brim),some o,some (V.bl v.holds),some (tgV v.spill),some c,some (V.int (if has - v.brim > 0 then has - v.brim else 0)),none] _
  rw[eo]
  refine⟨_,rfl,_,rfl,_,rfl,d,v.spill,has - cC v has,gs,rfl,hd,by omega,fun H1 b1 d1=>?_⟩
  have ts1:bL K H H1:=b1.ts hd.mut
  refine⟨_,rfl,_,rfl,_,_,rfl,rfl,?_⟩
  have eh:has - (has - cC v has)=cC v has:=by omega
  show tSeq _ _ _ [some (V.ref a),some (V.int (has - (has - cC v has))),some (V.ref d),some (V.int v.size),some (V.int v.brim),some o,some (V.bl v.holds),some (tgV v.spill),some c,some (V.int (has - cC v has)),none] _
  rw[eh]
  refine⟨_,rfl,_,rfl,_,_,rfl,rfl,_,rfl,?_⟩
  refine ite2 (fun hlt=>?_) (fun hge=>?_)
  ·have hlt':cC v has < v.size:=of_decide_eq_true hlt
   have ht:dO v has=false:=decide_eq_false (by omega)
   refine⟨_,rfl,(show 2≤sizeLine by decide),fun p hp=>?_⟩
   refine k p _ (b1.trans (aK.new hp).but) ?_ ?_
   ·have:dP v has=[(v.spill,has - cC v has)]:=by unfold dP;rw[ht];rfl
    rw[this]
    obtain⟨kvs,e,r⟩:=d1
    exact⟨kvs,aK.new hp _ _ e,r⟩
   ·have:vStay v has=cC v has:=by unfold vStay;rw[ht];rfl
    rw[this,ht]
    exact bH.of aB
  ·have hge':v.size≤cC v has:=by simpa using hge
   have ht:dO v has=true:=decide_eq_true hge'
   obtain⟨oa,os,rfl,_,_⟩:=ho.un
   refine⟨_,rfl,_,rfl,_,rfl,oa,d,cC v has,v.outs,_,n,rfl,Is.mono ts1 _ _ ho,d1,by simp;omega,ok.ne,ok.o3,ok.outs,fun H2 b2 d2=>?_⟩
   refine⟨_,rfl,_,rfl,?_⟩
   cases hh:v.holds with
   | true=>
    refine iteT ?_
    refine⟨_,rfl,(show 2≤sizeLine by decide),fun p hp=>?_⟩
    refine k p _ (b1.trans (b2.trans (aK.new hp).but)) ?_ ?_
    ·have:gs++dP v has=(gs++[(v.spill,has - cC v has)])++v.outs.map fun x=>(x.1,cC v has / whole v.outs * x.2):=by
      unfold dP shared;rw[ht,hh];simp
     rw[this]
     obtain⟨kvs,e,r⟩:=d2
     exact⟨kvs,aK.new hp _ _ e,r⟩
    ·have:vStay v has=cC v has % whole v.outs:=by unfold vStay;rw[ht,hh];rfl
     rw[this,ht]
     exact bH.of aB
   | false=>
    refine iteF ?_
    refine⟨_,rfl,_,rfl,d,none,cC v has % whole v.outs,_,rfl,d2,by simp;have:=ok.o3;omega,fun H3 b3 d3=>?_⟩
    refine⟨(show 2≤sizeLine by decide),fun p hp=>?_⟩
    refine k p _ (b1.trans (b2.trans (b3.trans (aK.new hp).but))) ?_ ?_
    ·have:gs++dP v has=((gs++[(v.spill,has - cC v has)])++v.outs.map fun x=>(x.1,cC v has / whole v.outs * x.2))++[(none,cC v has % whole v.outs)]:=by
      unfold dP shared;rw[ht,hh];simp
     rw[this]
     obtain⟨kvs,e,r⟩:=d3
     exact⟨kvs,aK.new hp _ _ e,r⟩
    ·have:vStay v has=0:=by unfold vStay;rw[ht,hh];rfl
     rw[this,ht]
     exact bH.of aB
end
end Tw
namespace Tw
open PySem L2
section
variable {P:Program}{w:World}{K:PySem.W.Frag}{mg:Str→Option Value}{base:Heap}
theorem acts_at {H:Hp}{acts:List (Str×Int)}{xs:List V}{i:Nat}{x:V} (l:IsL K H (acts.map actD) xs) (h:xs[i]? = some x) :
  ∃ o,acts[i]? = some o∧∃ a,x=.ref a∧bH K H a [.str o.1,.int o.2]:=by
 obtain⟨d,hd,hx⟩:=l.get' h
 rw[List.getElem?_map] at hd
 cases e:acts[i]? with
 | none=>rw[e] at hd;cases hd
 | some o=>
  rw[e] at hd
  cases hd
  refine⟨o,rfl,?_⟩
  obtain⟨a,ys,rfl,q,l⟩:=(show Is K H (.tup [.str o.1,.int o.2]) x from hx).un
  obtain⟨y,r,rfl,hy,l⟩:=l.un
  obtain⟨z,r,rfl,hz,l⟩:=l.un
  have:=l.un0
  subst this
  rw[hy.us,hz.ui] at q
  exact⟨a,rfl,q⟩
theorem act1_len (ds:List Bool) (a:Str×Int):(act1 ds a).length=ds.length:=by unfold act1;simp
theorem actsL_len:∀ (as:List (Str×Int)) (ds:List Bool),(dF ds as).length=ds.length
 | [],ds=>rfl
 | a::as,ds=>by
  show (dF (act1 ds a) as).length=_
  rw[actsL_len as,act1_len]
theorem doorsL_len (vs:List Vs):∀ (tip:List Nat) (ds:List Bool),(cG vs ds tip).length=ds.length
 | [],ds=>rfl
 | i::r,ds=>by
  show (cG vs (match vs[i]? with | some v=>dF ds v.acts | none=>ds) r).length=_
  rw[doorsL_len vs r]
  cases vs[i]? with
  | none=>rfl
  | some v=>exact actsL_len _ _
theorem actsL_snoc (ds:List Bool) (as:List (Str×Int)) (a:Str×Int):dF ds (as++[a])=act1 (dF ds as) a:=by
 unfold dF;rw[List.foldl_append];rfl
theorem doorsL_snoc (vs:List Vs) (ds:List Bool) (tip:List Nat) (i:Nat) (v:Vs) (h:vs[i]? = some v):cG vs ds (tip++[i])=dF (cG vs ds tip) v.acts:=by
 unfold cG;rw[List.foldl_append]
 show (match vs[i]? with | some v=>_ | none=>_)=_
 rw[h]
noncomputable def spDoors (K:PySem.W.Frag):Sp:=fun args H Q _=>∃ (x y:V) (t:Addr) (vs:List Vs) (doors:List Bool) (tip:List Nat) (n:Nat),args=[x,y,.ref t]∧Is K H (.tup (vs.map vsD)) x∧Is K H (.tup (doors.map D.bl)) y∧
 cE K H t (tip.map fun (i:Nat)=>V.int (i:Int))∧(∀ i∈tip,i < vs.length)∧(∀ v∈vs,VOk n doors.length v)∧doors.length≤12∧
 ∀ p H',aK H H'→Is K H' (.tup ((cG vs doors tip).map D.bl)) p→Q p H'
theorem sc_doors_behind:FnScope ["vessels","doors","tipped","behind","number","size","brim","outs","holds","spill","acts","word","spout"] ["vessels","doors","tipped"] (aJ (aU 41)):=⟨rfl,rfl,rfl,by decide +kernel,rfl,by decide +kernel,by decide +kernel⟩
theorem ok_doors_behind {f:Addr}{fd:FuncData} (F:Fun K "doors_behind" "doors_behind" (aU 41) f fd) (T:Txt mg):FnOk P w K mg base CX0 1 f fd ["vessels","doors","tipped"] (spDoors K):=by
 refine F.ok sc_doors_behind (fun vs H Q E h=>?_) (fun cdv A outer s H vs Q E hr h=>?_)
 ·obtain⟨x,y,t,vs,doors,tip,n,rfl,_⟩:=h;rfl
 ·obtain⟨x,y,t,vs,doors,tip,n,rfl,hx,hy,ht,htip,hok,hm,k⟩:=h
  have sc:=sc_doors_behind
  refine⟨_,(aG (bD (i:=3) sc.nd rfl (Or.inl rfl) (aZ (call_lstK (K:=K) rfl) rfl T.b_list bt_list (aA (pv 1) aD)))
   (aG (dR PassesOwn.never rfl (pi_listK (K:=K) rfl (pv 2)) (aF (i:=4) sc.nd rfl (Or.inl rfl)) (aG (bK (bI (aS (K:=K) rfl) (pv 0) (pv 4) (fun _ _=>rfl)) (aR (K:=K) (n:=6) rfl rfl (aE (aF (i:=5) sc.nd rfl (Or.inl rfl)) (aE (aF (i:=6) sc.nd rfl (Or.inl rfl)) (aE (aF (i:=7) sc.nd rfl (Or.inl rfl)) (aE (aF (i:=8) sc.nd rfl (Or.inl rfl)) (aE (aF (i:=9) sc.nd rfl (Or.inl rfl)) (aE (aF (i:=10) sc.nd rfl (Or.inl rfl)) aQ))))))))
   (aL (dR PassesOwn.never rfl (dH (K:=K) rfl (pv 10)) (aR (K:=K) (n:=2) rfl rfl (aE (aF (i:=11) sc.nd rfl (Or.inl rfl)) (aE (aF (i:=12) sc.nd rfl (Or.inl rfl)) aQ))) (aL (bK (pe_or (pe_cmpR op_eq (pv 11) pe_str (dA _)) (pe_one (pe_and (pe_cmpR op_eq (pv 11) pe_str (dA _)) (pe_one (pe_not (bI (aS (K:=K) rfl) (pv 3) (pv 12) (fun _ _=>rfl))))))) (pg_sub (pv 3) (pv 12) set_list)))))))
   (aL (b9 (aZ (bV (K:=K) rfl) rfl T.b_tuple bY (aA (pv 3) aD)))))),?_⟩
  obtain⟨ax,xs,rfl,qx,lx⟩:=hx.un
  obtain⟨ay,ys,rfl,qy,ly⟩:=hy.un
  have ey:=ly.bools
  subst ey
  have exl:xs.length=vs.length:=by rw[lx.length,List.length_map]
  refine⟨_,rfl,ay,_,rfl,.inr qy,fun b hb=>?_⟩
  have nb:∀ {c:Addr}{o:HO},H c=some o→c≠b:=fun e=>aN e hb
  refine⟨_,rfl,t,rfl,⟨_,(aK.new hb).seq ht⟩,for_list (K:=K) (a:=t) (xs:=tip.map fun (i:Nat)=>V.int (i:Int))
   (fun i σ' H'=>aK H H'∧H' b=some (.lst ((cG vs doors (tip.take i)).map V.bl))∧∃ v4 v5 v6 v7 v8 v9 v10 v11 v12,σ'=[some (.ref ax),some (.ref ay),some (.ref t),some (.ref b),v4,v5,v6,v7,v8,v9,v10,v11,v12])
   ⟨aK.new hb,aB,none,none,none,none,none,none,none,none,none,rfl⟩ (fun i σ' H' _ p=>p.1.seq ht) ?_ ?_⟩
  ·rintro i x σ' H1 hi ⟨sm,hbl,v4,v5,v6,v7,v8,v9,v10,v11,v12,rfl⟩
   rw[List.getElem?_map] at hi
   obtain⟨j,hj,rfl⟩:=Option.map_eq_some_iff.mp hi
   have hjv:=htip j (List.mem_of_getElem? hj)
   have hv:vs[j]? = some vs[j]:=by simp [hjv]
   have hvok:=hok vs[j] (List.getElem_mem hjv)
   obtain⟨xv,hxv,ixv⟩:=lx.get (i:=j) (d:=vsD vs[j]) (by rw[List.getElem?_map,hv];rfl)
   obtain⟨va,o,c,rfl,qv,ho,hc⟩:=vs_un ixv
   refine⟨_,rfl,_,rfl,.inr (.inl ⟨ax,xs,j,_,rfl,rfl,sm.tup qx,atI_nat hxv,va,_,rfl,sm.tup qv,rfl,_,_,rfl,_,_,rfl,_,_,rfl,_,_,rfl,_,_,rfl,_,_,rfl,rfl,?_⟩)⟩
   obtain⟨ca,cs,rfl,qc,lc⟩:=hc.un
   have ecs:cs.length=vs[j].acts.length:=by rw[lc.length,List.length_map]
   refine⟨_,rfl,ca,rfl,⟨_,sm.tup qc⟩,for_tup (K:=K) (a:=ca) (xs:=cs)
    (fun l σ' H'=>aK H H'∧H' b=some (.lst ((dF (cG vs doors (tip.take i)) (vs[j].acts.take l)).map V.bl))∧
     ∃ u11 u12,σ'=[some (.ref ax),some (.ref ay),some (.ref t),some (.ref b),some (.int (j:Int)),some (.int vs[j].size),some (.int vs[j].brim),some o,some (.bl vs[j].holds),some (tgV vs[j].spill),some (.ref ca),u11,u12])
    ⟨sm,hbl,v11,v12,rfl⟩ (fun l σ' H' _ p=>p.1.tup qc) ?_ ?_⟩
   ·rintro l x σ' H2 hl ⟨sm2,hb2,u11,u12,rfl⟩
    obtain⟨at',hat,aa,rfl,qa⟩:=acts_at lc hl
    have aok:=hvok.acts at' (List.mem_of_getElem? hat)
    refine⟨aa,_,rfl,sm2.tup qa,rfl,_,_,rfl,_,_,rfl,rfl,?_⟩
    have hdl:(dF (cG vs doors (tip.take i)) (vs[j].acts.take l)).length=doors.length:=by rw[actsL_len,doorsL_len]
    have hsp:at'.2.toNat < (dF (cG vs doors (tip.take i)) (vs[j].acts.take l)).length:=by rw[hdl];have:=aok.lo;have:=aok.hi;omega
    have fin:∀ c:Bool,c=(if at'.1 = "open" then true else if at'.1 = "turn" then !((dF (cG vs doors (tip.take i)) (vs[j].acts.take l)).getD at'.2.toNat false) else false)→
      aK H (upd H2 b (.lst (((dF (cG vs doors (tip.take i)) (vs[j].acts.take l)).map V.bl).set at'.2.toNat (.bl c))))∧
      upd H2 b (.lst (((dF (cG vs doors (tip.take i)) (vs[j].acts.take l)).map V.bl).set at'.2.toNat (.bl c))) b=some (.lst ((dF (cG vs doors (tip.take i)) (vs[j].acts.take (l+1))).map V.bl)):=fun c hc=>by
     refine⟨sm2.put hb,?_⟩
     rw[aB,cF hat,actsL_snoc,act1,← hc,List.map_set]
    have set:∀ c:Bool,c=(if at'.1 = "open" then true else if at'.1 = "turn" then !((dF (cG vs doors (tip.take i)) (vs[j].acts.take l)).getD at'.2.toNat false) else false)→
      gSub (cP 3) (cP 12) rSetL (.bl c) [some (.ref ax),some (.ref ay),some (.ref t),some (.ref b),some (.int (j:Int)),some (.int vs[j].size),some (.int vs[j].brim),some o,some (.bl vs[j].holds),some (tgV vs[j].spill),some (.ref ca),some (.str at'.1),some (.int at'.2)] H2
       fun σ' H'=>aK H H'∧H' b=some (.lst ((dF (cG vs doors (tip.take i)) (vs[j].acts.take (l+1))).map V.bl))∧
        ∃ u11 u12,σ'=[some (.ref ax),some (.ref ay),some (.ref t),some (.ref b),some (.int (j:Int)),some (.int vs[j].size),some (.int vs[j].brim),some o,some (.bl vs[j].holds),some (tgV vs[j].spill),some (.ref ca),u11,u12]:=fun c hc=>by
     obtain⟨f1,f2⟩:=fin c hc
     refine⟨_,rfl,_,rfl,b,_,at'.2,at'.2.toNat,rfl,rfl,hb2,ixN_nat aok.lo (by rw[List.length_map];omega),f1,f2,_,_,rfl⟩
    refine⟨_,rfl,rfl,_,rfl,?_⟩
    refine ite2 (fun h1=>?_) (fun h1=>?_)
    ·have e1:at'.1 = "open" := by have:=of_decide_eq_true h1;injection this
     exact set true (by rw[if_pos e1])
    ·have e1:¬ at'.1 = "open" := fun z=>h1 (decide_eq_true (by rw[z]))
     refine⟨_,rfl,rfl,_,rfl,?_⟩
     refine ite2 (fun h2=>?_) (fun h2=>?_)
     ·have e2:at'.1 = "turn" := by have:=of_decide_eq_true h2;injection this
      have hg:((dF (cG vs doors (tip.take i)) (vs[j].acts.take l)).map V.bl)[at'.2.toNat]? = some (.bl ((dF (cG vs doors (tip.take i)) (vs[j].acts.take l)).getD at'.2.toNat false)):=by
       rw[List.getElem?_map,List.getD_eq_getElem?_getD];simp [hsp]
      refine⟨_,rfl,_,rfl,.inl ⟨b,_,at'.2,_,rfl,rfl,cE.of hb2,atI_int aok.lo hg,_,rfl,?_⟩⟩
      exact set _ (by rw[if_neg e1,if_pos e2])
     ·have e2:¬ at'.1 = "turn" := fun z=>h2 (decide_eq_true (by rw[z]))
      exact set false (by rw[if_neg e1,if_neg e2])
   ·rintro σ' H2 ⟨sm2,hb2,u11,u12,rfl⟩
    rw[ecs,List.take_length] at hb2
    refine⟨sm2,?_,_,_,_,_,_,_,_,_,_,rfl⟩
    rw[cF hj,doorsL_snoc vs doors _ j vs[j] hv]
    exact hb2
  ·rintro σ' H1 ⟨sm,hbl,v4,v5,v6,v7,v8,v9,v10,v11,v12,rfl⟩
   rw[List.length_map,List.take_length] at hbl
   refine⟨_,rfl,b,_,rfl,.inl ⟨cE.of hbl,fun l hl=>?_⟩⟩
   exact k _ _ (sm.trans (aK.new hl)) (Is.tupOf (bH.of aB) (IsL.of_bools _))
end
end Tw
namespace Tw
open PySem L2
theorem add3_len:∀ {a b c:List Int}{n:Nat},a.length=n→b.length=n→c.length=n→(add3 a b c).length=n
 | [],b,c,n,h,_,_=>by simp at h;subst h;rfl
 | x::a,[],c,n,h1,h2,_=>by simp at h1 h2;omega
 | x::a,y::b,[],n,h1,_,h3=>by simp at h1 h3;omega
 | x::a,y::b,z::c,n,h1,h2,h3=>by
  simp at h1 h2 h3
  show (add3 a b c).length+1=n
  rw[add3_len (n:=n - 1) (by omega) (by omega) (by omega)];omega
theorem add3_get:∀ {a b c:List Int}{i:Nat}{x y z:Int},a[i]? = some x→b[i]? = some y→c[i]? = some z→(add3 a b c)[i]? = some (x+y+z)
 | [],_,_,i,_,_,_,h,_,_=>by simp at h
 | _::_,[],_,i,_,_,_,_,h,_=>by simp at h
 | _::_,_::_,[],i,_,_,_,_,_,h=>by simp at h
 | a::as,b::bs,c::cs,0,x,y,z,h1,h2,h3=>by simp at h1 h2 h3;subst h1 h2 h3;rfl
 | a::as,b::bs,c::cs,i+1,x,y,z,h1,h2,h3=>by
  show (add3 as bs cs)[i]? = _
  exact add3_get (by simpa using h1) (by simpa using h2) (by simpa using h3)
theorem fill1_len (has:List Int) (s:Spt) (d:Bool):(fill1 has s d).length=has.length:=by unfold fill1;split <;> simp
theorem fillL_len:∀ (ss:List Spt) (ds:List Bool) (has:List Int),(fillL has ss ds).length=has.length
 | [],ds,has=>by cases ds <;> rfl
 | s::ss,[],has=>rfl
 | s::ss,d::ds,has=>by show (fillL (fill1 has s d) ss ds).length=_;rw[fillL_len ss ds,fill1_len]
theorem fillL_snoc:∀ (ss:List Spt) (ds:List Bool) (i:Nat) (has:List Int) (s:Spt) (d:Bool),ss[i]? = some s→ds[i]? = some d→fillL has (ss.take (i+1)) (ds.take (i+1))=fill1 (fillL has (ss.take i) (ds.take i)) s d
 | [],_,i,_,_,_,h,_=>by simp at h
 | _::_,[],i,_,_,_,_,h=>by simp at h
 | a::ss,b::ds,0,has,s,d,h1,h2=>by simp at h1 h2;subst h1 h2;simp [fillL]
 | a::ss,b::ds,i+1,has,s,d,h1,h2=>by
  simp only [List.take_succ_cons,fillL]
  exact fillL_snoc ss ds i _ s d (by simpa using h1) (by simpa using h2)
theorem goesL_snoc:∀ (vs:List Vs) (hs:List Int) (i:Nat) (v:Vs) (h:Int),vs[i]? = some v→hs[i]? = some h→dX (vs.take (i+1)) (hs.take (i+1))=dX (vs.take i) (hs.take i)++dP v h
 | [],_,i,_,_,h,_=>by simp at h
 | _::_,[],i,_,_,_,h=>by simp at h
 | a::vs,b::hs,0,v,h,h1,h2=>by simp at h1 h2;subst h1 h2;simp [dX]
 | a::vs,b::hs,i+1,v,h,h1,h2=>by
  simp only [List.take_succ_cons,dX,List.append_assoc]
  rw[goesL_snoc vs hs i v h (by simpa using h1) (by simpa using h2)]
theorem staysL_snoc:∀ (vs:List Vs) (hs:List Int) (i:Nat) (v:Vs) (h:Int),vs[i]? = some v→hs[i]? = some h→eA (vs.take (i+1)) (hs.take (i+1))=eA (vs.take i) (hs.take i)++[vStay v h]
 | [],_,i,_,_,h,_=>by simp at h
 | _::_,[],i,_,_,_,h=>by simp at h
 | a::vs,b::hs,0,v,h,h1,h2=>by simp at h1 h2;subst h1 h2;simp [eA]
 | a::vs,b::hs,i+1,v,h,h1,h2=>by
  simp only [List.take_succ_cons,eA,List.cons_append]
  rw[staysL_snoc vs hs i v h (by simpa using h1) (by simpa using h2)]
theorem tipsL_snoc:∀ (vs:List Vs) (hs:List Int) (i j:Nat) (v:Vs) (h:Int),vs[i]? = some v→hs[i]? = some h→cJ j (vs.take (i+1)) (hs.take (i+1))=cJ j (vs.take i) (hs.take i)++(if dO v h=true then [j+i] else [])
 | [],_,i,_,_,_,h,_=>by simp at h
 | _::_,[],i,_,_,_,_,h=>by simp at h
 | a::vs,b::hs,0,j,v,h,h1,h2=>by
  simp at h1 h2;subst h1 h2
  simp only [List.take_succ_cons,List.take_zero,cJ,Nat.add_zero,List.nil_append]
 | a::vs,b::hs,i+1,j,v,h,h1,h2=>by
  simp only [List.take_succ_cons,cJ]
  rw[tipsL_snoc vs hs i (j+1) v h (by simpa using h1) (by simpa using h2)]
  have e:j+1+i=j+(i+1):=by omega
  rw[e]
  split <;> simp
theorem tipsL_lt:∀ (vs:List Vs) (hs:List Int) (j k:Nat),k∈cJ j vs hs→j≤k∧k < j+vs.length
 | [],_,_,k,h=>by simp [cJ] at h
 | _::_,[],_,k,h=>by simp [cJ] at h
 | a::vs,b::hs,j,k,h=>by
  simp only [cJ] at h
  have ih:=tipsL_lt vs hs (j+1) k
  simp only [List.length_cons]
  split at h
  ·rcases List.mem_cons.mp h with rfl | h
   ·omega
   ·have:=ih h;omega
  ·have:=ih h;omega
theorem tipsL_len:∀ (vs:List Vs) (hs:List Int) (j:Nat),(cJ j vs hs).length≤vs.length
 | [],_,_=>by simp [cJ]
 | _::_,[],_=>by simp [cJ]
 | a::vs,b::hs,j=>by
  simp only [cJ,List.length_cons]
  have:=tipsL_len vs hs (j+1)
  split
  ·rw[List.length_cons];omega
  ·omega
theorem goesL_len {n m:Nat}:∀ (vs:List Vs) (hs:List Int),(∀ v∈vs,VOk n m v)→(dX vs hs).length≤5 * vs.length
 | [],_,_=>by simp [dX]
 | _::_,[],_=>by simp [dX]
 | a::vs,b::hs,h=>by
  simp only [dX,List.length_append,List.length_cons]
  have h1:=vGoes_len (h a List.mem_cons_self) b
  have h2:=goesL_len vs hs fun v hv=>h v (List.mem_cons_of_mem _ hv)
  omega
section
variable {P:Program}{w:World}{K:PySem.W.Frag}{mg:Str→Option Value}{base:Heap}
theorem sps_at {H:Hp}{sps:List Spt}{xs:List V}{i:Nat}{x:V} (l:IsL K H (sps.map spD) xs) (h:xs[i]? = some x) :
  ∃ s,sps[i]? = some s∧∃ a,x=.ref a∧bH K H a [.int s.1,.int s.2.1,.bl s.2.2]:=by
 obtain⟨d,hd,hx⟩:=l.get' h
 rw[List.getElem?_map] at hd
 cases e:sps[i]? with
 | none=>rw[e] at hd;cases hd
 | some o=>
  rw[e] at hd
  cases hd
  refine⟨o,rfl,?_⟩
  obtain⟨a,ys,rfl,q,l⟩:=(show Is K H (.tup [.int o.1,.int o.2.1,.bl o.2.2]) x from hx).un
  obtain⟨y,r,rfl,hy,l⟩:=l.un
  obtain⟨z,r,rfl,hz,l⟩:=l.un
  obtain⟨z2,r,rfl,hz2,l⟩:=l.un
  have:=l.un0
  subst this
  rw[hy.ui,hz.ui,hz2.ub] at q
  exact⟨a,rfl,q⟩
theorem st_un {H:Hp}{held coming:List Int}{doors:List Bool}{y:V} (h:Is K H (stD held coming doors) y):∃ (a b c d:Addr),y=.ref a∧bH K H a [.ref b,.ref c,.ref d]∧bH K H b (held.map V.int)∧bH K H c (coming.map V.int)∧bH K H d (doors.map V.bl):=by
 obtain⟨a,xs,rfl,q,l⟩:=(show Is K H (.tup [.tup (held.map D.int),.tup (coming.map D.int),.tup (doors.map D.bl)]) y from h).un
 obtain⟨x1,r,rfl,h1,l⟩:=l.un
 obtain⟨x2,r,rfl,h2,l⟩:=l.un
 obtain⟨x3,r,rfl,h3,l⟩:=l.un
 have:=l.un0
 subst this
 obtain⟨b,ys,rfl,q1,l1⟩:=h1.un
 obtain⟨c,zs,rfl,q2,l2⟩:=h2.un
 obtain⟨d,us,rfl,q3,l3⟩:=h3.un
 rw[l1.ints] at q1
 rw[l2.ints] at q2
 rw[l3.bools] at q3
 exact⟨a,b,c,d,rfl,q,q1,q2,q3⟩
theorem st_of {H:Hp}{held coming:List Int}{doors:List Bool}{a b c d:Addr} (q:bH K H a [.ref b,.ref c,.ref d]) (q1:bH K H b (held.map V.int)) (q2:bH K H c (coming.map V.int)) (q3:bH K H d (doors.map V.bl)):Is K H (stD held coming doors) (.ref a):=
 Is.tupOf q (.cons (Is.tupOf q1 (IsL.of_ints _)) (.cons (Is.tupOf q2 (IsL.of_ints _)) (.cons (Is.tupOf q3 (IsL.of_bools _)) .nil)))
noncomputable def spFilled (K:PySem.W.Frag):Sp:=fun args H Q _=>∃ (x y:V) (z:Addr) (sps:List Spt) (held coming poured:List Int) (doors:List Bool) (n:Nat),args=[x,y,.ref z]∧Is K H (.tup (sps.map spD)) x∧Is K H (stD held coming doors) y∧bH K H z (poured.map V.int)∧
 held.length=n∧coming.length=n∧poured.length=n∧doors.length=sps.length∧n≤12∧(∀ s∈sps,0≤s.1∧s.1 < n)∧
 ∀ p H',aK H H'→H p=none→H' p=some (.lst ((fillL (add3 held coming poured) sps doors).map V.int))→Q (.ref p) H'
theorem sc_filled:FnScope ["spouts","state","poured","held","coming","doors","has","target","flow","first_door","door"] ["spouts","state","poured"] (aJ (aU 37)):=⟨rfl,rfl,rfl,by decide +kernel,rfl,by decide +kernel,by decide +kernel⟩
theorem ok_filled {f:Addr}{fd:FuncData} (F:Fun K "filled" "filled" (aU 37) f fd) (T:Txt mg):FnOk P w K mg base CX0 1 f fd ["spouts","state","poured"] (spFilled K):=by
 refine F.ok sc_filled (fun vs H Q E h=>?_) (fun cdv A outer s H vs Q E hr h=>?_)
 ·obtain⟨x,y,z,sps,held,coming,poured,doors,n,rfl,_⟩:=h;rfl
 ·obtain⟨x,y,z,sps,held,coming,poured,doors,n,rfl,hx,hy,qz,l1,l2,l3,l4,hn,hsp,k⟩:=h
  have sc:=sc_filled
  refine⟨_,(aG (bK (pv 1) (aR (K:=K) (n:=3) rfl rfl (aE (aF (i:=3) sc.nd rfl (Or.inl rfl)) (aE (aF (i:=4) sc.nd rfl (Or.inl rfl)) (aE (aF (i:=5) sc.nd rfl (Or.inl rfl)) aQ)))))
   (aG (ps_set_lc (i:=6) sc.nd rfl rfl (fun _ _ h=>h) rfl (LcOk.mk (N':=["amounts"]) (fr:=[none]) rfl trivial rfl rfl rfl rfl rfl trivial) (pi_zip3K (K:=K) rfl rfl T.b_zip (aA (pv 3) (aA (pv 4) (aA (pv 2) aD)))) (fun _ _ _=>(aF (i:=0) (show (["amounts"]:List Str).Nodup by decide +kernel) rfl (Or.inl rfl) (Or.inr rfl))) (fun _ _ _=>d8) (fun _ _ _=>(aX (call_sumK (K:=K) rfl rfl) rfl T.b_sum PyProof.Rows.boot_sum (aA (pv 0) aD))))
   (aG (dR PassesOwn.never rfl (pi_zip2K (K:=K) rfl rfl T.b_zip (aA (pv 0) (aA (pv 5) aD))) (aR (K:=K) (n:=2) rfl rfl (aE (aR (K:=K) (n:=3) rfl rfl (aE (aF (i:=7) sc.nd rfl (Or.inl rfl)) (aE (aF (i:=8) sc.nd rfl (Or.inl rfl)) (aE (aF (i:=9) sc.nd rfl (Or.inl rfl)) aQ)))) (aE (aF (i:=10) sc.nd rfl (Or.inl rfl)) aQ))) (aL (dD (d6 (pv 10)) (aL (ps_augS (pv 6) (pv 7) (get_listK (K:=K) rfl) (pv 8) ip_add set_list)) bO)))
   (aL (b9 (pv 6)))))),?_⟩
  obtain⟨ax,xs,rfl,qx,lx⟩:=hx.un
  obtain⟨ay,a1,a2,a3,rfl,qy,q1,q2,q3⟩:=st_un hy
  have exl:xs.length=sps.length:=by rw[lx.length,List.length_map]
  refine⟨_,rfl,ay,_,rfl,qy,rfl,_,_,rfl,_,_,rfl,_,_,rfl,rfl,?_⟩
  have la:=add3_len l1 l2 l3
  refine⟨_,rfl,_,rfl,_,rfl,true,true,true,a1,a2,z,rfl,⟨_,q1⟩,⟨_,q2⟩,⟨_,qz⟩,lc_zip3 (K:=K) (xs:=held.map V.int) (ys:=coming.map V.int) (zs:=poured.map V.int) (n:=n) (by simpa using l1) (by simpa using l2) (by simpa using l3)
   (fun D i r σ' H'=>H D=none∧aK H H'∧H' D=some (.lst r)∧r=((add3 held coming poured).take i).map V.int∧∃ v,σ'=[v])
   (fun D i r σ' H' p=>⟨p.2.1.tup q1,p.2.1.tup q2,p.2.1.tup qz⟩) (fun D hD=>⟨hD,aK.new hD,aB,by simp,none,rfl⟩) ?_ ?_⟩
  rotate_left
  ·rintro D i x0 y0 z0 r σ' H' Tt hx0 hy0 hz0 ⟨hD,sm,hDl,rfl,v,rfl⟩ hT
   rw[List.getElem?_map] at hx0 hy0 hz0
   obtain⟨x,hx,rfl⟩:=Option.map_eq_some_iff.mp hx0
   obtain⟨y,hy,rfl⟩:=Option.map_eq_some_iff.mp hy0
   obtain⟨z',hz,rfl⟩:=Option.map_eq_some_iff.mp hz0
   have hi:=add3_get hx hy hz
   have hil:=(List.getElem?_eq_some_iff.mp hi).1
   have nT:D≠Tt:=aN hDl hT
   refine dW ?_
   refine⟨_,rfl,true,Tt,[x,y,z'],rfl,bH.of aB,by rw[aM nT];exact hDl,aT (by simp;omega),hD,?_,aB,?_,_,rfl⟩
   ·intro b o e
    rw[aM (aN e hD)]
    exact aK.new hT b o (sm b o e)
   ·rw[cF hi,List.map_append]
    have:[x,y,z'].sum=x+y+z':=by simp;omega
    rw[this];rfl
  ·rintro D r σ' H1 ⟨hD,sm,hDl,rfl,_⟩
   rw[← la,List.take_length] at hDl
   refine⟨_,rfl,_,rfl,true,true,ax,a3,rfl,⟨_,sm.tup qx⟩,⟨_,sm.tup q3⟩,for_zip2 (K:=K) (xs:=xs) (ys:=doors.map V.bl) (n:=sps.length) exl (by rw[List.length_map,l4])
    (fun i σ' H'=>aK H H'∧H' D=some (.lst ((fillL (add3 held coming poured) (sps.take i) (doors.take i)).map V.int))∧
     ∃ v7 v8 v9 v10,σ'=[some (.ref ax),some (.ref ay),some (.ref z),some (.ref a1),some (.ref a2),some (.ref a3),some (.ref D),v7,v8,v9,v10])
    (fun i σ' H' p=>⟨p.1.tup qx,p.1.tup q3⟩) ⟨sm,by cases sps <;> exact hDl,none,none,none,none,rfl⟩ ?_ ?_⟩
   ·rintro σ' H2 ⟨sm2,h2,v7,v8,v9,v10,rfl⟩
    rw[← l4,List.take_length] at h2
    rw[l4,List.take_length] at h2
    refine⟨_,rfl,?_⟩
    exact k D H2 sm2 hD h2
   ·rintro i x y σ' H2 Tt hx hy ⟨sm2,h2,v7,v8,v9,v10,rfl⟩ hT
    obtain⟨sp,hsi,sa,rfl,qs⟩:=sps_at lx hx
    rw[List.getElem?_map] at hy
    obtain⟨dr,hdi,rfl⟩:=Option.map_eq_some_iff.mp hy
    have nT:D≠Tt:=aN h2 hT
    have sm3:aK H (upd H2 Tt (.tup [.ref sa,.bl dr])):=fun b o e=>aK.new hT b o (sm2 b o e)
    have h3:upd H2 Tt (.tup [.ref sa,.bl dr]) D=some (.lst ((fillL (add3 held coming poured) (sps.take i) (doors.take i)).map V.int)):=by rw[aM nT];exact h2
    refine⟨Tt,_,rfl,bH.of aB,rfl,_,_,rfl,⟨sa,_,rfl,sm3.tup qs,rfl,_,_,rfl,_,_,rfl,_,_,rfl,rfl,_,_,rfl,rfl,?_⟩⟩
    refine⟨_,rfl,_,rfl,?_⟩
    have snoc:=fillL_snoc sps doors i (add3 held coming poured) sp dr hsi hdi
    cases dr with
    | false=>
     refine iteF ?_
     refine⟨sm3,?_,_,_,_,_,rfl⟩
     rw[snoc];exact h3
    | true=>
     refine iteT ?_
     have hs:=hsp sp (List.mem_of_getElem? hsi)
     have hlen:(fillL (add3 held coming poured) (sps.take i) (doors.take i)).length=n:=by rw[fillL_len,la]
     have hlt:sp.1.toNat < (fillL (add3 held coming poured) (sps.take i) (doors.take i)).length:=by rw[hlen];omega
     have hg:((fillL (add3 held coming poured) (sps.take i) (doors.take i)).map V.int)[sp.1.toNat]? = some (.int ((fillL (add3 held coming poured) (sps.take i) (doors.take i)).getD sp.1.toNat 0)):=by
      rw[List.getElem?_map,List.getD_eq_getElem?_getD];simp [hlt]
     refine⟨_,rfl,_,rfl,D,_,sp.1,_,rfl,rfl,cE.of h3,hs.1,by omega,hg,_,rfl,_,_,rfl,rfl,D,_,sp.1,sp.1.toNat,rfl,rfl,h3,ixN_nat hs.1 (by rw[List.length_map,hlen];omega),?_⟩
     refine⟨sm3.put hD,?_,_,_,_,_,rfl⟩
     rw[aB,snoc,fill1,if_pos rfl,List.map_set]
end
end Tw
namespace Tw
open PySem L2
theorem staysL_len:∀ (vs:List Vs) (hs:List Int),vs.length=hs.length→(eA vs hs).length=vs.length
 | [],_,_=>by simp [eA]
 | _::_,[],h=>by simp at h
 | a::vs,b::hs,h=>by simp only [eA,List.length_cons];rw[staysL_len vs hs (by simpa using h)]
section
variable {P:Program}{w:World}{K:PySem.W.Frag}{mg:Str→Option Value}{base:Heap}
theorem net_un {H:Hp}{net:Net}{x:V} (h:Is K H (netD net) x):∃ (a b c:Addr) (xs ys:List V),x=.ref a∧bH K H a [.ref b,.ref c]∧bH K H b xs∧IsL K H (net.vs.map vsD) xs∧bH K H c ys∧IsL K H (net.sps.map spD) ys:=by
 obtain⟨a,zs,rfl,q,l⟩:=(show Is K H (.tup [.tup (net.vs.map vsD),.tup (net.sps.map spD)]) x from h).un
 obtain⟨x1,r,rfl,h1,l⟩:=l.un
 obtain⟨x2,r,rfl,h2,l⟩:=l.un
 have:=l.un0
 subst this
 obtain⟨b,xs,rfl,q1,l1⟩:=h1.un
 obtain⟨c,ys,rfl,q2,l2⟩:=h2.un
 exact⟨a,b,c,xs,ys,rfl,q,q1,l1,q2,l2⟩
structure StOk (net:Net) (held coming:List Int) (doors:List Bool):Prop where
 h:held.length=net.vs.length
 c:coming.length=net.vs.length
 d:doors.length=net.sps.length
noncomputable def spTick (K:PySem.W.Frag):Sp:=fun args H Q _=>∃ (x y:V) (z:Addr) (net:Net) (held coming poured:List Int) (doors:List Bool),args=[x,y,.ref z]∧Is K H (netD net) x∧Is K H (stD held coming doors) y∧bH K H z (poured.map V.int)∧
 NetOk net∧StOk net held coming doors∧poured.length=net.vs.length∧∀ (p:Addr) (ys:List V) H',aK H H'→H' p=some (.tup ys)→Is K H' (tickD (cZ net held coming poured doors)) (.ref p)→Q (.ref p) H'
theorem sc_tick_behind:FnScope ["net","state","poured","vessels","spouts","held","tipped","sent","number","has","left","tips","coming","doors"] ["net","state","poured"] (aJ (aU 35)):=⟨rfl,rfl,rfl,by decide +kernel,rfl,by decide +kernel,by decide +kernel⟩
theorem ok_tick_behind {f fF fS fD:Addr}{fd fdF fdS fdD:FuncData} (F:Fun K "tick_behind" "tick_behind" (aU 35) f fd) (T:Txt mg) (G_filled:Callee P w K mg base "filled" ["spouts","state","poured"] 1 (spFilled K) fF fdF)
  (G_settle:Callee P w K mg base "settle" ["vessel","has","sent"] 3 (spSettle K) fS fdS) (G_doors_behind:Callee P w K mg base "doors_behind" ["vessels","doors","tipped"] 1 (spDoors K) fD fdD):FnOk P w K mg base CX0 4 f fd ["net","state","poured"] (spTick K):=by
 refine F.ok sc_tick_behind (fun vs H Q E h=>?_) (fun cdv A outer s H vs Q E hr h=>?_)
 ·obtain⟨x,y,z,net,held,coming,poured,doors,rfl,_⟩:=h;rfl
 ·obtain⟨x,y,z,net,held,coming,poured,doors,rfl,hx,hy,qz,nok,sok,lp,k⟩:=h
  have sc:=sc_tick_behind
  have hu:=hu_of hr
  refine⟨_,(aG (bK (pv 0) (aR (K:=K) (n:=2) rfl rfl (aE (aF (i:=3) sc.nd rfl (Or.inl rfl)) (aE (aF (i:=4) sc.nd rfl (Or.inl rfl)) aQ))))
   (aG (bK (bT (aA (bX aD) (aA (bX aD) (aA pe_dnewK aD)))) (aR (K:=K) (n:=3) rfl rfl (aE (aF (i:=5) sc.nd rfl (Or.inl rfl)) (aE (aF (i:=6) sc.nd rfl (Or.inl rfl)) (aE (aF (i:=7) sc.nd rfl (Or.inr rfl)) aQ)))))
   (aG (dR PassesOwn.never rfl (pi_enumK (K:=K) rfl rfl T.b_enumerate (aA (cU G_filled hr (aA (pv 4) (aA (pv 1) (aA (pv 2) aD)))) aD)) (aR (K:=K) (n:=2) rfl rfl (aE (aF (i:=8) sc.nd rfl (Or.inl rfl)) (aE (aF (i:=9) sc.nd rfl (Or.inl rfl)) aQ))) (aG (bK (cU G_settle hr (aA (bI (aS (K:=K) rfl) (pv 3) (pv 8) (fun _ _=>rfl)) (aA (pv 9) (aA (pv 7) aD)))) (aR (K:=K) (n:=2) rfl rfl (aE (aF (i:=10) sc.nd rfl (Or.inl rfl)) (aE (aF (i:=11) sc.nd rfl (Or.inl rfl)) aQ))))
   (aG (cA (pe_bmK (K:=K) rfl PySem.F.plainAttrs_list PySem.F.slot_list_append PySem.F.type_list_append cI (pv 5) (aA (pv 10) aD)))
   (aL (dD (d6 (pv 11)) (aL (cA (pe_bmK (K:=K) rfl PySem.F.plainAttrs_list PySem.F.slot_list_append PySem.F.type_list_append cI (pv 6) (aA (pv 8) aD)))) bO)))))
   (aG (ps_set_lc (i:=12) sc.nd rfl rfl (fun _ _ h=>h) rfl (LcOk.mk (N':=["number","sent"]) (fr:=[none,some 7]) rfl ⟨rfl,trivial⟩ rfl rfl rfl rfl rfl ⟨⟨_,rfl,rfl,rfl,rfl⟩,trivial⟩) (eC rfl T.b_range (aA (aX (bZ (K:=K) rfl) rfl T.b_len PySem.boot_len (aA (pv 3) aD)) aD)) (fun _ _ _=>(aF (i:=0) (show (["number","sent"]:List Str).Nodup by decide +kernel) rfl (Or.inl rfl) (Or.inr rfl))) (fun _ _ _=>d8) (fun _ _ _=>(pe_dget2 hu (pv 1) (pv 0) aI ⟨rfl,rfl,rfl,rfl⟩)))
   (aG (bD (i:=13) sc.nd rfl (Or.inl rfl) (cU G_doors_behind hr (aA (pv 3) (aA (bI (aS (K:=K) rfl) (pv 1) aI (fun _ _=>rfl)) (aA (pv 6) aD)))))
   (aL (b9 (bT (aA (bT (aA (aZ (bV (K:=K) rfl) rfl T.b_tuple bY (aA (pv 5) aD)) (aA (aZ (bV (K:=K) rfl) rfl T.b_tuple bY (aA (pv 12) aD)) (aA (pv 13) aD)))) (aA (aZ (bV (K:=K) rfl) rfl T.b_tuple bY (aA (pv 6) aD)) (aA (pe_dget2 hu (pv 7) pe_non aI ⟨rfl,rfl,rfl,rfl⟩) aD))))))))))),?_⟩
  obtain⟨ax,av,as,xs,ys,rfl,qx,qv,lv,qs,ls⟩:=net_un hx
  obtain⟨ay,b1,b2,b3,rfl,qy,q1,q2,q3⟩:=st_un hy
  have exl:xs.length=net.vs.length:=by rw[lv.length,List.length_map]
  refine⟨_,rfl,ax,_,rfl,qx,rfl,_,_,rfl,_,_,rfl,rfl,?_⟩
  refine⟨Nat.zero_le _,fun hl hhl=>⟨Nat.zero_le _,fun tl htl=>fun sd hsd=>⟨(show 3≤sizeLine by decide),fun tp htp=>⟨tp,_,rfl,bH.of aB,rfl,_,_,rfl,_,_,rfl,_,_,rfl,rfl,?_⟩⟩⟩⟩
  have n1:hl≠tl:=aN (show upd H hl (.lst []) hl=_ from aB) htl
  have fh:H hl=none:=hhl
  have ft:H tl=none:=aK.free (aK.new hhl) htl
  have fs:H sd=none:=aK.free ((aK.new hhl).trans (aK.new htl)) hsd
  have n2:hl≠sd:=aN (by rw[aM n1];exact aB) hsd
  have n3:tl≠sd:=aN (show upd (upd H hl (.lst [])) tl (.lst []) tl=_ from aB) hsd
  have sm0:aK H (upd (upd (upd (upd H hl (.lst [])) tl (.lst [])) sd (.dK [])) tp (.tup [.ref hl,.ref tl,.ref sd])):=(((aK.new hhl).trans (aK.new htl)).trans (aK.new hsd)).trans (aK.new htp)
  have g1:upd (upd (upd (upd H hl (.lst [])) tl (.lst [])) sd (.dK [])) tp (.tup [.ref hl,.ref tl,.ref sd]) hl=some (.lst []):=aK.new htp _ _ (by rw[aM n2,aM n1];exact aB)
  have g2:upd (upd (upd (upd H hl (.lst [])) tl (.lst [])) sd (.dK [])) tp (.tup [.ref hl,.ref tl,.ref sd]) tl=some (.lst []):=aK.new htp _ _ (by rw[aM n3];exact aB)
  have g3:upd (upd (upd (upd H hl (.lst [])) tl (.lst [])) sd (.dK [])) tp (.tup [.ref hl,.ref tl,.ref sd]) sd=some (.dK []):=aK.new htp _ _ aB
  generalize upd (upd (upd (upd H hl (.lst [])) tl (.lst [])) sd (.dK [])) tp (.tup [.ref hl,.ref tl,.ref sd])=H0 at sm0 g1 g2 g3 ⊢
  refine⟨_,rfl,_,rfl,_,rfl,.ref as,.ref ay,z,net.sps,held,coming,poured,doors,net.vs.length,rfl,Is.tupOf (sm0.tup qs) (IsL.mono sm0.ts _ _ ls),Is.mono sm0.ts _ _ hy,sm0.tup qz,sok.h,sok.c,lp,sok.d,nok.hi,nok.sps,fun ha H1 sm1 fha hha=>?_⟩
  have hsl:(bB net held coming poured doors).length=net.vs.length:=by
   unfold bB;rw[fillL_len,add3_len sok.h sok.c lp]
  have g1':=sm1 _ _ g1
  have g2':=sm1 _ _ g2
  have g3':=sm1 _ _ g3
  have na1:hl≠ha:=aN g1 fha
  have na2:tl≠ha:=aN g2 fha
  have na3:sd≠ha:=aN g3 fha
  have fa:H ha=none:=sm0.free fha
  refine⟨false,ha,rfl,⟨_,cE.of hha⟩,for_enum (K:=K) (t:=false) (a:=ha) (xs:=(bB net held coming poured doors).map V.int)
   (fun i σ' H'=>aK H H'∧H' ha=some (.lst ((bB net held coming poured doors).map V.int))∧H' hl=some (.lst ((eA (net.vs.take i) ((bB net held coming poured doors).take i)).map V.int))∧
    H' tl=some (.lst ((cJ 0 (net.vs.take i) ((bB net held coming poured doors).take i)).map fun (j:Nat)=>V.int (j:Int)))∧DictG H' sd (dX (net.vs.take i) ((bB net held coming poured doors).take i))∧
    ∃ v8 v9 v10 v11,σ'=[some (.ref ax),some (.ref ay),some (.ref z),some (.ref av),some (.ref as),some (.ref hl),some (.ref tl),some (.ref sd),v8,v9,v10,v11,none,none])
   (fun i σ' H' p=>cE.of p.2.1) ⟨sm0.trans sm1,hha,by simpa [eA] using g1',by simpa [cJ] using g2',⟨[],g3',by simp,fun k=>rfl⟩,none,none,none,none,rfl⟩ ?_ ?_⟩
  rotate_left
  ·rintro i x0 σ' H2 Tt hx0 ⟨sm2,p1,p2,p3,p4,v8,v9,v10,v11,rfl⟩ hT
   rw[List.getElem?_map] at hx0
   obtain⟨hi,hhi,rfl⟩:=Option.map_eq_some_iff.mp hx0
   have hil:i < net.vs.length:=by rw[← hsl];exact (List.getElem?_eq_some_iff.mp hhi).1
   have hv:net.vs[i]? = some net.vs[i]:=by simp [hil]
   have vok:=nok.vs _ (List.getElem_mem hil)
   obtain⟨xv,hxv,ixv⟩:=lv.get (i:=i) (d:=vsD net.vs[i]) (by rw[List.getElem?_map,hv];rfl)
   have smT:=aK.new (o:=HO.tup [.int (i:Int),.int hi]) hT
   refine⟨Tt,_,rfl,bH.of aB,rfl,_,_,rfl,_,_,rfl,rfl,?_⟩
   have sm3:aK H (upd H2 Tt (.tup [.int (i:Int),.int hi])):=sm2.trans smT
   obtain⟨kvs,d1,d2,d3⟩:=p4
   have hgl:=goesL_len (net.vs.take i) ((bB net held coming poured doors).take i) fun v hv'=>nok.vs v (List.mem_of_mem_take hv')
   have htk:(net.vs.take i).length≤12:=by rw[List.length_take];have:=nok.hi;omega
   refine⟨_,rfl,_,rfl,.inr (.inl ⟨av,xs,i,_,rfl,rfl,sm3.tup qv,atI_nat hxv,_,rfl,_,rfl,xv,sd,hi,net.vs[i],_,_,_,rfl,Is.mono sm3.ts _ _ ixv,⟨kvs,smT _ _ d1,d2,d3⟩,by omega,vok,fun p H3 bt dg qp=>?_⟩)⟩
   refine⟨p,_,rfl,qp,rfl,_,_,rfl,_,_,rfl,rfl,?_⟩
   have e1:=bt hl _ n2 (smT _ _ p2)
   have e2:=bt tl _ n3 (smT _ _ p3)
   have e3:=bt ha _ (Ne.symm na3) (smT _ _ p1)
   have sm4:aK H H3:=fun b o e=>bt b o (aN e fs) (sm3 b o e)
   have stl:(eA (net.vs.take i) ((bB net held coming poured doors).take i)).length≤12:=by
    rw[staysL_len _ _ (by rw[List.length_take,List.length_take,hsl])];exact htk
   have tpl:=tipsL_len (net.vs.take i) ((bB net held coming poured doors).take i) 0
   refine⟨_,rfl,.inl ⟨rfl,_,cE.of e1⟩,_,rfl,hl,_,_,rfl,rfl,e1,aT (by simp;omega),?_⟩
   have f1:upd H3 hl (.lst ((eA (net.vs.take i) ((bB net held coming poured doors).take i)).map V.int++[.int (vStay net.vs[i] hi)])) tl=some (.lst ((cJ 0 (net.vs.take i) ((bB net held coming poured doors).take i)).map fun (j:Nat)=>V.int (j:Int))):=by rw[aM (Ne.symm n1)];exact e2
   have s1:=staysL_snoc net.vs (bB net held coming poured doors) i _ _ hv hhi
   have s2:=tipsL_snoc net.vs (bB net held coming poured doors) i 0 _ _ hv hhi
   have s3:=goesL_snoc net.vs (bB net held coming poured doors) i _ _ hv hhi
   have dgo:∀ {Hx:Hp},Hx sd=H3 sd→DictG Hx sd (dX (net.vs.take (i+1)) ((bB net held coming poured doors).take (i+1))):=fun {Hx} e=>by
    obtain⟨kv,a1,a2,a3⟩:=dg
    rw[s3]
    exact⟨kv,e.trans a1,a2,a3⟩
   refine⟨_,rfl,_,rfl,?_⟩
   cases ht:dO net.vs[i] hi with
   | false=>
    refine iteF ?_
    rw[ht] at s2
    refine⟨sm4.put fh,by rw[aM (Ne.symm na1)];exact e3,by rw[aB,s1,List.map_append];rfl,by rw[s2];simpa using f1,dgo (by rw[aM (Ne.symm n2)]),_,_,_,_,rfl⟩
   | true=>
    refine iteT ?_
    rw[ht] at s2
    refine⟨_,rfl,.inl ⟨rfl,_,cE.of f1⟩,_,rfl,tl,_,_,rfl,rfl,f1,aT (by simp;omega),?_⟩
    refine⟨(sm4.put fh).put ft,by rw[aM (Ne.symm na2),aM (Ne.symm na1)];exact e3,by rw[aM n1,aB,s1,List.map_append];rfl,?_,dgo (by rw[aM (Ne.symm n3),aM (Ne.symm n2)]),_,_,_,_,rfl⟩
    rw[aB,s2]
    simp
  ·rintro σ' H2 ⟨sm2,p1,p2,p3,p4,v8,v9,v10,v11,rfl⟩
   rw[List.length_map,hsl] at p2 p3 p4
   have ek:net.vs.take net.vs.length=net.vs:=List.take_length
   have ek2:(bB net held coming poured doors).take net.vs.length=bB net held coming poured doors:=by rw[← hsl,List.take_length]
   rw[ek,ek2] at p2 p3 p4
   obtain⟨kvs,d1,d2,d3⟩:=p4
   refine⟨_,rfl,av,xs,rfl,.inr (sm2.tup qv),_,rfl,by omega,by have:=nok.hi;omega,?_⟩
   have hn:((xs.length:Nat):Int).toNat=net.vs.length:=by rw[exl];simp
   rw[hn]
   refine lc_range (n:=net.vs.length) (fun D i r σ' H'=>H2 D=none∧aK H2 H'∧H' D=some (.lst r)∧r=((laterL net.vs.length (dX net.vs (bB net held coming poured doors))).take i).map V.int∧∃ v,σ'=[v,some (.ref sd)])
    (fun D hD=>⟨hD,aK.new hD,aB,by simp,none,rfl⟩) ?_ ?_
   rotate_left
   ·rintro D i r σ' H' hi ⟨hD,sm,hDl,rfl,v,rfl⟩
    refine dW ?_
    have hg:=DGet.k (k:=keyO (some (i:Int))) (sm _ _ d1)
    refine⟨_,rfl,sd,rfl,.inl ⟨kvs,.inl (sm _ _ d1)⟩,_,rfl,_,hg,hDl,aT (by simp [laterL];have:=nok.hi;omega),hD,sm.put hD,aB,?_,_,rfl⟩
    have e:(laterL net.vs.length (dX net.vs (bB net held coming poured doors)))[i]? = some (bJ (some (i:Int)) (dX net.vs (bB net held coming poured doors))):=by
     unfold laterL;simp [hi]
    rw[cF e,List.map_append]
    show _++[(dZ kvs (keyO (some (i:Int)))).getD (.int 0)]=_
    rw[d3];rfl
   ·rintro D r σ' H3 ⟨hD,sm,hDl,rfl,_⟩
    have ll:(laterL net.vs.length (dX net.vs (bB net held coming poured doors))).length=net.vs.length:=by unfold laterL;simp
    rw[List.take_of_length_le (Nat.le_of_eq ll)] at hDl
    have sm3:aK H H3:=sm2.trans sm
    refine⟨_,rfl,_,rfl,.inr (.inl ⟨ay,_,2,_,rfl,rfl,sm3.tup qy,rfl,_,rfl,.ref av,.ref b3,tl,net.vs,doors,cJ 0 net.vs (bB net held coming poured doors),net.vs.length,rfl,Is.tupOf (sm3.tup qv) (IsL.mono sm3.ts _ _ lv),Is.tupOf (sm3.tup q3) (IsL.of_bools _),cE.of (sm _ _ p3),fun j hj=>by have:=tipsL_lt _ _ _ _ hj;omega,fun v hv=>by rw[sok.d];exact nok.vs v hv,by rw[sok.d];exact nok.sp,fun dp H4 sm4 hdp=>?_⟩)⟩
    obtain⟨da,dxs,rfl,qd,ld⟩:=hdp.un
    have c1:=sm4 _ _ (sm _ _ p2)
    have c2:=sm4 _ _ hDl
    have c3:=sm4 _ _ (sm _ _ p3)
    have c4:=sm4 _ _ (sm _ _ d1)
    refine⟨_,rfl,hl,_,rfl,.inl ⟨cE.of c1,fun t1 ht1=>?_⟩⟩
    have m1:=aK.new (o:=HO.tup ((eA net.vs (bB net held coming poured doors)).map V.int)) ht1
    refine⟨_,rfl,D,_,rfl,.inl ⟨cE.of (m1 _ _ c2),fun t2 ht2=>?_⟩⟩
    have m2:=aK.new (o:=HO.tup ((laterL net.vs.length (dX net.vs (bB net held coming poured doors))).map V.int)) ht2
    refine⟨_,rfl,(show 3≤sizeLine by decide),fun t3 ht3=>?_⟩
    have m3:=aK.new (o:=HO.tup [.ref t1,.ref t2,.ref da]) ht3
    refine⟨_,rfl,tl,_,rfl,.inl ⟨cE.of (m3 _ _ (m2 _ _ (m1 _ _ c3))),fun t4 ht4=>?_⟩⟩
    have m4:=aK.new (o:=HO.tup ((cJ 0 net.vs (bB net held coming poured doors)).map fun (j:Nat)=>V.int (j:Int))) ht4
    have c4':=m4 _ _ (m3 _ _ (m2 _ _ (m1 _ _ c4)))
    have hg:=DGet.k (k:=keyO none) c4'
    refine⟨_,rfl,sd,rfl,.inl ⟨kvs,.inl c4'⟩,_,hg,(show 3≤sizeLine by decide),fun t5 ht5=>?_⟩
    have m5:aK _ _:=aK.new (o:=HO.tup [.ref t3,.ref t4,(dZ kvs (keyO none)).getD (.int 0)]) ht5
    have eg:(dZ kvs (keyO none)).getD (.int 0)=.int (bJ none (dX net.vs (bB net held coming poured doors))):=d3 none
    refine k _ _ _ ((((((sm3.trans sm4).trans m1).trans m2).trans m3).trans m4).trans m5) aB ?_
    refine Is.tupOf (bH.of aB) (.cons ?_ (.cons ?_ (.cons ?_ .nil)))
    ·exact Is.mono m5.ts _ _ (Is.mono m4.ts _ _ (st_of (bH.of aB) (m3.tup (m2.tup (bH.of aB))) (m3.tup (bH.of aB)) (by
      have:=ld.bools;rw[this] at qd;exact m3.tup (m2.tup (m1.tup qd)))))
    ·refine Is.mono m5.ts _ _ (Is.tupOf (bH.of aB) ?_)
     show L2.IsL K _ ((cJ 0 net.vs (bB net held coming poured doors)).map fun (i:Nat)=>L2.D.int (i:Int)) _
     have e1:((cJ 0 net.vs (bB net held coming poured doors)).map fun (i:Nat)=>L2.D.int (i:Int))=((cJ 0 net.vs (bB net held coming poured doors)).map fun (i:Nat)=>(i:Int)).map L2.D.int:=by rw[List.map_map];rfl
     have e2:((cJ 0 net.vs (bB net held coming poured doors)).map fun (i:Nat)=>V.int (i:Int))=((cJ 0 net.vs (bB net held coming poured doors)).map fun (i:Nat)=>(i:Int)).map V.int:=by rw[List.map_map];rfl
     rw[e1,e2]
     exact L2.IsL.of_ints _
    ·rw[eg];exact Is.i _
end
end Tw
namespace Tw
open PySem L2
section
variable {P:Program}{w:World}{K:PySem.W.Frag}{mg:Str→Option Value}{base:Heap}
noncomputable def dB (H:Hp) (t sl:Addr):Prop:=∃ (ns:List Int) (pos cell:Int),H t=some (.lst [.ref sl,.int pos,.int cell])∧H sl=some (.lst (ns.map V.int))∧ns.length≤1000
theorem dB.mut {H:Hp}{t sl:Addr} (h:dB H t sl):Mut (H t):=by obtain⟨ns,pos,cell,e,_⟩:=h;rw[e];exact trivial
theorem dB.same {H H':Hp}{t sl:Addr} (h:dB H t sl) (s:aK H H'):dB H' t sl:=by
 obtain⟨ns,pos,cell,e,f,g⟩:=h;exact⟨ns,pos,cell,s _ _ e,s _ _ f,g⟩
noncomputable def spDraw:Sp:=fun vs H Q _=>∃ (t sl:Addr) (many:Int),vs=[.ref t,.int many]∧dB H t sl∧0 < many∧many < 1000000∧
 ∀ (r:Int) H',cB t H H'→dB H' t sl→0≤r→r < many→Q (.int r) H'
noncomputable def spDrawB:Sp:=fun vs H Q _=>∃ (t sl:Addr) (many:Int),vs=[.ref t,.int many]∧dB H t sl∧0 < many∧many < 2 ^ 200∧
 ∀ (r:Int) H',cB t H H'→dB H' t sl→0≤r→r < many→Q (.int r) H'
noncomputable abbrev rdTail (K:PySem.W.Frag):TS:=tSeq (tAsg (tOp (rI (fun _ j=>0 < j) fun i j=>.int (i % j)) (tOp (rIx K) (cP 0) (tC (.int 2))) (cP 1)) (gName 4)) (tSeq (tAsg (tOp (rI CDivB fun i j=>.int (i / j)) (tOp (rIx K) (cP 0) (tC (.int 2))) (cP 1)) (gSub (cP 0) (tC (.int 2)) rSetL)) (tRet (cP 4)))
noncomputable abbrev rdMid (K:PySem.W.Frag):TS:=tSeq (tAsg (tOp (rI0 fun i j=>.int (i+j)) (tOp (rIx K) (cP 0) (tC (.int 1))) (tC (.int 1))) (gSub (cP 0) (tC (.int 1)) rSetL)) (tAsg (cP 3) (gSub (cP 0) (tC (.int 2)) rSetL))
noncomputable abbrev rdBody (K:PySem.W.Frag):TS:=tSeq (tAsg (tOp (rI (fun _ j=>0 < j) fun i j=>.int (i % j)) (tOp (rI0 fun i j=>.int (i+j)) (cP 3) (tOp (rI CMul fun i j=>.int (i * j)) (tC (.int 1000003)) (tOp (rIx K) (cP 0) (tC (.int 1))))) (cP 2)) (gName 3)) (tSeq (tAsg (tOp (rI (fun _ j=>0 < j) fun i j=>.int (i % j)) (tOp (rI0 fun i j=>.int (i+j)) (tOp (rI0 fun i j=>.int (i+j)) (tOp (rI CMul fun i j=>.int (i * j)) (cP 3) (cP 3)) (tOp (rI CMul fun i j=>.int (i * j)) (tC (.int 1181783497276652981)) (cP 3))) (tC (.int 2049848353892358983))) (cP 2)) (gName 3)) (tAsg (tOp (rI (fun _ j=>0 < j) fun i j=>.int (i % j)) (tOp (rI0 fun i j=>.int (i+j)) (tOp (rI CMul fun i j=>.int (i * j)) (cP 3) (cP 3)) (tC (.int 1442695040888963407))) (cP 2)) (gName 3)))
noncomputable abbrev rdTest (K:PySem.W.Frag):TT:=tOr (tTest (tOp (rI0 fun i j=>.bl (decide (j≤i))) (tOp (rIx K) (cP 0) (tC (.int 1))) (tCB (rLen K) (cT (tOp (rIx K) (cP 0) (tC (.int 0))) tNil)))) (tTest (tOp (rI0 fun i j=>.bl (decide (i < j))) (cP 3) (tOp (rI CPow fun i j=>.int (i ^ j.toNat)) (tC (.int 10)) (tC (.int 18)))))
noncomputable abbrev dE (Q:VK):Ends:={ nx:=fun _ H'=>Q .non H',rt:=Q }
theorem sc__law_draw:FnScope ["tape","many","prime","cell","found"] ["tape","many"] (aJ (aU 50)):=⟨rfl,rfl,rfl,by decide +kernel,rfl,by decide +kernel,by decide +kernel⟩
theorem ok__law_drawB {f:Addr}{fd:FuncData} (F:Fun K "_law_draw" "_law_draw" (aU 50) f fd) (T:Txt mg):FnOk P w K mg base CX0 1 f fd ["tape","many"] spDrawB:=by
 refine F.ok sc__law_draw (fun vs H Q E h=>?_) (fun cdv A outer s H vs Q E hr h=>?_)
 ·obtain⟨t,sl,many,rfl,_⟩:=h;rfl
 ·obtain⟨t,sl,many,rfl,⟨ns,pos,cell,ht,hsl,hns⟩,hm0,hm1,k⟩:=h
  have sc:=sc__law_draw
  refine⟨_,(aG (bD (i:=2) sc.nd rfl (Or.inl rfl) aI)
   (aG (dD (d7 op_lt (bI (aS (K:=K) rfl) (pv 0) aI (fun _ _=>rfl)) (pv 1) (dA _)) (aG (bD (i:=3) sc.nd rfl (Or.inl rfl) aI)
   (aG (dD (d7 op_gt (aX (bZ (K:=K) rfl) rfl T.b_len PySem.boot_len (aA (bI (aS (K:=K) rfl) (pv 0) aI (fun _ _=>rfl)) aD)) aI (dA _)) (aL (bD (i:=3) sc.nd rfl (Or.inl rfl) (bI (aS (K:=K) rfl) (bI (aS (K:=K) rfl) (pv 0) aI (fun _ _=>rfl)) (bA op_mod (bI (aS (K:=K) rfl) (pv 0) aI (fun _ _=>rfl)) (aX (bZ (K:=K) rfl) rfl T.b_len PySem.boot_len (aA (bI (aS (K:=K) rfl) (pv 0) aI (fun _ _=>rfl)) aD))) (fun _ _=>rfl)))) bO)
   (aG (dD (PW.pt (pw_or (d7 op_ge (bI (aS (K:=K) rfl) (pv 0) aI (fun _ _=>rfl)) (aX (bZ (K:=K) rfl) rfl T.b_len PySem.boot_len (aA (bI (aS (K:=K) rfl) (pv 0) aI (fun _ _=>rfl)) aD)) (dA _)) (pw_or1 (d7 op_lt (pv 3) (bA op_pow aI aI) (dA _))))) (aG (bD (i:=3) sc.nd rfl (Or.inl rfl) (bA op_mod (bA d9 (pv 3) (bA op_mul aI (bI (aS (K:=K) rfl) (pv 0) aI (fun _ _=>rfl)))) (pv 2)))
   (aG (bD (i:=3) sc.nd rfl (Or.inl rfl) (bA op_mod (bA d9 (bA d9 (bA op_mul (pv 3) (pv 3)) (bA op_mul aI (pv 3))) aI) (pv 2)))
   (aL (bD (i:=3) sc.nd rfl (Or.inl rfl) (bA op_mod (bA d9 (bA op_mul (pv 3) (pv 3)) aI) (pv 2)))))) bO)
   (aG (bK (bA d9 (bI (aS (K:=K) rfl) (pv 0) aI (fun _ _=>rfl)) aI) (pg_sub (pv 0) aI set_list))
   (aL (bK (pv 3) (pg_sub (pv 0) aI set_list))))))) bO)
   (aG (bD (i:=4) sc.nd rfl (Or.inl rfl) (bA op_mod (bI (aS (K:=K) rfl) (pv 0) aI (fun _ _=>rfl)) (pv 1)))
   (aG (bK (bA op_fdivB (bI (aS (K:=K) rfl) (pv 0) aI (fun _ _=>rfl)) (pv 1)) (pg_sub (pv 0) aI set_list))
   (aL (b9 (pv 4))))))),?_⟩
  have nst:sl≠t:=ne_of hsl ht (by intro z;injection z with z;cases ns <;> simp at z)
  have ix:∀ {H1:Hp}{p' c':Int}{Q:VK},H1 t=some (.lst [.ref sl,.int p',.int c'])→Q (.ref sl) H1→rIx K (.ref t) (.int 0) H1 Q:=fun e q=>.inl ⟨t,_,0,_,rfl,rfl,cE.of e,rfl,q⟩
  have ix1:∀ {H1:Hp}{p' c':Int}{Q:VK},H1 t=some (.lst [.ref sl,.int p',.int c'])→Q (.int p') H1→rIx K (.ref t) (.int 1) H1 Q:=fun e q=>.inl ⟨t,_,1,_,rfl,rfl,cE.of e,rfl,q⟩
  have ix2:∀ {H1:Hp}{p' c':Int}{Q:VK},H1 t=some (.lst [.ref sl,.int p',.int c'])→Q (.int c') H1→rIx K (.ref t) (.int 2) H1 Q:=fun e q=>.inl ⟨t,_,2,_,rfl,rfl,cE.of e,rfl,q⟩
  have tail:∀ (v3:Option V) (H1:Hp) (p' c':Int),cB t H H1→H1 t=some (.lst [.ref sl,.int p',.int c'])→rdTail K (dE Q) [some (.ref t),some (.int many),some (.int 2305843009213693951),v3,none] H1:=by
   intro v3 H1 p' c' bt e
   refine⟨_,rfl,ix2 e ⟨_,rfl,_,_,rfl,rfl,hm0,?_⟩⟩
   refine⟨_,rfl,ix2 e ⟨_,rfl,_,_,rfl,rfl,⟨hm0,hm1⟩,_,rfl,t,_,2,2,rfl,rfl,e,rfl,_,rfl,?_⟩⟩
   refine k _ _ (bt.trans cB.upd) ⟨ns,p',c' / many,aB,?_,hns⟩ (Int.emod_nonneg _ (by omega)) (Int.emod_lt_of_pos _ hm0)
   rw[aM nst];exact bt sl _ nst hsl
  refine⟨_,rfl,ix2 ht ⟨_,rfl,_,_,rfl,rfl,_,rfl,?_⟩⟩
  refine ite2 (fun _=>?_) (fun _=>tail none H pos cell (cB.refl H) ht)
  have mid:∀ (c':Int),rdMid K { nx:=rdTail K (dE Q),rt:=Q } [some (.ref t),some (.int many),some (.int 2305843009213693951),some (.int c'),none] H:=by
   intro c'
   refine⟨_,rfl,ix1 ht ⟨_,_,rfl,rfl,_,rfl,t,_,1,1,rfl,rfl,ht,rfl,?_⟩⟩
   refine⟨_,rfl,_,rfl,t,_,2,2,rfl,rfl,aB,rfl,?_⟩
   exact tail (some (.int c')) _ (pos+1) c' (cB.upd.trans cB.upd) aB
  have big:∀ (c':Int),tSeq (tIfS (rdTest K) (rdBody K) tNext) (rdMid K) { nx:=rdTail K (dE Q),rt:=Q } [some (.ref t),some (.int many),some (.int 2305843009213693951),some (.int c'),none] H:=by
   intro c'
   have body:∀ σ,σ=[some (.ref t),some (.int many),some (.int 2305843009213693951),some (.int c'),none]→rdBody K { nx:=rdMid K { nx:=rdTail K (dE Q),rt:=Q },rt:=Q } σ H:=by
    rintro σ rfl
    have prime:(0:Int) < 2305843009213693951:=by decide
    refine⟨_,rfl,_,rfl,ix1 ht ⟨_,_,rfl,rfl,.inl ⟨by decide,by decide⟩,_,_,rfl,rfl,_,rfl,_,_,rfl,rfl,prime,?_⟩⟩
    have b1:=Int.emod_nonneg (c'+1000003 * pos) (show (2305843009213693951:Int)≠0 by decide)
    have b2:=Int.emod_lt_of_pos (c'+1000003 * pos) prime
    generalize (c'+1000003 * pos) % 2305843009213693951=c1 at b1 b2
    refine⟨_,rfl,_,rfl,_,_,rfl,rfl,.inl ⟨by omega,by omega⟩,_,rfl,_,_,rfl,rfl,.inl ⟨by decide,by decide⟩,_,_,rfl,rfl,_,_,rfl,rfl,_,rfl,_,_,rfl,rfl,prime,?_⟩
    have b3:=Int.emod_nonneg (c1 * c1+1181783497276652981 * c1+2049848353892358983) (show (2305843009213693951:Int)≠0 by decide)
    have b4:=Int.emod_lt_of_pos (c1 * c1+1181783497276652981 * c1+2049848353892358983) prime
    generalize (c1 * c1+1181783497276652981 * c1+2049848353892358983) % 2305843009213693951=c2 at b3 b4
    refine⟨_,rfl,_,rfl,_,_,rfl,rfl,.inl ⟨by omega,by omega⟩,_,_,rfl,rfl,_,rfl,_,_,rfl,rfl,prime,?_⟩
    exact mid _
   refine⟨_,rfl,ix1 ht ⟨_,rfl,ix ht ⟨sl,_,rfl,.inl (cE.of hsl),_,_,rfl,rfl,_,rfl,?_⟩⟩⟩
   refine ite2 (fun _=>?_) (fun _=>?_)
   ·refine iteT ?_
    exact body _ rfl
   ·refine⟨_,rfl,_,_,rfl,rfl,⟨by decide,by decide,by decide⟩,_,_,rfl,rfl,_,rfl,?_⟩
    refine ite2 (fun _=>body _ rfl) (fun _=>mid _)
  refine⟨_,rfl,ix ht ⟨sl,_,rfl,.inl (cE.of hsl),_,_,rfl,rfl,_,rfl,?_⟩⟩
  refine ite2 (fun hlen=>?_) (fun _=>big 0)
  have hpos:0 < ns.length:=by have:=of_decide_eq_true hlen;simpa using this
  refine⟨_,rfl,ix ht ⟨_,rfl,ix1 ht ⟨_,rfl,ix ht ⟨sl,_,rfl,.inl (cE.of hsl),_,_,rfl,rfl,(show (0:Int) < (((ns.map V.int).length:Nat):Int) by rw[List.length_map];omega),?_⟩⟩⟩⟩
  have m1:=Int.emod_nonneg pos (show (((ns.map V.int).length:Nat):Int)≠0 by rw[List.length_map];omega)
  have m2:=Int.emod_lt_of_pos pos (show (0:Int) < (((ns.map V.int).length:Nat):Int) by rw[List.length_map];omega)
  rw[List.length_map] at m1 m2
  have hix:(ns.map V.int)[(pos % ((ns.map V.int).length:Int)).toNat]? = some (.int (ns[(pos % (ns.length:Int)).toNat]'(by omega))):=by
   rw[List.length_map,List.getElem?_map];simp [show (pos % (ns.length:Int)).toNat < ns.length by omega]
  refine .inl ⟨sl,_,_,_,rfl,rfl,cE.of hsl,atI_int (by rw[List.length_map];exact m1) hix,?_⟩
  exact big _
theorem ok__law_draw {f:Addr}{fd:FuncData} (F:Fun K "_law_draw" "_law_draw" (aU 50) f fd) (T:Txt mg):FnOk P w K mg base CX0 1 f fd ["tape","many"] spDraw:=
 (ok__law_drawB F T).imp fun vs H Q E ⟨t,sl,many,e,tp,h0,h1,k⟩=>⟨t,sl,many,e,tp,h0,Int.lt_of_lt_of_le h1 (by decide),k⟩
end
end Tw
namespace Tw
open PySem L2
structure Ext (t sl:Addr) (H H':Hp):Prop where
 bt:cB t H H'
 tp:dB H' t sl
theorem dB.some {H:Hp}{t sl:Addr} (h:dB H t sl):∃ o,H t=some o:=by obtain⟨ns,pos,cell,e,_⟩:=h;exact⟨_,e⟩
theorem dB.put {H:Hp}{t sl p:Addr}{o:HO} (h:dB H t sl) (h1:p≠t) (h2:p≠sl):dB (upd H p o) t sl:=by
 obtain⟨ns,pos,cell,e,f,g⟩:=h
 exact⟨ns,pos,cell,by rw[aM (Ne.symm h1)];exact e,by rw[aM (Ne.symm h2)];exact f,g⟩
theorem dB.ne_sl {H:Hp}{t sl p:Addr} (h:dB H t sl) (hp:H p=none):p≠sl:=by
 obtain⟨ns,pos,cell,e,f,g⟩:=h
 exact fun z=>by rw[z,f] at hp;cases hp
theorem Ext.new {t sl p:Addr}{H H':Hp}{o:HO} (e:Ext t sl H H') (hp:H' p=none):Ext t sl H (upd H' p o):=⟨e.bt.trans (aK.new hp).but,e.tp.same (aK.new hp)⟩
theorem Ext.ne {t sl p:Addr}{H H':Hp} (e:Ext t sl H H') (hp:H' p=none):p≠t:=by
 obtain⟨o,h⟩:=e.tp.some
 intro z;rw[z,h] at hp;cases hp
theorem Ext.ts {K:PySem.W.Frag}{t sl:Addr}{H H':Hp} (e:Ext t sl H H') (tp:dB H t sl):bL K H H':=e.bt.ts tp.mut
noncomputable def Gn (t sl:Addr) (σ:St) (H0:Hp) (P:V→Prop) (te:TE):Prop:=∀ H Q,Ext t sl H0 H→(∀ v H',Ext t sl H0 H'→cB t H H'→P v→Q v H')→te σ H Q
section
variable {K:PySem.W.Frag}{t sl:Addr}{σ:St}{H0:Hp}{P:V→Prop}{a b c d:TE}
noncomputable def cW (lo hi:Int):V→Prop:=fun v=>∃ i,v=.int i∧lo≤i∧i < hi
theorem Gn.imp {P':V→Prop} (h:Gn t sl σ H0 P a) (f:∀ v,P v→P' v):Gn t sl σ H0 P' a:=fun H Q e k=>h H Q e fun v H' e' b p=>k v H' e' b (f v p)
theorem gn_c {v:V} (h:P v):Gn t sl σ H0 P (tC v):=fun H Q e k=>k v H e (cB.refl H) h
theorem gn_v {i:Nat}{v:V} (hσ:σ[i]? = some (some v)) (h:P v):Gn t sl σ H0 P (cP i):=fun H Q e k=>⟨v,hσ,k v H e (cB.refl H) h⟩
theorem gn_pick2 (ha:Gn t sl σ H0 P a) (hb:Gn t sl σ H0 P b) (hc:Gn t sl σ H0 (cW 0 2) c):Gn t sl σ H0 P (tOp (rIx K) (tLst (cT a (cT b tNil))) c):=by
 intro H Q e k
 refine ha H _ e fun v1 H1 e1 b1 p1=>hb H1 _ e1 fun v2 H2 e2 b2 p2=>⟨(show 2≤sizeLine by decide),fun p hp=>hc _ _ (e2.new hp) fun v H3 e3 b3 ⟨i,hi,h0,h1⟩=>?_⟩
 subst hi
 have hl:=b3 p _ (e2.ne hp) aB
 have hb:cB t H H3:=b1.trans (b2.trans ((aK.new hp).but.trans b3))
 rcases (show i=0∨i=1 by omega) with rfl | rfl
 ·exact .inl ⟨p,_,0,v1,rfl,rfl,cE.of hl,rfl,k v1 H3 e3 hb p1⟩
 ·exact .inl ⟨p,_,1,v2,rfl,rfl,cE.of hl,rfl,k v2 H3 e3 hb p2⟩
theorem gn_pick3 (ha:Gn t sl σ H0 P a) (hb:Gn t sl σ H0 P b) (hd:Gn t sl σ H0 P d) (hc:Gn t sl σ H0 (cW 0 3) c):Gn t sl σ H0 P (tOp (rIx K) (tLst (cT a (cT b (cT d tNil)))) c):=by
 intro H Q e k
 refine ha H _ e fun v1 H1 e1 b1 p1=>hb H1 _ e1 fun v2 H2 e2 b2 p2=>hd H2 _ e2 fun v4 H4 e4 b4 p4=>⟨(show 3≤sizeLine by decide),fun p hp=>hc _ _ (e4.new hp) fun v H3 e3 b3 ⟨i,hi,h0,h1⟩=>?_⟩
 subst hi
 have hl:=b3 p _ (e4.ne hp) aB
 have hb:cB t H H3:=b1.trans (b2.trans (b4.trans ((aK.new hp).but.trans b3)))
 rcases (show i=0∨i=1∨i=2 by omega) with rfl | rfl | rfl
 ·exact .inl ⟨p,_,0,v1,rfl,rfl,cE.of hl,rfl,k v1 H3 e3 hb p1⟩
 ·exact .inl ⟨p,_,1,v2,rfl,rfl,cE.of hl,rfl,k v2 H3 e3 hb p2⟩
 ·exact .inl ⟨p,_,2,v4,rfl,rfl,cE.of hl,rfl,k v4 H3 e3 hb p4⟩
theorem gn_draw {i:Nat}{lo hi:Int} (hσ:σ[i]? = some (some (.ref t))) (hlo:0 < lo) (hhi:hi≤1000000) (ha:Gn t sl σ H0 (cW lo hi) a):Gn t sl σ H0 (fun v=>∃ r m,v=.int r∧0≤r∧r < m∧lo≤m∧m < hi) (tCall spDraw [] E0 (cT (cP i) (cT a tNil))):=by
 intro H Q e k
 refine⟨_,hσ,ha H _ e fun v H1 e1 b1 ⟨m,hm,h0,h1⟩=>?_⟩
 subst hm
 exact⟨t,sl,m,rfl,e1.tp,by omega,by omega,fun r H2 b2 t2 r0 r1=>k _ H2 ⟨e1.bt.trans b2,t2⟩ (b1.trans b2) ⟨r,m,rfl,r0,r1,h0,h1⟩⟩
theorem bP {i:Nat}{m:Int} (hσ:σ[i]? = some (some (.ref t))) (h0:0 < m) (h1:m < 1000000):Gn t sl σ H0 (cW 0 m) (tCall spDraw [] E0 (cT (cP i) (cT (tC (.int m)) tNil))):=
 (gn_draw (lo:=m) (hi:=m+1) hσ h0 (by omega) (gn_c ⟨m,rfl,by omega,by omega⟩)).imp fun v ⟨r,m',e,a,b,c,d⟩=>⟨r,e,a,by omega⟩
theorem gn_drawv {i j:Nat}{m:Int} (hσ:σ[i]? = some (some (.ref t))) (hj:σ[j]? = some (some (.int m))) (h0:0 < m) (h1:m < 1000000):Gn t sl σ H0 (cW 0 m) (tCall spDraw [] E0 (cT (cP i) (cT (cP j) tNil))):=
 (gn_draw (lo:=m) (hi:=m+1) hσ h0 (by omega) (gn_v hj ⟨m,rfl,by omega,by omega⟩)).imp fun v ⟨r,m',e,a,b,c,d⟩=>⟨r,e,a,by omega⟩
theorem gn_add {x y l h:Int} (ha:Gn t sl σ H0 (cW x y) a) (hb:Gn t sl σ H0 (cW l h) b):Gn t sl σ H0 (cW (x+l) (y+h - 1)) (tOp (rI0 fun i j=>.int (i+j)) a b):=by
 intro H Q e k
 refine ha H _ e fun v1 H1 e1 b1 ⟨i,hi,i0,i1⟩=>hb H1 _ e1 fun v2 H2 e2 b2 ⟨j,hj,j0,j1⟩=>?_
 subst hi hj
 exact⟨i,j,rfl,rfl,k _ H2 e2 (b1.trans b2) ⟨_,rfl,by omega,by omega⟩⟩
theorem gn_div {y m:Int} (hm:0 < m) (hm2:m < 1000000) (ha:Gn t sl σ H0 (cW 0 y) a):Gn t sl σ H0 (fun v=>∃ i,v=.int (i / m)∧0≤i∧i < y) (tOp (rI CDiv fun i j=>.int (i / j)) a (tC (.int m))):=by
 intro H Q e k
 refine ha H _ e fun v1 H1 e1 b1 ⟨i,hi,i0,i1⟩=>?_
 subst hi
 exact⟨i,m,rfl,rfl,⟨hm,by omega⟩,k _ H1 e1 b1 ⟨i,rfl,i0,i1⟩⟩
theorem gn_eq0 {y c0:Int} (ha:Gn t sl σ H0 (cW 0 y) a):Gn t sl σ H0 (fun v=>∃ b:Bool,v=.bl b) (tOp rEq a (tC (.int c0))):=by
 intro H Q e k
 refine ha H _ e fun v1 H1 e1 b1 ⟨i,hi,i0,i1⟩=>?_
 subst hi
 exact⟨rfl,k _ H1 e1 b1 ⟨_,rfl⟩⟩
theorem gn_gt0 {y c0:Int} (ha:Gn t sl σ H0 (cW 0 y) a):Gn t sl σ H0 (fun v=>∃ b:Bool,v=.bl b) (tOp (rI0 fun i j=>.bl (decide (j < i))) a (tC (.int c0))):=by
 intro H Q e k
 refine ha H _ e fun v1 H1 e1 b1 ⟨i,hi,i0,i1⟩=>?_
 subst hi
 exact⟨i,c0,rfl,rfl,k _ H1 e1 b1 ⟨_,rfl⟩⟩
noncomputable abbrev rInt1:List V→Hp→VK→Prop:=fun xs H Q=>(∃ i,xs=[.int i]∧Q (.int i) H)∨∃ k,xs=[.bl k]∧Q (.int (if k then 1 else 0)) H
theorem gn_small {i:Nat}{s:Bool} (hσ:σ[i]? = some (some (.bl s))):Gn t sl σ H0 (cW 0 2) (tCB rInt1 (cT (cP i) tNil)):=by
 intro H Q e k
 refine⟨_,hσ,.inr ⟨s,rfl,k _ H e (cB.refl H) ?_⟩⟩
 cases s
 ·exact⟨0,rfl,by omega,by omega⟩
 ·exact⟨1,rfl,by omega,by omega⟩
theorem gn_menu {i:Nat}{s:Bool}{x y lo hi:Int} (hσ:σ[i]? = some (some (.bl s))) (h1:lo≤x∧x < hi) (h2:lo≤y∧y < hi):Gn t sl σ H0 (cW lo hi) (tOp (rIx K) (tLst (cT (tC (.int x)) (cT (tC (.int y)) tNil))) (tCB rInt1 (cT (cP i) tNil))):=
 gn_pick2 (gn_c ⟨x,rfl,h1.1,h1.2⟩) (gn_c ⟨y,rfl,h2.1,h2.2⟩) (gn_small hσ)
theorem gn_half (ha:Gn t sl σ H0 (cW 0 4) a):Gn t sl σ H0 (cW 0 2) (tOp (rI CDiv fun i j=>.int (i / j)) a (tC (.int 3))):=
 (gn_div (by decide) (by decide) ha).imp fun v ⟨i,e,a,b⟩=>⟨i / 3,e,by omega,by omega⟩
theorem gn_up {lo hi lo' hi':Int} (h:Gn t sl σ H0 (cW lo hi) a) (h1:lo'≤lo) (h2:hi≤hi'):Gn t sl σ H0 (cW lo' hi') a:=h.imp fun v ⟨i,e,a,b⟩=>⟨i,e,by omega,by omega⟩
theorem gn_drawm {i:Nat}{lo hi:Int} (hσ:σ[i]? = some (some (.ref t))) (hlo:0 < lo) (hhi:hi≤1000000) (ha:Gn t sl σ H0 (cW lo hi) a):Gn t sl σ H0 (cW 0 (hi - 1)) (tCall spDraw [] E0 (cT (cP i) (cT a tNil))):=
 (gn_draw hσ hlo hhi ha).imp fun v ⟨r,m,e,a,b,c,d⟩=>⟨r,e,a,by omega⟩
end
section
variable {P:Program}{w:World}{K:PySem.W.Frag}{mg:Str→Option Value}{base:Heap}
noncomputable def spOuts (K:PySem.W.Frag):Sp:=fun args H Q _=>∃ (t sl:Addr) (n:Nat) (small:Bool),args=[.ref t,.int (n:Int),.bl small]∧dB H t sl∧1≤n∧n≤12∧
 ∀ (outs:List (Option Int×Int)) p H',Ext t sl H H'→outs≠[]→outs.length≤3→(∀ o∈outs,OutOk n o)→Is K H' (.tup (outs.map outD)) p→Q p H'
theorem sc__law_outs:FnScope ["tape","many","small","outs","k","target","parts"] ["tape","many","small"] (aJ (aU 51)):=⟨rfl,rfl,rfl,by decide +kernel,rfl,by decide +kernel,by decide +kernel⟩
theorem ok__law_outs {f fD:Addr}{fd fdD:FuncData} (F:Fun K "_law_outs" "_law_outs" (aU 51) f fd) (T:Txt mg) (G__law_draw:Callee P w K mg base "_law_draw" ["tape","many"] 1 spDraw fD fdD):FnOk P w K mg base CX0 2 f fd ["tape","many","small"] (spOuts K):=by
 refine F.ok sc__law_outs (fun vs H Q E h=>?_) (fun cdv A outer s H vs Q E hr h=>?_)
 ·obtain⟨t,sl,n,small,rfl,_⟩:=h;rfl
 ·obtain⟨t,sl,n,small,rfl,tp,n1,n2,k⟩:=h
  have sc:=sc__law_outs
  refine⟨_,(aG (bD (i:=3) sc.nd rfl (Or.inl rfl) (bX aD))
   (aG (dR PassesOwn.never rfl (eC rfl T.b_range (aA (bA d9 aI (bI (aS (K:=K) rfl) (bX (aA (cU G__law_draw hr (aA (pv 0) (aA aI aD))) (aA (cU G__law_draw hr (aA (pv 0) (aA aI aD))) aD))) (cU G__law_draw hr (aA (pv 0) (aA aI aD))) (fun _ _=>rfl))) aD)) (aF (i:=4) sc.nd rfl (Or.inl rfl)) (aG (bD (i:=5) sc.nd rfl (Or.inl rfl) (bI (aS (K:=K) rfl) (bX (aA pe_non (aA (cU G__law_draw hr (aA (pv 0) (aA (pv 1) aD))) (aA (cU G__law_draw hr (aA (pv 0) (aA (pv 1) aD))) aD)))) (cU G__law_draw hr (aA (pv 0) (aA aI aD))) (fun _ _=>rfl)))
   (aG (bD (i:=6) sc.nd rfl (Or.inl rfl) (bI (aS (K:=K) rfl) (bX (aA (cU G__law_draw hr (aA (pv 0) (aA aI aD))) (aA (cU G__law_draw hr (aA (pv 0) (aA (bI (aS (K:=K) rfl) (bX (aA aI (aA aI aD))) (aZ call_int1 rfl T.b_int bt_int (aA (pv 2) aD)) (fun _ _=>rfl)) aD))) aD))) (bA op_fdiv (cU G__law_draw hr (aA (pv 0) (aA aI aD))) aI) (fun _ _=>rfl)))
   (aL (cA (pe_bmK (K:=K) rfl PySem.F.plainAttrs_list PySem.F.slot_list_append PySem.F.type_list_append cI (pv 3) (aA (bT (aA (pv 5) (aA (bA d9 aI (pv 6)) aD))) aD)))))))
   (aL (b9 (aZ (bV (K:=K) rfl) rfl T.b_tuple bY (aA (pv 3) aD)))))),?_⟩
  refine⟨Nat.zero_le _,fun ol hol=>?_⟩
  have e0:Ext t sl H (upd H ol (.lst [])):=Ext.new ⟨cB.refl H,tp⟩ hol
  have no:ol≠t:=Ext.ne ⟨cB.refl H,tp⟩ hol
  refine gn_add (x:=1) (y:=2) (l:=0) (h:=3) (H0:=upd H ol (.lst [])) (t:=t) (sl:=sl) (gn_c ⟨1,rfl,by omega,by omega⟩)
   (gn_pick2 (gn_up (bP rfl (by decide) (by decide)) (Int.le_refl _) (by decide)) (bP rfl (by decide) (by decide)) (bP rfl (by decide) (by decide))) _ _ ⟨cB.refl _,e0.tp⟩ ?_
  rintro v H1 e1 _ ⟨m,rfl,m0,m1⟩
  refine⟨m,rfl,by omega,by omega,?_⟩
  refine for_range (lo:=0) (n:=m.toNat) (fun i σ' H'=>Ext t sl H H'∧∃ (outs:List (Option Int×Int)) (xs:List V),H' ol=some (.lst xs)∧IsL K H' (outs.map outD) xs∧outs.length=i∧(∀ o∈outs,OutOk n o)∧
   ∃ v4 v5 v6,σ'=[some (.ref t),some (.int (n:Int)),some (.bl small),some (.ref ol),v4,v5,v6]) ?_ ?_ ?_
  ·exact⟨⟨e0.bt.trans e1.bt,e1.tp⟩,[],[],e1.bt ol _ no aB,.nil,rfl,fun o ho=>(nomatch ho),none,none,none,rfl⟩
  ·rintro i σ' H2 hi ⟨e2,outs,xs,ho,hl,hlen,hok,v4,v5,v6,rfl⟩
   refine gn_pick3 (H0:=H2) (t:=t) (sl:=sl) (P:=fun v=>∃ o:Option Int,v=tgV o∧∀ z,o=some z→0≤z∧z < n) (gn_c ⟨none,rfl,fun z h=>nomatch h⟩)
    ((gn_drawv (m:=(n:Int)) rfl rfl (by omega) (by omega)).imp fun v ⟨r,e,a,b⟩=>⟨some r,e,fun z h=>by cases h;exact⟨a,by omega⟩⟩)
    ((gn_drawv (m:=(n:Int)) rfl rfl (by omega) (by omega)).imp fun v ⟨r,e,a,b⟩=>⟨some r,e,fun z h=>by cases h;exact⟨a,by omega⟩⟩) (bP rfl (by decide) (by decide)) _ _ ⟨cB.refl _,e2.tp⟩ ?_
   rintro v H3 e3 _ ⟨tg,rfl,htg⟩
   refine gn_pick2 (H0:=H3) (t:=t) (sl:=sl) (P:=cW 0 60) (gn_up (bP rfl (by decide) (by decide)) (Int.le_refl _) (by decide))
    (gn_up (gn_drawm (lo:=3) (hi:=61) rfl (by decide) (by decide) (gn_menu rfl ⟨by decide,by decide⟩ ⟨by decide,by decide⟩)) (Int.le_refl _) (by decide)) (gn_half (bP rfl (by decide) (by decide))) _ _ ⟨cB.refl _,e3.tp⟩ ?_
   rintro v H4 e4 _ ⟨pt,rfl,p0,p1⟩
   have ho4:H4 ol=some (.lst xs):=e4.bt ol _ no (e3.bt ol _ no ho)
   refine⟨_,rfl,.inl ⟨rfl,_,cE.of ho4⟩,_,rfl,_,rfl,_,_,rfl,rfl,(show 2≤sizeLine by decide),fun q hq=>?_⟩
   have nq:ol≠q:=aN ho4 hq
   have hxl:xs.length=outs.length:=by rw[hl.length,List.length_map]
   have hm3:m.toNat≤3:=by omega
   refine⟨ol,xs,_,rfl,rfl,by rw[aM nq];exact ho4,aT (by omega),?_⟩
   have e5:Ext t sl H2 (upd H4 q (.tup [tgV tg,.int (1+pt)])):=Ext.new ⟨e3.bt.trans e4.bt,e4.tp⟩ hq
   have ts:bL K H2 (upd (upd H4 q (.tup [tgV tg,.int (1+pt)])) ol (.lst (xs++[.ref q]))):=bL.put (e5.ts e2.tp) (.inr (by rw[aM nq,ho4];exact trivial))
   refine⟨⟨fun b o hb e=>?_,?_⟩,outs++[(tg,1+pt)],xs++[.ref q],aB,?_,by simp [hlen],?_,_,_,_,rfl⟩
   ·rw[aM (aN e hol)];exact e5.bt b o hb (e2.bt b o hb e)
   ·exact e5.tp.put no (dB.ne_sl tp hol)
   ·rw[List.map_append]
    exact IsL.snoc (Is.tupOf (ds:=[tgD tg,.int (1+pt)]) (bL.put (bL.refl _) (.inr (by rw[aM nq,ho4];exact trivial)) _ _ (bH.of aB)) (.cons (Is.tgOf tg) (.cons (Is.i _) .nil))) (IsL.mono ts _ _ hl)
   ·intro o ho
    rcases List.mem_append.mp ho with ho | ho
    ·exact hok o ho
    ·rw[List.mem_singleton.mp ho]
     exact⟨fun z hz=>htg z hz,by show 1≤1+pt;omega,by show 1+pt≤60;omega⟩
  ·rintro σ' H2 ⟨e2,outs,xs,ho,hl,hlen,hok,v4,v5,v6,rfl⟩
   refine⟨_,rfl,ol,_,rfl,.inl ⟨cE.of ho,fun l hlf=>?_⟩⟩
   refine k outs _ _ (e2.new hlf) (fun z=>by rw[z] at hlen;simp at hlen;omega) (by omega) hok (Is.tupOf (bH.of aB) (IsL.mono (aK.new hlf).ts _ _ hl))
end
end Tw
namespace L2
theorem if_by {c:TT}{a b:TS}{D:Ends}{σ:St}{H:Hp} (I:St→Hp→Prop) (h1:∀ D':Ends,(∀ σ' H',I σ' H'→D'.nx σ' H')→tIfS c a b D' σ H) (h2:∀ σ' H',I σ' H'→D.nx σ' H'):tIfS c a b D σ H:=h1 D h2
theorem for_by {i:TI}{g:TG}{b:TS}{D:Ends}{σ:St}{H:Hp} (I:St→Hp→Prop) (h1:∀ D':Ends,(∀ σ' H',I σ' H'→D'.nx σ' H')→tFor i g b D' σ H) (h2:∀ σ' H',I σ' H'→D.nx σ' H'):tFor i g b D σ H:=h1 D h2
end L2
namespace Tw
open PySem L2
section
variable {K:PySem.W.Frag}{t sl:Addr}{σ:St}{H0:Hp}{P:V→Prop}{a b c d:TE}
theorem if_draw0 {y c0:Int}{t' u':TS}{D':Ends}{H:Hp} (ha:Gn t sl σ H0 (cW 0 y) a) (e:Ext t sl H0 H) (k:∀ (b:Bool) H',Ext t sl H0 H'→cB t H H'→if b=true then t' D' σ H' else u' D' σ H'):tIfS (tTest (tOp rEq a (tC (.int c0)))) t' u' D' σ H:=
 gn_eq0 ha H _ e fun v H' e' b ⟨c,hc⟩=>⟨c,hc,k c H' e' b⟩
theorem gn_mulnot {i:Nat}{s:Bool} (hσ:σ[i]? = some (some (.bl s))) (ha:Gn t sl σ H0 (cW 0 2) a):Gn t sl σ H0 (cW 0 2) (tOp (rI CMul fun i j=>.int (i * j)) a (tCB rInt1 (cT (tNotV (cP i)) tNil))):=by
 intro H Q e k
 refine ha H _ e fun v1 H1 e1 b1 ⟨j,hj,j0,j1⟩=>⟨_,hσ,s,rfl,.inr ⟨!s,rfl,?_⟩⟩
 subst hj
 refine⟨j,_,rfl,rfl,.inl ⟨by omega,by omega⟩,k _ H1 e1 b1 ?_⟩
 cases s
 ·exact⟨j,by simp,j0,j1⟩
 ·exact⟨0,by simp,by omega,by omega⟩
theorem gn_subcv {j:Nat}{x y:Int} (hj:σ[j]? = some (some (.int y))):Gn t sl σ H0 (cW (x - y) (x - y+1)) (tOp (rI0 fun i j=>.int (i - j)) (tC (.int x)) (cP j)):=fun H Q e k=>
 ⟨_,hj,x,y,rfl,rfl,k _ H e (cB.refl H) ⟨_,rfl,by omega,by omega⟩⟩
theorem gn_addv {j:Nat}{y l h:Int} (hj:σ[j]? = some (some (.int y))) (hb:Gn t sl σ H0 (cW l h) b):Gn t sl σ H0 (cW (y+l) (y+h)) (tOp (rI0 fun i j=>.int (i+j)) (cP j) b):=
 gn_up (gn_add (x:=y) (y:=y+1) (gn_v hj ⟨y,rfl,by omega,by omega⟩) hb) (by omega) (by omega)
end
section
variable {P:Program}{w:World}{K:PySem.W.Frag}{mg:Str→Option Value}{base:Heap}
structure VFull (i:Nat) (v:Vs):Prop where
 sz:v.size≤60
 br:v.size≤v.brim
 bh:v.brim≤200
 sp:∀ t,v.spill=some t→(i:Int) < t
structure NetFull (net:Net):Prop where
 vs:∀ i v,net.vs[i]? = some v→VFull i v
 sps:∀ s∈net.sps,0≤s.2.1∧s.2.1≤60
noncomputable def spVessel (K:PySem.W.Frag):Sp:=fun args H Q _=>∃ (t sl:Addr) (i n m:Nat) (small:Bool),args=[.ref t,.int (i:Int),.int (n:Int),.int (m:Int),.bl small]∧dB H t sl∧i < n∧n≤12∧m≤12∧
 ∀ (v:Vs) p H',Ext t sl H H'→VOk n m v→VFull i v→Is K H' (vsD v) p→Q p H'
theorem sc__law_vessel:FnScope ["tape","number","many","spouts","small","size","brim","spill","acts","k"] ["tape","number","many","spouts","small"] (aJ (aU 52)):=⟨rfl,rfl,rfl,by decide +kernel,rfl,by decide +kernel,by decide +kernel⟩
theorem ok__law_vessel {f fD fO:Addr}{fd fdD fdO:FuncData} (F:Fun K "_law_vessel" "_law_vessel" (aU 52) f fd) (T:Txt mg) (G__law_draw:Callee P w K mg base "_law_draw" ["tape","many"] 1 spDraw fD fdD)
  (G__law_outs:Callee P w K mg base "_law_outs" ["tape","many","small"] 2 (spOuts K) fO fdO):FnOk P w K mg base CX0 3 f fd ["tape","number","many","spouts","small"] (spVessel K):=by
 refine F.ok sc__law_vessel (fun vs H Q E h=>?_) (fun cdv A outer s H vs Q E hr h=>?_)
 ·obtain⟨t,sl,i,n,m,small,rfl,_⟩:=h;rfl
 ·obtain⟨t,sl,i,n,m,small,rfl,tp,hi,hn,hm,k⟩:=h
  have sc:=sc__law_vessel
  refine⟨_,(aG (bD (i:=5) sc.nd rfl (Or.inl rfl) (bA d9 aI (bI (aS (K:=K) rfl) (bX (aA (cU G__law_draw hr (aA (pv 0) (aA (bI (aS (K:=K) rfl) (bX (aA aI (aA aI aD))) (aZ call_int1 rfl T.b_int bt_int (aA (pv 4) aD)) (fun _ _=>rfl)) aD))) (aA (cU G__law_draw hr (aA (pv 0) (aA (bI (aS (K:=K) rfl) (bX (aA aI (aA aI aD))) (aZ call_int1 rfl T.b_int bt_int (aA (pv 4) aD)) (fun _ _=>rfl)) aD))) aD))) (bA op_fdiv (cU G__law_draw hr (aA (pv 0) (aA aI aD))) aI) (fun _ _=>rfl))))
   (aG (bD (i:=6) sc.nd rfl (Or.inl rfl) (bA d9 (pv 5) (bI (aS (K:=K) rfl) (bX (aA aI (aA (cU G__law_draw hr (aA (pv 0) (aA (bA op_sub aI (pv 5)) aD))) aD))) (bA op_mul (cU G__law_draw hr (aA (pv 0) (aA aI aD))) (aZ call_int1 rfl T.b_int bt_int (aA (pe_not (pv 4)) aD))) (fun _ _=>rfl))))
   (aG (dD (d7 op_eq (cU G__law_draw hr (aA (pv 0) (aA aI aD))) aI (dA _)) (aL (bD (i:=6) sc.nd rfl (Or.inl rfl) (bA d9 (pv 5) (cU G__law_draw hr (aA (pv 0) (aA aI aD)))))) bO)
   (aG (bD (i:=7) sc.nd rfl (Or.inl rfl) pe_non)
   (aG (dD (PW.pt (pw_and (d7 op_lt (bA d9 (pv 1) aI) (pv 2) (dA _)) (pw_and1 (d7 op_eq (cU G__law_draw hr (aA (pv 0) (aA aI aD))) aI (dA _))))) (aL (bD (i:=7) sc.nd rfl (Or.inl rfl) (bA d9 (bA d9 (pv 1) aI) (cU G__law_draw hr (aA (pv 0) (aA (bA op_sub (bA op_sub (pv 2) (pv 1)) aI) aD)))))) bO)
   (aG (bD (i:=8) sc.nd rfl (Or.inl rfl) (bX aD))
   (aG (dD (d7 op_gt (pv 3) aI (dA _)) (aL (dR PassesOwn.never rfl (eC rfl T.b_range (aA (bA op_fdiv (cU G__law_draw hr (aA (pv 0) (aA aI aD))) aI) aD)) (aF (i:=9) sc.nd rfl (Or.inl rfl)) (aL (cA (pe_bmK (K:=K) rfl PySem.F.plainAttrs_list PySem.F.slot_list_append PySem.F.type_list_append cI (pv 8) (aA (bT (aA (bI (aS (K:=K) rfl) (bX (aA pe_str (aA pe_str (aA pe_str aD)))) (cU G__law_draw hr (aA (pv 0) (aA aI aD))) (fun _ _=>rfl)) (aA (cU G__law_draw hr (aA (pv 0) (aA (pv 3) aD))) aD))) aD)))))) bO)
   (aL (b9 (bT (aA (pv 5) (aA (pv 6) (aA (cU G__law_outs hr (aA (pv 0) (aA (pv 2) (aA (pv 4) aD)))) (aA (pe_cmpR op_eq (cU G__law_draw hr (aA (pv 0) (aA aI aD))) aI (dA _)) (aA (pv 7) (aA (aZ (bV (K:=K) rfl) rfl T.b_tuple bY (aA (pv 8) aD)) aD)))))))))))))))),?_⟩
  refine gn_add (t:=t) (sl:=sl) (H0:=H) (x:=1) (y:=2) (l:=0) (h:=60) (gn_c ⟨1,rfl,by omega,by omega⟩)
   (gn_pick2 (gn_up (gn_drawm (lo:=4) (hi:=10) rfl (by decide) (by decide) (gn_menu rfl ⟨by decide,by decide⟩ ⟨by decide,by decide⟩)) (Int.le_refl _) (by decide))
    (gn_up (gn_drawm (lo:=4) (hi:=61) rfl (by decide) (by decide) (gn_menu rfl ⟨by decide,by decide⟩ ⟨by decide,by decide⟩)) (Int.le_refl _) (by decide)) (gn_half (bP rfl (by decide) (by decide)))) _ _ ⟨cB.refl _,tp⟩ ?_
  rintro v H1 e1 _ ⟨size,rfl,s0,s1⟩
  refine gn_addv (t:=t) (sl:=sl) (H0:=H) (y:=size) (l:=0) (h:=201 - size) rfl (gn_pick2 (gn_c ⟨0,rfl,by omega,by omega⟩)
   (gn_up (gn_drawm (lo:=201 - size) (hi:=201 - size+1) rfl (by omega) (by omega) (gn_subcv rfl)) (Int.le_refl _) (by omega)) (gn_mulnot rfl (bP rfl (by decide) (by decide)))) _ _ e1 ?_
  rintro v H2 e2 _ ⟨brim,rfl,br0,br1⟩
  dsimp only [tSeq,tAsg,tC,gName]
  refine if_by (fun σ' H'=>Ext t sl H H'∧∃ brim,size≤brim∧brim≤200∧σ'=[some (.ref t),some (.int (i:Int)),some (.int (n:Int)),some (.int (m:Int)),some (.bl small),some (.int size),some (.int brim),none,none,none]) (fun D' hD=>?_) ?_
  ·refine if_draw0 (t:=t) (sl:=sl) (H0:=H) (bP rfl (by decide) (by decide)) e2 fun b H3 e3 _=>?_
   cases b with
   | false=>exact iteF (hD _ _ ⟨e3,brim,by omega,by omega,rfl⟩)
   | true=>
    refine iteT ?_
    refine gn_addv (t:=t) (sl:=sl) (H0:=H) (y:=size) (l:=0) (h:=3) rfl (bP rfl (by decide) (by decide)) _ _ e3 ?_
    rintro v H4 e4 _ ⟨b2,rfl,c0,c1⟩
    exact hD _ _ ⟨e4,b2,by omega,by omega,rfl⟩
  rintro σ3 H3 ⟨e3,brim,hb1,hb2,rfl⟩
  dsimp only [tSeq,tAsg,tC,gName]
  refine if_by (fun σ' H'=>Ext t sl H H'∧∃ sp:Option Int,(∀ z,sp=some z→(0≤z∧z < n)∧(i:Int) < z)∧σ'=[some (.ref t),some (.int (i:Int)),some (.int (n:Int)),some (.int (m:Int)),some (.bl small),some (.int size),some (.int brim),some (tgV sp),none,none]) (fun D' hD=>?_) ?_
  ·refine⟨_,rfl,_,_,rfl,rfl,_,rfl,_,_,rfl,rfl,_,rfl,?_⟩
   refine ite2 (fun hlt=>?_) (fun _=>iteF (hD _ _ ⟨e3,none,(fun z h=>nomatch h),rfl⟩))
   have hlt':(i:Int)+1 < n:=of_decide_eq_true hlt
   refine gn_eq0 (t:=t) (sl:=sl) (H0:=H) (bP rfl (by decide) (by decide)) _ _ e3 ?_
   rintro v H4 e4 _ ⟨b,rfl⟩
   refine⟨b,rfl,?_⟩
   cases b with
   | false=>exact iteF (hD _ _ ⟨e4,none,(fun z h=>nomatch h),rfl⟩)
   | true=>
    refine iteT ?_
    refine⟨_,rfl,_,_,rfl,rfl,_,rfl,_,rfl,_,rfl,_,_,rfl,rfl,_,_,rfl,rfl,t,sl,(n:Int) - i - 1,rfl,e4.tp,by omega,by omega,fun r H5 b5 t5 r0 r1=>⟨_,_,rfl,rfl,?_⟩⟩
    exact hD _ _ ⟨⟨e4.bt.trans b5,t5⟩,some ((i:Int)+1+r),fun z h=>by cases h;omega,rfl⟩
  rintro σ4 H4 ⟨e4,sp,hsp,rfl⟩
  refine⟨Nat.zero_le _,fun al hal=>?_⟩
  dsimp only [tSeq,tAsg,tC,gName]
  have fal:H al=none:=e4.bt.free (e4.ne hal) hal
  have nal:al≠t:=e4.ne hal
  refine if_by (fun σ' H'=>Ext t sl H H'∧∃ (acts:List (Str×Int)) (xs:List V),H' al=some (.lst xs)∧L2.IsL K H' (acts.map actD) xs∧acts.length≤3∧(∀ a∈acts,ActOk m a)∧
   ∃ v9,σ'=[some (.ref t),some (.int (i:Int)),some (.int (n:Int)),some (.int (m:Int)),some (.bl small),some (.int size),some (.int brim),some (tgV sp),some (.ref al),v9]) (fun D' hD=>?_) ?_
  ·refine⟨_,rfl,_,_,rfl,rfl,_,rfl,?_⟩
   refine ite2 (fun hlt=>?_) (fun _=>hD _ _ ⟨e4.new hal,[],[],aB,.nil,by simp,fun a ha=>(nomatch ha),none,rfl⟩)
   have hm0:(0:Int) < m:=of_decide_eq_true hlt
   refine gn_div (t:=t) (sl:=sl) (H0:=H) (by decide) (by decide) (bP (m:=11) rfl (by decide) (by decide)) _ _ (e4.new hal) ?_
   rintro v H5 e5 b5 ⟨c,rfl,c0,c1⟩
   refine⟨_,rfl,by omega,by omega,?_⟩
   refine for_range (lo:=0) (n:=(c / 3).toNat) (fun j σ' H'=>Ext t sl H H'∧∃ (acts:List (Str×Int)) (xs:List V),H' al=some (.lst xs)∧L2.IsL K H' (acts.map actD) xs∧acts.length=j∧(∀ a∈acts,ActOk m a)∧
    ∃ v9,σ'=[some (.ref t),some (.int (i:Int)),some (.int (n:Int)),some (.int (m:Int)),some (.bl small),some (.int size),some (.int brim),some (tgV sp),some (.ref al),v9]) ?_ ?_ ?_
   ·exact⟨e5,[],[],b5 al _ nal aB,.nil,rfl,fun a ha=>(nomatch ha),none,rfl⟩
   ·rintro j σ' H6 hj ⟨e6,acts,xs,ha,hl,hlen,hok,v9,rfl⟩
    refine⟨_,rfl,.inl ⟨rfl,_,cE.of ha⟩,?_⟩
    refine gn_pick3 (t:=t) (sl:=sl) (H0:=H) (P:=fun v=>∃ wd:Str,v=.str wd∧(wd = "open" ∨ wd = "shut" ∨ wd = "turn")) (gn_c ⟨_,rfl,.inl rfl⟩) (gn_c ⟨_,rfl,.inr (.inl rfl)⟩) (gn_c ⟨_,rfl,.inr (.inr rfl)⟩) (bP rfl (by decide) (by decide)) _ _ e6 ?_
    rintro v H7 e7 b7 ⟨wd,rfl,hwd⟩
    refine gn_drawv (t:=t) (sl:=sl) (H0:=H) (m:=(m:Int)) rfl rfl hm0 (by omega) _ _ e7 ?_
    rintro v H8 e8 b8 ⟨r,rfl,r0,r1⟩
    refine⟨(show 2≤sizeLine by decide),fun q hq=>?_⟩
    have ha8:H8 al=some (.lst xs):=b8 al _ nal (b7 al _ nal ha)
    have nq:al≠q:=aN ha8 hq
    have hxl:xs.length=acts.length:=by rw[hl.length,List.length_map]
    refine⟨al,xs,_,rfl,rfl,by rw[aM nq];exact ha8,aT (by omega),?_⟩
    have e9:Ext t sl H (upd H8 q (.tup [.str wd,.int r])):=e8.new hq
    have mt:Mut (upd H8 q (.tup [.str wd,.int r]) al):=by rw[aM nq,ha8];exact trivial
    have ts:bL K H6 (upd (upd H8 q (.tup [.str wd,.int r])) al (.lst (xs++[.ref q]))):=bL.put (((b7.trans b8).trans (aK.new hq).but).ts e6.tp.mut) (.inr mt)
    refine⟨⟨fun b o hb e=>?_,e9.tp.put nal (dB.ne_sl tp fal)⟩,acts++[(wd,r)],xs++[.ref q],aB,?_,by simp [hlen],?_,_,rfl⟩
    ·rw[aM (aN e fal)];exact e9.bt b o hb e
    ·rw[List.map_append]
     exact L2.IsL.snoc (Is.tupOf (ds:=[.str wd,.int r]) (bL.put (bL.refl _) (.inr mt) _ _ (bH.of aB)) (.cons (Is.s _) (.cons (Is.i _) .nil))) (L2.IsL.mono ts _ _ hl)
    ·intro a ha'
     rcases List.mem_append.mp ha' with ha' | ha'
     ·exact hok a ha'
     ·rw[List.mem_singleton.mp ha']
      exact⟨hwd,r0,r1⟩
   ·rintro σ' H6 ⟨e6,acts,xs,ha,hl,hlen,hok,v9,rfl⟩
    exact hD _ _ ⟨e6,acts,xs,ha,hl,by omega,hok,v9,rfl⟩
  rintro σ5 H5 ⟨e5,acts,xs,ha,hl,hlen,hok,v9,rfl⟩
  refine⟨_,rfl,_,rfl,_,rfl,_,rfl,_,rfl,t,sl,n,small,rfl,e5.tp,by omega,hn,fun outs p H6 e6 o1 o2 o3 hp=>?_⟩
  refine gn_eq0 (t:=t) (sl:=sl) (H0:=H) (bP rfl (by decide) (by decide)) _ _ ⟨e5.bt.trans e6.bt,e6.tp⟩ ?_
  rintro v H7 e7 b7 ⟨b,rfl⟩
  have ha7:H7 al=some (.lst xs):=b7 al _ nal (e6.bt al _ nal ha)
  have b57:cB t H5 H7:=e6.bt.trans b7
  refine⟨_,rfl,_,rfl,al,_,rfl,.inl ⟨cE.of ha7,fun q hq=>⟨(show 6≤sizeLine by decide),fun r hr'=>?_⟩⟩⟩
  have m1:=aK.new (o:=HO.tup xs) hq
  have m2:aK (upd H7 q (.tup xs)) (upd (upd H7 q (.tup xs)) r (.tup [.int size,.int brim,p,.bl b,tgV sp,.ref q])):=aK.new hr'
  refine k ⟨size,brim,outs,b,sp,acts⟩ _ _ ((e7.new hq).new hr') ⟨s0,o1,o2,o3,fun z h=>(hsp z h).1,hlen,hok⟩ ⟨by show size≤60;omega,hb1,hb2,fun z h=>(hsp z h).2⟩ ?_
  refine Is.tupOf (bH.of aB) (.cons (Is.i _) (.cons (Is.i _) (.cons ?_ (.cons (Is.b _) (.cons (Is.tgOf _) (.cons ?_ .nil))))))
  ·exact Is.mono m2.ts _ _ (Is.mono m1.ts _ _ (Is.mono (b7.ts e6.tp.mut) _ _ hp))
  ·exact Is.mono m2.ts _ _ (Is.tupOf (bH.of aB) (L2.IsL.mono m1.ts _ _ (L2.IsL.mono (b57.ts e5.tp.mut) _ _ hl)))
end
end Tw
namespace Tw
open PySem L2
section
variable {P:Program}{w:World}{K:PySem.W.Frag}{mg:Str→Option Value}{base:Heap}
theorem Ext.put {t sl p:Addr}{H H':Hp}{o:HO} (e:Ext t sl H H') (tp:dB H t sl) (hp:H p=none):Ext t sl H (upd H' p o):=
 ⟨fun b u hb e1=>by rw[aM (aN e1 hp)];exact e.bt b u hb e1,e.tp.put (fun z=>by obtain⟨o,h⟩:=tp.some;rw[z,h] at hp;cases hp) (dB.ne_sl tp hp)⟩
theorem Ext.trans {t sl:Addr}{H H1 H2:Hp} (a:Ext t sl H H1) (b:Ext t sl H1 H2):Ext t sl H H2:=⟨a.bt.trans b.bt,b.tp⟩
noncomputable def spNetM (K:PySem.W.Frag):Sp:=fun args H Q _=>∃ (t sl:Addr) (most:Int) (small:Bool),args=[.ref t,.int most,.bl small]∧1≤most∧most≤12∧dB H t sl∧
 ∀ (net:Net) p H',Ext t sl H H'→NetOk net→NetFull net→(net.vs.length:Int)≤most→Is K H' (netD net) p→Q p H'
theorem sc__law_net:FnScope ["tape","most","small","many","spouts","vessels","found","k","flow"] ["tape","most","small"] (aJ (aU 53)):=⟨rfl,rfl,rfl,by decide +kernel,rfl,by decide +kernel,by decide +kernel⟩
theorem ok__law_netM {f fD fV:Addr}{fd fdD fdV:FuncData} (F:Fun K "_law_net" "_law_net" (aU 53) f fd) (T:Txt mg) (G__law_draw:Callee P w K mg base "_law_draw" ["tape","many"] 1 spDraw fD fdD)
  (G__law_vessel:Callee P w K mg base "_law_vessel" ["tape","number","many","spouts","small"] 3 (spVessel K) fV fdV):FnOk P w K mg base CX0 4 f fd ["tape","most","small"] (spNetM K):=by
 refine F.ok sc__law_net (fun vs H Q E h=>?_) (fun cdv A outer s H vs Q E hr h=>?_)
 ·obtain⟨t,sl,most,small,rfl,_⟩:=h;rfl
 ·obtain⟨t,sl,most,small,rfl,mo1,mo2,tp,k⟩:=h
  have sc:=sc__law_net
  refine⟨_,(aG (bD (i:=3) sc.nd rfl (Or.inr rfl) (bA d9 aI (cU G__law_draw hr (aA (pv 0) (aA (pv 1) aD)))))
   (aG (bD (i:=4) sc.nd rfl (Or.inr rfl) (bI (aS (K:=K) rfl) (bX (aA (cU G__law_draw hr (aA (pv 0) (aA aI aD))) (aA (cU G__law_draw hr (aA (pv 0) (aA aI aD))) aD))) (bA op_fdiv (cU G__law_draw hr (aA (pv 0) (aA aI aD))) aI) (fun _ _=>rfl)))
   (aG (ps_set_lc (i:=5) sc.nd rfl rfl (fun _ _ h=>h) rfl (LcOk.mk (N':=["k","tape","many","spouts","small"]) (fr:=[none,some 0,some 3,some 4,some 2]) rfl ⟨rfl,rfl,rfl,rfl,trivial⟩ rfl rfl rfl rfl rfl ⟨⟨_,rfl,rfl,rfl,rfl⟩,⟨_,rfl,rfl,rfl,rfl⟩,⟨_,rfl,rfl,rfl,rfl⟩,⟨_,rfl,rfl,rfl,rfl⟩,trivial⟩) (eC rfl T.b_range (aA (pv 3) aD)) (fun _ _ _=>(aF (i:=0) (show (["k","tape","many","spouts","small"]:List Str).Nodup by decide +kernel) rfl (Or.inl rfl) (Or.inr rfl))) (fun _ _ _=>d8) (fun _ _ _=>(cU G__law_vessel hr (aA (pv 1) (aA (pv 0) (aA (pv 2) (aA (pv 3) (aA (pv 4) aD))))))))
   (aG (bD (i:=6) sc.nd rfl (Or.inl rfl) (bX aD))
   (aG (dR PassesOwn.never rfl (eC rfl T.b_range (aA (pv 4) aD)) (aF (i:=7) sc.nd rfl (Or.inl rfl)) (aG (bD (i:=8) sc.nd rfl (Or.inl rfl) (bI (aS (K:=K) rfl) (bX (aA (cU G__law_draw hr (aA (pv 0) (aA aI aD))) (aA (cU G__law_draw hr (aA (pv 0) (aA (bI (aS (K:=K) rfl) (bX (aA aI (aA aI aD))) (aZ call_int1 rfl T.b_int bt_int (aA (pv 2) aD)) (fun _ _=>rfl)) aD))) aD))) (bA op_fdiv (cU G__law_draw hr (aA (pv 0) (aA aI aD))) aI) (fun _ _=>rfl)))
   (aL (cA (pe_bmK (K:=K) rfl PySem.F.plainAttrs_list PySem.F.slot_list_append PySem.F.type_list_append cI (pv 6) (aA (bT (aA (cU G__law_draw hr (aA (pv 0) (aA (pv 3) aD))) (aA (pv 8) (aA (pe_cmpR op_gt (cU G__law_draw hr (aA (pv 0) (aA aI aD))) aI (dA _)) aD)))) aD))))))
   (aL (b9 (bT (aA (aZ (bV (K:=K) rfl) rfl T.b_tuple bY (aA (pv 5) aD)) (aA (aZ (bV (K:=K) rfl) rfl T.b_tuple bY (aA (pv 6) aD)) aD)))))))))),?_⟩
  refine gn_add (t:=t) (sl:=sl) (H0:=H) (x:=1) (y:=2) (l:=0) (h:=most) (gn_c ⟨1,rfl,by omega,by omega⟩) (gn_drawv (m:=most) rfl rfl (by omega) (by omega)) _ _ ⟨cB.refl _,tp⟩ ?_
  rintro v H1 e1 _ ⟨n',rfl,n0,n1⟩
  obtain⟨n,rfl⟩:=Int.eq_ofNat_of_zero_le (show 0≤n' by omega)
  refine gn_pick2 (t:=t) (sl:=sl) (H0:=H) (P:=cW 0 13) (gn_up (bP rfl (by decide) (by decide)) (Int.le_refl _) (by decide)) (bP rfl (by decide) (by decide)) (gn_half (bP rfl (by decide) (by decide))) _ _ e1 ?_
  rintro v H2 e2 _ ⟨m',rfl,m0,m1⟩
  obtain⟨m,rfl⟩:=Int.eq_ofNat_of_zero_le m0
  refine⟨_,rfl,_,rfl,by omega,by omega,?_⟩
  refine lc_range (n:=n) (fun D i r σ' H'=>H2 D=none∧Ext t sl H H'∧H' D=some (.lst r)∧∃ vs:List Vs,vs.length=i∧L2.IsL K H' (vs.map vsD) r∧(∀ v∈vs,VOk n m v)∧(∀ i v,vs[i]? = some v→VFull i v)∧∃ v0,σ'=[v0,some (.ref t),some (.int (n:Int)),some (.int (m:Int)),some (.bl small)])
   (fun D hD=>⟨hD,e2.new hD,aB,[],rfl,.nil,(fun v hv=>nomatch hv),(fun i v hv=>by simp at hv),none,rfl⟩) ?_ ?_
  rotate_left
  ·rintro D i r σ' H3 hi ⟨hD,e3,hl,vs,hlen,hvl,hok,hfu,v0,rfl⟩
   refine dW ?_
   refine⟨_,rfl,_,rfl,_,rfl,_,rfl,_,rfl,t,sl,i,n,m,small,rfl,e3.tp,hi,by omega,by omega,fun v p H4 e4 vok vfu hp=>?_⟩
   have nD:D≠t:=e2.ne hD
   have fD:H D=none:=e2.bt.free nD hD
   have hl4:H4 D=some (.lst r):=e4.bt D _ nD hl
   have hrl:r.length=vs.length:=by rw[hvl.length,List.length_map]
   have mt:Mut (H4 D):=by rw[hl4];exact trivial
   refine⟨hl4,aT (by omega),hD,(e3.trans e4).put tp fD,aB,vs++[v],by simp [hlen],?_,?_,?_,_,rfl⟩
   ·rw[List.map_append]
    exact L2.IsL.snoc (Is.mono (bL.put (bL.refl _) (.inr mt)) _ _ hp) (L2.IsL.mono (bL.put (e4.bt.ts e3.tp.mut) (.inr mt)) _ _ hvl)
   ·intro u hu
    rcases List.mem_append.mp hu with hu | hu
    ·exact hok u hu
    ·rw[List.mem_singleton.mp hu];exact vok
   ·intro j u hu
    rcases Nat.lt_or_ge j vs.length with hj | hj
    ·rw[List.getElem?_append_left hj] at hu;exact hfu j u hu
    ·rw[List.getElem?_append_right hj] at hu
     have e0:j - vs.length=0:=by
      rcases Nat.eq_zero_or_pos (j - vs.length) with h | h
      ·exact h
      ·rw[List.getElem?_eq_none (show [v].length≤j - vs.length from h)] at hu;cases hu
     rw[e0] at hu
     have e1:j=i:=by omega
     cases hu
     rw[e1];exact vfu
  rintro D r σ' H3 ⟨hD,e3,hl,vs,hlen,hvl,hok,hfu,_⟩
  have nD:D≠t:=e2.ne hD
  have fD:H D=none:=e2.bt.free nD hD
  refine⟨Nat.zero_le _,fun fl hfl=>?_⟩
  have nf:fl≠t:=e3.ne hfl
  have ff:H fl=none:=e3.bt.free nf hfl
  have nDf:D≠fl:=aN hl hfl
  refine⟨_,rfl,_,rfl,by omega,by omega,?_⟩
  refine for_range (lo:=0) (n:=m) (fun j σ' H'=>Ext t sl H H'∧H' D=some (.lst r)∧L2.IsL K H' (vs.map vsD) r∧∃ (sps:List Spt) (xs:List V),H' fl=some (.lst xs)∧L2.IsL K H' (sps.map spD) xs∧sps.length=j∧(∀ s∈sps,(0≤s.1∧s.1 < n)∧0≤s.2.1∧s.2.1≤60)∧
   ∃ v7 v8,σ'=[some (.ref t),some (.int most),some (.bl small),some (.int (n:Int)),some (.int (m:Int)),some (.ref D),some (.ref fl),v7,v8]) ?_ ?_ ?_
  ·exact⟨e3.new hfl,by rw[aM nDf];exact hl,L2.IsL.mono (aK.new hfl).ts _ _ hvl,[],[],aB,.nil,rfl,(fun s hs=>nomatch hs),none,none,rfl⟩
  ·rintro j σ' H4 hj ⟨e4,hl4,hv4,sps,xs,hf4,hs4,hslen,hsok,v7,v8,rfl⟩
   refine gn_pick2 (t:=t) (sl:=sl) (H0:=H) (P:=cW 0 61) (gn_up (bP rfl (by decide) (by decide)) (Int.le_refl _) (by decide))
    (gn_up (gn_drawm (lo:=4) (hi:=62) rfl (by decide) (by decide) (gn_menu rfl ⟨by decide,by decide⟩ ⟨by decide,by decide⟩)) (Int.le_refl _) (by decide)) (gn_half (bP rfl (by decide) (by decide))) _ _ e4 ?_
   rintro v H5 e5 b5 ⟨flow,rfl,fl0,fl1⟩
   have hf5:H5 fl=some (.lst xs):=b5 fl _ nf hf4
   refine⟨_,rfl,.inl ⟨rfl,_,cE.of hf5⟩,?_⟩
   refine gn_drawv (t:=t) (sl:=sl) (H0:=H) (m:=(n:Int)) rfl rfl (by omega) (by omega) _ _ e5 ?_
   rintro v H6 e6 b6 ⟨tg,rfl,tg0,tg1⟩
   refine⟨_,rfl,?_⟩
   refine gn_gt0 (t:=t) (sl:=sl) (H0:=H) (bP rfl (by decide) (by decide)) _ _ e6 ?_
   rintro v H7 e7 b7 ⟨dr,rfl⟩
   refine⟨(show 3≤sizeLine by decide),fun q hq=>?_⟩
   have b47:cB t H4 H7:=b5.trans (b6.trans b7)
   have hf7:H7 fl=some (.lst xs):=b47 fl _ nf hf4
   have hl7:H7 D=some (.lst r):=b47 D _ nD hl4
   have nq:fl≠q:=aN hf7 hq
   have nDq:D≠q:=aN hl7 hq
   have hxl:xs.length=sps.length:=by rw[hs4.length,List.length_map]
   refine⟨fl,xs,_,rfl,rfl,by rw[aM nq];exact hf7,aT (by omega),?_⟩
   have mt:Mut (upd H7 q (.tup [.int tg,.int flow,.bl dr]) fl):=by rw[aM nq,hf7];exact trivial
   have ts:bL K H4 (upd (upd H7 q (.tup [.int tg,.int flow,.bl dr])) fl (.lst (xs++[.ref q]))):=bL.put ((b47.trans (aK.new hq).but).ts e4.tp.mut) (.inr mt)
   refine⟨(e7.new hq).put tp ff,by rw[aM nDf,aM nDq];exact hl7,L2.IsL.mono ts _ _ hv4,sps++[(tg,flow,dr)],xs++[.ref q],aB,?_,by simp [hslen],?_,_,_,rfl⟩
   ·rw[List.map_append]
    exact L2.IsL.snoc (Is.tupOf (ds:=[.int tg,.int flow,.bl dr]) (bL.put (bL.refl _) (.inr mt) _ _ (bH.of aB)) (.cons (Is.i _) (.cons (Is.i _) (.cons (Is.b _) .nil)))) (L2.IsL.mono ts _ _ hs4)
   ·intro s hs
    rcases List.mem_append.mp hs with hs | hs
    ·exact hsok s hs
    ·rw[List.mem_singleton.mp hs];exact⟨⟨tg0,tg1⟩,fl0,show flow≤60 by omega⟩
  ·rintro σ' H4 ⟨e4,hl4,hv4,sps,xs,hf4,hs4,hslen,hsok,v7,v8,rfl⟩
   refine⟨_,rfl,D,_,rfl,.inl ⟨cE.of hl4,fun q1 hq1=>⟨_,rfl,fl,_,rfl,.inl ⟨cE.of (aK.new hq1 _ _ hf4),fun q2 hq2=>⟨(show 2≤sizeLine by decide),fun q3 hq3=>?_⟩⟩⟩⟩⟩
   have m1:aK H4 (upd H4 q1 (.tup r)):=aK.new hq1
   have m2:aK (upd H4 q1 (.tup r)) (upd (upd H4 q1 (.tup r)) q2 (.tup xs)):=aK.new hq2
   have m3:aK (upd (upd H4 q1 (.tup r)) q2 (.tup xs)) (upd (upd (upd H4 q1 (.tup r)) q2 (.tup xs)) q3 (.tup [.ref q1,.ref q2])):=aK.new hq3
   refine k ⟨vs,sps⟩ _ _ (((e4.new hq1).new hq2).new hq3) ⟨by show 1≤vs.length;omega,by show vs.length≤12;omega,by show sps.length≤12;omega,fun v hv=>by rw[hlen,hslen];exact hok v hv,fun s hs=>by rw[hlen];exact (hsok s hs).1⟩ ⟨hfu,fun s hs=>(hsok s hs).2⟩ (by show (vs.length:Int)≤most;omega) ?_
   refine Is.tupOf (bH.of aB) (.cons (Is.tupOf (m3.tup (m2.tup (bH.of aB))) ?_) (.cons (Is.tupOf (m3.tup (bH.of aB)) ?_) .nil))
   ·exact L2.IsL.mono m3.ts _ _ (L2.IsL.mono m2.ts _ _ (L2.IsL.mono m1.ts _ _ hv4))
   ·exact L2.IsL.mono m3.ts _ _ (L2.IsL.mono m2.ts _ _ (L2.IsL.mono m1.ts _ _ hs4))
end
end Tw
namespace Tw
open PySem L2
section
variable {P:Program}{w:World}{K:PySem.W.Frag}{mg:Str→Option Value}{base:Heap}
theorem rep0:∀ n:Nat,(List.replicate n [V.int 0]).flatten=(List.replicate n (0:Int)).map V.int
 | 0=>rfl
 | n+1=>by rw[List.replicate_succ,List.replicate_succ,List.flatten_cons,rep0 n,List.map_cons];rfl
noncomputable def dU (n:Nat):List Int:=List.replicate n 0
noncomputable def spFirst (K:PySem.W.Frag):Sp:=fun args H Q _=>∃ (x:V) (net:Net),args=[x]∧Is K H (netD net) x∧NetOk net∧
 ∀ p H',aK H H'→Is K H' (stD (dU net.vs.length) (dU net.vs.length) (net.sps.map (·.2.2))) p→Q p H'
theorem sc_first_state:FnScope ["net","vessels","spouts","empty"] ["net"] (aJ (aU 33)):=⟨rfl,rfl,rfl,by decide +kernel,rfl,by decide +kernel,by decide +kernel⟩
theorem ok_first_state {f:Addr}{fd:FuncData} (F:Fun K "first_state" "first_state" (aU 33) f fd) (T:Txt mg):FnOk P w K mg base CX0 1 f fd ["net"] (spFirst K):=by
 refine F.ok sc_first_state (fun vs H Q E h=>?_) (fun cdv A outer s H vs Q E hr h=>?_)
 ·obtain⟨x,net,rfl,_⟩:=h;rfl
 ·obtain⟨x,net,rfl,hx,nok,k⟩:=h
  have sc:=sc_first_state
  refine⟨_,(aG (bK (pv 0) (aR (K:=K) (n:=2) rfl rfl (aE (aF (i:=1) sc.nd rfl (Or.inl rfl)) (aE (aF (i:=2) sc.nd rfl (Or.inl rfl)) aQ))))
   (aG (bD (i:=3) sc.nd rfl (Or.inl rfl) (bA (op_repTK (K:=K) rfl) (bT (aA aI aD)) (aX (bZ (K:=K) rfl) rfl T.b_len PySem.boot_len (aA (pv 1) aD))))
   (aL (b9 (bT (aA (pv 3) (aA (pv 3) (aA (aZ (bV (K:=K) rfl) rfl T.b_tuple bY (aA (pe_lc (fun _ _ h=>h) rfl (LcOk.mk (N':=["target","flow","door"]) (fr:=[none,none,none]) rfl trivial rfl rfl rfl rfl rfl trivial) (dH (K:=K) rfl (pv 2)) (fun _ _ _=>(aR (K:=K) (n:=3) rfl rfl (aE (aF (i:=0) (show (["target","flow","door"]:List Str).Nodup by decide +kernel) rfl (Or.inl rfl) (Or.inr rfl)) (aE (aF (i:=1) (show (["target","flow","door"]:List Str).Nodup by decide +kernel) rfl (Or.inl rfl) (Or.inr rfl)) (aE (aF (i:=2) (show (["target","flow","door"]:List Str).Nodup by decide +kernel) rfl (Or.inl rfl) (Or.inr rfl)) aQ))))) (fun _ _ _=>d8) (fun _ _ _=>(pv 2))) aD)) aD)))))))),?_⟩
  obtain⟨a,b,c,xs,ys,rfl,q,q1,l1,q2,l2⟩:=net_un hx
  have exl:xs.length=net.vs.length:=by rw[l1.length,List.length_map]
  have eyl:ys.length=net.sps.length:=by rw[l2.length,List.length_map]
  have n1:=nok.lo
  have n2:=nok.hi
  have n3:=nok.sp
  refine⟨_,rfl,a,_,rfl,q,rfl,_,_,rfl,_,_,rfl,rfl,?_⟩
  refine⟨(show 1≤sizeLine by decide),fun z hz=>⟨_,rfl,b,xs,rfl,.inr ((aK.new hz).tup q1),z,_,[.int 0],rfl,rfl,bH.of aB,by omega,by omega,by simp,by simp,fun e H1 sm1 qe=>?_⟩⟩
  have s1:aK H H1:=(aK.new hz).trans sm1
  have en:((xs.length:Nat):Int).toNat=net.vs.length:=by rw[exl];simp
  rw[en,rep0] at qe
  refine⟨_,rfl,_,rfl,_,rfl,c,rfl,⟨_,s1.tup q2⟩,lc_tup (K:=K) (a:=c) (xs:=ys) (fun D i r σ' H'=>H1 D=none∧aK H1 H'∧H' D=some (.lst r)∧r=((net.sps.take i).map (·.2.2)).map V.bl∧∃ u v w,σ'=[u,v,w])
   (fun D i r σ' H' p=>p.2.1.tup (s1.tup q2)) (fun D hD=>⟨hD,aK.new hD,aB,by simp,none,none,none,rfl⟩) ?_ ?_⟩
  rotate_left
  ·rintro D i x r σ' H2 hx ⟨hD,sm,hDl,rfl,u,v,w',rfl⟩
   obtain⟨sp,hsi,sa,rfl,qs⟩:=sps_at l2 hx
   have hil:=(List.getElem?_eq_some_iff.mp hsi).1
   refine⟨sa,_,rfl,sm.tup (s1.tup qs),rfl,_,_,rfl,_,_,rfl,_,_,rfl,rfl,?_⟩
   refine yes_of ⟨_,rfl,hDl,aT (by simp;omega),hD,sm.put hD,aB,?_,_,_,_,rfl⟩
   rw[cF hsi];simp
  ·rintro D r σ' H2 ⟨hD,sm,hDl,rfl,_⟩
   rw[eyl,List.take_length] at hDl
   refine⟨D,_,rfl,.inl ⟨cE.of hDl,fun d hd=>⟨(show 3≤sizeLine by decide),fun r hr'=>?_⟩⟩⟩
   have m1:aK H2 (upd H2 d (.tup ((net.sps.map (·.2.2)).map V.bl))):=aK.new hd
   have m2:aK (upd H2 d (.tup ((net.sps.map (·.2.2)).map V.bl))) (upd (upd H2 d (.tup ((net.sps.map (·.2.2)).map V.bl))) r (.tup [.ref e,.ref e,.ref d])):=aK.new hr'
   refine k _ _ (((s1.trans sm).trans m1).trans m2) (st_of (bH.of aB) ?_ ?_ (m2.tup (bH.of aB)))
   ·exact m2.tup (m1.tup (sm.tup qe))
   ·exact m2.tup (m1.tup (sm.tup qe))
end
end Tw
namespace Tw
end Tw
namespace Tw
open PySem L2
end Tw
namespace Tw
open PySem L2
theorem kit_tt (K:PySem.W.Frag):PySem.W.kitOne K (.type "tuple") (.type "tuple")=some true:=by
 unfold PySem.W.kitOne;rw[if_pos (by decide +kernel)]
theorem kit_bb (K:PySem.W.Frag):PySem.W.kitOne K (.type "bool") (.type "bool")=some true:=by
 unfold PySem.W.kitOne;rw[if_pos (by decide +kernel)]
theorem kit_ib (K:PySem.W.Frag):PySem.W.kitOne K (.type "int") (.type "bool")=some false:=by
 unfold PySem.W.kitOne
 rw[if_neg (by decide +kernel)]
 show (if PySem.W.kitMeta "bool" = true then PySem.W.subIn K (.type "int") (.type "bool") else none)=some false
 rw[if_pos (by decide +kernel)]
 show (PySem.fastBuiltinMro "int").map (·.contains (.type "bool"))=some false
 decide +kernel
theorem all_true (n:Nat):(List.replicate n true).all id=true:=by
 rw[List.all_eq_true];intro x hx;rw[List.eq_of_mem_replicate hx];rfl
section
variable {P:Program}{w:World}{K:PySem.W.Frag}{mg:Str→Option Value}{base:Heap}
noncomputable def spLaw (K:PySem.W.Frag):Sp:=fun vs H Q _=>∃ (a:Addr) (ns:List Int),vs=[.ref a]∧cE K H a (ns.map V.int)∧ns.length≤63∧∀ H',Q (.bl true) H'
end
end Tw
namespace L2
open PySem PySem.Spec PyProof.Rows TwZ
section
variable {X:Cx}{K:PySem.W.Frag}
theorem eI {x:Str}{v:V}{pos:Pos} (hg:Gl X x) (h:∃ u,X.mg x=some u∧aY v u) (hd:(x == ("__debug__" : Str))=false:=by decide):PE X (.Name x pos) (tC v):=by
 obtain⟨u,e,r⟩:=h
 exact pe_glob hg e r hd
theorem op_inK (hK:X.K=K):OpR X (compareOp .In) (rIn K false):=by subst hK;exact op_in_seq
theorem op_ninK (hK:X.K=K):OpR X (compareOp .NotIn) (rIn K true):=by subst hK;exact op_notIn_seq
end
theorem iteD {c A B:Prop} [Decidable c] (hc:c) (h:A):if decide c=true then A else B:=by
 rw[if_pos (decide_eq_true hc)];exact h
end L2
namespace Tw
open PySem L2
structure TxtN (K:PySem.W.Frag) (mg:Str→Option Value) (aw:Addr):Prop where
 g_MOST_VESSELS:∃ u,mg "MOST_VESSELS" = some u∧aY (.int 12) u
 g_MOST_SPOUTS:∃ u,mg "MOST_SPOUTS" = some u∧aY (.int 12) u
 g_MOST_SIZE:∃ u,mg "MOST_SIZE" = some u∧aY (.int 60) u
 g_MOST_BRIM:∃ u,mg "MOST_BRIM" = some u∧aY (.int 200) u
 g_MOST_OUTS:∃ u,mg "MOST_OUTS" = some u∧aY (.int 3) u
 g_MOST_PARTS:∃ u,mg "MOST_PARTS" = some u∧aY (.int 60) u
 g_MOST_ACTS:∃ u,mg "MOST_ACTS" = some u∧aY (.int 3) u
 g_MOST_FLOW:∃ u,mg "MOST_FLOW" = some u∧aY (.int 60) u
 g_ACT_WORDS:∃ u,mg "ACT_WORDS" = some u∧aY (.ref aw) u
 words:∀ H,bH K H aw [.str "open",.str "shut",.str "turn"]
theorem kit_ii (K:PySem.W.Frag):PySem.W.kitOne K (.type "int") (.type "int")=some true:=by
 unfold PySem.W.kitOne;rw[if_pos (by decide +kernel)]
section
variable {P:Program}{w:World}{K:PySem.W.Frag}{mg:Str→Option Value}{base:Heap}{aw:Addr}
noncomputable def spTupN (K:PySem.W.Frag):Sp:=fun vs H Q _=>∃ (a:Addr) (xs:List V) (lo hi:Int),vs=[.ref a,.int lo,.int hi]∧bH K H a xs∧lo≤(xs.length:Int)∧(xs.length:Int)≤hi∧Q (.bl true) H
noncomputable def spWhole:Sp:=fun vs H Q _=>∃ (n lo hi:Int),vs=[.int n,.int lo,.int hi]∧lo≤n∧n≤hi∧Q (.bl true) H
noncomputable def spIsOut (K:PySem.W.Frag):Sp:=fun vs H Q _=>∃ (a:Addr) (n:Nat) (o:Option Int×Int),vs=[.ref a,.int (n:Int)]∧bH K H a [tgV o.1,.int o.2]∧OutOk n o∧Q (.bl true) H
noncomputable def spIsAct (K:PySem.W.Frag):Sp:=fun vs H Q _=>∃ (a:Addr) (m:Nat) (c:Str×Int),vs=[.ref a,.int (m:Int)]∧bH K H a [.str c.1,.int c.2]∧ActOk m c∧Q (.bl true) H
noncomputable def spIsSpout (K:PySem.W.Frag):Sp:=fun vs H Q _=>∃ (a:Addr) (n:Nat) (s:Spt),vs=[.ref a,.int (n:Int)]∧bH K H a [.int s.1,.int s.2.1,.bl s.2.2]∧(0≤s.1∧s.1 < n)∧(0≤s.2.1∧s.2.1≤60)∧Q (.bl true) H
noncomputable def spIsVessel (K:PySem.W.Frag):Sp:=fun vs H Q _=>∃ (x:V) (i n m:Nat) (v:Vs),vs=[x,.int (i:Int),.int (n:Int),.int (m:Int)]∧Is K H (vsD v) x∧VOk n m v∧VFull i v∧∀ H',aK H H'→Q (.bl true) H'
noncomputable def spIsNet (K:PySem.W.Frag):Sp:=fun vs H Q _=>∃ (x:V) (net:Net),vs=[x]∧Is K H (netD net) x∧NetOk net∧NetFull net∧∀ H',aK H H'→Q (.bl true) H'
theorem sc_is_tuple:FnScope ["thing","least","most"] ["thing","least","most"] (aJ (aU 22)):=⟨rfl,rfl,rfl,by decide +kernel,rfl,by decide +kernel,by decide +kernel⟩
theorem ok_is_tuple {f:Addr}{fd:FuncData} (F:Fun K "is_tuple" "is_tuple" (aU 22) f fd) (T:Txt mg):FnOk P w K mg base CX0 1 f fd ["thing","least","most"] (spTupN K):=by
 refine F.ok sc_is_tuple (fun vs H Q E h=>?_) (fun cdv A outer s H vs Q E hr h=>?_)
 ·obtain⟨a,xs,lo,hi,rfl,_⟩:=h;rfl
 ·obtain⟨a,xs,lo,hi,rfl,q,h1,h2,k⟩:=h
  have sc:=sc_is_tuple
  refine⟨_,(aL (b9 (pe_and (aX (call_isiK (K:=K) rfl) rfl T.b_isinstance boot_isi (aA (pv 0) (aA (pe_bltn (v:=.ty "tuple") rfl T.b_tuple bY rfl) aD))) (pe_one (pe_chain op_le op_le (pv 1) (aX (bZ (K:=K) rfl) rfl T.b_len PySem.boot_len (aA (pv 0) aD)) (pv 2)))))),?_⟩
  refine⟨_,rfl,_,"tuple",_,true,rfl,.inr ⟨a,xs,rfl,q,rfl⟩,kit_tt K,_,rfl,iteT ?_⟩
  refine⟨_,rfl,_,rfl,a,xs,rfl,.inr q,_,_,rfl,rfl,_,rfl,iteD h1 ⟨_,rfl,_,_,rfl,rfl,?_⟩⟩
  show Q (.bl (decide _)) H
  rw[decide_eq_true h2];exact k
theorem sc_is_whole:FnScope ["thing","least","most"] ["thing","least","most"] (aJ (aU 23)):=⟨rfl,rfl,rfl,by decide +kernel,rfl,by decide +kernel,by decide +kernel⟩
theorem ok_is_whole {f:Addr}{fd:FuncData} (F:Fun K "is_whole" "is_whole" (aU 23) f fd) (T:Txt mg):FnOk P w K mg base CX0 1 f fd ["thing","least","most"] spWhole:=by
 refine F.ok sc_is_whole (fun vs H Q E h=>?_) (fun cdv A outer s H vs Q E hr h=>?_)
 ·obtain⟨n,lo,hi,rfl,_⟩:=h;rfl
 ·obtain⟨n,lo,hi,rfl,h1,h2,k⟩:=h
  have sc:=sc_is_whole
  refine⟨_,(aL (b9 (pe_and (aX (call_isiK (K:=K) rfl) rfl T.b_isinstance boot_isi (aA (pv 0) (aA (pe_bltn (v:=.ty "int") rfl T.b_int bt_int rfl) aD))) (pe_and (pe_not (aX (call_isiK (K:=K) rfl) rfl T.b_isinstance boot_isi (aA (pv 0) (aA (pe_bltn (v:=.ty "bool") rfl T.b_bool bt_bool rfl) aD)))) (pe_one (pe_chain op_le op_le (pv 1) (pv 0) (pv 2))))))),?_⟩
  refine⟨_,rfl,_,"int",_,true,rfl,.inl (.int _),kit_ii K,_,rfl,iteT ?_⟩
  refine⟨_,rfl,_,"bool",_,false,rfl,.inl (.int _),kit_ib K,_,rfl,_,rfl,iteT ?_⟩
  refine⟨_,rfl,_,rfl,_,_,rfl,rfl,_,rfl,iteD h1 ⟨_,rfl,_,_,rfl,rfl,?_⟩⟩
  show Q (.bl (decide _)) H
  rw[decide_eq_true h2];exact k
theorem sc_is_out:FnScope ["thing","vessel_count","target","parts"] ["thing","vessel_count"] (aJ (aU 18)):=⟨rfl,rfl,rfl,by decide +kernel,rfl,by decide +kernel,by decide +kernel⟩
theorem ok_is_out {f f1 f2:Addr}{fd fd1 fd2:FuncData} (F:Fun K "is_out" "is_out" (aU 18) f fd) (T:Txt mg) (U:TxtN K mg aw) (G_is_tuple:Callee P w K mg base "is_tuple" ["thing","least","most"] 1 (spTupN K) f1 fd1)
  (G_is_whole:Callee P w K mg base "is_whole" ["thing","least","most"] 1 spWhole f2 fd2):FnOk P w K mg base CX0 2 f fd ["thing","vessel_count"] (spIsOut K):=by
 refine F.ok sc_is_out (fun vs H Q E h=>?_) (fun cdv A outer s H vs Q E hr h=>?_)
 ·obtain⟨a,n,o,rfl,_⟩:=h;rfl
 ·obtain⟨a,n,o,rfl,q,ok,k⟩:=h
  have sc:=sc_is_out
  refine⟨_,(aG (dD (eB (d6 (cU G_is_tuple hr (aA (pv 0) (aA aI (aA aI aD)))))) (aL (b9 pe_bl)) bO)
   (aG (bK (pv 0) (aR (K:=K) (n:=2) rfl rfl (aE (aF (i:=2) sc.nd rfl (Or.inl rfl)) (aE (aF (i:=3) sc.nd rfl (Or.inl rfl)) aQ))))
   (aL (b9 (pe_and (pe_or (pe_cmpR op_isN (pv 2) pe_non (dA _)) (pe_one (cU G_is_whole hr (aA (pv 2) (aA aI (aA (bA op_sub (pv 1) aI) aD)))))) (pe_one (cU G_is_whole hr (aA (pv 3) (aA aI (aA (eI rfl U.g_MOST_PARTS) aD)))))))))),?_⟩
  refine⟨_,rfl,a,_,2,2,rfl,q,(show (2:Int)≤2 by decide),(show (2:Int)≤2 by decide),_,rfl,iteF ?_⟩
  refine⟨_,rfl,a,_,rfl,q,rfl,_,_,rfl,_,_,rfl,rfl,?_⟩
  obtain⟨tg,pa⟩:=o
  cases tg with
  | none=>
   refine⟨_,rfl,rfl,_,rfl,iteD rfl ⟨_,rfl,iteT ?_⟩⟩
   exact⟨_,rfl,pa,1,60,rfl,ok.lo,ok.hi,k⟩
  | some i=>
   have hi:=ok.tg i rfl
   refine⟨_,rfl,rfl,_,rfl,iteF ⟨_,rfl,_,rfl,_,_,rfl,rfl,i,0,_,rfl,hi.1,by omega,_,rfl,iteT ?_⟩⟩
   exact⟨_,rfl,pa,1,60,rfl,ok.lo,ok.hi,k⟩
theorem sc_is_act:FnScope ["thing","spout_count","word","spout"] ["thing","spout_count"] (aJ (aU 19)):=⟨rfl,rfl,rfl,by decide +kernel,rfl,by decide +kernel,by decide +kernel⟩
theorem ok_is_act {f f1 f2:Addr}{fd fd1 fd2:FuncData} (F:Fun K "is_act" "is_act" (aU 19) f fd) (T:Txt mg) (U:TxtN K mg aw) (G_is_tuple:Callee P w K mg base "is_tuple" ["thing","least","most"] 1 (spTupN K) f1 fd1)
  (G_is_whole:Callee P w K mg base "is_whole" ["thing","least","most"] 1 spWhole f2 fd2):FnOk P w K mg base CX0 2 f fd ["thing","spout_count"] (spIsAct K):=by
 refine F.ok sc_is_act (fun vs H Q E h=>?_) (fun cdv A outer s H vs Q E hr h=>?_)
 ·obtain⟨a,m,c,rfl,_⟩:=h;rfl
 ·obtain⟨a,m,c,rfl,q,ok,k⟩:=h
  have sc:=sc_is_act
  refine⟨_,(aG (dD (eB (d6 (cU G_is_tuple hr (aA (pv 0) (aA aI (aA aI aD)))))) (aL (b9 pe_bl)) bO)
   (aG (bK (pv 0) (aR (K:=K) (n:=2) rfl rfl (aE (aF (i:=2) sc.nd rfl (Or.inl rfl)) (aE (aF (i:=3) sc.nd rfl (Or.inl rfl)) aQ))))
   (aL (b9 (pe_and (pe_cmpR (op_inK (K:=K) rfl) (pv 2) (eI rfl U.g_ACT_WORDS) (by rfl)) (pe_one (cU G_is_whole hr (aA (pv 3) (aA aI (aA (bA op_sub (pv 1) aI) aD)))))))))),?_⟩
  refine⟨_,rfl,a,_,2,2,rfl,q,(show (2:Int)≤2 by decide),(show (2:Int)≤2 by decide),_,rfl,iteF ?_⟩
  refine⟨_,rfl,a,_,rfl,q,rfl,_,_,rfl,_,_,rfl,rfl,?_⟩
  have hin:inV (.str c.1) [.str "open",.str "shut",.str "turn"]=true:=by
   rcases ok.word with e | e | e <;> rw[e] <;> decide +kernel
  refine⟨_,rfl,aw,_,rfl,.inr (U.words _),rfl,rfl,_,rfl,?_⟩
  rw[show (if false=true then !inV (V.str c.1) [.str "open",.str "shut",.str "turn"] else inV (V.str c.1) [.str "open",.str "shut",.str "turn"])=true from hin]
  refine iteT ?_
  exact⟨_,rfl,_,rfl,_,_,rfl,rfl,c.2,0,_,rfl,ok.lo,by have:=ok.hi;omega,k⟩
theorem sc_is_spout:FnScope ["thing","vessel_count","target","flow","door"] ["thing","vessel_count"] (aJ (aU 20)):=⟨rfl,rfl,rfl,by decide +kernel,rfl,by decide +kernel,by decide +kernel⟩
theorem ok_is_spout {f f1 f2:Addr}{fd fd1 fd2:FuncData} (F:Fun K "is_spout" "is_spout" (aU 20) f fd) (T:Txt mg) (U:TxtN K mg aw) (G_is_tuple:Callee P w K mg base "is_tuple" ["thing","least","most"] 1 (spTupN K) f1 fd1)
  (G_is_whole:Callee P w K mg base "is_whole" ["thing","least","most"] 1 spWhole f2 fd2):FnOk P w K mg base CX0 2 f fd ["thing","vessel_count"] (spIsSpout K):=by
 refine F.ok sc_is_spout (fun vs H Q E h=>?_) (fun cdv A outer s H vs Q E hr h=>?_)
 ·obtain⟨a,n,s,rfl,_⟩:=h;rfl
 ·obtain⟨a,n,s,rfl,q,ok1,ok2,k⟩:=h
  have sc:=sc_is_spout
  refine⟨_,(aG (dD (eB (d6 (cU G_is_tuple hr (aA (pv 0) (aA aI (aA aI aD)))))) (aL (b9 pe_bl)) bO)
   (aG (bK (pv 0) (aR (K:=K) (n:=3) rfl rfl (aE (aF (i:=2) sc.nd rfl (Or.inl rfl)) (aE (aF (i:=3) sc.nd rfl (Or.inl rfl)) (aE (aF (i:=4) sc.nd rfl (Or.inl rfl)) aQ)))))
   (aL (b9 (pe_and (cU G_is_whole hr (aA (pv 2) (aA aI (aA (bA op_sub (pv 1) aI) aD)))) (pe_and (cU G_is_whole hr (aA (pv 3) (aA aI (aA (eI rfl U.g_MOST_FLOW) aD)))) (pe_one (aX (call_isiK (K:=K) rfl) rfl T.b_isinstance boot_isi (aA (pv 4) (aA (pe_bltn (v:=.ty "bool") rfl T.b_bool bt_bool rfl) aD)))))))))),?_⟩
  refine⟨_,rfl,a,_,3,3,rfl,q,(show (3:Int)≤3 by decide),(show (3:Int)≤3 by decide),_,rfl,iteF ?_⟩
  refine⟨_,rfl,a,_,rfl,q,rfl,_,_,rfl,_,_,rfl,_,_,rfl,rfl,?_⟩
  refine⟨_,rfl,_,rfl,_,_,rfl,rfl,s.1,0,_,rfl,ok1.1,by omega,_,rfl,iteT ?_⟩
  refine⟨_,rfl,s.2.1,0,60,rfl,ok2.1,ok2.2,_,rfl,iteT ?_⟩
  exact⟨_,rfl,_,"bool",_,true,rfl,.inl (.bl _),kit_bb K,k⟩
theorem sc_is_vessel:FnScope ["thing","number","vessel_count","spout_count","size","brim","outs","holds","spill","acts"] ["thing","number","vessel_count","spout_count"] (aJ (aU 17)):=⟨rfl,rfl,rfl,by decide +kernel,rfl,by decide +kernel,by decide +kernel⟩
theorem ok_is_vessel {f f1 f2 f3 f4:Addr}{fd fd1 fd2 fd3 fd4:FuncData} (F:Fun K "is_vessel" "is_vessel" (aU 17) f fd) (T:Txt mg) (U:TxtN K mg aw) (G_is_tuple:Callee P w K mg base "is_tuple" ["thing","least","most"] 1 (spTupN K) f1 fd1)
  (G_is_whole:Callee P w K mg base "is_whole" ["thing","least","most"] 1 spWhole f2 fd2) (G_is_out:Callee P w K mg base "is_out" ["thing","vessel_count"] 2 (spIsOut K) f3 fd3) (G_is_act:Callee P w K mg base "is_act" ["thing","spout_count"] 2 (spIsAct K) f4 fd4) :
  FnOk P w K mg base CX0 3 f fd ["thing","number","vessel_count","spout_count"] (spIsVessel K):=by
 refine F.ok sc_is_vessel (fun vs H Q E h=>?_) (fun cdv A outer s H vs Q E hr h=>?_)
 ·obtain⟨x,i,n,m,v,rfl,_⟩:=h;rfl
 ·obtain⟨x,i,n,m,v,rfl,hx,ok,fu,k⟩:=h
  have sc:=sc_is_vessel
  refine⟨_,(aG (dD (eB (d6 (cU G_is_tuple hr (aA (pv 0) (aA aI (aA aI aD)))))) (aL (b9 pe_bl)) bO)
   (aG (bK (pv 0) (aR (K:=K) (n:=6) rfl rfl (aE (aF (i:=4) sc.nd rfl (Or.inl rfl)) (aE (aF (i:=5) sc.nd rfl (Or.inl rfl)) (aE (aF (i:=6) sc.nd rfl (Or.inl rfl)) (aE (aF (i:=7) sc.nd rfl (Or.inl rfl)) (aE (aF (i:=8) sc.nd rfl (Or.inl rfl)) (aE (aF (i:=9) sc.nd rfl (Or.inl rfl)) aQ))))))))
   (aG (dD (PW.pt (pw_or (eB (d6 (cU G_is_whole hr (aA (pv 4) (aA aI (aA (eI rfl U.g_MOST_SIZE) aD)))))) (pw_or1 (eB (d6 (cU G_is_whole hr (aA (pv 5) (aA (pv 4) (aA (eI rfl U.g_MOST_BRIM) aD))))))))) (aL (b9 pe_bl)) bO)
   (aG (dD (PW.pt (pw_or (eB (d6 (cU G_is_tuple hr (aA (pv 6) (aA aI (aA (eI rfl U.g_MOST_OUTS) aD)))))) (pw_or1 (eB (d6 (cU G_is_tuple hr (aA (pv 9) (aA aI (aA (eI rfl U.g_MOST_ACTS) aD))))))))) (aL (b9 pe_bl)) bO)
   (aL (b9 (pe_and (aX (call_allK (K:=K) rfl rfl) rfl T.b_all PyProof.Rows.boot_all (aA (pe_lc (fun _ _ h=>h) rfl (LcOk.mk (N':=["out","vessel_count"]) (fr:=[none,some 2]) rfl ⟨rfl,trivial⟩ rfl rfl rfl rfl rfl ⟨⟨_,rfl,rfl,rfl,rfl⟩,trivial⟩) (dH (K:=K) rfl (pv 6)) (fun _ _ _=>(aF (i:=0) (show (["out","vessel_count"]:List Str).Nodup by decide +kernel) rfl (Or.inl rfl) (Or.inr rfl))) (fun _ _ _=>d8) (fun _ _ _=>(cU G_is_out hr (aA (pv 0) (aA (pv 1) aD))))) aD)) (pe_and (aX (call_isiK (K:=K) rfl) rfl T.b_isinstance boot_isi (aA (pv 7) (aA (pe_bltn (v:=.ty "bool") rfl T.b_bool bt_bool rfl) aD))) (pe_and (pe_or (pe_cmpR op_isN (pv 8) pe_non (dA _)) (pe_one (cU G_is_whole hr (aA (pv 8) (aA (bA d9 (pv 1) aI) (aA (bA op_sub (pv 2) aI) aD)))))) (pe_one (aX (call_allK (K:=K) rfl rfl) rfl T.b_all PyProof.Rows.boot_all (aA (pe_lc (fun _ _ h=>h) rfl (LcOk.mk (N':=["act","spout_count"]) (fr:=[none,some 3]) rfl ⟨rfl,trivial⟩ rfl rfl rfl rfl rfl ⟨⟨_,rfl,rfl,rfl,rfl⟩,trivial⟩) (dH (K:=K) rfl (pv 9)) (fun _ _ _=>(aF (i:=0) (show (["act","spout_count"]:List Str).Nodup by decide +kernel) rfl (Or.inl rfl) (Or.inr rfl))) (fun _ _ _=>d8) (fun _ _ _=>(cU G_is_act hr (aA (pv 0) (aA (pv 1) aD))))) aD)))))))))))),?_⟩
  obtain⟨va,o,cc,rfl,qv,ho,hc⟩:=vs_un hx
  obtain⟨oa,os,rfl,qo,lo⟩:=ho.un
  obtain⟨ca,cs,rfl,qc,lc⟩:=hc.un
  have eol:os.length=v.outs.length:=by rw[lo.length,List.length_map]
  have ecl:cs.length=v.acts.length:=by rw[lc.length,List.length_map]
  have ne1:1≤v.outs.length:=by
   rcases Nat.eq_zero_or_pos v.outs.length with e | e
   ·exact absurd (List.eq_nil_of_length_eq_zero e) ok.ne
   ·exact e
  have o3:=ok.o3
  have a3:=ok.a3
  refine⟨_,rfl,va,_,6,6,rfl,qv,(show (6:Int)≤6 by decide),(show (6:Int)≤6 by decide),_,rfl,iteF ?_⟩
  refine⟨_,rfl,va,_,rfl,qv,rfl,_,_,rfl,_,_,rfl,_,_,rfl,_,_,rfl,_,_,rfl,_,_,rfl,rfl,?_⟩
  refine⟨_,rfl,v.size,1,60,rfl,ok.size,fu.sz,_,rfl,iteF ?_⟩
  refine⟨_,rfl,_,rfl,v.brim,v.size,200,rfl,fu.br,fu.bh,_,rfl,iteF ?_⟩
  refine⟨_,rfl,oa,_,1,3,rfl,qo,by omega,by omega,_,rfl,iteF ?_⟩
  refine⟨_,rfl,ca,_,0,3,rfl,qc,by omega,by omega,_,rfl,iteF ?_⟩
  refine⟨_,rfl,oa,rfl,⟨_,qo⟩,lc_tup (K:=K) (a:=oa) (xs:=os) (fun D i r σ' H'=>H D=none∧aK H H'∧H' D=some (.lst r)∧r=(List.replicate i true).map V.bl∧∃ u,σ'=[u,some (.int (n:Int))])
   (fun D i r σ' H' p=>p.2.1.tup qo) (fun D hD=>⟨hD,aK.new hD,aB,rfl,none,rfl⟩) ?_ ?_⟩
  rotate_left
  ·rintro D j y r σ' H2 hy ⟨hD,sm,hDl,rfl,u,rfl⟩
   obtain⟨ot,hot,oad,rfl,qot⟩:=outs_at lo hy
   have hjl:=(List.getElem?_eq_some_iff.mp hot).1
   refine dW ?_
   refine⟨_,rfl,_,rfl,oad,n,ot,rfl,sm.tup qot,ok.outs _ (List.mem_of_getElem? hot),hDl,aT (by simp;omega),hD,sm.put hD,aB,?_,_,rfl⟩
   rw[List.replicate_succ',List.map_append];rfl
  rintro D r σ' H2 ⟨hD,sm2,hDl,rfl,_⟩
  refine⟨false,D,_,rfl,cE.of hDl,_,rfl,?_⟩
  rw[all_true]
  refine iteT ?_
  refine⟨_,rfl,_,"bool",_,true,rfl,.inl (.bl _),kit_bb K,_,rfl,iteT ?_⟩
  cases hsp:v.spill with
  | none=>
   rw[hsp] at qv
   refine⟨_,rfl,rfl,_,rfl,iteD rfl ⟨_,rfl,iteT ?_⟩⟩
   refine⟨_,rfl,ca,rfl,⟨_,sm2.tup qc⟩,lc_tup (K:=K) (a:=ca) (xs:=cs) (fun D i r σ' H'=>H2 D=none∧aK H2 H'∧H' D=some (.lst r)∧r=(List.replicate i true).map V.bl∧∃ u,σ'=[u,some (.int (m:Int))])
    (fun D i r σ' H' p=>p.2.1.tup (sm2.tup qc)) (fun D hD=>⟨hD,aK.new hD,aB,rfl,none,rfl⟩) ?_ ?_⟩
   rotate_left
   ·rintro D j y r σ' H3 hy ⟨hD,sm,hDl,rfl,u,rfl⟩
    obtain⟨at',hat,aa,rfl,qa⟩:=acts_at lc hy
    have hjl:=(List.getElem?_eq_some_iff.mp hat).1
    refine dW ?_
    refine⟨_,rfl,_,rfl,aa,m,at',rfl,sm.tup (sm2.tup qa),ok.acts _ (List.mem_of_getElem? hat),hDl,aT (by simp;omega),hD,sm.put hD,aB,?_,_,rfl⟩
    rw[List.replicate_succ',List.map_append];rfl
   rintro D r σ' H3 ⟨hD,sm3,hDl,rfl,_⟩
   refine⟨false,D,_,rfl,cE.of hDl,?_⟩
   rw[all_true]
   exact k _ (sm2.trans sm3)
  | some t=>
   have h1:=ok.spill t hsp
   have h2:=fu.sp t hsp
   rw[hsp] at qv
   refine⟨_,rfl,rfl,_,rfl,iteF ⟨_,rfl,_,rfl,_,_,rfl,rfl,_,rfl,_,_,rfl,rfl,t,_,_,rfl,by omega,by omega,_,rfl,iteT ?_⟩⟩
   refine⟨_,rfl,ca,rfl,⟨_,sm2.tup qc⟩,lc_tup (K:=K) (a:=ca) (xs:=cs) (fun D i r σ' H'=>H2 D=none∧aK H2 H'∧H' D=some (.lst r)∧r=(List.replicate i true).map V.bl∧∃ u,σ'=[u,some (.int (m:Int))])
    (fun D i r σ' H' p=>p.2.1.tup (sm2.tup qc)) (fun D hD=>⟨hD,aK.new hD,aB,rfl,none,rfl⟩) ?_ ?_⟩
   rotate_left
   ·rintro D j y r σ' H3 hy ⟨hD,sm,hDl,rfl,u,rfl⟩
    obtain⟨at',hat,aa,rfl,qa⟩:=acts_at lc hy
    have hjl:=(List.getElem?_eq_some_iff.mp hat).1
    refine dW ?_
    refine⟨_,rfl,_,rfl,aa,m,at',rfl,sm.tup (sm2.tup qa),ok.acts _ (List.mem_of_getElem? hat),hDl,aT (by simp;omega),hD,sm.put hD,aB,?_,_,rfl⟩
    rw[List.replicate_succ',List.map_append];rfl
   rintro D r σ' H3 ⟨hD,sm3,hDl,rfl,_⟩
   refine⟨false,D,_,rfl,cE.of hDl,?_⟩
   rw[all_true]
   exact k _ (sm2.trans sm3)
theorem sc_is_net:FnScope ["thing","vessels","spouts","number","vessel"] ["thing"] (aJ (aU 16)):=⟨rfl,rfl,rfl,by decide +kernel,rfl,by decide +kernel,by decide +kernel⟩
theorem ok_is_net {f f1 f2 f3:Addr}{fd fd1 fd2 fd3:FuncData} (F:Fun K "is_net" "is_net" (aU 16) f fd) (T:Txt mg) (U:TxtN K mg aw) (G_is_tuple:Callee P w K mg base "is_tuple" ["thing","least","most"] 1 (spTupN K) f1 fd1)
  (G_is_vessel:Callee P w K mg base "is_vessel" ["thing","number","vessel_count","spout_count"] 3 (spIsVessel K) f2 fd2) (G_is_spout:Callee P w K mg base "is_spout" ["thing","vessel_count"] 2 (spIsSpout K) f3 fd3):FnOk P w K mg base CX0 4 f fd ["thing"] (spIsNet K):=by
 refine F.ok sc_is_net (fun vs H Q E h=>?_) (fun cdv A outer s H vs Q E hr h=>?_)
 ·obtain⟨x,net,rfl,_⟩:=h;rfl
 ·obtain⟨x,net,rfl,hx,nok,nfu,k⟩:=h
  have sc:=sc_is_net
  refine⟨_,(aG (dD (eB (d6 (cU G_is_tuple hr (aA (pv 0) (aA aI (aA aI aD)))))) (aL (b9 pe_bl)) bO)
   (aG (bK (pv 0) (aR (K:=K) (n:=2) rfl rfl (aE (aF (i:=1) sc.nd rfl (Or.inr rfl)) (aE (aF (i:=2) sc.nd rfl (Or.inl rfl)) aQ))))
   (aG (dD (PW.pt (pw_or (eB (d6 (cU G_is_tuple hr (aA (pv 1) (aA aI (aA (eI rfl U.g_MOST_VESSELS) aD)))))) (pw_or1 (eB (d6 (cU G_is_tuple hr (aA (pv 2) (aA aI (aA (eI rfl U.g_MOST_SPOUTS) aD))))))))) (aL (b9 pe_bl)) bO)
   (aG (dR PassesOwn.never rfl (pi_enumK (K:=K) rfl rfl T.b_enumerate (aA (pv 1) aD)) (aR (K:=K) (n:=2) rfl rfl (aE (aF (i:=3) sc.nd rfl (Or.inl rfl)) (aE (aF (i:=4) sc.nd rfl (Or.inl rfl)) aQ))) (aL (dD (eB (d6 (cU G_is_vessel hr (aA (pv 4) (aA (pv 3) (aA (aX (bZ (K:=K) rfl) rfl T.b_len PySem.boot_len (aA (pv 1) aD)) (aA (aX (bZ (K:=K) rfl) rfl T.b_len PySem.boot_len (aA (pv 2) aD)) aD))))))) (aL (b9 pe_bl)) bO)))
   (aL (b9 (aX (call_allK (K:=K) rfl rfl) rfl T.b_all PyProof.Rows.boot_all (aA (pe_lc (fun _ _ h=>h) rfl (LcOk.mk (N':=["spout","vessels"]) (fr:=[none,some 1]) rfl ⟨rfl,trivial⟩ rfl rfl rfl rfl rfl ⟨⟨_,rfl,rfl,rfl,rfl⟩,trivial⟩) (dH (K:=K) rfl (pv 2)) (fun _ _ _=>(aF (i:=0) (show (["spout","vessels"]:List Str).Nodup by decide +kernel) rfl (Or.inl rfl) (Or.inr rfl))) (fun _ _ _=>d8) (fun _ _ _=>(cU G_is_spout hr (aA (pv 0) (aA (aX (bZ (K:=K) rfl) rfl T.b_len PySem.boot_len (aA (pv 1) aD)) aD))))) aD)))))))),?_⟩
  obtain⟨a,b,c,xs,ys,rfl,q,q1,l1,q2,l2⟩:=net_un hx
  have exl:xs.length=net.vs.length:=by rw[l1.length,List.length_map]
  have eyl:ys.length=net.sps.length:=by rw[l2.length,List.length_map]
  have n1:=nok.lo
  have n2:=nok.hi
  have n3:=nok.sp
  refine⟨_,rfl,a,_,2,2,rfl,q,(show (2:Int)≤2 by decide),(show (2:Int)≤2 by decide),_,rfl,iteF ?_⟩
  refine⟨_,rfl,a,_,rfl,q,rfl,_,_,rfl,_,_,rfl,rfl,?_⟩
  refine⟨_,rfl,b,_,1,12,rfl,q1,by omega,by omega,_,rfl,iteF ?_⟩
  refine⟨_,rfl,c,_,0,12,rfl,q2,by omega,by omega,_,rfl,iteF ?_⟩
  refine⟨_,rfl,true,b,rfl,⟨_,q1⟩,for_enum (K:=K) (t:=true) (a:=b) (xs:=xs) (fun i σ' H'=>aK H H'∧∃ v3 v4,σ'=[some (.ref a),some (.ref b),some (.ref c),v3,v4])
   (fun i σ' H' p=>p.1.tup q1) ⟨fun _ _ h=>h,none,none,rfl⟩ ?_ ?_⟩
  rotate_left
  ·rintro i y σ' H2 Tt hy ⟨sm,v3,v4,rfl⟩ hT
   obtain⟨d,hd,iy⟩:=l1.get' hy
   rw[List.getElem?_map] at hd
   obtain⟨v,hv,rfl⟩:=Option.map_eq_some_iff.mp hd
   have smT:=aK.new (o:=HO.tup [.int (i:Int),y]) hT
   have sm3:=sm.trans smT
   refine⟨Tt,_,rfl,bH.of aB,rfl,_,_,rfl,_,_,rfl,rfl,?_⟩
   refine⟨_,rfl,_,rfl,_,rfl,b,xs,rfl,.inr (sm3.tup q1),_,rfl,c,ys,rfl,.inr (sm3.tup q2),y,i,net.vs.length,net.sps.length,v,by rw[exl,eyl];rfl,Is.mono sm3.ts _ _ iy,nok.vs v (List.mem_of_getElem? hv),nfu.vs i v hv,fun H4 sm4=>⟨_,rfl,iteF ?_⟩⟩
   exact⟨sm3.trans sm4,_,_,rfl⟩
  rintro σ' H2 ⟨sm2,v3,v4,rfl⟩
  refine⟨_,rfl,c,rfl,⟨_,sm2.tup q2⟩,lc_tup (K:=K) (a:=c) (xs:=ys) (fun D i r σ' H'=>H2 D=none∧aK H2 H'∧H' D=some (.lst r)∧r=(List.replicate i true).map V.bl∧∃ u,σ'=[u,some (.ref b)])
   (fun D i r σ' H' p=>p.2.1.tup (sm2.tup q2)) (fun D hD=>⟨hD,aK.new hD,aB,rfl,none,rfl⟩) ?_ ?_⟩
  rotate_left
  ·rintro D j y r σ' H3 hy ⟨hD,sm,hDl,rfl,u,rfl⟩
   obtain⟨sp,hsi,sa,rfl,qs⟩:=sps_at l2 hy
   have hjl:=(List.getElem?_eq_some_iff.mp hsi).1
   have hm:=List.mem_of_getElem? hsi
   refine dW ?_
   refine⟨_,rfl,_,rfl,b,xs,rfl,.inr (sm.tup (sm2.tup q1)),sa,net.vs.length,sp,by rw[exl];rfl,sm.tup (sm2.tup qs),nok.sps sp hm,nfu.sps sp hm,hDl,aT (by simp;omega),hD,sm.put hD,aB,?_,_,rfl⟩
   rw[List.replicate_succ',List.map_append];rfl
  rintro D r σ' H3 ⟨hD,sm3,hDl,rfl,_⟩
  refine⟨false,D,_,rfl,cE.of hDl,?_⟩
  rw[all_true]
  exact k _ (sm2.trans sm3)
end
end Tw
namespace L2
open PySem PySem.Spec PyProof.Rows
end L2
namespace L2
open PySem PySem.Spec PyProof.Rows TwZ
section
variable {X:Cx}{K:PySem.W.Frag}
theorem ps_dead {st:Stmt}:PS X st (fun _ _ _=>False):=fun _ _ _ _ _ _ h=>h.elim
theorem eJ {e:Expr}{f:Str}{pos:Pos}{ta:TE} (hK:X.K=K) (he:PE X e ta) (hb:attributeBase e f X.env (eval e X.env)=eval e X.env):PE X (.Attribute e f pos) (tFld K ta f):=by subst hK;exact pe_fld he hb
theorem ps_fldK {o value:Expr}{f:Str}{pos pos':Pos}{ta tv:TE} (hK:X.K=K) (ha:PE X o ta) (hv:PE X value tv) (hs:swapsWith value (some (.Attribute o f pos')) pos.line X.env=pure false):PS X (.Assign [.Attribute o f pos'] value pos) (sFld K ta tv f):=by subst hK;exact ps_fld ha hv hs
theorem op_catTK (hK:X.K=K):OpR X (binaryOp .Add) (rCatT K):=by subst hK;exact op_catT
theorem tuple_mul_none (l:Addr) (items:Array Value) (n:Nat) (x:Int) (u:Tok) (dd:Option Addr) (sl:Array (Option Value)) (c0:¬ (decide (x < -(2 ^ 63)) || decide (x ≥ 2 ^ 63))=true) (c1:¬ (items.isEmpty || x == 1)=true)
  (c2:(decide (x≤0) || items.isEmpty)=true) :
  Meets (Builtin.«tuple.__mul__» ⟨[.ref l,.int x u],[]⟩) (fun _ R s=>s.heap.get? l=some { cls:=.type "tuple",dict:=dd,data:=.seq items n,slots:=sl }∧
   R (.ok (.ret (.ref s.heap.objs.size))) { s with heap:=s.heap.push { cls:=.type "tuple",data:=.seq #[] } }):=
 .of_wp fun prog w A R s h=>by
  obtain⟨hp,g,d,tk,os⟩:=s;obtain⟨hl,h⟩:=h
  wp_walk
  rw[if_neg c0]
  wp_walk
  all_goals (try rw[if_neg c1])
  wp_walk
  all_goals (try rw[if_pos c2])
  wp_walk
  exact⟨_,rfl,h⟩
noncomputable def rRepZ (K:PySem.W.Frag):R2:=fun x y H Q=>∃ (l:Addr) (k:Int) (xs:List V),x=.ref l∧y=.int k∧bH K H l xs∧0≤k∧k < 1000000∧xs≠[]∧xs.length≤10∧
 ∀ p H',aK H H'→bH K H' p (List.replicate k.toNat xs).flatten→Q (.ref p) H'
theorem op_repZ:OpR X (binaryOp .Mult) (rRepZ X.K):=by
 intro pins s σ H x y v u Q I rx ry h
 obtain⟨l,k,xs,rfl,rfl,hq,h1,h2,hne,hl10,q⟩:=h
 by_cases hk:1≤k
 ·exact op_repT pins s σ H _ _ v u Q I rx ry ⟨l,k,xs,rfl,rfl,hq,hk,h2,hne,hl10,q⟩
 ·have hk0:k=0:=by omega
  subst hk0
  cases rx
  obtain⟨t,rfl⟩:=ry
  obtain⟨its,r,ht,z⟩:=I.tuple hq
  have hlen:=r.length
  obtain⟨⟨cls,dd,data,sl⟩,e,hc,n,hd⟩:=id ht
  simp only at hc hd
  subst hc hd
  refine wpAny_binaryOp_repeat_ref (T := "tuple") (U := "int") (by decide) ⟨_,e,rfl⟩ (fun s'=>typeIs_int s' 0 t) noFill_tuple_mul F.fills_int_mul F.slot_int_rmul repeat_tuple F.slot_int_index.lookup
   (call_meets F.slot_int_rmul (typeIs_int s 0 t) F.entry_int_rmul (F.args_int_rmul_2 _ _) (int_rmul_tuple 0 t l its.toArray n dd sl) ⟨e,rfl,⟨_,e,rfl⟩,?_⟩)
  have hne':its≠[]:=fun z=>by rw[z] at hlen;exact hne (List.eq_nil_of_length_eq_zero hlen)
  have hemp:its.toArray.isEmpty=false:=by cases its with
   | nil=>exact absurd rfl hne'
   | cons a r=>rfl
  refine call_meets F.slot_tuple_mul ⟨_,e,rfl⟩ F.entry_tuple_mul (F.args_tuple_mul_2 _ _) (tuple_mul_none l its.toArray n 0 t dd sl (by decide) (by rw[hemp];decide) (by simp)) ⟨e,?_⟩
  have I1:=I.laid (a:=s.heap.objs.size) (o:=.tup []) (h':=s.heap.push { cls:=.type "tuple",data:=.seq #[] }) (t':=s.toks)
   (fun _ _ q=>Heap.get?_push_of_some _ q) (Nat.le_refl _) ⟨Nat.zero_le _,[],.nil,⟨_,Heap.get?_push_size _ rfl,rfl,0,rfl⟩⟩
  exact⟨.ref _,_,I1,rfl,q _ _ (aK.new I.fresh) (bH.of aB)⟩
theorem op_repZK (hK:X.K=K):OpR X (binaryOp .Mult) (rRepZ K):=by subst hK;exact op_repZ
end
structure MCal (P:Program) (w:World) (K:PySem.W.Frag) (mg:Str→Option Value) (base:Heap) (C:Addr) (m:Str) (ps:List Str) (k:Nat) (sp:Sp) (f:Addr) (fd:FuncData):Prop where
 cls:Cls K C
 mt:Meth K C m f
 ok:FnOk P w K mg base CX0 k f fd ps sp
 bd:Binds K fd ps []
structure MkCal (P:Program) (w:World) (K:PySem.W.Frag) (mg:Str→Option Value) (base:Heap) (C:Addr) (x:Str) (ps:List Str) (k:Nat) (sp:Sp) (f:Addr) (fd:FuncData):Prop where
 make:Mk K C f
 ok:FnOk P w K mg base CX0 k f fd ps sp
 mg:mg x=some (.ref C)
 bd:Binds K fd ps []
noncomputable def ButL (fp:List Addr) (H H':Hp):Prop:=∀ b o,b∉fp→H b=some o→H' b=some o
theorem ButL.trans {fp:List Addr}{H H1 H2:Hp} (a:ButL fp H H1) (b:ButL fp H1 H2):ButL fp H H2:=fun c o hc h=>b c o hc (a c o hc h)
theorem ButL.upd {fp:List Addr}{H:Hp}{a:Addr}{o:HO} (ha:a∈fp):ButL fp H (upd H a o):=fun b u hb h=>by
 have ne:b≠a:=fun e=>hb (by rw[e];exact ha)
 rw[aM ne];exact h
theorem ButL.ts {K:PySem.W.Frag}{fp:List Addr}{H H':Hp} (a:ButL fp H H') (hm:∀ b∈fp,Mut (H b)):bL K H H':=by
 intro b xs h
 have ne:∀ {o:HO},H b=some o→¬ Mut (some o)→b∉fp:=fun e n z=>by
  have:=hm b z;rw[e] at this;exact n this
 rcases h with (h | ⟨o,h⟩) | h
 ·exact .inl (.inl (a _ _ (ne h (fun z=>z)) h))
 ·exact .inl (.inr ⟨o,a _ _ (ne h (fun z=>z)) h⟩)
 ·exact .inr h
end L2
namespace L2
open PySem PySem.Spec PyProof.Rows TwZ
section
variable {K:PySem.W.Frag}{g:TG}{tc:TT}{te:TE}{fr:List (Option Nat)}{σ:St}{H1:Hp}{Q:Addr→Hp→Prop}
theorem lc_zip2 {t1 t2:Bool}{a1 a2:Addr}{xs ys:List V}{n:Nat} (h1:xs.length=n) (h2:ys.length=n) (Pv:Addr→Nat→List V→St→Hp→Prop)
  (hq:∀ D i r σ H,Pv D i r σ H→SqB K H t1 a1 xs∧SqB K H t2 a2 ys)
  (h0:∀ D,H1 D=none→Pv D 0 [] (frσ fr σ) (upd H1 D (.lst []))) (hstop:∀ D r σ' H',Pv D n r σ' H'→Q D H')
  (hgo:∀ D i x y r σ' H' T,xs[i]? = some x→ys[i]? = some y→Pv D i r σ' H'→H' T=none→g (.ref T) σ' (upd H' T (.tup [x,y])) fun σ3 H3=>tc σ3 H3 fun b H4=>
    if b=true then te σ3 H4 fun y H5=>H5 D=some (.lst r)∧r.length < PySem.sizeLine∧Pv D (i+1) (r++[y]) σ3 (upd H5 D (.lst (r++[y])))
    else Pv D (i+1) r σ3 H4):lcRest (Itz2 K t1 t2 a1 a2) g tc te fr σ H1 Q:=by
 refine lc_gen (n:=n) Pv h0 (fun D r σ' H' p=>?_) fun D i r σ' H' hi p=>?_
 ·obtain⟨q1,q2⟩:=hq D _ r σ' H' p
  exact⟨⟨xs,ys,q1,q2,.inl (by omega)⟩,hstop D r σ' H' p⟩
 ·obtain⟨q1,q2⟩:=hq D _ r σ' H' p
  refine⟨⟨xs,ys,xs[i]'(by omega),ys[i]'(by omega),q1,q2,by simp,by simp⟩,?_⟩
  rintro v H2 ⟨T,x,y,hT,rfl,e1,e2,rfl⟩
  exact hgo D i x y r σ' H' T (e1 xs q1) (e2 ys q2) p hT
end
end L2
namespace Tw
open PySem L2
structure Mom where
 tick:Int
 held:List Int
 coming:List Int
 doors:List Bool
 poured:List Int
 came:Int
 ground:Int
noncomputable def momD (m:Mom):L2.D:=.tup [.int m.tick,stD m.held m.coming m.doors,.tup (m.poured.map L2.D.int),.int m.came,.int m.ground]
noncomputable def openSum:List Spt→List Bool→Int
 | s::ss,d::ds=>(if d=true then s.2.1 else 0)+openSum ss ds
 | _,_=>0
structure MomOk (net:Net) (m:Mom):Prop where
 st:StOk net m.held m.coming m.doors
 pl:m.poured.length=net.vs.length
noncomputable def Mom.tk (net:Net) (m:Mom):Tick:=cZ net m.held m.coming m.poured m.doors
noncomputable def Mom.step (net:Net) (m:Mom):Mom:=
 { tick:=m.tick+1,held:=(m.tk net).held,coming:=(m.tk net).coming,doors:=(m.tk net).doors,poured:=dU net.vs.length,came:=m.came+(m.poured.sum+openSum net.sps m.doors),ground:=m.ground+(m.tk net).ground }
noncomputable def Mom.pour (m:Mom) (v a:Int):Mom:={ m with poured:=m.poured.set v.toNat (m.poured.getD v.toNat 0+a) }
noncomputable def momN (net:Net) (m:Mom):Nat→Mom
 | 0=>m
 | i+1=>(momN net m i).step net
noncomputable def tipsAt (net:Net) (m:Mom):List (Int×Nat):=(m.tk net).tip.map fun k=>(m.tick,k)
noncomputable def tipN (net:Net) (m:Mom):Nat→List (Int×Nat)
 | 0=>[]
 | i+1=>tipN net m i++tipsAt net (momN net m i)
inductive Row where
 | pour (v a:Int)
 | go (many:Int) (tips:List (Int×Nat))
noncomputable def tipD (t:Int×Nat):L2.D:=.tup [.int t.1,.int (t.2:Int)]
noncomputable def rowD:Row→L2.D
 | .pour v a=>.tup [.str "pour",.int v,.int a]
 | .go n ts=>.tup [.str "go",.int n,.tup (ts.map tipD)]
structure RunS where
 net:Net
 rows:List Row
 pre:List Mom
 cur:Mom
 tips:List (List Int)
noncomputable def addTip (ts:List (List Int)) (t:Int×Nat):List (List Int):=ts.set t.2 (ts.getD t.2 []++[t.1])
noncomputable def RunS.pour (S:RunS) (v a:Int):RunS:={ S with rows:=S.rows++[.pour v a],pre:=S.pre++[S.cur],cur:=S.cur.pour v a }
noncomputable def RunS.go (S:RunS) (k:Nat):RunS:={ S with rows:=S.rows++[.go (k:Int) (tipN S.net S.cur k)],pre:=S.pre++[S.cur],cur:=momN S.net S.cur k,tips:=(tipN S.net S.cur k).foldl addTip S.tips }
noncomputable def mom0 (net:Net):Mom:=⟨0,dU net.vs.length,dU net.vs.length,net.sps.map (·.2.2),dU net.vs.length,0,0⟩
noncomputable def run0 (net:Net):RunS:=⟨net,[],[],mom0 net,List.replicate net.vs.length []⟩
structure RunOk (S:RunS):Prop where
 nok:NetOk S.net
 cur:MomOk S.net S.cur
 tl:S.tips.length=S.net.vs.length
structure RunSz (S:RunS) (B:Nat):Prop where
 rows:S.rows.length≤B
 pre:S.pre.length≤B
 tips:∀ l∈S.tips,l.length≤B
theorem zeros_len (n:Nat):(dU n).length=n:=by simp [dU]
theorem zeros_cons {n:Nat} (h:1≤n):(0:Int)::dU (n - 1)=dU n:=by
 obtain⟨k,rfl⟩:∃ k,n=k+1:=⟨n - 1,by omega⟩
 simp [dU,List.replicate_succ]
theorem mom0_ok (net:Net):MomOk net (mom0 net):=⟨⟨zeros_len _,zeros_len _,by simp [mom0]⟩,zeros_len _⟩
theorem Mom.hs_len {net:Net}{m:Mom} (h:MomOk net m):(bB net m.held m.coming m.poured m.doors).length=net.vs.length:=by
 unfold bB;rw[fillL_len,add3_len h.st.h h.st.c h.pl]
theorem MomOk.step {net:Net}{m:Mom} (h:MomOk net m):MomOk net (m.step net):=
 ⟨⟨staysL_len _ _ (Mom.hs_len h).symm,by show (laterL _ _).length=_;unfold laterL;simp,by show (cG _ _ _).length=_;rw[doorsL_len];exact h.st.d⟩,zeros_len _⟩
theorem MomOk.pour {net:Net}{m:Mom} (h:MomOk net m) (v a:Int):MomOk net (m.pour v a):=⟨h.st,by show (List.set _ _ _).length=_;rw[List.length_set];exact h.pl⟩
theorem momN_ok {net:Net}{m:Mom} (h:MomOk net m):∀ i,MomOk net (momN net m i)
 | 0=>h
 | i+1=>(momN_ok h i).step
theorem tk_lt {net:Net}{m:Mom}{k:Nat} (h:k∈(m.tk net).tip):k < net.vs.length:=by
 have:=tipsL_lt _ _ _ _ (show k∈cJ 0 net.vs _ from h)
 omega
theorem tk_len (net:Net) (m:Mom):(m.tk net).tip.length≤net.vs.length:=tipsL_len _ _ _
theorem tipN_lt {net:Net}{m:Mom}:∀ (i:Nat) (t:Int×Nat),t∈tipN net m i→t.2 < net.vs.length
 | 0,t,h=>by simp [tipN] at h
 | i+1,t,h=>by
  rcases List.mem_append.1 h with h | h
  ·exact tipN_lt i t h
  ·obtain⟨k,hk,rfl⟩:=List.mem_map.1 h
   exact tk_lt hk
theorem tipN_len {net:Net}{m:Mom} (nok:NetOk net):∀ (i:Nat),(tipN net m i).length≤12 * i
 | 0=>by simp [tipN]
 | i+1=>by
  have h1:=tipN_len (m:=m) nok i
  have h2:=tk_len net (momN net m i)
  have h3:=nok.hi
  show (tipN net m i++tipsAt net (momN net m i)).length≤_
  rw[List.length_append]
  unfold tipsAt
  rw[List.length_map]
  omega
theorem addTips_len:∀ (l:List (Int×Nat)) (ts:List (List Int)),(l.foldl addTip ts).length=ts.length
 | [],_=>rfl
 | t::l,ts=>by show (l.foldl addTip (addTip ts t)).length=_;rw[addTips_len l];unfold addTip;simp
theorem RunOk.pour {S:RunS} (h:RunOk S) (v a:Int):RunOk (S.pour v a):=⟨h.nok,h.cur.pour v a,h.tl⟩
theorem RunOk.go {S:RunS} (h:RunOk S) (k:Nat):RunOk (S.go k):=⟨h.nok,momN_ok h.cur k,by show (List.foldl addTip S.tips (tipN S.net S.cur k)).length=_;rw[addTips_len];exact h.tl⟩
theorem run0_ok {net:Net} (nok:NetOk net):RunOk (run0 net):=⟨nok,mom0_ok net,by simp [run0]⟩
noncomputable def flds (np:V) (R M T:Addr):List (Str×V):=[("net",np),("rows",.ref R),("moments",.ref M),("tip_ticks",.ref T)]
theorem lk_net {np:V}{R M T:Addr}:(flds np R M T).lookup ("net" : Str)=some np:=rfl
theorem lk_rows {np:V}{R M T:Addr}:(flds np R M T).lookup ("rows" : Str)=some (.ref R):=rfl
theorem lk_moments {np:V}{R M T:Addr}:(flds np R M T).lookup ("moments" : Str)=some (.ref M):=rfl
theorem lk_tips {np:V}{R M T:Addr}:(flds np R M T).lookup ("tip_ticks" : Str)=some (.ref T):=rfl
structure RunC (K:PySem.W.Frag) (C:Addr) (H:Hp) (r:Addr) (S:RunS) (dx:Addr) (np:V) (R M T:Addr) (ts:List Addr) (rs ms:List V) (mv:V):Prop where
 ins:H r=some (.ins C dx (flds np R M T))
 net:Is K H (netD S.net) np
 hR:H R=some (.lst rs)
 lR:IsL K H (S.rows.map rowD) rs
 hM:H M=some (.lst (ms++[mv]))
 lM:IsL K H (S.pre.map momD) ms
 cM:Is K H (momD S.cur) mv
 hT:H T=some (.lst (ts.map V.ref))
 tl:ts.length=S.tips.length
 ti:∀ (i:Nat) (t:Addr) (l:List Int),ts[i]? = some t→S.tips[i]? = some l→H t=some (.lst (l.map V.int))
 nd:(R::M::T::ts).Nodup
 ok:RunOk S
noncomputable def bU (K:PySem.W.Frag) (C:Addr) (H:Hp) (r:Addr) (S:RunS) (fp:List Addr):Prop:=∃ dx np R M T ts rs ms mv,RunC K C H r S dx np R M T ts rs ms mv∧fp=R::M::T::ts
structure RunTx (K:PySem.W.Frag) (C:Addr):Prop where
 cls:Cls K C
 net:NoAttr K C "net"
 rows:NoAttr K C "rows"
 moments:NoAttr K C "moments"
 tips:NoAttr K C "tip_ticks"
section
variable {K:PySem.W.Frag}{C r dx R M T:Addr}{H H':Hp}{S:RunS}{fp:List Addr}{np mv:V}{ts:List Addr}{rs ms:List V}
theorem RunC.lists (c:RunC K C H r S dx np R M T ts rs ms mv):∀ b∈R::M::T::ts,∃ xs,H b=some (.lst xs):=by
 intro b hb
 rcases List.mem_cons.1 hb with rfl | hb
 ·exact⟨_,c.hR⟩
 rcases List.mem_cons.1 hb with rfl | hb
 ·exact⟨_,c.hM⟩
 rcases List.mem_cons.1 hb with rfl | hb
 ·exact⟨_,c.hT⟩
 obtain⟨i,hi,rfl⟩:=List.mem_iff_getElem.1 hb
 have hl:i < S.tips.length:=by rw[← c.tl];exact hi
 exact⟨_,c.ti i ts[i] S.tips[i] (by simp) (by simp)⟩
theorem bU.lists (c:bU K C H r S fp):∀ b∈fp,∃ xs,H b=some (.lst xs):=by
 obtain⟨dx,np,R,M,T,ts,rs,ms,mv,c,rfl⟩:=c
 exact c.lists
theorem bU.mut (c:bU K C H r S fp):∀ b∈fp,Mut (H b):=fun b hb=>by
 obtain⟨xs,e⟩:=c.lists b hb
 rw[e];exact trivial
theorem bU.notfp (c:bU K C H r S fp) {b:Addr} (h:H b=none):b∉fp:=fun hb=>by
 obtain⟨xs,e⟩:=c.lists b hb
 rw[e] at h;cases h
theorem bU.ok (c:bU K C H r S fp):RunOk S:=by
 obtain⟨dx,np,R,M,T,ts,rs,ms,mv,c,_⟩:=c
 exact c.ok
theorem RunC.r_notin (c:RunC K C H r S dx np R M T ts rs ms mv):r∉R::M::T::ts:=fun hb=>by
 obtain⟨xs,e⟩:=c.lists r hb
 rw[c.ins] at e;cases e
theorem RunC.keep (c:RunC K C H r S dx np R M T ts rs ms mv) (t:bL K H H') (k:∀ b∈r::R::M::T::ts,H' b=H b):RunC K C H' r S dx np R M T ts rs ms mv where
 ins:=by rw[k r (by simp)];exact c.ins
 net:=Is.mono t _ _ c.net
 hR:=by rw[k R (by simp)];exact c.hR
 lR:=IsL.mono t _ _ c.lR
 hM:=by rw[k M (by simp)];exact c.hM
 lM:=IsL.mono t _ _ c.lM
 cM:=Is.mono t _ _ c.cM
 hT:=by rw[k T (by simp)];exact c.hT
 tl:=c.tl
 ti:=fun i t l h1 h2=>by rw[k t (by have:=List.mem_of_getElem? h1;simp [this])];exact c.ti i t l h1 h2
 nd:=c.nd
 ok:=c.ok
theorem bU.same (c:bU K C H r S fp) (s:aK H H'):bU K C H' r S fp:=by
 obtain⟨dx,np,R,M,T,ts,rs,ms,mv,c,rfl⟩:=c
 refine⟨dx,np,R,M,T,ts,rs,ms,mv,c.keep s.ts fun b hb=>?_,rfl⟩
 rcases List.mem_cons.1 hb with rfl | hb
 ·rw[s _ _ c.ins,c.ins]
 ·obtain⟨xs,e⟩:=c.lists b hb
  rw[s _ _ e,e]
theorem bU.but {t:Addr} (c:bU K C H r S fp) (s:cB t H H') (hm:Mut (H t)) (h1:t≠r) (h2:t∉fp):bU K C H' r S fp:=by
 obtain⟨dx,np,R,M,T,ts,rs,ms,mv,c,rfl⟩:=c
 refine⟨dx,np,R,M,T,ts,rs,ms,mv,c.keep (s.ts hm) fun b hb=>?_,rfl⟩
 rcases List.mem_cons.1 hb with rfl | hb
 ·rw[s _ _ (Ne.symm h1) c.ins,c.ins]
 ·obtain⟨xs,e⟩:=c.lists b hb
  rw[s _ _ (fun z=>h2 (by rw[← z];exact hb)) e,e]
theorem mom_un {m:Mom}{v:V} (h:Is K H (momD m) v):∃ (a po:Addr) (st:V),v=.ref a∧bH K H a [.int m.tick,st,.ref po,.int m.came,.int m.ground]∧Is K H (stD m.held m.coming m.doors) st∧bH K H po (m.poured.map V.int):=by
 obtain⟨a,zs,rfl,q,l⟩:=(show Is K H (.tup [.int m.tick,stD m.held m.coming m.doors,.tup (m.poured.map L2.D.int),.int m.came,.int m.ground]) v from h).un
 obtain⟨x1,r,rfl,h1,l⟩:=l.un
 obtain⟨x2,r,rfl,h2,l⟩:=l.un
 obtain⟨x3,r,rfl,h3,l⟩:=l.un
 obtain⟨x4,r,rfl,h4,l⟩:=l.un
 obtain⟨x5,r,rfl,h5,l⟩:=l.un
 have:=l.un0
 subst this
 have:=h1.ui
 subst this
 have:=h4.ui
 subst this
 have:=h5.ui
 subst this
 obtain⟨po,xs,rfl,q1,l1⟩:=h3.un
 have:=l1.ints
 subst this
 exact⟨a,po,x2,rfl,q,h2,q1⟩
theorem mom_of {m:Mom}{a po:Addr}{st:V} (q:bH K H a [.int m.tick,st,.ref po,.int m.came,.int m.ground]) (hs:Is K H (stD m.held m.coming m.doors) st) (hp:bH K H po (m.poured.map V.int)):Is K H (momD m) (.ref a):=
 Is.tupOf q (.cons (Is.i _) (.cons hs (.cons (Is.tupOf hp (IsL.of_ints _)) (.cons (Is.i _) (.cons (Is.i _) .nil)))))
end
section
variable {P:Program}{w:World}{K:PySem.W.Frag}{mg:Str→Option Value}{base:Heap}{C:Addr}
noncomputable def spNeed (K:PySem.W.Frag):Sp:=fun vs H Q _=>∃ (x:V) (net:Net) (v:Int),vs=[x,.int v]∧Is K H (netD net) x∧0≤v∧v < net.vs.length∧Q .non H
theorem eG:FnScope ["net","number","vessels","spouts"] ["net","number"] (aJ (aU 21)):=⟨rfl,rfl,rfl,by decide +kernel,rfl,by decide +kernel,by decide +kernel⟩
theorem ok_need_vessel {f f1:Addr}{fd fd1:FuncData} (F:Fun K "need_vessel" "need_vessel" (aU 21) f fd) (T:Txt mg) (G_is_whole:Callee P w K mg base "is_whole" ["thing","least","most"] 1 spWhole f1 fd1):FnOk P w K mg base CX0 2 f fd ["net","number"] (spNeed K):=by
 refine F.ok eG (fun vs H Q E h=>?_) (fun cdv A outer s H vs Q E hr h=>?_)
 ·obtain⟨x,net,v,rfl,_⟩:=h;rfl
 ·obtain⟨x,net,v,rfl,hx,h0,h1,k⟩:=h
  have sc:=eG
  refine⟨_,(aG (bK (pv 0) (aR (K:=K) (n:=2) rfl rfl (aE (aF (i:=2) sc.nd rfl (Or.inl rfl)) (aE (aF (i:=3) sc.nd rfl (Or.inl rfl)) aQ))))
   (aL (dD (eB (d6 (cU G_is_whole hr (aA (pv 1) (aA aI (aA (bA op_sub (aX (bZ (K:=K) rfl) rfl T.b_len PySem.boot_len (aA (pv 2) aD)) aI) aD)))))) (aL ps_dead) bO))),?_⟩
  obtain⟨a,b,c,xs,ys,rfl,q,q1,l1,q2,l2⟩:=net_un hx
  have exl:xs.length=net.vs.length:=by rw[l1.length,List.length_map]
  refine⟨_,rfl,a,_,rfl,q,rfl,_,_,rfl,_,_,rfl,rfl,?_⟩
  exact⟨_,rfl,_,rfl,b,xs,rfl,.inr q1,_,_,rfl,rfl,v,0,_,rfl,h0,by omega,_,rfl,iteF k⟩
noncomputable def spPouring (K:PySem.W.Frag):Sp:=fun vs H Q _=>∃ (x:V) (net:Net) (v:Int),vs=[x,.int v]∧Is K H (netD net) x∧NetOk net∧∀ p H',aK H H'→bH K H' p ((v::dU (net.vs.length - 1)).map V.int)→Q (.ref p) H'
theorem sc_pouring:FnScope ["net","amount","vessels","spouts"] ["net","amount"] (aJ (aU 34)):=⟨rfl,rfl,rfl,by decide +kernel,rfl,by decide +kernel,by decide +kernel⟩
theorem ok_pouring {f:Addr}{fd:FuncData} (F:Fun K "pouring" "pouring" (aU 34) f fd) (T:Txt mg):FnOk P w K mg base CX0 1 f fd ["net","amount"] (spPouring K):=by
 refine F.ok sc_pouring (fun vs H Q E h=>?_) (fun cdv A outer s H vs Q E hr h=>?_)
 ·obtain⟨x,net,v,rfl,_⟩:=h;rfl
 ·obtain⟨x,net,v,rfl,hx,nok,k⟩:=h
  have sc:=sc_pouring
  refine⟨_,(aG (bK (pv 0) (aR (K:=K) (n:=2) rfl rfl (aE (aF (i:=2) sc.nd rfl (Or.inl rfl)) (aE (aF (i:=3) sc.nd rfl (Or.inl rfl)) aQ))))
   (aL (b9 (bA (op_catTK (K:=K) rfl) (bT (aA (pv 1) aD)) (bA (op_repZK (K:=K) rfl) (bT (aA aI aD)) (bA op_sub (aX (bZ (K:=K) rfl) rfl T.b_len PySem.boot_len (aA (pv 2) aD)) aI)))))),?_⟩
  obtain⟨a,b,c,xs,ys,rfl,q,q1,l1,q2,l2⟩:=net_un hx
  have exl:xs.length=net.vs.length:=by rw[l1.length,List.length_map]
  have n1:=nok.lo
  have n2:=nok.hi
  refine⟨_,rfl,a,_,rfl,q,rfl,_,_,rfl,_,_,rfl,rfl,?_⟩
  refine⟨_,rfl,(show 1≤sizeLine by decide),fun y hy=>⟨(show 1≤sizeLine by decide),fun z hz=>?_⟩⟩
  have m1:=aK.new (o:=HO.tup [.int v]) hy
  have m2:=aK.new (o:=HO.tup [.int 0]) hz
  refine⟨_,rfl,b,xs,rfl,.inr (m2.tup (m1.tup q1)),_,_,rfl,rfl,z,_,[.int 0],rfl,rfl,bH.of aB,by omega,by omega,by simp,by simp,fun e H1 sm1 qe=>?_⟩
  have en:(((xs.length:Nat):Int) - 1).toNat=net.vs.length - 1:=by rw[exl];omega
  rw[en,rep0] at qe
  refine⟨y,e,[.int v],_,rfl,rfl,sm1.tup (m2.tup (bH.of aB)),qe,by simp,aT (by simp;omega) |> Nat.le_of_lt,fun he=>?_,fun _ p hp=>?_⟩
  ·refine k _ _ ((m1.trans m2).trans sm1) ?_
   have e0:dU (net.vs.length - 1)=[]:=List.map_eq_nil_iff.mp he
   rw[e0]
   exact sm1.tup (m2.tup (bH.of aB))
  ·exact k _ _ (((m1.trans m2).trans sm1).trans (aK.new hp)) (bH.of aB)
noncomputable def spCameIn (K:PySem.W.Frag):Sp:=fun vs H Q _=>∃ (x y:V) (z:Addr) (net:Net) (held coming poured:List Int) (doors:List Bool),vs=[x,y,.ref z]∧Is K H (netD net) x∧Is K H (stD held coming doors) y∧bH K H z (poured.map V.int)∧
 NetOk net∧StOk net held coming doors∧∀ H',aK H H'→Q (.int (poured.sum+openSum net.sps doors)) H'
theorem openSum_snoc:∀ (ss:List Spt) (ds:List Bool) (i:Nat) (s:Spt) (d:Bool),ss[i]? = some s→ds[i]? = some d→openSum (ss.take (i+1)) (ds.take (i+1))=openSum (ss.take i) (ds.take i)+(if d=true then s.2.1 else 0)
 | [],_,i,_,_,h,_=>by simp at h
 | _::_,[],i,_,_,_,h=>by simp at h
 | a::ss,b::ds,0,s,d,h1,h2=>by simp at h1 h2;subst h1 h2;simp [openSum]
 | a::ss,b::ds,i+1,s,d,h1,h2=>by
  simp only [List.take_succ_cons,openSum]
  rw[openSum_snoc ss ds i s d (by simpa using h1) (by simpa using h2)]
  omega
theorem sc_came_in:FnScope ["net","state","poured","vessels","spouts","held","coming","doors"] ["net","state","poured"] (aJ (aU 36)):=⟨rfl,rfl,rfl,by decide +kernel,rfl,by decide +kernel,by decide +kernel⟩
theorem ok_came_in {f:Addr}{fd:FuncData} (F:Fun K "came_in" "came_in" (aU 36) f fd) (T:Txt mg):FnOk P w K mg base CX0 1 f fd ["net","state","poured"] (spCameIn K):=by
 refine F.ok sc_came_in (fun vs H Q E h=>?_) (fun cdv A outer s H vs Q E hr h=>?_)
 ·obtain⟨x,y,z,net,held,coming,poured,doors,rfl,_⟩:=h;rfl
 ·obtain⟨x,y,z,net,held,coming,poured,doors,rfl,hx,hy,qz,nok,sok,k⟩:=h
  have sc:=sc_came_in
  refine⟨_,(aG (bK (pv 0) (aR (K:=K) (n:=2) rfl rfl (aE (aF (i:=3) sc.nd rfl (Or.inl rfl)) (aE (aF (i:=4) sc.nd rfl (Or.inl rfl)) aQ))))
   (aG (bK (pv 1) (aR (K:=K) (n:=3) rfl rfl (aE (aF (i:=5) sc.nd rfl (Or.inl rfl)) (aE (aF (i:=6) sc.nd rfl (Or.inl rfl)) (aE (aF (i:=7) sc.nd rfl (Or.inl rfl)) aQ)))))
   (aL (b9 (bA d9 (aX (call_sumK (K:=K) rfl rfl) rfl T.b_sum PyProof.Rows.boot_sum (aA (pv 2) aD)) (aX (call_sumK (K:=K) rfl rfl) rfl T.b_sum PyProof.Rows.boot_sum (aA (pe_lc (fun _ _ h=>h) rfl (LcOk.mk (N':=["target","flow","first_door","door"]) (fr:=[none,none,none,none]) rfl trivial rfl rfl rfl rfl rfl trivial) (pi_zip2K (K:=K) rfl rfl T.b_zip (aA (pv 4) (aA (pv 7) aD))) (fun _ _ _=>(aR (K:=K) (n:=2) rfl rfl (aE (aR (K:=K) (n:=3) rfl rfl (aE (aF (i:=0) (show (["target","flow","first_door","door"]:List Str).Nodup by decide +kernel) rfl (Or.inl rfl) (Or.inr rfl)) (aE (aF (i:=1) (show (["target","flow","first_door","door"]:List Str).Nodup by decide +kernel) rfl (Or.inl rfl) (Or.inr rfl)) (aE (aF (i:=2) (show (["target","flow","first_door","door"]:List Str).Nodup by decide +kernel) rfl (Or.inl rfl) (Or.inr rfl)) aQ)))) (aE (aF (i:=3) (show (["target","flow","first_door","door"]:List Str).Nodup by decide +kernel) rfl (Or.inl rfl) (Or.inr rfl)) aQ)))) (fun _ _ _=>pif_one (d6 (pv 3))) (fun _ _ _=>(pv 1))) aD))))))),?_⟩
  obtain⟨a,b,c,xs,ys,rfl,q,q1,l1,q2,l2⟩:=net_un hx
  obtain⟨ay,b1,b2,b3,rfl,qy,qb1,qb2,qb3⟩:=st_un hy
  have eyl:ys.length=net.sps.length:=by rw[l2.length,List.length_map]
  have n3:=nok.sp
  refine⟨_,rfl,a,_,rfl,q,rfl,_,_,rfl,_,_,rfl,rfl,?_⟩
  refine⟨_,rfl,ay,_,rfl,qy,rfl,_,_,rfl,_,_,rfl,_,_,rfl,rfl,?_⟩
  refine⟨_,rfl,true,z,_,rfl,qz,?_⟩
  refine⟨_,rfl,_,rfl,true,true,c,b3,rfl,⟨_,q2⟩,⟨_,qb3⟩,lc_zip2 (K:=K) (t1:=true) (t2:=true) (xs:=ys) (ys:=doors.map V.bl) (n:=net.sps.length) eyl (by rw[List.length_map];exact sok.d)
   (fun D i r σ' H'=>H D=none∧aK H H'∧H' D=some (.lst r)∧(∃ ns:List Int,r=ns.map V.int∧ns.sum=openSum (net.sps.take i) (doors.take i)∧ns.length≤i)∧∃ u1 u2 u3 u4,σ'=[u1,u2,u3,u4])
   (fun D i r σ' H' p=>⟨p.2.1.tup q2,p.2.1.tup qb3⟩) (fun D hD=>⟨hD,aK.new hD,aB,⟨[],rfl,by simp [openSum],by simp⟩,none,none,none,none,rfl⟩) ?_ ?_⟩
  rotate_left
  ·rintro D i x y r σ' H2 Tt hx hy ⟨hD,sm,hDl,⟨ns,rfl,hns,hnl⟩,u1,u2,u3,u4,rfl⟩ hT
   obtain⟨sp,hsi,sa,rfl,qs⟩:=sps_at l2 hx
   have hil:=(List.getElem?_eq_some_iff.mp hsi).1
   obtain⟨d,hdi,rfl⟩:∃ d,doors[i]? = some d∧y=V.bl d:=by
    rw[List.getElem?_map] at hy
    cases hd:doors[i]? with
    | none=>rw[hd] at hy;cases hy
    | some d=>rw[hd] at hy;cases hy;exact⟨d,rfl,rfl⟩
   have mT:=aK.new (o:=HO.tup [.ref sa,.bl d]) hT
   have hs:=openSum_snoc net.sps doors i sp d hsi hdi
   refine⟨Tt,_,rfl,bH.of aB,rfl,_,_,rfl,sa,_,rfl,mT.tup (sm.tup qs),rfl,_,_,rfl,_,_,rfl,_,_,rfl,rfl,_,_,rfl,rfl,?_⟩
   refine⟨_,rfl,_,rfl,?_⟩
   have smT:=sm.trans mT
   cases d with
   | false=>
    refine iteF ⟨hD,smT,mT _ _ hDl,⟨ns,rfl,by rw[hs,hns];simp,by omega⟩,_,_,_,_,rfl⟩
   | true=>
    refine iteT ⟨_,rfl,mT _ _ hDl,aT (by simp;omega),hD,smT.put hD,aB,⟨ns++[sp.2.1],by rw[List.map_append];rfl,by rw[hs,List.sum_append,hns];simp,by simp;omega⟩,_,_,_,_,rfl⟩
  ·rintro D r σ' H2 ⟨hD,sm,hDl,⟨ns,rfl,hns,hnl⟩,_⟩
   refine⟨false,D,_,rfl,cE.of hDl,_,_,rfl,rfl,?_⟩
   rw[hns,List.take_of_length_le (Nat.le_refl _),List.take_of_length_le (Nat.le_of_eq sok.d)]
   exact k _ sm
noncomputable def spMoment (K:PySem.W.Frag):Sp:=fun vs H Q _=>∃ (x y:V) (net:Net) (m:Mom),vs=[x,y]∧Is K H (netD net) x∧Is K H (momD m) y∧NetOk net∧MomOk net m∧
 ∀ p p1 p2 H',aK H H'→bH K H' p [p1,.ref p2]→Is K H' (momD (m.step net)) p1→bH K H' p2 ((m.tk net).tip.map fun (k:Nat)=>V.int (k:Int))→Q (.ref p) H'
theorem sc_moment_behind:FnScope ["net","moment","tick","state","poured","came","grounded","behind","tipped","lost"] ["net","moment"] (aJ (aU 46)):=⟨rfl,rfl,rfl,by decide +kernel,rfl,by decide +kernel,by decide +kernel⟩
theorem ok_moment_behind {f f1 f2 f3:Addr}{fd fd1 fd2 fd3:FuncData} (F:Fun K "moment_behind" "moment_behind" (aU 46) f fd) (T:Txt mg) (G_tick_behind:Callee P w K mg base "tick_behind" ["net","state","poured"] 4 (spTick K) f1 fd1)
  (G_came_in:Callee P w K mg base "came_in" ["net","state","poured"] 1 (spCameIn K) f2 fd2) (G_pouring:Callee P w K mg base "pouring" ["net","amount"] 1 (spPouring K) f3 fd3):FnOk P w K mg base CX0 5 f fd ["net","moment"] (spMoment K):=by
 refine F.ok sc_moment_behind (fun vs H Q E h=>?_) (fun cdv A outer s H vs Q E hr h=>?_)
 ·obtain⟨x,y,net,m,rfl,_⟩:=h;rfl
 ·obtain⟨x,y,net,m,rfl,hx,hy,nok,mok,k⟩:=h
  have sc:=sc_moment_behind
  refine⟨_,(aG (bK (pv 1) (aR (K:=K) (n:=5) rfl rfl (aE (aF (i:=2) sc.nd rfl (Or.inl rfl)) (aE (aF (i:=3) sc.nd rfl (Or.inl rfl)) (aE (aF (i:=4) sc.nd rfl (Or.inl rfl)) (aE (aF (i:=5) sc.nd rfl (Or.inl rfl)) (aE (aF (i:=6) sc.nd rfl (Or.inl rfl)) aQ)))))))
   (aG (bK (cU G_tick_behind hr (aA (pv 0) (aA (pv 3) (aA (pv 4) aD)))) (aR (K:=K) (n:=3) rfl rfl (aE (aF (i:=7) sc.nd rfl (Or.inl rfl)) (aE (aF (i:=8) sc.nd rfl (Or.inl rfl)) (aE (aF (i:=9) sc.nd rfl (Or.inl rfl)) aQ)))))
   (aG (ps_aug (i:=5) sc.nd rfl (Or.inl rfl) (cU G_came_in hr (aA (pv 0) (aA (pv 3) (aA (pv 4) aD)))) ip_add)
   (aL (b9 (bT (aA (bT (aA (bA d9 (pv 2) aI) (aA (pv 7) (aA (cU G_pouring hr (aA (pv 0) (aA aI aD))) (aA (pv 5) (aA (bA d9 (pv 6) (pv 9)) aD)))))) (aA (pv 8) aD)))))))),?_⟩
  obtain⟨a,po,st,rfl,q,hs,hp⟩:=mom_un hy
  refine⟨_,rfl,a,_,rfl,q,rfl,_,_,rfl,_,_,rfl,_,_,rfl,_,_,rfl,_,_,rfl,rfl,?_⟩
  refine⟨_,rfl,_,rfl,_,rfl,x,st,po,net,m.held,m.coming,m.poured,m.doors,rfl,hx,hs,hp,nok,mok.st,mok.pl,fun f fxs H1 sm1 _ if1=>?_⟩
  obtain⟨fa,gxs,ef,qf,lf⟩:=(show Is K H1 (.tup [stD (m.tk net).held (m.tk net).coming (m.tk net).doors,.tup ((m.tk net).tip.map fun (i:Nat)=>L2.D.int (i:Int)),.int (m.tk net).ground]) (.ref f) from if1).un
  cases ef
  obtain⟨y1,r,rfl,j1,lf⟩:=lf.un
  obtain⟨y2,r,rfl,j2,lf⟩:=lf.un
  obtain⟨y3,r,rfl,j3,lf⟩:=lf.un
  have:=lf.un0
  subst this
  have:=j3.ui
  subst this
  obtain⟨p2,ts,rfl,qt,lt⟩:=j2.un
  have et:ts=(m.tk net).tip.map fun (k:Nat)=>V.int (k:Int):=by
   have e1:((m.tk net).tip.map fun (i:Nat)=>L2.D.int (i:Int))=((m.tk net).tip.map fun (i:Nat)=>(i:Int)).map L2.D.int:=by rw[List.map_map];rfl
   rw[e1] at lt
   rw[lt.ints,List.map_map];rfl
  subst et
  refine⟨f,_,rfl,qf,rfl,_,_,rfl,_,_,rfl,_,_,rfl,rfl,?_⟩
  refine⟨_,rfl,_,rfl,_,rfl,_,rfl,x,st,po,net,m.held,m.coming,m.poured,m.doors,rfl,Is.mono sm1.ts _ _ hx,Is.mono sm1.ts _ _ hs,sm1.tup hp,nok,mok.st,fun H2 sm2=>⟨_,_,rfl,rfl,?_⟩⟩
  have s2:aK H H2:=sm1.trans sm2
  refine⟨_,rfl,_,_,rfl,rfl,_,rfl,_,rfl,x,net,0,rfl,Is.mono s2.ts _ _ hx,nok,fun z H3 sm3 qz=>?_⟩
  rw[zeros_cons nok.lo] at qz
  refine⟨_,rfl,_,rfl,_,rfl,_,_,rfl,rfl,(show 5≤sizeLine by decide),fun p1 hp1=>?_⟩
  have m1:aK H3 _:=aK.new (o:=HO.tup [.int (m.tick+1),y1,.ref z,.int (m.came+(m.poured.sum+openSum net.sps m.doors)),.int (m.ground+(m.tk net).ground)]) hp1
  refine⟨_,rfl,(show 2≤sizeLine by decide),fun p hpp=>?_⟩
  have m2:aK _ _:=aK.new (o:=HO.tup [.ref p1,.ref p2]) hpp
  refine k p (.ref p1) p2 _ (((s2.trans sm3).trans m1).trans m2) (bH.of aB) (mom_of (m:=m.step net) (m2.tup (bH.of aB)) ?_ ?_) ?_
  ·exact Is.mono m2.ts _ _ (Is.mono m1.ts _ _ (Is.mono sm3.ts _ _ (Is.mono sm2.ts _ _ j1)))
  ·exact m2.tup (m1.tup qz)
  ·exact m2.tup (m1.tup (sm3.tup (sm2.tup qt)))
end
end Tw
namespace Tw
open PySem L2
section
variable {K:PySem.W.Frag}
theorem IsL.app {H:Hp}:∀ {ds es:List L2.D}{xs ys:List V},L2.IsL K H ds xs→L2.IsL K H es ys→L2.IsL K H (ds++es) (xs++ys)
 | [],_,_,_,h1,h2=>by have:=h1.un0;subst this;exact h2
 | d::ds,_,_,_,h1,h2=>by
  obtain⟨x,r,rfl,h,h1⟩:=h1.un
  exact .cons h (IsL.app h1 h2)
theorem small1M {n:Nat} (h:n≤10000000):n < sizeLine:=by rw[sizeLine_eq];omega
end
section
variable {P:Program}{w:World}{K:PySem.W.Frag}{mg:Str→Option Value}{base:Heap}{C:Addr}
noncomputable def spFirstMom (K:PySem.W.Frag):Sp:=fun vs H Q _=>∃ (x:V) (net:Net),vs=[x]∧Is K H (netD net) x∧NetOk net∧∀ p H',aK H H'→Is K H' (momD (mom0 net)) (.ref p)→Q (.ref p) H'
theorem sc_first_moment:FnScope ["net"] ["net"] (aJ (aU 43)):=⟨rfl,rfl,rfl,by decide +kernel,rfl,by decide +kernel,by decide +kernel⟩
theorem ok_first_moment {f f1 f2:Addr}{fd fd1 fd2:FuncData} (F:Fun K "first_moment" "first_moment" (aU 43) f fd) (T:Txt mg)
  (G_first_state:Callee P w K mg base "first_state" ["net"] 1 (spFirst K) f1 fd1) (G_pouring:Callee P w K mg base "pouring" ["net","amount"] 1 (spPouring K) f2 fd2):FnOk P w K mg base CX0 2 f fd ["net"] (spFirstMom K):=by
 refine F.ok sc_first_moment (fun vs H Q E h=>?_) (fun cdv A outer s H vs Q E hr h=>?_)
 ·obtain⟨x,net,rfl,_⟩:=h;rfl
 ·obtain⟨x,net,rfl,hx,nok,k⟩:=h
  have sc:=sc_first_moment
  refine⟨_,(aL (b9 (bT (aA aI (aA (cU G_first_state hr (aA (pv 0) aD)) (aA (cU G_pouring hr (aA (pv 0) (aA aI aD))) (aA aI (aA aI aD)))))))),?_⟩
  refine⟨_,rfl,x,net,rfl,hx,nok,fun st H4 sm4 hst=>⟨_,rfl,x,net,0,rfl,Is.mono sm4.ts _ _ hx,nok,fun z H5 sm5 qz=>⟨(show 5≤sizeLine by decide),fun p hp=>?_⟩⟩⟩
  rw[zeros_cons nok.lo] at qz
  have sp:aK H5 (upd H5 p (.tup [.int 0,st,.ref z,.int 0,.int 0])):=aK.new hp
  exact k p _ ((sm4.trans sm5).trans sp) (mom_of (m:=mom0 net) (bH.of aB) (Is.mono sp.ts _ _ (Is.mono sm5.ts _ _ hst)) (sp.tup qz))
noncomputable def spMomPour (K:PySem.W.Frag):Sp:=fun vs H Q _=>∃ (x:V) (n:Nat) (m:Mom) (v a:Int),vs=[x,.int v,.int a]∧Is K H (momD m) x∧m.poured.length=n∧n≤12∧0≤v∧v < n∧
 ∀ p H',aK H H'→Is K H' (momD (m.pour v a)) (.ref p)→Q (.ref p) H'
theorem sc_moment_poured:FnScope ["moment","vessel","amount","tick","state","poured","came","grounded","more"] ["moment","vessel","amount"] (aJ (aU 44)):=⟨rfl,rfl,rfl,by decide +kernel,rfl,by decide +kernel,by decide +kernel⟩
theorem ok_moment_poured {f:Addr}{fd:FuncData} (F:Fun K "moment_poured" "moment_poured" (aU 44) f fd) (T:Txt mg):FnOk P w K mg base CX0 1 f fd ["moment","vessel","amount"] (spMomPour K):=by
 refine F.ok sc_moment_poured (fun vs H Q E h=>?_) (fun cdv A outer s H vs Q E hr h=>?_)
 ·obtain⟨x,n,m,v,a,rfl,_⟩:=h;rfl
 ·obtain⟨x,n,m,v,a,rfl,hx,pl,hnh,v0,v1,k⟩:=h
  have sc:=sc_moment_poured
  refine⟨_,(aG (bK (pv 0) (aR (K:=K) (n:=5) rfl rfl (aE (aF (i:=3) sc.nd rfl (Or.inl rfl)) (aE (aF (i:=4) sc.nd rfl (Or.inl rfl)) (aE (aF (i:=5) sc.nd rfl (Or.inl rfl)) (aE (aF (i:=6) sc.nd rfl (Or.inl rfl)) (aE (aF (i:=7) sc.nd rfl (Or.inl rfl)) aQ)))))))
   (aG (bD (i:=8) sc.nd rfl (Or.inl rfl) (aZ (call_lstK (K:=K) rfl) rfl T.b_list bt_list (aA (pv 5) aD)))
   (aG (ps_augS (pv 8) (pv 1) (get_listK (K:=K) rfl) (pv 2) ip_add set_list)
   (aL (b9 (bT (aA (pv 3) (aA (pv 4) (aA (aZ (bV (K:=K) rfl) rfl T.b_tuple bY (aA (pv 8) aD)) (aA (pv 6) (aA (pv 7) aD))))))))))),?_⟩
  obtain⟨ma,po,st,rfl,q,hs,hp⟩:=mom_un hx
  refine⟨_,rfl,ma,_,rfl,q,rfl,_,_,rfl,_,_,rfl,_,_,rfl,_,_,rfl,_,_,rfl,rfl,?_⟩
  refine⟨_,rfl,po,_,rfl,.inr hp,fun l hl=>?_⟩
  have hlt:v.toNat < m.poured.length:=by omega
  have hg:m.poured[v.toNat]? = some (m.poured.getD v.toNat 0):=by rw[List.getD_eq_getElem?_getD,List.getElem?_eq_getElem hlt];rfl
  refine⟨_,rfl,_,rfl,l,_,v,_,rfl,rfl,cE.of aB,v0,by omega,(by rw[List.getElem?_map,hg];rfl),_,rfl,_,_,rfl,rfl,l,_,v,v.toNat,rfl,rfl,aB,ixN_nat v0 (by rw[List.length_map];omega),?_⟩
  have e2:upd (upd H l (.lst (m.poured.map V.int))) l (.lst ((m.poured.map V.int).set v.toNat (.int (m.poured.getD v.toNat 0+a))))=upd H l (.lst ((m.pour v a).poured.map V.int)):=by
   rw[upd_upd]
   show _=upd H l (.lst ((m.poured.set v.toNat (m.poured.getD v.toNat 0+a)).map V.int))
   rw[List.map_set]
  rw[e2]
  have s1:aK H (upd H l (.lst ((m.pour v a).poured.map V.int))):=aK.new hl
  have hl1:upd H l (.lst ((m.pour v a).poured.map V.int)) l=some (.lst ((m.pour v a).poured.map V.int)):=aB
  generalize upd H l (.lst ((m.pour v a).poured.map V.int))=H1 at s1 hl1
  refine⟨_,rfl,_,rfl,_,rfl,l,_,rfl,.inl ⟨cE.of hl1,fun p hp'=>⟨_,rfl,_,rfl,(show 5≤sizeLine by decide),fun p2 hp2=>?_⟩⟩⟩
  have m2:aK H1 (upd H1 p (.tup ((m.pour v a).poured.map V.int))):=aK.new hp'
  have m3:aK (upd H1 p (.tup ((m.pour v a).poured.map V.int))) (upd (upd H1 p (.tup ((m.pour v a).poured.map V.int))) p2 (.tup [.int m.tick,st,.ref p,.int m.came,.int m.ground])):=aK.new hp2
  exact k p2 _ ((s1.trans m2).trans m3) (mom_of (m:=m.pour v a) (bH.of aB) (Is.mono m3.ts _ _ (Is.mono m2.ts _ _ (Is.mono s1.ts _ _ hs))) (m3.tup (bH.of aB)))
noncomputable def spMomGo (K:PySem.W.Frag):Sp:=fun vs H Q _=>∃ (x y:V) (net:Net) (m:Mom) (n:Nat),vs=[x,y,.int (n:Int)]∧Is K H (netD net) x∧Is K H (momD m) y∧NetOk net∧MomOk net m∧n≤100000∧
 ∀ p p1 p2 tvs H',aK H H'→bH K H' p [p1,.ref p2]→Is K H' (momD (momN net m n)) p1→bH K H' p2 tvs→IsL K H' ((tipN net m n).map tipD) tvs→Q (.ref p) H'
theorem sc_moment_gone:FnScope ["net","moment","many","tipped","step","tick","numbers"] ["net","moment","many"] (aJ (aU 45)):=⟨rfl,rfl,rfl,by decide +kernel,rfl,by decide +kernel,by decide +kernel⟩
theorem ok_moment_gone {f f1:Addr}{fd fd1:FuncData} (F:Fun K "moment_gone" "moment_gone" (aU 45) f fd) (T:Txt mg) (G_moment_behind:Callee P w K mg base "moment_behind" ["net","moment"] 5 (spMoment K) f1 fd1) :
  FnOk P w K mg base CX0 6 f fd ["net","moment","many"] (spMomGo K):=by
 refine F.ok sc_moment_gone (fun vs H Q E h=>?_) (fun cdv A outer s H vs Q E hr h=>?_)
 ·obtain⟨x,y,net,m,n,rfl,_⟩:=h;rfl
 ·obtain⟨x,y,net,m,n,rfl,hx,hy,nok,mok,hn,k⟩:=h
  have sc:=sc_moment_gone
  refine⟨_,(aG (bD (i:=3) sc.nd rfl (Or.inl rfl) (bX aD))
   (aG (dR PassesOwn.never rfl (eC rfl T.b_range (aA (pv 2) aD)) (aF (i:=4) sc.nd rfl (Or.inl rfl)) (aG (bD (i:=5) sc.nd rfl (Or.inr rfl) (bI (aS (K:=K) rfl) (pv 1) aI (fun _ _=>rfl)))
   (aG (bK (cU G_moment_behind hr (aA (pv 0) (aA (pv 1) aD))) (aR (K:=K) (n:=2) rfl rfl (aE (aF (i:=1) sc.nd rfl (Or.inl rfl)) (aE (aF (i:=6) sc.nd rfl (Or.inl rfl)) aQ))))
   (aL (cA (pe_bmK (K:=K) rfl PySem.F.plainAttrs_list PySem.F.slot_list_extend PySem.F.type_list_extend mt_extend (pv 3) (aA (pe_lc (fun _ _ h=>h) rfl (LcOk.mk (N':=["number","tick"]) (fr:=[none,some 5]) rfl ⟨rfl,trivial⟩ rfl rfl rfl rfl rfl ⟨⟨_,rfl,rfl,rfl,rfl⟩,trivial⟩) (dH (K:=K) rfl (pv 6)) (fun _ _ _=>(aF (i:=0) (show (["number","tick"]:List Str).Nodup by decide +kernel) rfl (Or.inl rfl) (Or.inr rfl))) (fun _ _ _=>d8) (fun _ _ _=>(bT (aA (pv 1) (aA (pv 0) aD))))) aD)))))))
   (aL (b9 (bT (aA (pv 1) (aA (aZ (bV (K:=K) rfl) rfl T.b_tuple bY (aA (pv 3) aD)) aD))))))),?_⟩
  refine⟨Nat.zero_le _,fun tl htl=>?_⟩
  have s0:aK H (upd H tl (.lst [])):=aK.new htl
  have g0:upd H tl (.lst []) tl=some (.lst []):=aB
  generalize upd H tl (.lst [])=H0 at s0 g0
  dsimp only [tSeq]
  refine for_by (fun σ' H'=>aK H H'∧(∃ tvs,H' tl=some (.lst tvs)∧IsL K H' ((tipN net m n).map tipD) tvs)∧∃ mi,Is K H' (momD (momN net m n)) mi∧
   ∃ v4 v5 v6,σ'=[some x,some mi,some (.int (n:Int)),some (.ref tl),v4,v5,v6]) (fun D' hD=>?_) ?_
  rotate_left
  ·rintro σ' H1 ⟨s1,⟨tvs,ht1,lt1⟩,mi,cm1,v4,v5,v6,rfl⟩
   refine⟨_,rfl,_,rfl,tl,_,rfl,.inl ⟨cE.of ht1,fun p2 hp2=>⟨(show 2≤sizeLine by decide),fun p hp=>?_⟩⟩⟩
   have m2:aK H1 (upd H1 p2 (.tup tvs)):=aK.new hp2
   have m3:aK (upd H1 p2 (.tup tvs)) (upd (upd H1 p2 (.tup tvs)) p (.tup [mi,.ref p2])):=aK.new hp
   exact k p mi p2 tvs _ ((s1.trans m2).trans m3) (bH.of aB) (Is.mono (m2.trans m3).ts _ _ cm1) (m3.tup (bH.of aB)) (L2.IsL.mono (m2.trans m3).ts _ _ lt1)
  refine⟨_,rfl,_,rfl,by omega,by omega,?_⟩
  refine for_range (lo:=0) (n:=n) (fun i σ' H'=>aK H H'∧(∃ tvs,H' tl=some (.lst tvs)∧IsL K H' ((tipN net m i).map tipD) tvs)∧∃ mi,Is K H' (momD (momN net m i)) mi∧
   ∃ v4 v5 v6,σ'=[some x,some mi,some (.int (n:Int)),some (.ref tl),v4,v5,v6]) ?_ ?_ ?_
  ·exact⟨s0,⟨[],g0,.nil⟩,y,Is.mono s0.ts _ _ hy,_,_,_,rfl⟩
  ·rintro i σ' H1 hi ⟨s1,⟨tvs,ht1,lt1⟩,mi,cm1,v4,v5,v6,rfl⟩
   obtain⟨ma,po,st,rfl,q,hs,hp⟩:=mom_un cm1
   refine⟨_,rfl,.inr (.inl ⟨ma,_,0,_,rfl,rfl,q,rfl,?_⟩)⟩
   refine⟨_,rfl,_,rfl,x,.ref ma,net,momN net m i,rfl,Is.mono s1.ts _ _ hx,cm1,nok,momN_ok mok i,fun p p1 p2 H2 sm2 qp i1 q2=>?_⟩
   refine⟨p,_,rfl,qp,rfl,_,_,rfl,_,_,rfl,rfl,?_⟩
   have ht2:=sm2 _ _ ht1
   have ltk:=tk_len net (momN net m i)
   have hn12:=nok.hi
   refine⟨_,rfl,.inl ⟨rfl,_,cE.of ht2⟩,?_⟩
   refine⟨_,rfl,p2,rfl,⟨_,q2⟩,lc_tup (K:=K) (a:=p2) (xs:=((momN net m i).tk net).tip.map fun (k:Nat)=>V.int (k:Int))
    (fun D j rr σ' H'=>H2 D=none∧aK H2 H'∧H' D=some (.lst rr)∧IsL K H' (((((momN net m i).tk net).tip.take j).map fun k=>((momN net m i).tick,k)).map tipD) rr∧∃ u,σ'=[u,some (.int (momN net m i).tick)])
    (fun D j rr σ' H' p=>p.2.1.tup q2) (fun D hD=>⟨hD,aK.new hD,aB,.nil,none,rfl⟩) ?_ ?_⟩
   rotate_left
   ·rintro D j x' rr σ' H3 hx ⟨hD,sm3,hDl,lr,u,rfl⟩
    rw[List.getElem?_map] at hx
    obtain⟨kk,hk,rfl⟩:=Option.map_eq_some_iff.mp hx
    have hjl:=(List.getElem?_eq_some_iff.mp hk).1
    have hrl:rr.length≤12:=by rw[lr.length];simp;omega
    refine dW ?_
    refine⟨_,rfl,_,rfl,(show 2≤sizeLine by decide),fun e he=>?_⟩
    have me:=aK.new (o:=HO.tup [.int (momN net m i).tick,.int (kk:Int)]) he
    have nDe:D≠e:=aN hDl he
    have muD:Mut (upd H3 e (.tup [.int (momN net m i).tick,.int (kk:Int)]) D):=by rw[me _ _ hDl];exact trivial
    refine⟨me _ _ hDl,aT (by omega),hD,(sm3.trans me).put hD,aB,?_,_,rfl⟩
    rw[cF hk,List.map_append,List.map_append]
    exact L2.IsL.snoc (Is.tupOf (ds:=[.int (momN net m i).tick,.int (kk:Int)]) (cB.ts (K:=K) cB.upd muD _ _ (bH.of aB)) (.cons (Is.i _) (.cons (Is.i _) .nil))) (L2.IsL.mono (me.ts.trans (cB.ts cB.upd muD)) _ _ lr)
   ·rintro D rr σ' H3 ⟨hD,sm3,hDl,lr,_⟩
    rw[List.length_map,List.take_length] at lr
    have ht3:=sm3 _ _ ht2
    have l1:tvs.length≤12 * i:=by rw[lt1.length,List.length_map];exact tipN_len nok i
    have l2:rr.length≤12:=by rw[lr.length];simp;omega
    refine⟨tl,D,_,_,rfl,rfl,ht3,hDl,Nat.le_of_lt (small1M (by omega)),?_⟩
    have mu3:Mut (H3 tl):=by rw[ht3];exact trivial
    have ts3:bL K H3 (upd H3 tl (.lst (tvs++rr))):=cB.ts cB.upd mu3
    have s13:=sm2.trans sm3
    refine⟨(s1.trans s13).put htl,⟨_,aB,?_⟩,p1,Is.mono ts3 _ _ (Is.mono sm3.ts _ _ i1),_,_,_,rfl⟩
    show IsL K _ ((tipN net m i++tipsAt net (momN net m i)).map tipD) _
    rw[List.map_append]
    exact IsL.app (L2.IsL.mono (s13.ts.trans ts3) _ _ lt1) (L2.IsL.mono ts3 _ _ lr)
  ·exact fun σ' H' p=>hD _ _ p
end
end Tw
namespace Tw
open PySem L2
section
variable {K:PySem.W.Frag}
theorem addTips_sz {B:Nat}:∀ (l:List (Int×Nat)) (ts:List (List Int)),(∀ x∈ts,x.length≤B)→∀ x∈l.foldl addTip ts,x.length≤B+l.length
 | [],ts,h,x,hx=>by have:=h x hx;simp;omega
 | t::l,ts,h,x,hx=>by
  have h2:∀ y∈addTip ts t,y.length≤B+1:=fun y hy=>by
   unfold addTip at hy
   rcases List.mem_or_eq_of_mem_set hy with hy | rfl
   ·have:=h y hy;omega
   ·rw[List.length_append,List.length_singleton]
    have:(ts.getD t.2 []).length≤B:=by
     rw[List.getD_eq_getElem?_getD]
     cases e:ts[t.2]? with
     | none=>simp
     | some z=>exact h z (List.mem_of_getElem? e)
    omega
  have:=addTips_sz (B:=B+1) l (addTip ts t) h2 x hx
  rw[List.length_cons]
  omega
theorem RunSz.pour {S:RunS}{B:Nat} (h:RunSz S B) (v a:Int):RunSz (S.pour v a) (B+1):=
 ⟨by have:=h.rows;show (S.rows++_).length≤_;rw[List.length_append,List.length_singleton];omega,by have:=h.pre;show (S.pre++_).length≤_;rw[List.length_append,List.length_singleton];omega,fun l hl=>by have:=h.tips l hl;omega⟩
theorem RunSz.go {S:RunS}{B:Nat} (h:RunSz S B) (nok:NetOk S.net) (k:Nat):RunSz (S.go k) (B+12 * k+1):=
 ⟨by have:=h.rows;show (S.rows++_).length≤_;rw[List.length_append,List.length_singleton];omega,by have:=h.pre;show (S.pre++_).length≤_;rw[List.length_append,List.length_singleton];omega,fun l hl=>by
  have h1:=addTips_sz (B:=B) _ _ h.tips l hl
  have h2:=tipN_len (m:=S.cur) nok k
  omega⟩
theorem run0_sz (net:Net):RunSz (run0 net) 0:=⟨Nat.le_refl _,Nat.le_refl _,fun l hl=>by
 have:=List.eq_of_mem_replicate (show l∈List.replicate net.vs.length [] from hl);subst this;exact Nat.le_refl _⟩
end
section
variable {P:Program}{w:World}{K:PySem.W.Frag}{mg:Str→Option Value}{base:Heap}{C:Addr}
noncomputable def spInit (K:PySem.W.Frag) (C:Addr):Sp:=fun vs H Q _=>∃ (r dx:Addr) (x:V) (net:Net),vs=[.ref r,x]∧H r=some (.ins C dx [])∧Is K H (netD net) x∧NetOk net∧NetFull net∧
 ∀ fp H',(∀ b∈fp,H b=none)→cB r H H'→bU K C H' r (run0 net) fp→Q .non H'
theorem sc_init:FnScope ["self","net"] ["self","net"] (aJ (bQ (aU 48) 0)):=⟨rfl,rfl,rfl,by decide +kernel,rfl,by decide +kernel,by decide +kernel⟩
theorem ok_init {f f1 f2:Addr}{fd fd1 fd2:FuncData} (F:Fun K "__init__" "Run.__init__" (bQ (aU 48) 0) f fd) (T:Txt mg) (tx:RunTx K C)
  (G_is_net:Callee P w K mg base "is_net" ["thing"] 4 (spIsNet K) f1 fd1) (G_first_moment:Callee P w K mg base "first_moment" ["net"] 2 (spFirstMom K) f2 fd2) :
  FnOk P w K mg base CX0 5 f fd ["self","net"] (spInit K C):=by
 refine F.ok sc_init (fun vs H Q E h=>?_) (fun cdv A outer s H vs Q E hr h=>?_)
 ·obtain⟨r,dx,x,net,rfl,_⟩:=h;rfl
 ·obtain⟨r,dx,x,net,rfl,hi,hx,nok,nfu,k⟩:=h
  have sc:=sc_init
  refine⟨_,(aG (dD (eB (d6 (cU G_is_net hr (aA (pv 1) aD)))) (aL ps_dead) bO)
   (aG (ps_fldK (K:=K) rfl (pv 0) (pv 1) rfl)
   (aG (ps_fldK (K:=K) rfl (pv 0) (bX aD) rfl)
   (aG (ps_fldK (K:=K) rfl (pv 0) (bX (aA (cU G_first_moment hr (aA (pv 1) aD)) aD)) rfl)
   (aL (ps_fldK (K:=K) rfl (pv 0) (pe_lc (fun _ _ h=>h) rfl (LcOk.mk (N':=["vessel"]) (fr:=[none]) rfl trivial rfl rfl rfl rfl rfl trivial) (dH (K:=K) rfl (bI (aS (K:=K) rfl) (pv 1) aI (fun _ _=>rfl))) (fun _ _ _=>(aF (i:=0) (show (["vessel"]:List Str).Nodup by decide +kernel) rfl (Or.inl rfl) (Or.inr rfl))) (fun _ _ _=>d8) (fun _ _ _=>(bX aD))) rfl)))))),?_⟩
  refine⟨_,rfl,x,net,rfl,hx,nok,nfu,fun H1 sm1=>⟨_,rfl,iteF ?_⟩⟩
  refine⟨_,rfl,_,rfl,r,C,dx,[],rfl,sm1 _ _ hi,tx.cls,tx.net,by decide,?_⟩
  have mu1:Mut (H1 r):=by rw[sm1 _ _ hi];exact trivial
  have i2:upd H1 r (.ins C dx (bS "net" x [])) r=some (.ins C dx (bS "net" x [])):=aB
  have b2:cB r H (upd H1 r (.ins C dx (bS "net" x []))):=sm1.but.trans cB.upd
  have hx2:Is K (upd H1 r (.ins C dx (bS "net" x []))) (netD net) x:=Is.mono (cB.ts cB.upd mu1) _ _ (Is.mono sm1.ts _ _ hx)
  generalize upd H1 r (.ins C dx (bS "net" x []))=H2 at i2 b2 hx2
  refine⟨Nat.zero_le _,fun R hR=>⟨_,rfl,r,C,dx,_,rfl,aK.new hR _ _ i2,tx.cls,tx.rows,(show 1 < 1000 by decide),?_⟩⟩
  have nRr:R≠r:=fun z=>by rw[z,i2] at hR;cases hR
  have fR:H R=none:=b2.free nRr hR
  have mu2:Mut (upd H2 R (.lst []) r):=by rw[aK.new hR _ _ i2];exact trivial
  have i3:upd (upd H2 R (.lst [])) r (.ins C dx (bS "rows" (.ref R) (bS "net" x []))) r=some (.ins C dx (bS "rows" (.ref R) (bS "net" x []))):=aB
  have b3:cB r H (upd (upd H2 R (.lst [])) r (.ins C dx (bS "rows" (.ref R) (bS "net" x [])))):=(b2.trans (aK.new hR).but).trans cB.upd
  have hx3:Is K (upd (upd H2 R (.lst [])) r (.ins C dx (bS "rows" (.ref R) (bS "net" x [])))) (netD net) x:=Is.mono (cB.ts cB.upd mu2) _ _ (Is.mono (aK.new hR).ts _ _ hx2)
  have hR3:upd (upd H2 R (.lst [])) r (.ins C dx (bS "rows" (.ref R) (bS "net" x []))) R=some (.lst []):=by rw[aM nRr];exact aB
  generalize upd (upd H2 R (.lst [])) r (.ins C dx (bS "rows" (.ref R) (bS "net" x [])))=H3 at i3 b3 hx3 hR3
  refine⟨_,rfl,x,net,rfl,hx3,nok,fun p H6 s36 cm=>⟨(show 1≤sizeLine by decide),fun M hM=>⟨_,rfl,r,C,dx,bS "rows" (.ref R) (bS "net" x []),rfl,aK.new hM _ _ (s36 _ _ i3),tx.cls,tx.moments,(show 2 < 1000 by decide),?_⟩⟩⟩
  have i6:=s36 _ _ i3
  have nMr:M≠r:=fun z=>by rw[z,i6] at hM;cases hM
  have nMR:M≠R:=fun z=>by rw[z,s36 _ _ hR3] at hM;cases hM
  have fM:H M=none:=(b3.trans s36.but).free nMr hM
  have mu6:Mut (upd H6 M (.lst [.ref p]) r):=by rw[aK.new hM _ _ i6];exact trivial
  have ts7:bL K H6 (upd (upd H6 M (.lst [.ref p])) r (.ins C dx (bS "moments" (.ref M) (bS "rows" (.ref R) (bS "net" x []))))):=(aK.new hM).ts.trans (cB.ts cB.upd mu6)
  have i7:upd (upd H6 M (.lst [.ref p])) r (.ins C dx (bS "moments" (.ref M) (bS "rows" (.ref R) (bS "net" x [])))) r=some (.ins C dx (bS "moments" (.ref M) (bS "rows" (.ref R) (bS "net" x [])))):=aB
  have b7:cB r H (upd (upd H6 M (.lst [.ref p])) r (.ins C dx (bS "moments" (.ref M) (bS "rows" (.ref R) (bS "net" x []))))):=((b3.trans s36.but).trans (aK.new hM).but).trans cB.upd
  have hM7:upd (upd H6 M (.lst [.ref p])) r (.ins C dx (bS "moments" (.ref M) (bS "rows" (.ref R) (bS "net" x [])))) M=some (.lst [.ref p]):=by rw[aM nMr];exact aB
  have hR7:upd (upd H6 M (.lst [.ref p])) r (.ins C dx (bS "moments" (.ref M) (bS "rows" (.ref R) (bS "net" x [])))) R=some (.lst []):=by rw[aM nRr];exact aK.new hM _ _ (s36 _ _ hR3)
  have hx7:=Is.mono ts7 _ _ (Is.mono s36.ts _ _ hx3)
  have cm7:=Is.mono ts7 _ _ cm
  generalize upd (upd H6 M (.lst [.ref p])) r (.ins C dx (bS "moments" (.ref M) (bS "rows" (.ref R) (bS "net" x []))))=H7 at i7 b7 hM7 hR7 hx7 cm7
  obtain⟨a,b,c,xs,ys,rfl,q,q1,l1,q2,l2⟩:=net_un hx7
  have exl:xs.length=net.vs.length:=by rw[l1.length,List.length_map]
  have n2:=nok.hi
  refine⟨_,rfl,.inr (.inl ⟨a,_,0,_,rfl,rfl,q,rfl,b,rfl,⟨_,q1⟩,lc_tup (K:=K) (a:=b) (xs:=xs) (fun D i rr σ' H'=>H7 D=none∧aK H7 H'∧H' D=some (.lst rr)∧(∃ ts:List Addr,rr=ts.map V.ref∧ts.length=i∧(D::ts).Nodup∧∀ t∈ts,H7 t=none∧H' t=some (.lst []))∧∃ u,σ'=[u])
   (fun D i rr σ' H' p=>p.2.1.tup q1) (fun D hD=>⟨hD,aK.new hD,aB,⟨[],rfl,rfl,by simp,fun t ht=>(nomatch ht)⟩,none,rfl⟩) ?_ ?_⟩)⟩
  rotate_left
  ·rintro D i v rr σ' H8 hv ⟨hD,sm,hDl,⟨ts,rfl,hts,hnd,hall⟩,u,rfl⟩
   have hil:=(List.getElem?_eq_some_iff.mp hv).1
   refine dW ?_
   refine⟨Nat.zero_le _,fun t ht=>⟨aK.new ht _ _ hDl,aT (by simp;omega),hD,(sm.trans (aK.new ht)).put hD,aB,⟨ts++[t],by rw[List.map_append];rfl,by simp [hts],?_,?_⟩,_,rfl⟩⟩
   ·have nDt:D≠t:=fun z=>by rw[← z,hDl] at ht;cases ht
    have nts:t∉ts:=fun z=>by rw[(hall t z).2] at ht;cases ht
    rw[List.nodup_cons] at hnd ⊢
    refine⟨fun z=>?_,?_⟩
    ·rcases List.mem_append.1 z with z | z
     ·exact hnd.1 z
     ·exact nDt (by simpa using z)
    ·rw[List.nodup_append]
     exact⟨hnd.2,by simp,fun a ha b hb=>by rw[List.mem_singleton] at hb;subst hb;exact fun z=>nts (z ▸ ha)⟩
   ·intro t' ht'
    have nDt:t≠D:=fun z=>by rw[z,hDl] at ht;cases ht
    rcases List.mem_append.1 ht' with z | z
    ·have h1:=hall t' z
     have ne1:t'≠D:=fun z2=>by rw[List.nodup_cons] at hnd;exact hnd.1 (z2 ▸ z)
     exact⟨h1.1,by rw[aM ne1];exact aK.new ht _ _ h1.2⟩
    ·have:t'=t:=by simpa using z
     subst this
     exact⟨sm.free ht,by rw[aM nDt];exact aB⟩
  ·rintro D rr σ' H8 ⟨hD,sm,hDl,⟨ts,rfl,hts,hnd,hall⟩,_⟩
   refine⟨_,rfl,r,C,dx,_,rfl,sm _ _ i7,tx.cls,tx.tips,(show 3 < 1000 by decide),?_⟩
   have nDr:D≠r:=fun z=>by rw[z,i7] at hD;cases hD
   have nDR:D≠R:=fun z=>by rw[z,hR7] at hD;cases hD
   have nDM:D≠M:=fun z=>by rw[z,hM7] at hD;cases hD
   have ntr:∀ t∈ts,t≠r:=fun t ht z=>by have:=(hall t ht).1;rw[z,i7] at this;cases this
   have ntR:∀ t∈ts,t≠R:=fun t ht z=>by have:=(hall t ht).1;rw[z,hR7] at this;cases this
   have ntM:∀ t∈ts,t≠M:=fun t ht z=>by have:=(hall t ht).1;rw[z,hM7] at this;cases this
   have mu8:Mut (H8 r):=by rw[sm _ _ i7];exact trivial
   have ts8:bL K H7 (upd H8 r (.ins C dx (bS "tip_ticks" (.ref D) (bS "moments" (.ref M) (bS "rows" (.ref R) (bS "net" (.ref a) [])))))):=sm.ts.trans (cB.ts cB.upd mu8)
   refine k (R::M::D::ts) _ (fun y hy=>?_) ((b7.trans sm.but).trans cB.upd) ⟨dx,.ref a,R,M,D,ts,[],[],.ref p,?_,rfl⟩
   ·rcases List.mem_cons.1 hy with rfl | hy
    ·exact fR
    rcases List.mem_cons.1 hy with rfl | hy
    ·exact fM
    rcases List.mem_cons.1 hy with rfl | hy
    ·exact b7.free nDr hD
    exact b7.free (ntr y hy) (hall y hy).1
   ·exact {
     ins:=aB
     net:=Is.mono ts8 _ _ hx7
     hR:=by rw[aM nRr];exact sm _ _ hR7
     lR:=.nil
     hM:=by rw[aM nMr];exact sm _ _ hM7
     lM:=.nil
     cM:=Is.mono ts8 _ _ cm7
     hT:=by rw[aM nDr];exact hDl
     tl:=by rw[hts,exl];simp [run0]
     ti:=fun i t l h1 h2=>by
      have hm:=List.mem_of_getElem? h1
      have hl:=List.mem_of_getElem? h2
      have:=List.eq_of_mem_replicate (show l∈List.replicate net.vs.length [] from hl)
      subst this
      rw[aM (ntr t hm)];exact (hall t hm).2
     nd:=by
      rw[List.nodup_cons]
      refine⟨fun z=>?_,?_⟩
      ·rcases List.mem_cons.1 z with z | z
       ·exact nMR z.symm
       rcases List.mem_cons.1 z with z | z
       ·exact nDR z.symm
       exact ntR R z rfl
      rw[List.nodup_cons]
      refine⟨fun z=>?_,hnd⟩
      rcases List.mem_cons.1 z with z | z
      ·exact nDM z.symm
      exact ntM M z rfl
     ok:=run0_ok nok }
noncomputable def spPour (K:PySem.W.Frag) (C:Addr):Sp:=fun vs H Q _=>∃ (r:Addr) (S:RunS) (fp:List Addr) (v a:Int) (B:Nat),vs=[.ref r,.int v,.int a]∧bU K C H r S fp∧RunSz S B∧B≤1000000∧0≤v∧v < S.net.vs.length∧
 ∀ H',ButL fp H H'→bU K C H' r (S.pour v a) fp→Q .non H'
theorem sc_pour:FnScope ["self","vessel","amount"] ["self","vessel","amount"] (aJ (bQ (aU 48) 1)):=⟨rfl,rfl,rfl,by decide +kernel,rfl,by decide +kernel,by decide +kernel⟩
theorem ok_pour {f f1 f2:Addr}{fd fd1 fd2:FuncData} (F:Fun K "pour" "Run.pour" (bQ (aU 48) 1) f fd) (T:Txt mg) (tx:RunTx K C) (G_need_vessel:Callee P w K mg base "need_vessel" ["net","number"] 2 (spNeed K) f1 fd1)
  (G_moment_poured:Callee P w K mg base "moment_poured" ["moment","vessel","amount"] 1 (spMomPour K) f2 fd2):FnOk P w K mg base CX0 3 f fd ["self","vessel","amount"] (spPour K C):=by
 refine F.ok sc_pour (fun vs H Q E h=>?_) (fun cdv A outer s H vs Q E hr h=>?_)
 ·obtain⟨r,S,fp,v,a,B,rfl,_⟩:=h;rfl
 ·obtain⟨r,S,fp,v,a,B,rfl,⟨dx,np,R,M,T',ts,rs,ms,mv,c,rfl⟩,sz,hB,v0,v1,k⟩:=h
  have sc:=sc_pour
  refine⟨_,(aG (cA (cU G_need_vessel hr (aA (eJ (K:=K) rfl (pv 0) rfl) (aA (pv 1) aD))))
   (aG (cA (pe_bmK (K:=K) rfl PySem.F.plainAttrs_list PySem.F.slot_list_append PySem.F.type_list_append cI (eJ (K:=K) rfl (pv 0) rfl) (aA (cU G_moment_poured hr (aA (bI (aS (K:=K) rfl) (eJ (K:=K) rfl (pv 0) rfl) (pe_un un_neg aI) (fun _ _=>rfl)) (aA (pv 1) (aA (pv 2) aD)))) aD)))
   (aL (cA (pe_bmK (K:=K) rfl PySem.F.plainAttrs_list PySem.F.slot_list_append PySem.F.type_list_append cI (eJ (K:=K) rfl (pv 0) rfl) (aA (bT (aA pe_str (aA (pv 1) (aA (pv 2) aD)))) aD)))))),?_⟩
  obtain⟨ma,po,st,rfl,q,hs,hp⟩:=mom_un c.cM
  have pl:=c.ok.cur.pl
  have nd:=c.nd
  have nRM:R≠M:=fun z=>by rw[List.nodup_cons] at nd;exact nd.1 (by rw[z];simp)
  have hnh:=c.ok.nok.hi
  have lrs:rs.length≤B:=by rw[c.lR.length,List.length_map];exact sz.rows
  have lms:ms.length≤B:=by rw[c.lM.length,List.length_map];exact sz.pre
  refine⟨_,rfl,r,C,dx,_,_,rfl,c.ins,tx.cls,tx.net,lk_net,_,rfl,np,S.net,v,rfl,c.net,v0,v1,?_⟩
  refine⟨_,rfl,r,C,dx,_,_,rfl,c.ins,tx.cls,tx.moments,lk_moments,.inl ⟨rfl,_,cE.of c.hM⟩,?_⟩
  refine⟨_,rfl,r,C,dx,_,_,rfl,c.ins,tx.cls,tx.moments,lk_moments,1,rfl,.inl ⟨M,_,-1,_,rfl,rfl,cE.of c.hM,atI_last _ _,_,rfl,_,rfl,.ref ma,S.net.vs.length,S.cur,v,a,rfl,c.cM,pl,hnh,v0,v1,fun p2 H2 s2 cm2=>?_⟩⟩
  refine⟨M,_,_,rfl,rfl,s2 _ _ c.hM,small1M (by simp;omega),?_⟩
  have muM:Mut (H2 M):=by rw[s2 _ _ c.hM];exact trivial
  have ts3:bL K H2 (upd H2 M (.lst (ms++[V.ref ma]++[.ref p2]))):=cB.ts cB.upd muM
  have ne_rM:r≠M:=fun z=>c.r_notin (by rw[z];simp)
  have ne_rR:r≠R:=fun z=>c.r_notin (by rw[z];simp)
  refine⟨_,rfl,r,C,dx,_,_,rfl,by rw[aM ne_rM];exact s2 _ _ c.ins,tx.cls,tx.rows,lk_rows,.inl ⟨rfl,_,cE.of (by rw[aM nRM];exact s2 _ _ c.hR)⟩,?_⟩
  refine⟨_,rfl,_,rfl,(show 3≤sizeLine by decide),fun p3 hp3=>?_⟩
  have m4:aK (upd H2 M (.lst (ms++[V.ref ma]++[.ref p2]))) (upd (upd H2 M (.lst (ms++[V.ref ma]++[.ref p2]))) p3 (.tup [.str "pour",.int v,.int a])):=aK.new hp3
  have hR4:upd (upd H2 M (.lst (ms++[V.ref ma]++[.ref p2]))) p3 (.tup [.str "pour",.int v,.int a]) R=some (.lst rs):=m4 _ _ (by rw[aM nRM];exact s2 _ _ c.hR)
  refine⟨R,_,_,rfl,rfl,hR4,small1M (by omega),?_⟩
  have muR:Mut (upd (upd H2 M (.lst (ms++[V.ref ma]++[.ref p2]))) p3 (.tup [.str "pour",.int v,.int a]) R):=by rw[hR4];exact trivial
  have ts5:bL K (upd (upd H2 M (.lst (ms++[V.ref ma]++[.ref p2]))) p3 (.tup [.str "pour",.int v,.int a])) (upd (upd (upd H2 M (.lst (ms++[V.ref ma]++[.ref p2]))) p3 (.tup [.str "pour",.int v,.int a])) R (.lst (rs++[.ref p3]))):=cB.ts cB.upd muR
  have tsH:bL K H (upd (upd (upd H2 M (.lst (ms++[V.ref ma]++[.ref p2]))) p3 (.tup [.str "pour",.int v,.int a])) R (.lst (rs++[.ref p3]))):=((s2.ts.trans ts3).trans m4.ts).trans ts5
  have keep:∀ (b:Addr) (o:HO),b≠M→b≠R→H b=some o→upd (upd (upd H2 M (.lst (ms++[V.ref ma]++[.ref p2]))) p3 (.tup [.str "pour",.int v,.int a])) R (.lst (rs++[.ref p3])) b=some o:=fun b o h1 h2 e=>by
   rw[aM h2];exact m4 _ _ (by rw[aM h1];exact s2 _ _ e)
  refine k _ (fun b o hb e=>keep b o (fun z=>hb (by rw[z];simp)) (fun z=>hb (by rw[z];simp)) e) ⟨dx,np,R,M,T',ts,rs++[.ref p3],ms++[.ref ma],.ref p2,?_,rfl⟩
  rw[List.nodup_cons] at nd
  have nd2:=nd.2
  rw[List.nodup_cons] at nd2
  exact {
   ins:=keep _ _ ne_rM ne_rR c.ins
   net:=Is.mono tsH _ _ c.net
   hR:=aB
   lR:=by
    show IsL K _ ((S.rows++[Row.pour v a]).map rowD) _
    rw[List.map_append]
    exact L2.IsL.snoc (Is.tupOf (ds:=[.str "pour",.int v,.int a]) (ts5 _ _ (bH.of aB)) (.cons (Is.s _) (.cons (Is.i _) (.cons (Is.i _) .nil)))) (L2.IsL.mono tsH _ _ c.lR)
   hM:=by rw[aM (Ne.symm nRM)];exact m4 _ _ aB
   lM:=by
    show IsL K _ ((S.pre++[S.cur]).map momD) _
    rw[List.map_append]
    exact L2.IsL.snoc (Is.mono tsH _ _ c.cM) (L2.IsL.mono tsH _ _ c.lM)
   cM:=Is.mono ((ts3.trans m4.ts).trans ts5) _ _ cm2
   hT:=keep _ _ (fun z=>nd2.1 (by rw[← z];simp)) (fun z=>nd.1 (by rw[← z];simp)) c.hT
   tl:=c.tl
   ti:=fun i t l h1 h2=>by
    have hm:=List.mem_of_getElem? h1
    exact keep _ _ (fun z=>nd2.1 (by rw[← z];simp [hm])) (fun z=>nd.1 (by rw[← z];simp [hm])) (c.ti i t l h1 h2)
   nd:=c.nd
   ok:=c.ok.pour v a }
end
end Tw
namespace Tw
open PySem L2
section
variable {K:PySem.W.Frag}{C r dx R M T:Addr}{H H':Hp}{S:RunS}{fp:List Addr}{np mv:V}{ts:List Addr}{rs ms:List V}
theorem nodup_at {α:Type}{xs:List α} (h:xs.Nodup) {i j:Nat}{x:α} (h1:xs[i]? = some x) (h2:xs[j]? = some x):i=j:=by
 obtain⟨a1,b1⟩:=List.getElem?_eq_some_iff.mp h1
 obtain⟨a2,b2⟩:=List.getElem?_eq_some_iff.mp h2
 exact (List.getElem_inj h (h₀:=a1) (h₁:=a2)).1 (b1.trans b2.symm)
theorem RunC.addTip (c:RunC K C H r S dx np R M T ts rs ms mv) {p:Int×Nat}{t:Addr}{l:List Int} (h1:ts[p.2]? = some t) (h2:S.tips[p.2]? = some l) :
  RunC K C (upd H t (.lst ((l++[p.1]).map V.int))) r { S with tips:=addTip S.tips p } dx np R M T ts rs ms mv:=by
 have hm:=List.mem_of_getElem? h1
 have ht:=c.ti _ _ _ h1 h2
 have mu:Mut (H t):=by rw[ht];exact trivial
 have tst:bL K H (upd H t (.lst ((l++[p.1]).map V.int))):=cB.ts cB.upd mu
 have nd:=c.nd
 rw[List.nodup_cons] at nd
 have nd2:=nd.2
 rw[List.nodup_cons] at nd2
 have nd3:=nd2.2
 rw[List.nodup_cons] at nd3
 have nR:R≠t:=fun z=>nd.1 (by rw[z];simp [hm])
 have nM:M≠t:=fun z=>nd2.1 (by rw[z];simp [hm])
 have nT:T≠t:=fun z=>nd3.1 (by rw[z];exact hm)
 have nr:r≠t:=fun z=>c.r_notin (by rw[z];simp [hm])
 have hlt:p.2 < S.tips.length:=(List.getElem?_eq_some_iff.mp h2).1
 have hgd:S.tips.getD p.2 []=l:=by rw[List.getD_eq_getElem?_getD,h2];rfl
 exact {
  ins:=by rw[aM nr];exact c.ins
  net:=Is.mono tst _ _ c.net
  hR:=by rw[aM nR];exact c.hR
  lR:=IsL.mono tst _ _ c.lR
  hM:=by rw[aM nM];exact c.hM
  lM:=IsL.mono tst _ _ c.lM
  cM:=Is.mono tst _ _ c.cM
  hT:=by rw[aM nT];exact c.hT
  tl:=by show _=(List.set S.tips p.2 _).length;rw[List.length_set];exact c.tl
  ti:=fun i t' l' e1 e2=>by
   by_cases hi:i=p.2
   ·subst hi
    rw[h1] at e1
    cases e1
    have e3:(S.tips.set p.2 (S.tips.getD p.2 []++[p.1]))[p.2]? = some l':=e2
    rw[hgd,List.getElem?_set_self hlt] at e3
    cases e3
    exact aB
   ·have e3:(S.tips.set p.2 (S.tips.getD p.2 []++[p.1]))[i]? = some l':=e2
    rw[List.getElem?_set_ne (Ne.symm hi)] at e3
    have ne:t'≠t:=fun z=>hi (nodup_at nd3.2 (by rw[← z];exact e1) h1)
    rw[aM ne]
    exact c.ti i t' l' e1 e3
  nd:=c.nd
  ok:=⟨c.ok.nok,c.ok.cur,by show (List.set S.tips p.2 _).length=_;rw[List.length_set];exact c.ok.tl⟩ }
end
section
variable {P:Program}{w:World}{K:PySem.W.Frag}{mg:Str→Option Value}{base:Heap}{C:Addr}
noncomputable def spGo (K:PySem.W.Frag) (C:Addr):Sp:=fun vs H Q _=>∃ (r:Addr) (S:RunS) (fp:List Addr) (k B:Nat),vs=[.ref r,.int (k:Int)]∧bU K C H r S fp∧RunSz S B∧B≤1000000∧k≤100000∧
 ∀ H',ButL fp H H'→bU K C H' r (S.go k) fp→Q .non H'
theorem sc_go:FnScope ["self","many","moment","tipped","tick","number"] ["self","many"] (aJ (bQ (aU 48) 2)):=⟨rfl,rfl,rfl,by decide +kernel,rfl,by decide +kernel,by decide +kernel⟩
theorem ok_go {f f1:Addr}{fd fd1:FuncData} (F:Fun K "go" "Run.go" (bQ (aU 48) 2) f fd) (T:Txt mg) (tx:RunTx K C) (G_moment_gone:Callee P w K mg base "moment_gone" ["net","moment","many"] 6 (spMomGo K) f1 fd1) :
  FnOk P w K mg base CX0 7 f fd ["self","many"] (spGo K C):=by
 refine F.ok sc_go (fun vs H Q E h=>?_) (fun cdv A outer s H vs Q E hr h=>?_)
 ·obtain⟨r,S,fp,k,B,rfl,_⟩:=h;rfl
 ·obtain⟨r,S,fp,n,B,rfl,⟨dx,np,R,M,T',ts,rs,ms,mv,c,rfl⟩,sz,hB,hn,k⟩:=h
  have sc:=sc_go
  refine⟨_,(aG (bK (cU G_moment_gone hr (aA (eJ (K:=K) rfl (pv 0) rfl) (aA (bI (aS (K:=K) rfl) (eJ (K:=K) rfl (pv 0) rfl) (pe_un un_neg aI) (fun _ _=>rfl)) (aA (pv 1) aD)))) (aR (K:=K) (n:=2) rfl rfl (aE (aF (i:=2) sc.nd rfl (Or.inl rfl)) (aE (aF (i:=3) sc.nd rfl (Or.inl rfl)) aQ))))
   (aG (cA (pe_bmK (K:=K) rfl PySem.F.plainAttrs_list PySem.F.slot_list_append PySem.F.type_list_append cI (eJ (K:=K) rfl (pv 0) rfl) (aA (pv 2) aD)))
   (aG (cA (pe_bmK (K:=K) rfl PySem.F.plainAttrs_list PySem.F.slot_list_append PySem.F.type_list_append cI (eJ (K:=K) rfl (pv 0) rfl) (aA (bT (aA pe_str (aA (pv 1) (aA (pv 3) aD)))) aD)))
   (aL (dR PassesOwn.never rfl (dH (K:=K) rfl (pv 3)) (aR (K:=K) (n:=2) rfl rfl (aE (aF (i:=4) sc.nd rfl (Or.inl rfl)) (aE (aF (i:=5) sc.nd rfl (Or.inl rfl)) aQ))) (aL (cA (pe_bmK (K:=K) rfl PySem.F.plainAttrs_list PySem.F.slot_list_append PySem.F.type_list_append cI (bI (aS (K:=K) rfl) (eJ (K:=K) rfl (pv 0) rfl) (pv 5) (fun _ _=>rfl)) (aA (pv 4) aD))))))))),?_⟩
  have nok:=c.ok.nok
  have mok:=c.ok.cur
  have nd:=c.nd
  have lrs:rs.length≤B:=by rw[c.lR.length,List.length_map];exact sz.rows
  have lms:ms.length≤B:=by rw[c.lM.length,List.length_map];exact sz.pre
  refine⟨_,rfl,r,C,dx,_,_,rfl,c.ins,tx.cls,tx.net,lk_net,_,rfl,r,C,dx,_,_,rfl,c.ins,tx.cls,tx.moments,lk_moments,1,rfl,.inl ⟨M,_,-1,_,rfl,rfl,cE.of c.hM,atI_last _ _,_,rfl,np,mv,S.net,S.cur,n,rfl,c.net,c.cM,nok,mok,hn,fun pp mi tl tvs H1 s1 qpp cm1 qtl lt1=>?_⟩⟩
  refine⟨pp,_,rfl,qpp,rfl,_,_,rfl,_,_,rfl,rfl,?_⟩
  have ltv:tvs.length≤12 * n:=by rw[lt1.length,List.length_map];exact tipN_len nok n
  have nRM:R≠M:=fun z=>by rw[List.nodup_cons] at nd;exact nd.1 (by rw[z];simp)
  have ne_rM:r≠M:=fun z=>c.r_notin (by rw[z];simp)
  have ne_rR:r≠R:=fun z=>c.r_notin (by rw[z];simp)
  refine⟨_,rfl,r,C,dx,_,_,rfl,s1 _ _ c.ins,tx.cls,tx.moments,lk_moments,.inl ⟨rfl,_,cE.of (s1 _ _ c.hM)⟩,_,rfl,M,_,_,rfl,rfl,s1 _ _ c.hM,small1M (by simp;omega),?_⟩
  have muM:Mut (H1 M):=by rw[s1 _ _ c.hM];exact trivial
  have ts2:bL K H1 (upd H1 M (.lst (ms++[mv]++[mi]))):=cB.ts cB.upd muM
  have tl2:=ts2 _ _ qtl
  have k2:∀ (b:Addr) (o:HO),b≠M→H b=some o→upd H1 M (.lst (ms++[mv]++[mi])) b=some o:=fun b o h e=>by rw[aM h];exact s1 _ _ e
  have hM2:upd H1 M (.lst (ms++[mv]++[mi])) M=some (.lst (ms++[mv]++[mi])):=aB
  have tsH2:bL K H (upd H1 M (.lst (ms++[mv]++[mi]))):=s1.ts.trans ts2
  have cm2:=Is.mono ts2 _ _ cm1
  have lt2:=L2.IsL.mono ts2 _ _ lt1
  generalize upd H1 M (.lst (ms++[mv]++[mi]))=H2 at tl2 k2 hM2 tsH2 cm2 lt2
  refine⟨_,rfl,r,C,dx,_,_,rfl,k2 _ _ ne_rM c.ins,tx.cls,tx.rows,lk_rows,.inl ⟨rfl,_,cE.of (k2 _ _ nRM c.hR)⟩,?_⟩
  refine⟨_,rfl,_,rfl,(show 3≤sizeLine by decide),fun p3 hp3=>?_⟩
  have s24:aK H2 (upd H2 p3 (.tup [.str "go",.int (n:Int),.ref tl])):=aK.new hp3
  have row4:Is K (upd H2 p3 (.tup [.str "go",.int (n:Int),.ref tl])) (rowD (.go (n:Int) (tipN S.net S.cur n))) (.ref p3):=
   Is.tupOf (ds:=[.str "go",.int (n:Int),.tup ((tipN S.net S.cur n).map tipD)]) (bH.of aB) (.cons (Is.s _) (.cons (Is.i _) (.cons (Is.tupOf (s24.tup tl2) (L2.IsL.mono s24.ts _ _ lt2)) .nil)))
  generalize upd H2 p3 (.tup [.str "go",.int (n:Int),.ref tl])=H4 at row4 s24
  have hR4:=s24 _ _ (k2 _ _ nRM c.hR)
  refine⟨R,_,_,rfl,rfl,hR4,small1M (by omega),?_⟩
  have muR:Mut (H4 R):=by rw[hR4];exact trivial
  have ts5:bL K H4 (upd H4 R (.lst (rs++[.ref p3]))):=cB.ts cB.upd muR
  have tsH5:bL K H (upd H4 R (.lst (rs++[.ref p3]))):=(tsH2.trans s24.ts).trans ts5
  have keep:∀ (b:Addr) (o:HO),b≠M→b≠R→H b=some o→upd H4 R (.lst (rs++[.ref p3])) b=some o:=fun b o h1 h2 e=>by
   rw[aM h2];exact s24 _ _ (k2 _ _ h1 e)
  have tl5:=ts5 _ _ (s24.tup tl2)
  have lt5:=L2.IsL.mono (s24.ts.trans ts5) _ _ lt2
  rw[List.nodup_cons] at nd
  have nd2:=nd.2
  rw[List.nodup_cons] at nd2
  have c5:RunC K C (upd H4 R (.lst (rs++[.ref p3]))) r { S with
   rows:=S.rows++[.go (n:Int) (tipN S.net S.cur n)],pre:=S.pre++[S.cur],cur:=momN S.net S.cur n } dx np R M T' ts (rs++[.ref p3]) (ms++[mv]) mi:={
   ins:=keep _ _ ne_rM ne_rR c.ins
   net:=Is.mono tsH5 _ _ c.net
   hR:=aB
   lR:=by
    show IsL K _ ((S.rows++[Row.go (n:Int) (tipN S.net S.cur n)]).map rowD) _
    rw[List.map_append]
    exact L2.IsL.snoc (Is.mono ts5 _ _ row4) (L2.IsL.mono tsH5 _ _ c.lR)
   hM:=by rw[aM (Ne.symm nRM)];exact s24 _ _ hM2
   lM:=by
    show IsL K _ ((S.pre++[S.cur]).map momD) _
    rw[List.map_append]
    exact L2.IsL.snoc (Is.mono tsH5 _ _ c.cM) (L2.IsL.mono tsH5 _ _ c.lM)
   cM:=Is.mono (s24.ts.trans ts5) _ _ cm2
   hT:=keep _ _ (fun z=>nd2.1 (by rw[← z];simp)) (fun z=>nd.1 (by rw[← z];simp)) c.hT
   tl:=c.tl
   ti:=fun i t l h1 h2=>by
    have hm:=List.mem_of_getElem? h1
    exact keep _ _ (fun z=>nd2.1 (by rw[← z];simp [hm])) (fun z=>nd.1 (by rw[← z];simp [hm])) (c.ti i t l h1 h2)
   nd:=c.nd
   ok:=⟨c.ok.nok,momN_ok mok n,c.ok.tl⟩ }
  have b5:ButL (R::M::T'::ts) H (upd H4 R (.lst (rs++[.ref p3]))):=fun b o hb e=>keep b o (fun z=>hb (by rw[z];simp)) (fun z=>hb (by rw[z];simp)) e
  generalize upd H4 R (.lst (rs++[.ref p3]))=H5 at tl5 lt5 c5 b5
  refine⟨_,rfl,tl,rfl,⟨_,tl5⟩,for_tup (K:=K) (a:=tl) (xs:=tvs)
   (fun i σ' H'=>bH K H' tl tvs∧IsL K H' ((tipN S.net S.cur n).map tipD) tvs∧ButL (R::M::T'::ts) H H'∧
    RunC K C H' r { S with rows:=S.rows++[.go (n:Int) (tipN S.net S.cur n)],pre:=S.pre++[S.cur],cur:=momN S.net S.cur n,tips:=((tipN S.net S.cur n).take i).foldl addTip S.tips } dx np R M T' ts (rs++[V.ref p3]) (ms++[mv]) mi∧
    ∃ v4 v5,σ'=[some (.ref r),some (.int (n:Int)),some mi,some (.ref tl),v4,v5])
   ⟨tl5,lt5,b5,by rw[List.take_zero];exact c5,_,_,rfl⟩ (fun i σ' H' _ p=>p.1) ?_ ?_⟩
  ·rintro i x σ' H6 hx ⟨tl6,lt6,b6,c6,v4,v5,rfl⟩
   obtain⟨d,hd,ix⟩:=L2.IsL.get' lt6 hx
   rw[List.getElem?_map] at hd
   obtain⟨⟨tk,nu⟩,hp',rfl⟩:=Option.map_eq_some_iff.mp hd
   have hil:=(List.getElem?_eq_some_iff.mp hp').1
   have hnu:nu < S.net.vs.length:=tipN_lt n _ (List.mem_of_getElem? hp')
   obtain⟨e,zs,rfl,qe,le⟩:=(show Is K H6 (.tup [.int tk,.int (nu:Int)]) x from ix).un
   obtain⟨x1,rr,rfl,h1,le⟩:=le.un
   obtain⟨x2,rr,rfl,h2,le⟩:=le.un
   have:=le.un0
   subst this
   have:=h1.ui
   subst this
   have:=h2.ui
   subst this
   refine⟨e,_,rfl,qe,rfl,_,_,rfl,_,_,rfl,rfl,?_⟩
   have lt6':=c6.ok.tl
   have hts:nu < ts.length:=by rw[c.tl,c.ok.tl];exact hnu
   have htt:ts[nu]? = some ts[nu]:=by simp [hts]
   have hli:nu < (((tipN S.net S.cur n).take i).foldl addTip S.tips).length:=by rw[addTips_len,c.ok.tl];exact hnu
   have hll:(((tipN S.net S.cur n).take i).foldl addTip S.tips)[nu]? = some (((tipN S.net S.cur n).take i).foldl addTip S.tips)[nu]:=by simp [hli]
   have hsz:=addTips_sz (B:=B) ((tipN S.net S.cur n).take i) S.tips sz.tips _ (List.getElem_mem hli)
   generalize (((tipN S.net S.cur n).take i).foldl addTip S.tips)[nu]=l at hll hsz
   have htk:=tipN_len (m:=S.cur) nok n
   rw[List.length_take] at hsz
   have hti:=c6.ti nu _ l htt hll
   refine⟨_,rfl,r,C,dx,_,_,rfl,c6.ins,tx.cls,tx.tips,lk_tips,_,rfl,.inl ⟨T',_,(nu:Int),.ref ts[nu],rfl,rfl,cE.of c6.hT,atI_nat (by rw[List.getElem?_map,htt];rfl),.inl ⟨rfl,_,cE.of hti⟩,_,rfl,ts[nu],_,_,rfl,rfl,hti,small1M (by rw[List.length_map];omega),?_⟩⟩
   have c7:=c6.addTip (p:=(tk,nu)) htt hll
   have hmem:ts[nu]∈R::M::T'::ts:=by simp
   have mu6:Mut (H6 ts[nu]):=by rw[hti];exact trivial
   rw[List.map_append] at c7
   refine⟨cB.ts (K:=K) cB.upd mu6 _ _ tl6,L2.IsL.mono (cB.ts cB.upd mu6) _ _ lt6,b6.trans (ButL.upd hmem),?_,_,_,rfl⟩
   rw[cF hp',List.foldl_append]
   exact c7
  ·rintro σ' H6 ⟨tl6,lt6,b6,c6,_⟩
   have el:tvs.length=(tipN S.net S.cur n).length:=by rw[lt1.length,List.length_map]
   rw[el,List.take_length] at c6
   exact k _ b6 ⟨dx,np,R,M,T',ts,_,_,_,c6,rfl⟩
end
end Tw
namespace Tw
open PySem L2
end Tw
namespace Tw
open PySem L2
section
variable {K:PySem.W.Frag}{t sl:Addr}{σ:St}{H0:Hp}
end
theorem lk_m {np:V}{R M T:Addr} (m:Str) (h:(flds np R M T).lookup m=none):(flds np R M T).lookup m=none:=h
section
variable {K:PySem.W.Frag}{C:Addr}{H:Hp}{r:Addr}{S:RunS}{fp:List Addr}
theorem bU.ins (c:bU K C H r S fp):∃ dx np R M T,H r=some (.ins C dx (flds np R M T)):=by
 obtain⟨dx,np,R,M,T,ts,rs,ms,mv,c,_⟩:=c
 exact⟨dx,np,R,M,T,c.ins⟩
theorem bU.butL {H':Hp}{fq:List Addr} (c:bU K C H r S fp) (s:ButL fq H H') (hm:∀ b∈fq,Mut (H b)) (h1:r∉fq) (h2:∀ b∈fp,b∉fq):bU K C H' r S fp:=by
 obtain⟨dx,np,R,M,T,ts,rs,ms,mv,c,rfl⟩:=c
 refine⟨dx,np,R,M,T,ts,rs,ms,mv,c.keep (s.ts hm) fun b hb=>?_,rfl⟩
 rcases List.mem_cons.1 hb with rfl | hb
 ·rw[s _ _ h1 c.ins,c.ins]
 ·obtain⟨xs,e⟩:=c.lists b hb
  rw[s _ _ (h2 b hb) e,e]
theorem dB.butL {H':Hp}{t sl:Addr} (h:dB H t sl) (s:ButL fp H H') (h1:t∉fp) (h2:sl∉fp):dB H' t sl:=by
 obtain⟨ns,pos,cell,e,f,g⟩:=h;exact⟨ns,pos,cell,s _ _ h1 e,s _ _ h2 f,g⟩
end
end Tw
namespace Tw
open PySem L2
end Tw
namespace Tw
open PySem L2
section
variable {P:Program}{w:World}{K:PySem.W.Frag}{mg:Str→Option Value}{base:Heap}
end
end Tw
namespace L2
open PySem PySem.Spec PyProof.Rows
section
variable {M:Model}{A:Around}{E:Value→Shared→Prop}{s:Shared}
end
section
variable {X:Cx}
end
end L2
namespace Tw
open PySem L2
section
variable {P:Program}{w:World}{K:PySem.W.Frag}{mg:Str→Option Value}{base:Heap}
end
end Tw
namespace L2
open PySem PySem.Spec PyProof.Rows TwZ
section
variable {X:Cx}{pins:List (Addr×Obj)}{σ:St}{H:Hp}{s:Shared}
end
section
variable {K:PySem.W.Frag}{H:Hp}
end
end L2
namespace L2
open PySem PySem.Spec PyProof.Rows TwZ
structure Fly (P:Program) (w:World) (stack:List Env) (H:Hp) (h:Heap) (ea:Addr) (cls a0:Value) (H':Hp) (h' B:Heap):Prop where
 fl:Heap.FlyingW B stack ea cls a0 h'
 keep:∀ b o,h.get? b=some o→H b=none→b∉frs stack→B.get? b=some o
 slot:∀ b o,h.get? b=some o→H b=none→b∈frs stack→∃ sl,h'.get? b=some { o with slots:=sl }
 free:∀ b o,h.get? b=some o→H b=none→H' b=none
 there:∀ b o,h.get? b=some o→b∉frs stack→∃ o',B.get? b=some o'
 tups:∀ b xs,H b=some (.tup xs)→H' b=some (.tup xs)
 frzs:∀ b o u,H b=some (.frz o u)→H' b=some (.frz o u)
 tbls:∀ b ps,H b=some (.tbl ps)→∃ more,H' b=some (.tbl (ps++more))
 hok:HOk P w H' B
noncomputable def CXR (P:Program) (w:World):CXT:=fun outer H s E e s'=>∃ (ea:Addr) (cls a0:Value) (H':Hp) (B:Heap),e=.ref ea∧s'.os=s.os∧AllBare s'.gens∧Fly P w outer H s.heap ea cls a0 H' s'.heap B∧E cls none H'
structure Leaves (X:Cx) (E:XK):Prop where
 stk:X.stack=X.env::X.outer
 fr:X.env.frame=some X.env.locals
 ex:X.ex=[]
 xe:∀ e s',wpAny (model X.prog X.w) X.A (leaving X.env e) (fun _ s''=>CXR X.prog X.w X.outer X.H₀ X.s₀ E e s'') (fun e' s''=>CXR X.prog X.w X.outer X.H₀ X.s₀ E e' s'') s'→X.xe e s'
section
variable {X:Cx}{pins:List (Addr×Obj)}{σ:St}{H H':Hp}{s s':Shared}{E:XK}
theorem mem_frs {l:List Env}{b:Addr}{env:Env} (he:env∈l) (hf:env.frame=some b):b∈frs l:=List.mem_filterMap.mpr ⟨env,he,hf⟩
theorem mem_frs_cons {l:List Env}{b L:Addr}{env:Env} (hf:env.frame=some L) (h:b∈frs (env::l)):b=L∨b∈frs l:=by
 unfold frs at h ⊢
 rw[List.filterMap_cons,hf] at h
 exact List.mem_cons.1 h
theorem raise_xe {h':Heap}{ea:Addr}{cls:Value}{vs:List Value} (L:Leaves X E) (I:Inv X pins σ H s) (hx:Heap.MadeExcOf s.heap h' ea cls vs) (hE:E cls none H):X.xe (.ref ea) { s with heap:=h' }:=by
 refine L.xe _ _ ?_
 have fr:X.A.frames=some (X.env::X.outer):=by rw[← L.stk];exact I.ok.frames
 have hs:s.heap.FunFrames X.base (X.env::X.outer):=by rw[← L.stk];exact I.stack
 have hfree:∀ b∈frs (X.env::X.outer),H b=none:=by rw[← L.stk];exact I.stkFree
 have nex:∀ b:Addr,b∉X.ex:=fun b z=>by rw[L.ex] at z;cases z
 have out:∀ b o,X.s₀.heap.get? b=some o→b∉frs X.outer→b∉frs (X.env::X.outer):=fun b o e hb z=>by
  rcases mem_frs_cons L.fr z with z | z
  ·exact absurd (Nat.lt_of_lt_of_le (Heap.lt_size e) I.ok.above) (by rw[z];exact Nat.lt_irrefl _)
  ·exact hb z
 refine wpAny_leaves_madeW (base:=PySem.W.hideAll s.heap (frs (X.env::X.outer))) fr L.fr (fun b o q=>PySem.W.of_hideAll _ q) (PySem.W.funFrames_hide hs fun env he a hf=>mem_frs he hf) hx fun h2 t x1 x2 x3 x4=>?_
 refine⟨ea,cls,.ref t,H,_,rfl,I.os,I.bare,⟨x1,fun b o e n hb=>?_,fun b o e n hb=>?_,fun b o e n=>I.base.free b o e n (nex b),fun b o e hb=>?_,I.base.tups,I.base.frzs,I.base.tbls,fun a o e=>?_⟩,hE⟩
 ·exact PySem.W.hideAll_get _ (I.base.keep b o e n hb (nex b)) (out b o e hb)
 ·obtain⟨sl,e1⟩:=I.base.slot b o e n hb (nex b)
  obtain⟨_,o',ho',hd⟩:=I.ok.funs.mem hb
  rw[e] at ho'
  cases ho'
  obtain⟨sl',e2⟩:=x4 b _ (hx.keeps _ _ e1) hd
  exact⟨sl',e2⟩
 ·obtain⟨o',e1⟩:=I.base.there b o e (nex b)
  exact⟨o',PySem.W.hideAll_get _ e1 (out b o e hb)⟩
 ·refine (I.hok a o e).stay (fun b u hb q=>PySem.W.hideAll_get _ q fun z=>?_) (fun _ q=>q) fun _ _ q=>q
  have:=hfree b z
  rcases hb with rfl | hb
  ·rw[e] at this;cases this
  ·rw[hb] at this;cases this
theorem pass_xe (L:Leaves X E):Passes (CXR X.prog X.w) X E:=by
 intro pins σ H s e s' I h
 obtain⟨ea,cls,a0,H',B,rfl,os,bare,F,hE⟩:=h
 refine L.xe _ _ ?_
 have fr:X.A.frames=some (X.env::X.outer):=by rw[← L.stk];exact I.ok.frames
 have nex:∀ b:Addr,b∉X.ex:=fun b z=>by rw[L.ex] at z;cases z
 have out:∀ b o,X.s₀.heap.get? b=some o→b∉frs X.outer→b∉frs X.stack:=fun b o e hb z=>by
  rw[L.stk] at z
  rcases mem_frs_cons L.fr z with z | z
  ·exact absurd (Nat.lt_of_lt_of_le (Heap.lt_size e) I.ok.above) (by rw[z];exact Nat.lt_irrefl _)
  ·exact hb z
 have inn:∀ b,b∈frs X.outer→b∈frs X.stack:=fun b hb=>by
  rw[L.stk];unfold frs at hb ⊢;rw[List.filterMap_cons,L.fr];exact List.mem_cons_of_mem _ hb
 refine wpAny_leaves_onW fr L.fr (by rw[← L.stk];exact F.fl) fun h2 x1 x2=>?_
 refine⟨ea,cls,a0,H',B,rfl,os.trans I.os,bare,⟨x1,fun b o e n hb=>?_,fun b o e n hb=>?_,fun b o e n=>?_,fun b o e hb=>?_,fun b xs e=>F.tups b xs (I.base.tups b xs e),fun b o u e=>F.frzs b o u (I.base.frzs b o u e),fun b ps e=>?_,F.hok⟩,hE⟩
 ·exact F.keep b o (I.base.keep b o e n hb (nex b)) (I.base.free b o e n (nex b)) (out b o e hb)
 ·obtain⟨sl,e1⟩:=I.base.slot b o e n hb (nex b)
  obtain⟨sl',e2⟩:=F.slot b _ e1 (I.base.free b o e n (nex b)) (inn b hb)
  obtain⟨_,o',ho',hd⟩:=I.ok.funs.mem hb
  rw[e] at ho'
  cases ho'
  obtain⟨sl'',e3⟩:=x2 b _ e2 hd
  exact⟨sl'',e3⟩
 ·obtain⟨o',e1⟩:=I.base.there b o e (nex b)
  exact F.free b o' e1 (I.base.free b o e n (nex b))
 ·obtain⟨o',e1⟩:=I.base.there b o e (nex b)
  exact F.there b o' e1 (out b o e hb)
 ·obtain⟨m1,e1⟩:=I.base.tbls b ps e
  obtain⟨m2,e2⟩:=F.tbls b _ e1
  exact⟨m1++m2,by rw[e2,Array.append_assoc]⟩
theorem passR0 {P:Program}{w:World}:Passes (CXR P w) X E0:=fun _ _ _ _ _ _ _ h=>by
 obtain⟨_,_,_,_,_,_,_,_,_,h⟩:=h
 exact h.elim
noncomputable def tRaise (E:XK) (C:Addr) (t:TA):TS:=fun _ σ H=>t σ H fun vs H1=>vs.length≤100∧E (.ref C) none H1
theorem ps_raise {x:Str}{C:Addr}{bm:List Value}{newId initId B:String}{np cpos pos:Pos}{e₀:Expr}{rest:List Expr}{t:TA} (L:Leaves X E) (hc:X.calm=true) (hg:Gl X x) (O:PySem.W.excIn X.K C bm newId=true) (hm:PySem.W.nsIn X.K mainGlobals x=some (some (.ref C))) (FB:ExcBaseFacts B newId initId bm) (ha:PA X (e₀::rest) t)
  (he:starEach (e₀::rest) X.env=(false,eval e₀ X.env)::starEach rest X.env:=by rfl) (hplain:(backTo cpos (starEach rest X.env)).any (·.1)=false:=by rfl) (hd:(x == ("__debug__" : Str))=false:=by decide) :
  PS X (.Raise (some (.Call (.Name x np) (e₀::rest) [] cpos)) none pos) (tRaise E C t):=by
 intro pins s σ H D I h
 have G:X.mg x=some (.ref C):=PySem.W.mg_of I.ok.mod.kin I.ok.mod.glob hm
 have ocl:OwnCls x C bm newId X.mg X.base:=by
  refine⟨G,?_⟩
  have q:=O
  unfold PySem.W.excIn at q
  split at q
  ·rename_i dd cd sl ho
   split at q
   ·rename_i C' bm' k0 k1 k2 k3 n k5 hm' hs
    simp only [Bool.and_eq_true,Bool.not_eq_true',beq_iff_eq] at q;obtain⟨⟨⟨⟨⟨rfl,rfl⟩,hdel⟩,ht⟩,hok⟩,hni⟩:=q
    obtain⟨nm,bs,mro,ns,qn,hd',sn,sub,ab,col,del⟩:=cd
    dsimp only at hm' hdel hok hni
    subst hm' hdel
    have hsl:sl = #[k0,k1,k2,k3,some (.builtin n),k5]:=by obtain⟨l⟩:=sl;simp only at hs;rw[hs]
    subst hsl
    exact⟨bm',ns,nm,qn,bs,hd',sn,sub,ab,col,dd,k0,k1,k2,k3,k5,_,I.ok.mod.kin _ _ ho,.of_isNs (PySem.W.isNs_of_in I.ok.mod.kin hok),PySem.W.nsMap_none_of_in I.ok.mod.kin hok hni,PySem.W.tail_of_in I.ok.mod.kin ht⟩
   ·cases q
  ·cases q
 obtain⟨tl,N,nm,q,bs,hdct,sn,sub,ab,col,dd,k0,k1,k2,k3,k5,mN,hC,hN,hni,T⟩:=ocl.obj
 refine wpAny_Raise_call_subT (C:=C) (nm:=nm) (q:=q) (N:=N) (bs:=bs) (bm:=tl) (hdct:=hdct) (sn:=sn) (sub:=sub) (ab:=ab) (col:=col) (dd:=dd) (k0:=k0) (k1:=k1) (k2:=k2) (k3:=k3) (k5:=k5) FB (mN:=mN) (T.hasType FB.hasBase) (I.ok.hd hc) (by rw[he];show (false || (backTo cpos (starEach rest X.env)).any (·.1))=false;rw[hplain];rfl) hni (ld_glob I hg G ⟨rfl,?_⟩ hd)
 have ha':=ha cpos pins s σ H _ I h
 rw[he] at ha' ⊢
 refine Calls.evalArgs_plain (wpAny_mono ha' (fun us s₂ ⟨vs,H1,I1,r1,hlen,hE⟩=>⟨rfl,?_,I1.bk _ _ hC,hN.keeps I1.bk,T.keeps I1.bk,fun h' e hme=>raise_xe L I1 hme hE⟩) fun _ _ y=>y)
 have:=r1.length
 show us.length≤sizeLine
 rw[sizeLine_eq];omega
end
end L2
namespace L2
open PySem PySem.Spec PyProof.Rows TwZ
noncomputable abbrev Cx.within (X:Cx) (pn:List (Addr×Obj)) (E:Value→Shared→Prop):Cx:={ X with pn:=pn,xe:=E }
section
variable {X:Cx}{pins:List (Addr×Obj)}{σ:St}{H:Hp}{s:Shared}{pn:List (Addr×Obj)}{E:Value→Shared→Prop}{ea:Addr}
theorem Cx.Ok.within (ok:X.Ok):(X.within pn E).Ok:=
 ⟨ok.mod,ok.kind,ok.glob,ok.blt,ok.above,ok.inj,ok.has,ok.cab,ok.hd,ok.frames,ok.stk,ok.exf,ok.bs,ok.bsz,ok.noex,ok.exfs,ok.funs,ok.frf⟩
theorem Cx.Ok.unwithin (ok:(X.within pn E).Ok):X.Ok:=
 ⟨ok.mod,ok.kind,ok.glob,ok.blt,ok.above,ok.inj,ok.has,ok.cab,ok.hd,ok.frames,ok.stk,ok.exf,ok.bs,ok.bsz,ok.noex,ok.exfs,ok.funs,ok.frf⟩
theorem Inv.within (I:Inv X pins σ H s):Inv (X.within (X.pn++pins) E) [] σ H s:=
 ⟨I.ok.within,I.os,I.bare,I.base,I.loc,I.cell,I.free,I.freeC,fun p hp=>I.pin p (by simpa using hp),I.hok,I.len⟩
theorem Inv.unwithin {p2:List (Addr×Obj)} (I:Inv (X.within (X.pn++pins) E) p2 σ H s):Inv X pins σ H s:=
 ⟨I.ok.unwithin,I.os,I.bare,I.base,I.loc,I.cell,I.free,I.freeC,fun p hp=>I.pin p (List.mem_append_left _ hp),I.hok,I.len⟩
end
end L2
namespace L2
open PySem PySem.Spec PyProof.Rows TwZ PySem.Builtin PySem.Builtin.ObjectAttr PySem.Builtin.Getset_descriptor
section
variable {prog:Program}{w:World}{K:PySem.W.Frag}{x D:Addr}
end
section
variable {X:Cx}
end
end L2
namespace L2
open PySem PySem.Spec PyProof.Rows TwZ
section
variable {X:Cx}{K:PySem.W.Frag}
end
end L2
namespace Tw
open PySem L2
section
variable {P:Program}{w:World}{K:PySem.W.Frag}{mg:Str→Option Value}{base:Heap}
end
end Tw
namespace L2
open PySem PySem.Spec PyProof.Rows TwZ
section
variable {P:Program}{w:World}{K:PySem.W.Frag}{mg:Str→Option Value}{base:Heap}
theorem Fun.okR {x qual:Str}{st:Stmt}{f:Addr}{fd:FuncData}{N ps:List Str}{k:Nat}{sp:Sp} (F:Fun K x qual st f fd) (S:FnScope N ps (aJ st)) (len:∀ vs H Q E,sp vs H Q E→vs.length=ps.length)
  (hbody:∀ (cdv:Value) (A:Around) (outer:List Env) (s:Shared) (H:Hp) (vs:List V) (Q:VK) (E:XK),Room k (A.deeper (envOfC qual (aJ st) s.heap.objs.size f cdv))→sp vs H Q E→
   Leaves (cxOf (CXR P w) P w K mg base N qual (aJ st) f cdv A outer s H E) E→
   ∃ t,PSs (cxOf (CXR P w) P w K mg base N qual (aJ st) f cdv A outer s H E) (aV st) t∧t { nx:=fun _ H'=>Q .non H',rt:=Q } (start N vs) H):FnOk P w K mg base (CXR P w) (k+1) f fd ps sp:=by
 obtain⟨oc,od,kV,doc,pm,an,cdv,ct,osl,rfl,lk,hcd⟩:=F.ex
 exact fn_of lk hcd S len fun A outer s H vs Q E hr hsp=>hbody cdv A outer s H vs Q E hr hsp ⟨rfl,rfl,rfl,fun _ _ h=>h⟩
end
structure CalleeR (P:Program) (w:World) (K:PySem.W.Frag) (mg:Str→Option Value) (base:Heap) (x:Str) (ps:List Str) (k:Nat) (sp:Sp) (f:Addr) (fd:FuncData):Prop where
 ok:FnOk P w K mg base (CXR P w) k f fd ps sp
 mg:mg x=some (.ref f)
 kp:PySem.W.keepIn K (.ref f)=true
 bd:Binds K fd ps []
structure ExC (K:PySem.W.Frag) (x:Str) (C:Addr):Prop where
 ns:PySem.W.nsIn K mainGlobals x=some (some (.ref C))
 exc:PySem.W.excIn K C [.type "ValueError",.type "Exception",.type "BaseException",.type "object"] "ValueError.__new__" = true
end L2
namespace Tw
open PySem L2
section
variable {P:Program}{w:World}{K:PySem.W.Frag}{mg:Str→Option Value}{base:Heap}{C c_TipError c_NoNet c_NoVessel c_TooLong c_TooMany c_TooMuch c_Nothing c_NoText c_NoRow:Addr}
noncomputable def spWholeI:Sp:=fun vs H Q _=>∃ (n lo hi:Int),vs=[.int n,.int lo,.int hi]∧Q (.bl (decide (lo≤n) && decide (n≤hi))) H
theorem ok_is_wholeI {f:Addr}{fd:FuncData} (F:Fun K "is_whole" "is_whole" (aU 23) f fd) (T:Txt mg):FnOk P w K mg base CX0 1 f fd ["thing","least","most"] spWholeI:=by
 refine F.ok sc_is_whole (fun vs H Q E h=>?_) (fun cdv A outer s H vs Q E hr h=>?_)
 ·obtain⟨n,lo,hi,rfl,_⟩:=h;rfl
 ·obtain⟨n,lo,hi,rfl,k⟩:=h
  have sc:=sc_is_whole
  refine⟨_,(aL (b9 (pe_and (aX (call_isiK (K:=K) rfl) rfl T.b_isinstance boot_isi (aA (pv 0) (aA (pe_bltn (v:=.ty "int") rfl T.b_int bt_int rfl) aD))) (pe_and (pe_not (aX (call_isiK (K:=K) rfl) rfl T.b_isinstance boot_isi (aA (pv 0) (aA (pe_bltn (v:=.ty "bool") rfl T.b_bool bt_bool rfl) aD)))) (pe_one (pe_chain op_le op_le (pv 1) (pv 0) (pv 2))))))),?_⟩
  refine⟨_,rfl,_,"int",_,true,rfl,.inl (.int _),kit_ii K,_,rfl,iteT ?_⟩
  refine⟨_,rfl,_,"bool",_,false,rfl,.inl (.int _),kit_ib K,_,rfl,_,rfl,iteT ?_⟩
  refine⟨_,rfl,_,rfl,_,_,rfl,rfl,_,rfl,ite2 (fun h1=>?_) fun h1=>?_⟩
  ·rw[h1,Bool.true_and] at k
   exact⟨_,rfl,_,_,rfl,rfl,k⟩
  ·rw[Bool.not_eq_true] at h1
   rw[h1,Bool.false_and] at k
   exact k
noncomputable def spNeedR (K:PySem.W.Frag) (cV:Addr):Sp:=fun vs H Q E=>∃ (x:V) (net:Net) (v:Int),vs=[x,.int v]∧Is K H (netD net) x∧((0≤v∧v < net.vs.length∧Q .non H)∨(¬ (0≤v∧v < net.vs.length)∧E (.ref cV) none H))
theorem ok_need_vesselR {f f1:Addr}{fd fd1:FuncData} (F:Fun K "need_vessel" "need_vessel" (aU 21) f fd) (T:Txt mg) (XC_NoVessel:ExC K "NoVessel" c_NoVessel) (G_is_whole:Callee P w K mg base "is_whole" ["thing","least","most"] 1 spWholeI f1 fd1) :
  FnOk P w K mg base (CXR P w) 2 f fd ["net","number"] (spNeedR K c_NoVessel):=by
 refine F.okR eG (fun vs H Q E h=>?_) (fun cdv A outer s H vs Q E hr h L=>?_)
 ·obtain⟨x,net,v,rfl,_⟩:=h;rfl
 ·obtain⟨x,net,v,rfl,hx,k⟩:=h
  have sc:=eG
  refine⟨_,(aG (bK (pv 0) (aR (K:=K) (n:=2) rfl rfl (aE (aF (i:=2) sc.nd rfl (Or.inl rfl)) (aE (aF (i:=3) sc.nd rfl (Or.inl rfl)) aQ))))
   (aL (dD (eB (d6 (cU G_is_whole hr (aA (pv 1) (aA aI (aA (bA op_sub (aX (bZ (K:=K) rfl) rfl T.b_len PySem.boot_len (aA (pv 2) aD)) aI) aD)))))) (aL (ps_raise L rfl rfl XC_NoVessel.exc XC_NoVessel.ns PySem.F.excBase_ValueError (aA pe_str aD))) bO))),?_⟩
  obtain⟨a,b,c,xs,ys,rfl,q,q1,l1,q2,l2⟩:=net_un hx
  have exl:xs.length=net.vs.length:=by rw[l1.length,List.length_map]
  refine⟨_,rfl,a,_,rfl,q,rfl,_,_,rfl,_,_,rfl,rfl,?_⟩
  refine⟨_,rfl,_,rfl,b,xs,rfl,.inr q1,_,_,rfl,rfl,v,0,_,rfl,_,rfl,?_⟩
  rcases k with ⟨h0,h1,k⟩ | ⟨hn,k⟩
  ·rw[decide_eq_true h0,decide_eq_true (show v≤((xs.length:Nat):Int) - 1 by omega)]
   exact iteF k
  ·have:(decide (0≤v) && decide (v≤((xs.length:Nat):Int) - 1))=false:=by
    rw[Bool.eq_false_iff]
    intro z
    rw[Bool.and_eq_true,decide_eq_true_eq,decide_eq_true_eq] at z
    exact hn ⟨z.1,by omega⟩
   rw[this]
   exact iteT ⟨by show 1≤100;decide,k⟩
end
end Tw
namespace Tw
open PySem L2
noncomputable abbrev Nums:=List (Int×Int)
noncomputable def lkp (ms:Nums) (i:Int):Option Int:=(ms.find? fun p=>decide (p.1=i)).map (·.2)
noncomputable def dcD (ms:Nums):List (dQ×V):=ms.map fun p=>(Sum.inl p.1,V.int p.2)
theorem val_dcD (i:Int):∀ ms:Nums,dZ (dcD ms) (Sum.inl i)=(lkp ms i).map V.int
 | []=>rfl
 | p::ms=>by
  have ih:=val_dcD i ms
  show dZ ((Sum.inl p.1,V.int p.2)::dcD ms) (Sum.inl i)=_
  unfold lkp at ih ⊢
  by_cases h:p.1=i
  ·rw[dC (by rw[h]),List.find?_cons_of_pos (by simpa using h)];rfl
  ·rw[cY (fun z=>h (by injection z)),ih,List.find?_cons_of_neg (by simpa using h)]
theorem val_dcN:∀ ms:Nums,dZ (dcD ms) (Sum.inr none)=none
 | []=>rfl
 | p::ms=>by
  show dZ ((Sum.inl p.1,V.int p.2)::dcD ms) (Sum.inr none)=_
  rw[cY (fun z=>by cases z),val_dcN ms]
noncomputable def RdD (H:Hp) (a:Addr) (ms:Nums):Prop:=Rd H a (.dK (dcD ms))
theorem RdD.isD {H:Hp}{a:Addr}{ms:Nums} (h:RdD H a ms):IsD H a:=.inl ⟨_,h⟩
theorem RdD.get {H:Hp}{a:Addr}{ms:Nums} (h:RdD H a ms) (t:Option Int):DGet H a (tgV t) ((t.bind (lkp ms)).map V.int):=by
 cases t with
 | none=>exact .inl ⟨_,Sum.inr none,h,rfl,(val_dcN ms).symm⟩
 | some i=>exact .inl ⟨_,Sum.inl i,h,rfl,(val_dcD i ms).symm⟩
theorem RdD.same {H H':Hp}{a:Addr}{ms:Nums} (h:RdD H a ms) (s:aK H H'):RdD H' a ms:=by
 rcases h with h | ⟨o,h⟩
 ·exact .inl (s _ _ h)
 ·exact .inr ⟨o,s _ _ h⟩
theorem getD_tg (o:Option Int):(o.map V.int).getD .non=tgV o:=by cases o <;> rfl
noncomputable def renO (nv:Nums) (o:Option Int×Int):Option Int×Int:=(o.1.bind (lkp nv),o.2)
noncomputable def renA (ms:Nums) (a:Str×Int):Option (Str×Int):=(lkp ms a.2).map fun s=>(a.1,s)
noncomputable def renV (nv ms:Nums) (v:Vs):Vs:=⟨v.size,v.brim,v.outs.map (renO nv),v.holds,v.spill.bind (lkp nv),v.acts.filterMap (renA ms)⟩
noncomputable def renS (nv:Nums) (s:Spt):Spt:=((lkp nv s.1).getD 0,s.2)
noncomputable def cO:Vs:=⟨1,1,[],false,none,[]⟩
noncomputable def renN (net:Net) (nv ms:Nums):Net:=⟨nv.map fun p=>renV nv ms (net.vs.getD p.1.toNat cO),ms.map fun p=>renS nv (net.sps.getD p.1.toNat (0,0,false))⟩
structure RenOk (net:Net) (nv ms:Nums):Prop where
 vs:∀ p∈nv,0≤p.1∧p.1 < net.vs.length
 sp:∀ p∈ms,0≤p.1∧p.1 < net.sps.length
 tg:∀ p∈ms,∃ j,lkp nv (net.sps.getD p.1.toNat (0,0,false)).1=some j
 lv:nv.length≤12
 ls:ms.length≤12
theorem filterMap_len {α β:Type} (f:α→Option β) (l:List α):(l.filterMap f).length≤l.length:=List.length_filterMap_le f l
section
variable {P:Program}{w:World}{K:PySem.W.Frag}{mg:Str→Option Value}{base:Heap}{C c_TipError c_NoNet c_NoVessel c_TooLong c_TooMany c_TooMuch c_Nothing c_NoText c_NoRow aw:Addr}
noncomputable def spRenV (K:PySem.W.Frag):Sp:=fun vs H Q _=>∃ (x:V) (dv ds:Addr) (v:Vs) (nv ms:Nums),vs=[x,.ref dv,.ref ds]∧Is K H (vsD v) x∧v.outs.length≤3∧v.acts.length≤3∧RdD H dv nv∧RdD H ds ms∧∀ p H',aK H H'→Is K H' (vsD (renV nv ms v)) p→Q p H'
theorem sc_renumbered_vessel:FnScope ["vessel","new_vessels","new_spouts","size","brim","outs","holds","spill","acts","told_outs","told_acts"] ["vessel","new_vessels","new_spouts"] (aJ (aU 26)):=⟨rfl,rfl,rfl,by decide +kernel,rfl,by decide +kernel,by decide +kernel⟩
theorem ok_renumbered_vessel {f:Addr}{fd:FuncData} (F:Fun K "renumbered_vessel" "renumbered_vessel" (aU 26) f fd) (T:Txt mg):FnOk P w K mg base CX0 1 f fd ["vessel","new_vessels","new_spouts"] (spRenV K):=by
 refine F.ok sc_renumbered_vessel (fun vs H Q E h=>?_) (fun cdv A outer s H vs Q E hr h=>?_)
 ·obtain⟨x,dv,ds,v,nv,ms,rfl,_⟩:=h;rfl
 ·obtain⟨x,dv,ds,v,nv,ms,rfl,hx,o3,a3,hdv,hds,k⟩:=h
  have sc:=sc_renumbered_vessel
  have hu:=hu_of hr
  refine⟨_,(aG (bK (pv 0) (aR (K:=K) (n:=6) rfl rfl (aE (aF (i:=3) sc.nd rfl (Or.inl rfl)) (aE (aF (i:=4) sc.nd rfl (Or.inl rfl)) (aE (aF (i:=5) sc.nd rfl (Or.inl rfl)) (aE (aF (i:=6) sc.nd rfl (Or.inl rfl)) (aE (aF (i:=7) sc.nd rfl (Or.inl rfl)) (aE (aF (i:=8) sc.nd rfl (Or.inl rfl)) aQ))))))))
   (aG (ps_set_lc (i:=9) sc.nd rfl rfl (fun _ _ h=>h) rfl (LcOk.mk (N':=["target","parts","new_vessels"]) (fr:=[none,none,some 1]) rfl ⟨rfl,trivial⟩ rfl rfl rfl rfl rfl ⟨⟨_,rfl,rfl,rfl,rfl⟩,trivial⟩) (dH (K:=K) rfl (pv 5)) (fun _ _ _=>(aR (K:=K) (n:=2) rfl rfl (aE (aF (i:=0) (show (["target","parts","new_vessels"]:List Str).Nodup by decide +kernel) rfl (Or.inl rfl) (Or.inr rfl)) (aE (aF (i:=1) (show (["target","parts","new_vessels"]:List Str).Nodup by decide +kernel) rfl (Or.inl rfl) (Or.inr rfl)) aQ)))) (fun _ _ _=>d8) (fun _ _ _=>(bT (aA (pe_dget1 hu (pv 2) (pv 0) ⟨rfl,rfl,rfl,rfl⟩) (aA (pv 1) aD)))))
   (aG (ps_set_lc (i:=10) sc.nd rfl rfl (fun _ _ h=>h) rfl (LcOk.mk (N':=["word","spout","new_spouts"]) (fr:=[none,none,some 2]) rfl ⟨rfl,trivial⟩ rfl rfl rfl rfl rfl ⟨⟨_,rfl,rfl,rfl,rfl⟩,trivial⟩) (dH (K:=K) rfl (pv 8)) (fun _ _ _=>(aR (K:=K) (n:=2) rfl rfl (aE (aF (i:=0) (show (["word","spout","new_spouts"]:List Str).Nodup by decide +kernel) rfl (Or.inl rfl) (Or.inr rfl)) (aE (aF (i:=1) (show (["word","spout","new_spouts"]:List Str).Nodup by decide +kernel) rfl (Or.inl rfl) (Or.inr rfl)) aQ)))) (fun _ _ _=>pif_one (pt_cmp (pc_din hu (pv 1) (pv 2)))) (fun _ _ _=>(bT (aA (pv 0) (aA (pe_dget hu (pv 2) (pv 1) (fun _ _=>rfl)) aD)))))
   (aL (b9 (bT (aA (pv 3) (aA (pv 4) (aA (aZ (bV (K:=K) rfl) rfl T.b_tuple bY (aA (pv 9) aD)) (aA (pv 6) (aA (pe_dget1 hu (pv 1) (pv 7) ⟨rfl,rfl,rfl,rfl⟩) (aA (aZ (bV (K:=K) rfl) rfl T.b_tuple bY (aA (pv 10) aD)) aD)))))))))))),?_⟩
  obtain⟨a,o,c,rfl,q,io,ic⟩:=vs_un hx
  obtain⟨oa,os,rfl,qo,lo⟩:=io.un
  obtain⟨ca,cs,rfl,qc,lc⟩:=ic.un
  have eol:os.length=v.outs.length:=by rw[lo.length,List.length_map]
  have ecl:cs.length=v.acts.length:=by rw[lc.length,List.length_map]
  refine⟨_,rfl,a,_,rfl,q,rfl,_,_,rfl,_,_,rfl,_,_,rfl,_,_,rfl,_,_,rfl,_,_,rfl,rfl,?_⟩
  refine⟨_,rfl,oa,rfl,⟨_,qo⟩,lc_tup (K:=K) (a:=oa) (xs:=os) (fun D i r σ' H'=>H D=none∧aK H H'∧H' D=some (.lst r)∧IsL K H' (((v.outs.take i).map (renO nv)).map outD) r∧∃ u1 u2,σ'=[u1,u2,some (.ref dv)])
   (fun D i r σ' H' p=>p.2.1.tup qo) (fun D hD=>⟨hD,aK.new hD,aB,.nil,none,none,rfl⟩) ?_ ?_⟩
  rotate_left
  ·rintro D i y r σ' H1 hy ⟨hD,sm,hDl,lr,u1,u2,rfl⟩
   obtain⟨t,ht,ta,rfl,qt⟩:=outs_at lo hy
   have hil:=(List.getElem?_eq_some_iff.mp ht).1
   refine⟨ta,_,rfl,sm.tup qt,rfl,_,_,rfl,_,_,rfl,rfl,?_⟩
   refine yes_of ?_
   have hd1:=hdv.same sm
   refine⟨_,rfl,dv,rfl,hd1.isD,_,rfl,_,hd1.get t.1,_,rfl,(show 2≤sizeLine by decide),fun e he=>?_⟩
   rw[getD_tg]
   have m1:=aK.new (o:=HO.tup [tgV (t.1.bind (lkp nv)),.int t.2]) he
   have i1:Is K (upd H1 e (.tup [tgV (t.1.bind (lkp nv)),.int t.2])) (outD (renO nv t)) (.ref e):=Is.tupOf (ds:=[tgD (t.1.bind (lkp nv)),.int t.2]) (bH.of aB) (.cons (Is.tgOf _) (.cons (Is.i _) .nil))
   generalize upd H1 e (.tup [tgV (t.1.bind (lkp nv)),.int t.2])=H2 at m1 i1 ⊢
   have hDl2:=m1 _ _ hDl
   have muD:Mut (H2 D):=by rw[hDl2];exact trivial
   have hrl:r.length≤12:=by rw[lr.length,List.length_map,List.length_map,List.length_take];omega
   refine⟨hDl2,aT (by omega),hD,(sm.trans m1).put hD,aB,?_,_,_,rfl⟩
   rw[List.take_succ,ht,List.map_append,List.map_append]
   exact L2.IsL.snoc (Is.mono (cB.ts cB.upd muD) _ _ i1) (L2.IsL.mono (m1.ts.trans (cB.ts cB.upd muD)) _ _ lr)
  rintro D1 r1 σ' H1 ⟨hD1,sm1,hDl1,lr1,_⟩
  rw[eol,List.take_length] at lr1
  refine⟨_,rfl,ca,rfl,⟨_,sm1.tup qc⟩,lc_tup (K:=K) (a:=ca) (xs:=cs) (fun D i r σ' H'=>H1 D=none∧aK H1 H'∧H' D=some (.lst r)∧IsL K H' (((v.acts.take i).filterMap (renA ms)).map actD) r∧∃ u1 u2,σ'=[u1,u2,some (.ref ds)])
   (fun D i r σ' H' p=>p.2.1.tup (sm1.tup qc)) (fun D hD=>⟨hD,aK.new hD,aB,.nil,none,none,rfl⟩) ?_ ?_⟩
  rotate_left
  ·rintro D i y r σ' H2 hy ⟨hD,sm,hDl,lr,u1,u2,rfl⟩
   obtain⟨t,ht,ta,rfl,qt⟩:=acts_at lc hy
   have hil:=(List.getElem?_eq_some_iff.mp ht).1
   have sA:=sm1.trans sm
   have hd2:=hds.same sA
   refine⟨ta,_,rfl,sA.tup qt,rfl,_,_,rfl,_,_,rfl,rfl,?_⟩
   refine⟨_,rfl,_,rfl,ds,_,rfl,hd2.get (some t.2),_,rfl,?_⟩
   have hsn:(v.acts.take (i+1)).filterMap (renA ms)=(v.acts.take i).filterMap (renA ms)++(renA ms t).toList:=by
    rw[List.take_succ,ht,List.filterMap_append]
    show _++List.filterMap (renA ms) [t]=_
    cases hz:renA ms t <;> simp [List.filterMap_cons,hz]
   have hrl:r.length≤12:=by
    rw[lr.length,List.length_map]
    have:=filterMap_len (renA ms) (v.acts.take i)
    rw[List.length_take] at this
    omega
   cases hz:lkp ms t.2 with
   | none=>
    have hn:renA ms t=none:=by unfold renA;rw[hz];rfl
    rw[hn] at hsn
    have e0:((some t.2).bind (lkp ms)).map V.int=none:=by show (lkp ms t.2).map V.int=_;rw[hz];rfl
    rw[e0]
    refine iteF ⟨hD,sm,hDl,?_,_,_,rfl⟩
    rw[hsn]
    show IsL K H2 (((v.acts.take i).filterMap (renA ms)++[]).map actD) r
    rw[List.append_nil];exact lr
   | some j=>
    have hn:renA ms t=some (t.1,j):=by unfold renA;rw[hz];rfl
    rw[hn] at hsn
    have e0:((some t.2).bind (lkp ms)).map V.int=some (.int j):=by show (lkp ms t.2).map V.int=_;rw[hz];rfl
    have g0:=hd2.get (some t.2)
    rw[e0] at g0 ⊢
    refine iteT ⟨_,rfl,_,rfl,_,rfl,ds,.int j,rfl,g0,(show 2≤sizeLine by decide),fun e he=>?_⟩
    have m1:=aK.new (o:=HO.tup [.str t.1,.int j]) he
    have i1:Is K (upd H2 e (.tup [.str t.1,.int j])) (actD (t.1,j)) (.ref e):=Is.tupOf (ds:=[.str t.1,.int j]) (bH.of aB) (.cons (Is.s _) (.cons (Is.i _) .nil))
    generalize upd H2 e (.tup [.str t.1,.int j])=H3 at m1 i1 ⊢
    have hDl2:=m1 _ _ hDl
    have muD:Mut (H3 D):=by rw[hDl2];exact trivial
    refine⟨hDl2,aT (by omega),hD,(sm.trans m1).put hD,aB,?_,_,_,rfl⟩
    rw[hsn,List.map_append]
    exact L2.IsL.snoc (Is.mono (cB.ts cB.upd muD) _ _ i1) (L2.IsL.mono (m1.ts.trans (cB.ts cB.upd muD)) _ _ lr)
  rintro D2 r2 σ' H2 ⟨hD2,sm2,hDl2,lr2,_⟩
  rw[ecl,List.take_length] at lr2
  refine⟨_,rfl,_,rfl,_,rfl,D1,_,rfl,.inl ⟨cE.of (sm2 _ _ hDl1),fun p1 hp1=>?_⟩⟩
  have m3:=aK.new (o:=HO.tup r1) hp1
  have t3:bH K (upd H2 p1 (.tup r1)) p1 r1:=bH.of aB
  generalize upd H2 p1 (.tup r1)=H3 at m3 t3 ⊢
  have s03:=(sm1.trans sm2).trans m3
  have hd3:=hdv.same s03
  refine⟨_,rfl,_,rfl,dv,rfl,hd3.isD,_,rfl,_,hd3.get v.spill,_,rfl,D2,_,rfl,.inl ⟨cE.of (m3 _ _ hDl2),fun p2 hp2=>⟨(show 6≤sizeLine by decide),fun p hp=>?_⟩⟩⟩
  rw[getD_tg]
  have m4:=aK.new (o:=HO.tup r2) hp2
  have t4:bH K (upd H3 p2 (.tup r2)) p2 r2:=bH.of aB
  generalize upd H3 p2 (.tup r2)=H4 at m4 t4 hp ⊢
  have m5:=aK.new (o:=HO.tup [.int v.size,.int v.brim,.ref p1,.bl v.holds,tgV (v.spill.bind (lkp nv)),.ref p2]) hp
  refine k _ _ ((s03.trans m4).trans m5) ?_
  exact Is.tupOf (ds:=[.int v.size,.int v.brim,.tup ((v.outs.map (renO nv)).map outD),.bl v.holds,tgD (v.spill.bind (lkp nv)),.tup ((v.acts.filterMap (renA ms)).map actD)]) (bH.of aB)
   (.cons (Is.i _) (.cons (Is.i _) (.cons (Is.tupOf ((m4.trans m5).tup t3) (L2.IsL.mono (((sm2.trans m3).trans m4).trans m5).ts _ _ lr1)) (.cons (Is.b _) (.cons (Is.tgOf _) (.cons (Is.tupOf (m5.tup t4) (L2.IsL.mono ((m3.trans m4).trans m5).ts _ _ lr2)) .nil))))))
end
end Tw
namespace Tw
open PySem L2
noncomputable def dL (n:Nat) (f:Nat→Int):Int:=((List.range n).map f).sum
theorem sumN22_succ (n:Nat) (f:Nat→Int):dL (n+1) f=dL n f+f n:=by
 unfold dL;rw[List.range_succ,List.map_append,List.sum_append];simp
theorem sumN22_cons (f:Nat→Int):∀ n:Nat,dL (n+1) f=f 0+dL n fun k=>f (k+1)
 | 0=>by simp [dL]
 | n+1=>by rw[sumN22_succ,sumN22_cons f n,sumN22_succ n fun k=>f (k+1)];omega
theorem sumN22_congr {n:Nat}{f g:Nat→Int} (h:∀ k,k < n→f k=g k):dL n f=dL n g:=by
 unfold dL
 congr 1
 exact List.map_congr_left fun k hk=>h k (List.mem_range.1 hk)
theorem sum_filter (p:Nat→Bool) (f:Nat→Int):∀ l:List Nat,(∀ k∈l,p k=false→f k=0)→((l.filter p).map f).sum=(l.map f).sum
 | [],_=>rfl
 | k::l,h=>by
  have ih:=sum_filter p f l fun k hk=>h k (List.mem_cons_of_mem _ hk)
  cases e:p k with
  | true=>rw[List.filter_cons_of_pos e,List.map_cons,List.map_cons,List.sum_cons,List.sum_cons,ih]
  | false=>rw[List.filter_cons_of_neg (by simp [e]),List.map_cons,List.sum_cons,ih,h k List.mem_cons_self e];omega
theorem sumN22_list (l:List Nat) (f:Nat→Int):(l.map f).sum=dL l.length fun q=>f (l.getD q 0):=by
 induction l with
 | nil=>rfl
 | cons a l ih=>rw[List.map_cons,List.sum_cons,ih,List.length_cons,sumN22_cons];rfl
theorem fold_filter {β:Type} (p:Nat→Bool) (f:β→Nat→β):∀ (l:List Nat) (b:β),(∀ k∈l,p k=false→∀ b,f b k=b)→(l.filter p).foldl f b=l.foldl f b
 | [],_,_=>rfl
 | k::l,b,h=>by
  have ih:=fun b=>fold_filter p f l b fun k hk=>h k (List.mem_cons_of_mem _ hk)
  cases e:p k with
  | true=>rw[List.filter_cons_of_pos e,List.foldl_cons,List.foldl_cons,ih]
  | false=>rw[List.filter_cons_of_neg (by simp [e]),List.foldl_cons,ih,h k List.mem_cons_self e]
theorem up_filter:∀ (n:Nat) (S:List Nat),S.Pairwise (· < ·)→(∀ y∈S,y < n)→S=(List.range n).filter fun k=>decide (k∈S):=by
 intro n S up lt
 have h2:((List.range n).filter fun k=>decide (k∈S)).Pairwise (· < ·):=List.Pairwise.filter _ List.pairwise_lt_range
 have hm:∀ x,x∈S↔x∈(List.range n).filter fun k=>decide (k∈S):=fun x=>by
  rw[List.mem_filter,List.mem_range]
  exact⟨fun h=>⟨lt x h,by simpa using h⟩,fun h=>by simpa using h.2⟩
 generalize (List.range n).filter (fun k=>decide (k∈S))=T at h2 hm
 clear lt
 induction S generalizing T with
 | nil=>
  cases T with
  | nil=>rfl
  | cons y T=>exact absurd ((hm y).2 List.mem_cons_self) (by simp)
 | cons x S ih=>
  cases T with
  | nil=>exact absurd ((hm x).1 List.mem_cons_self) (by simp)
  | cons y T=>
   rw[List.pairwise_cons] at up h2
   have exy:x=y:=by
    have hx:=(hm x).1 List.mem_cons_self
    have hy:=(hm y).2 List.mem_cons_self
    rcases List.mem_cons.1 hx with z | z
    ·exact z
    ·rcases List.mem_cons.1 hy with z' | z'
     ·exact z'.symm
     ·have:=h2.1 x z
      have:=up.1 y z'
      omega
   subst exy
   rw[ih up.2 T h2.2 fun z=>⟨fun hz=>?_,fun hz=>?_⟩]
   ·rcases List.mem_cons.1 ((hm z).1 (List.mem_cons_of_mem _ hz)) with q | q
    ·subst q;exact absurd (up.1 z hz) (Nat.lt_irrefl _)
    ·exact q
   ·rcases List.mem_cons.1 ((hm z).2 (List.mem_cons_of_mem _ hz)) with q | q
    ·subst q;exact absurd (h2.1 z hz) (Nat.lt_irrefl _)
    ·exact q
noncomputable def sNil:Spt:=(0,0,false)
noncomputable def flowAt (ss:List Spt) (ds:List Bool) (j:Nat) (k:Nat):Int:=if ds.getD k false=true∧(ss.getD k sNil).1=(j:Int) then (ss.getD k sNil).2.1 else 0
theorem fill_at (j:Nat):∀ (ss:List Spt) (ds:List Bool) (has:List Int),ss.length=ds.length→(∀ s∈ss,0≤s.1∧s.1 < has.length)→(fillL has ss ds).getD j 0=has.getD j 0+dL ss.length (flowAt ss ds j)
 | [],[],has,_,_=>by simp [fillL,dL]
 | [],_::_,_,h,_=>by simp at h
 | _::_,[],_,h,_=>by simp at h
 | s::ss,d::ds,has,h,hs=>by
  have h0:=hs s List.mem_cons_self
  have ih:=fill_at j ss ds (fill1 has s d) (by simpa using h) fun x hx=>by rw[fill1_len];exact hs x (List.mem_cons_of_mem _ hx)
  show (fillL (fill1 has s d) ss ds).getD j 0=_
  rw[ih,List.length_cons,sumN22_cons]
  have e:(fill1 has s d).getD j 0=has.getD j 0+flowAt (s::ss) (d::ds) j 0:=by
   unfold fill1 flowAt
   show (if d=true then has.set s.1.toNat (has.getD s.1.toNat 0+s.2.1) else has).getD j 0=has.getD j 0+if d=true∧s.1=(j:Int) then s.2.1 else 0
   cases d with
   | false=>simp
   | true=>
    rw[if_pos rfl]
    by_cases c:s.1=(j:Int)
    ·rw[if_pos ⟨rfl,c⟩,c,Int.toNat_natCast,List.getD_eq_getElem?_getD,List.getElem?_set_self (by omega)];rfl
    ·rw[if_neg (fun z=>c z.2),List.getD_eq_getElem?_getD,List.getElem?_set_ne (by omega),← List.getD_eq_getElem?_getD];omega
  rw[e,Int.add_assoc];rfl
theorem add3_at (j:Nat):∀ (a b c:List Int),a.length=b.length→a.length=c.length→(add3 a b c).getD j 0=a.getD j 0+b.getD j 0+c.getD j 0
 | [],[],[],_,_=>by simp [add3]
 | x::a,y::b,z::c,h1,h2=>by
  show ((x+y+z)::add3 a b c).getD j 0=_
  cases j with
  | zero=>rfl
  | succ j=>exact add3_at j a b c (by simpa using h1) (by simpa using h2)
 | [],[],_::_,_,h=>by simp at h
 | [],_::_,_,h,_=>by simp at h
 | _::_,[],_,h,_=>by simp at h
 | _::_,_::_,[],_,h=>by simp at h
theorem has_at {net:Net}{h c p:List Int}{d:List Bool} (ok:NetOk net) (st:StOk net h c d) (pl:p.length=net.vs.length) (j:Nat) :
  (bB net h c p d).getD j 0=h.getD j 0+c.getD j 0+p.getD j 0+dL net.sps.length (flowAt net.sps d j):=by
 unfold bB
 rw[fill_at j net.sps d _ st.d.symm fun s hs=>by rw[add3_len st.h st.c pl];exact ok.sps s hs,add3_at j h c p (by rw[st.h,st.c]) (by rw[st.h,pl])]
theorem has_len {net:Net}{h c p:List Int}{d:List Bool} (st:StOk net h c d) (pl:p.length=net.vs.length):(bB net h c p d).length=net.vs.length:=by
 unfold bB;rw[fillL_len,add3_len st.h st.c pl]
theorem goes_at (t:Option Int):∀ (vs:List Vs) (hs:List Int),vs.length=hs.length→bJ t (dX vs hs)=dL vs.length fun i=>bJ t (dP (vs.getD i cO) (hs.getD i 0))
 | [],[],_=>rfl
 | [],_::_,h=>by simp at h
 | _::_,[],h=>by simp at h
 | v::vs,a::hs,h=>by
  show bJ t (dP v a++dX vs hs)=_
  rw[sumFor_append,goes_at t vs hs (by simpa using h),List.length_cons,sumN22_cons];rfl
theorem stays_at:∀ (vs:List Vs) (hs:List Int) (j:Nat),vs.length=hs.length→j < vs.length→(eA vs hs).getD j 0=vStay (vs.getD j cO) (hs.getD j 0)
 | [],_,j,_,h=>by simp at h
 | _::_,[],_,h,_=>by simp at h
 | v::vs,a::hs,0,_,_=>rfl
 | v::vs,a::hs,j+1,h,hj=>stays_at vs hs j (by simpa using h) (by simpa using hj)
theorem tipsL_at22:∀ (i:Nat) (vs:List Vs) (hs:List Int),vs.length=hs.length→cJ i vs hs=((List.range vs.length).filter fun j=>dO (vs.getD j cO) (hs.getD j 0)).map (i + ·)
 | _,[],[],_=>rfl
 | _,[],_::_,h=>by simp at h
 | _,_::_,[],h=>by simp at h
 | i,v::vs,a::hs,h=>by
  have ih:=tipsL_at22 (i+1) vs hs (by simpa using h)
  rw[List.length_cons,List.range_succ_eq_map]
  have e:((List.map Nat.succ (List.range vs.length)).filter fun j=>dO ((v::vs).getD j cO) ((a::hs).getD j 0))=((List.range vs.length).filter fun j=>dO (vs.getD j cO) (hs.getD j 0)).map Nat.succ:=by
   rw[List.filter_map];rfl
  have e2:∀ l:List Nat,(l.map Nat.succ).map (i + ·)=l.map (i+1 + ·):=fun l=>by
   rw[List.map_map];exact List.map_congr_left fun k _=>by show i+(k+1)=i+1+k;omega
  show (if dO v a=true then i::cJ (i+1) vs hs else cJ (i+1) vs hs)=_
  by_cases c:dO v a=true
  ·rw[if_pos c,List.filter_cons_of_pos (by exact c),e,List.map_cons,e2,ih];rfl
  ·rw[if_neg c,List.filter_cons_of_neg (by exact c),e,e2,ih]
noncomputable def actW (w:Str) (b:Bool):Bool:=if w = "open" then true else if w = "turn" then !b else false
noncomputable def eK (k:Nat) (as:List (Str×Int)) (b:Bool):Bool:=as.foldl (fun b a=>if a.2.toNat=k then actW a.1 b else b) b
theorem actsL_at22 (k:Nat):∀ (as:List (Str×Int)) (ds:List Bool),k < ds.length→(dF ds as).getD k false=eK k as (ds.getD k false)
 | [],_,_=>rfl
 | a::as,ds,h=>by
  show (dF (act1 ds a) as).getD k false=eK k as (if a.2.toNat=k then actW a.1 (ds.getD k false) else ds.getD k false)
  rw[actsL_at22 k as (act1 ds a) (by unfold act1;rw[List.length_set];exact h)]
  congr 1
  unfold act1
  by_cases c:a.2.toNat=k
  ·rw[if_pos c,c,List.getD_eq_getElem?_getD,List.getElem?_set_self h];rfl
  ·rw[if_neg c,List.getD_eq_getElem?_getD,List.getElem?_set_ne c,← List.getD_eq_getElem?_getD]
theorem actsL_len22 (as:List (Str×Int)):∀ ds:List Bool,(dF ds as).length=ds.length:=by
 induction as with
 | nil=>intro ds;rfl
 | cons a as ih=>intro ds;show (dF (act1 ds a) as).length=_;rw[ih];unfold act1;rw[List.length_set]
theorem doors_at (vs:List Vs) (k:Nat):∀ (tip:List Nat) (ds:List Bool),k < ds.length→(∀ i∈tip,i < vs.length)→(cG vs ds tip).getD k false=tip.foldl (fun b i=>eK k (vs.getD i cO).acts b) (ds.getD k false)
 | [],_,_,_=>rfl
 | i::tip,ds,h,ht=>by
  have hi:=ht i List.mem_cons_self
  have e:vs[i]? = some (vs.getD i cO):=by rw[List.getD_eq_getElem?_getD,List.getElem?_eq_getElem hi];rfl
  show (cG vs (match vs[i]? with | some v=>dF ds v.acts | none=>ds) tip).getD k false=_
  rw[e]
  show (cG vs (dF ds (vs.getD i cO).acts) tip).getD k false=_
  rw[doors_at vs k tip _ (by rw[actsL_len22];exact h) fun i hi=>ht i (List.mem_cons_of_mem _ hi),actsL_at22 k _ ds h];rfl
theorem later_at (n:Nat) (gs:List (Option Int×Int)) {k:Nat} (h:k < n):(laterL n gs).getD k 0=bJ (some (k:Int)) gs:=by
 unfold laterL
 rw[List.getD_eq_getElem?_getD,List.getElem?_map,List.getElem?_range h];rfl
theorem tick_tip {net:Net}{h c p:List Int}{d:List Bool} (st:StOk net h c d) (pl:p.length=net.vs.length) :
  (cZ net h c p d).tip=(List.range net.vs.length).filter fun j=>dO (net.vs.getD j cO) ((bB net h c p d).getD j 0):=by
 show cJ 0 net.vs (bB net h c p d)=_
 rw[tipsL_at22 0 net.vs _ (has_len st pl).symm]
 simp
theorem tick_held {net:Net}{h c p:List Int}{d:List Bool} (st:StOk net h c d) (pl:p.length=net.vs.length) {j:Nat} (hj:j < net.vs.length) :
  (cZ net h c p d).held.getD j 0=vStay (net.vs.getD j cO) ((bB net h c p d).getD j 0):=stays_at _ _ j (has_len st pl).symm hj
theorem tick_coming {net:Net}{h c p:List Int}{d:List Bool} (st:StOk net h c d) (pl:p.length=net.vs.length) {j:Nat} (hj:j < net.vs.length) :
  (cZ net h c p d).coming.getD j 0=dL net.vs.length fun i=>bJ (some (j:Int)) (dP (net.vs.getD i cO) ((bB net h c p d).getD i 0)):=by
 show (laterL net.vs.length _).getD j 0=_
 rw[later_at _ _ hj,goes_at _ _ _ (has_len st pl).symm]
theorem tick_doors {net:Net}{h c p:List Int}{d:List Bool} (st:StOk net h c d) (pl:p.length=net.vs.length) {k:Nat} (hk:k < net.sps.length) :
  (cZ net h c p d).doors.getD k false=(List.range net.vs.length).foldl (fun b i=>if dO (net.vs.getD i cO) ((bB net h c p d).getD i 0)=true then eK k (net.vs.getD i cO).acts b else b) (d.getD k false):=by
 show (cG net.vs d (cZ net h c p d).tip).getD k false=_
 rw[doors_at net.vs k _ d (by rw[st.d];exact hk) fun i hi=>?_]
 ·rw[tick_tip st pl,List.foldl_filter]
 ·rw[tick_tip st pl] at hi
  exact List.mem_range.1 (List.mem_filter.1 hi).1
theorem addTips_at (p:Nat):∀ (l:List (Int×Nat)) (ts:List (List Int)),p < ts.length→(l.foldl addTip ts).getD p []=ts.getD p []++(l.filter fun t=>decide (t.2=p)).map (·.1)
 | [],_,_=>by simp
 | t::l,ts,h=>by
  rw[List.foldl_cons,addTips_at p l (addTip ts t) (by unfold addTip;rw[List.length_set];exact h)]
  unfold addTip
  by_cases c:t.2=p
  ·rw[List.filter_cons_of_pos (by simpa using c),c,List.getD_eq_getElem?_getD,List.getElem?_set_self h,List.map_cons]
   show (ts.getD p []++[t.1])++_=_
   rw[List.append_assoc];rfl
  ·rw[List.filter_cons_of_neg (by simpa using c),List.getD_eq_getElem?_getD,List.getElem?_set_ne c,← List.getD_eq_getElem?_getD]
theorem tip_row (tk:Int) (p:Nat):∀ l:List Nat,l.Nodup→((l.map fun k=>(tk,k)).filter fun t=>decide (t.2=p)).map (·.1)=if p∈l then [tk] else []
 | [],_=>rfl
 | k::l,nd=>by
  rw[List.nodup_cons] at nd
  have ih:=tip_row tk p l nd.2
  rw[List.map_cons]
  by_cases c:k=p
  ·subst c
   rw[List.filter_cons_of_pos (by simp),List.map_cons,ih,if_neg nd.1,if_pos List.mem_cons_self]
  ·rw[List.filter_cons_of_neg (by simpa using c),ih]
   by_cases e:p∈l
   ·rw[if_pos e,if_pos (List.mem_cons_of_mem _ e)]
   ·rw[if_neg e,if_neg (fun z=>(List.mem_cons.1 z).elim (fun q=>c q.symm) e)]
theorem go_tips {S:RunS} (ok:RunOk S) {p:Nat} (h:p < S.net.vs.length):(S.go 1).tips.getD p []=S.tips.getD p []++if dO (S.net.vs.getD p cO) ((bB S.net S.cur.held S.cur.coming S.cur.poured S.cur.doors).getD p 0)=true then [S.cur.tick] else []:=by
 show (([]++tipsAt S.net S.cur).foldl addTip S.tips).getD p []=_
 rw[List.nil_append,addTips_at p _ _ (by rw[ok.tl];exact h)]
 unfold tipsAt
 have e:(S.cur.tk S.net).tip=_:=tick_tip ok.cur.st ok.cur.pl
 rw[e,tip_row _ _ _ (List.Pairwise.filter _ List.nodup_range)]
 congr 1
 by_cases c:dO (S.net.vs.getD p cO) ((bB S.net S.cur.held S.cur.coming S.cur.poured S.cur.doors).getD p 0)=true
 ·rw[if_pos c,if_pos (List.mem_filter.2 ⟨List.mem_range.2 h,c⟩)]
 ·rw[if_neg c,if_neg]
  intro z
  exact c (List.mem_filter.1 z).2
end Tw
namespace Tw
open PySem L2
noncomputable def vAt (net:Net) (k:Nat):Vs:=net.vs.getD k ⟨1,1,[],false,none,[]⟩
noncomputable def spAt (net:Net) (k:Int):Int:=(net.sps.getD k.toNat (0,0,false)).1
noncomputable def cL (net:Net) (v:Vs):List (Option Int):=v.outs.map (·.1)++[v.spill]++v.acts.map fun a=>some (spAt net a.2)
noncomputable def dN (net:Net) (x:Nat) (f:List Nat):Nat→List Nat
 | 0=>f
 | k+1=>if k∉dN net x f k∧some (x:Int)∈cL net (vAt net k) then dN net x f k++[k] else dN net x f k
theorem growT_succ (net:Net) (x:Nat) (f:List Nat) (k:Nat):dN net x f (k+1)=if k∉dN net x f k∧some (x:Int)∈cL net (vAt net k) then dN net x f k++[k] else dN net x f k:=rfl
theorem growT_pre (net:Net) (x:Nat) (f:List Nat):∀ k,∃ g,dN net x f k=f++g
 | 0=>⟨[],by rw[List.append_nil];rfl⟩
 | k+1=>by
  obtain⟨g,e⟩:=growT_pre net x f k
  rw[growT_succ]
  split
  ·exact⟨g++[k],by rw[e,List.append_assoc]⟩
  ·exact⟨g,e⟩
theorem growT_ok {net:Net}{x n:Nat}{f:List Nat} (nd:f.Nodup) (hf:∀ y∈f,y < n):∀ k,k≤n→(dN net x f k).Nodup∧∀ y∈dN net x f k,y < n
 | 0,_=>⟨nd,hf⟩
 | k+1,hk=>by
  obtain⟨h1,h2⟩:=growT_ok (net:=net) (x:=x) nd hf k (by omega)
  rw[growT_succ]
  split
  ·rename_i c
   refine⟨?_,fun y hy=>?_⟩
   ·rw[List.nodup_append]
    refine⟨h1,by simp,fun a ha b hb e=>?_⟩
    have:=List.mem_singleton.1 hb
    subst this e
    exact c.1 ha
   ·rcases List.mem_append.1 hy with z | z
    ·exact h2 y z
    ·have:=List.mem_singleton.1 z
     omega
  ·exact⟨h1,h2⟩
theorem nodup_le:∀ (n:Nat) (l:List Nat),l.Nodup→(∀ y∈l,y < n)→l.length≤n
 | 0,[],_,_=>Nat.le_refl _
 | 0,x::l,_,h=>absurd (h x List.mem_cons_self) (Nat.not_lt_zero _)
 | n+1,l,nd,h=>by
  have ih:=nodup_le n (l.erase n) (nd.erase n) fun y hy=>by
   have h1:=nd.mem_erase_iff.1 hy
   have:=h y h1.2
   omega
  by_cases m:n∈l
  ·rw[List.length_erase_of_mem m] at ih
   omega
  ·rw[List.erase_of_not_mem m] at ih
   omega
noncomputable def walkM (net:Net):Nat→Nat→List Nat→List Nat
 | 0,_,f=>f
 | fuel+1,p,f=>match f[p]? with
  | none=>f
  | some x=>walkM net fuel (p+1) (dN net x f net.vs.length)
theorem walkM_go {net:Net}{fuel p x:Nat}{f:List Nat} (h:f[p]? = some x):walkM net (fuel+1) p f=walkM net fuel (p+1) (dN net x f net.vs.length):=by
 show (match f[p]? with | none=>f | some x=>walkM net fuel (p+1) (dN net x f net.vs.length))=_
 rw[h]
theorem walkM_end {net:Net}{fuel p:Nat}{f:List Nat} (h:f.length≤p):walkM net fuel p f=f:=by
 cases fuel with
 | zero=>rfl
 | succ fuel=>
  show (match f[p]? with | none=>f | some x=>walkM net fuel (p+1) (dN net x f net.vs.length))=_
  rw[List.getElem?_eq_none h]
noncomputable def dG (net:Net) (w:Nat):List Nat:=walkM net 13 0 [w]
structure WalkAt (net:Net) (w p:Nat) (f:List Nat):Prop where
 nd:f.Nodup
 lt:∀ y∈f,y < net.vs.length
 has:w∈f
 le:p≤f.length
 eq:walkM net (13 - p) p f=dG net w
theorem WalkAt.first {net:Net}{w:Nat} (h:w < net.vs.length):WalkAt net w 0 [w]:=
 ⟨by simp,fun y hy=>by have:=List.mem_singleton.1 hy;omega,List.mem_singleton.2 rfl,Nat.zero_le _,rfl⟩
theorem WalkAt.len {net:Net}{w p:Nat}{f:List Nat} (a:WalkAt net w p f):f.length≤net.vs.length:=nodup_le _ _ a.nd a.lt
theorem WalkAt.go {net:Net}{w p x:Nat}{f:List Nat} (a:WalkAt net w p f) (h12:net.vs.length≤12) (h:f[p]? = some x):WalkAt net w (p+1) (dN net x f net.vs.length):=by
 have hl:=a.len
 have hp:=(List.getElem?_eq_some_iff.mp h).1
 obtain⟨h1,h2⟩:=growT_ok (net:=net) (x:=x) a.nd a.lt net.vs.length (Nat.le_refl _)
 obtain⟨g,e⟩:=growT_pre net x f net.vs.length
 refine⟨h1,h2,by rw[e];exact List.mem_append_left _ a.has,by rw[e,List.length_append];omega,?_⟩
 rw[← a.eq,show 13 - p=(13 - (p+1))+1 by omega,walkM_go h]
theorem WalkAt.done {net:Net}{w p:Nat}{f:List Nat} (a:WalkAt net w p f) (h:f.length≤p):f=dG net w:=by
 rw[← a.eq,walkM_end h]
theorem mat_at {net:Net}{w:Nat} (h12:net.vs.length≤12):∀ (m p:Nat) (f:List Nat),WalkAt net w p f→13 - p=m→∃ p',WalkAt net w p' (dG net w)
 | 0,p,f,a,e=>by
  have:=a.len;have:=a.le
  omega
 | m+1,p,f,a,e=>by
  rcases Nat.lt_or_ge p f.length with z | z
  ·exact mat_at h12 m (p+1) _ (a.go h12 (List.getElem?_eq_getElem z)) (by omega)
  ·exact⟨p,a.done z ▸ a⟩
theorem mat_ok {net:Net}{w:Nat} (h12:net.vs.length≤12) (h:w < net.vs.length):(dG net w).Nodup∧(∀ y∈dG net w,y < net.vs.length)∧w∈dG net w:=by
 obtain⟨p,a⟩:=mat_at h12 13 0 _ (WalkAt.first h) rfl
 exact⟨a.nd,a.lt,a.has⟩
end Tw
namespace TwS
open PySem
noncomputable def Up (xs:Array Nat):Prop:=∀ i j a b:Nat,i < j→xs[i]? = some a→xs[j]? = some b→a < b
theorem below_go (xs:Array Nat) (h:Up xs) (j:Nat):∀ (fuel lo hi:Nat),hi≤xs.size→lo≤hi→hi - lo≤fuel→(∀ i a,i < lo→xs[i]? = some a→a < j)→(∀ i a,hi≤i→xs[i]? = some a→j≤a)→
  (∀ i a,i < SetTable.below.go xs j fuel lo hi→xs[i]? = some a→a < j)∧(∀ i a,SetTable.below.go xs j fuel lo hi≤i→xs[i]? = some a→j≤a)∧SetTable.below.go xs j fuel lo hi≤xs.size
 | 0,lo,hi,h1,h2,h3,l,r=>by
  have:lo=hi:=by omega
  subst this
  show (∀ i a,i < lo→_)∧(∀ i a,lo≤i→_)∧lo≤_
  exact⟨l,r,h1⟩
 | fuel+1,lo,hi,h1,h2,h3,l,r=>by
  have e0:SetTable.below.go xs j (fuel+1) lo hi=if lo < hi then (if xs.getD ((lo+hi) / 2) j < j then SetTable.below.go xs j fuel ((lo+hi) / 2+1) hi else SetTable.below.go xs j fuel lo ((lo+hi) / 2)) else lo:=rfl
  rw[e0]
  by_cases hlt:lo < hi
  ·rw[if_pos hlt]
   have hm:(lo+hi) / 2 < xs.size:=by omega
   have hg:xs[(lo+hi) / 2]? = some (xs.getD ((lo+hi) / 2) j):=by
    rw[Array.getElem?_eq_getElem hm,Array.getD_eq_getD_getElem?,Array.getElem?_eq_getElem hm];rfl
   by_cases hc:xs.getD ((lo+hi) / 2) j < j
   ·rw[if_pos hc]
    refine below_go xs h j fuel ((lo+hi) / 2+1) hi h1 (by omega) (by omega) (fun i a hi' e=>?_) r
    rcases Nat.lt_or_ge i ((lo+hi) / 2) with z | z
    ·exact Nat.lt_trans (h _ _ _ _ z e hg) hc
    ·have:i=(lo+hi) / 2:=by omega
     subst this
     rw[hg] at e;cases e;exact hc
   ·rw[if_neg hc]
    refine below_go xs h j fuel lo ((lo+hi) / 2) (by omega) (by omega) (by omega) l (fun i a hi' e=>?_)
    rcases Nat.lt_or_ge ((lo+hi) / 2) i with z | z
    ·exact Nat.le_trans (Nat.le_of_not_lt hc) (Nat.le_of_lt (h _ _ _ _ z hg e))
    ·have:i=(lo+hi) / 2:=by omega
     subst this
     rw[hg] at e;cases e;exact Nat.le_of_not_lt hc
  ·rw[if_neg hlt]
   have:lo=hi:=by omega
   subst this
   exact⟨l,r,h1⟩
theorem below_at {xs:Array Nat} (h:Up xs) (j:Nat):(∀ i a,i < SetTable.below xs j→xs[i]? = some a→a < j)∧(∀ i a,SetTable.below xs j≤i→xs[i]? = some a→j≤a)∧SetTable.below xs j≤xs.size:=
 below_go xs h j xs.size 0 xs.size (Nat.le_refl _) (Nat.zero_le _) (by omega) (fun i a hi _=>absurd hi (Nat.not_lt_zero _)) (fun i a hi e=>by
  have:=(Array.getElem?_eq_some_iff.mp e).1
  omega)
theorem below_next {xs:Array Nat} (h:Up xs) {i a:Nat} (e:xs[i]? = some a):SetTable.below xs (a+1)=i+1:=by
 obtain⟨h1,h2,h3⟩:=below_at h (a+1)
 have hi:=(Array.getElem?_eq_some_iff.mp e).1
 rcases Nat.lt_trichotomy (SetTable.below xs (a+1)) (i+1) with z | z | z
 ·have:=h2 i a (by omega) e;omega
 ·exact z
 ·have hlt:i+1 < xs.size:=by omega
  have e2:xs[i+1]? = some xs[i+1]:=Array.getElem?_eq_getElem hlt
  have l1:=h1 (i+1) _ z e2
  have l2:=h i (i+1) _ _ (Nat.lt_succ_self _) e e2
  omega
theorem below_0 {xs:Array Nat} (h:Up xs):SetTable.below xs 0=0:=by
 obtain⟨h1,_,h3⟩:=below_at h 0
 rcases Nat.eq_zero_or_pos (SetTable.below xs 0) with z | z
 ·exact z
 ·have e2:xs[0]? = some xs[0]:=Array.getElem?_eq_getElem (by omega)
  have:=h1 0 _ z e2
  omega
theorem up_nil:Up #[]:=fun i j a b _ e _=>by simp at e
theorem up_list {xs:Array Nat}:Up xs↔xs.toList.Pairwise (· < ·):=by
 rw[List.pairwise_iff_getElem]
 constructor
 ·intro h i j hi hj hij
  exact h i j _ _ hij (by rw[← Array.getElem?_toList];exact List.getElem?_eq_getElem hi) (by rw[← Array.getElem?_toList];exact List.getElem?_eq_getElem hj)
 ·intro h i j a b hij e1 e2
  rw[← Array.getElem?_toList] at e1 e2
  obtain⟨p1,rfl⟩:=List.getElem?_eq_some_iff.mp e1
  obtain⟨p2,rfl⟩:=List.getElem?_eq_some_iff.mp e2
  exact h i j p1 p2 hij
theorem up_put {xs:Array Nat} (h:Up xs) {j:Nat} (hn:xs[SetTable.below xs j]?≠some j):Up (SetTable.insertAt xs (SetTable.below xs j) j):=by
 obtain⟨h1,h2,h3⟩:=below_at h j
 rw[up_list,SetTable.toList_insertAt,List.pairwise_append,List.pairwise_cons]
 have hl:=up_list.1 h
 refine⟨hl.take,⟨fun a ha=>?_,hl.drop⟩,fun a ha b hb=>?_⟩
 ·obtain⟨i,hi⟩:=List.mem_iff_getElem?.1 ha
  rw[List.getElem?_drop,Array.getElem?_toList] at hi
  have le:=h2 _ _ (Nat.le_add_right _ _) hi
  rcases Nat.lt_or_ge j a with z | z
  ·exact z
  ·have ej:j=a:=by omega
   subst ej
   rcases Nat.eq_zero_or_pos i with e0 | e0
   ·subst e0;exact absurd hi hn
   ·have hlt:SetTable.below xs j < xs.size:=by
     have:=(Array.getElem?_eq_some_iff.mp hi).1;omega
    have e2:xs[SetTable.below xs j]? = some xs[SetTable.below xs j]:=Array.getElem?_eq_getElem hlt
    have l2:=h2 _ _ (Nat.le_refl _) e2
    have l3:=h _ _ _ _ (show SetTable.below xs j < SetTable.below xs j+i by omega) e2 hi
    omega
 ·obtain⟨i,hi⟩:=List.mem_iff_getElem?.1 ha
  rw[List.getElem?_take] at hi
  split at hi
  ·rename_i hlt
   rw[Array.getElem?_toList] at hi
   have l1:=h1 _ _ hlt hi
   rcases List.mem_cons.1 hb with z | z
   ·subst z;exact l1
   ·obtain⟨i2,hi2⟩:=List.mem_iff_getElem?.1 z
    rw[List.getElem?_drop,Array.getElem?_toList] at hi2
    have:=h2 _ _ (Nat.le_add_right _ _) hi2
    omega
  ·cases hi
theorem up_range (n:Nat):Up (Array.range n):=by
 rw[up_list,Array.toList_range]
 exact List.pairwise_lt_range
structure Tidy (b:Bool) (t:SetTable):Prop where
 led:t.led=b
 up:Up t.place
 dm:t.dummies = #[]
theorem tidy_fresh (b:Bool):Tidy b (.fresh 0 0 b):=⟨rfl,up_nil,rfl⟩
theorem tidy_stand {b:Bool}{t:SetTable} (h:Tidy b t) (n:Nat):Tidy b (t.standIn n):=⟨h.led,up_range n,rfl⟩
theorem tidy_or {b:Bool}{t:SetTable} (h:Tidy b t) (n:Nat):Tidy b (t.orStandIn n):=by
 unfold SetTable.orStandIn
 split
 ·exact h
 ·exact tidy_stand h n
theorem has_none (j:Nat):SetTable.has #[] j=false:=by
 unfold SetTable.has;simp
theorem slot_free {b:Bool}{t:SetTable} (h:Tidy b t) (j:Nat):t.slot j≠.dummy:=by
 unfold SetTable.slot
 rw[h.dm,has_none]
 dsimp only
 by_cases c:(t.place[SetTable.below t.place j]? == some j)=true
 ·rw[if_pos c];intro z;cases z
 ·rw[if_neg c,if_neg (by decide)];intro z;cases z
theorem probe_free {b:Bool}{t:SetTable} (h:Tidy b t) (hash:Int):∀ (fuel:Nat) (p:SetTable.Probe) (m:SetTable.Met),p.dummy=none→SetTable.probe.go t (fun _=>hash+1) hash fuel p=some m→
  ∃ j,m=.empty j none∧t.place[SetTable.below t.place j]?≠some j
 | 0,p,m,_,e=>by cases e
 | fuel+1,p,m,hd,e=>by
  unfold SetTable.probe.go at e
  have adv:(t.advance p).dummy=none:=by
   unfold SetTable.advance
   split <;> exact hd
  split at e
  ·rename_i hs
   cases e
   refine⟨p.j,by rw[hd],fun z=>?_⟩
   unfold SetTable.slot at hs
   simp [z] at hs
  ·rename_i hs
   exact absurd hs (slot_free h _)
  ·rename_i i hs
   split at e
   ·rename_i hh
    simp at hh
    omega
   ·exact probe_free h hash fuel _ m adv e
theorem tidy_new {b:Bool}{t:SetTable} (h:Tidy b t) (es:Array (Int×Value)) (hash:Int) (x:Value):Tidy b (layNew t es hash x).2.1:=by
 unfold layNew
 split
 ·rename_i slot wasDummy hf
  unfold SetTable.freeSlot at hf
  split at hf
  ·rename_i j dummy hp
   obtain⟨j',e,hn⟩:=probe_free h hash _ (t.probeStart hash) _ rfl hp
   cases e
   cases hf
   refine tidy_or (t:=(t.put _).1) ⟨h.led,up_put h.up hn,?_⟩ _
   show (if SetTable.has t.dummies _ then _ else t.dummies) = #[]
   rw[h.dm,has_none]
   rfl
  ·cases hf
 ·exact tidy_stand h _
theorem tidy_relay {b:Bool}{t:SetTable} (h:Tidy b t) (es:Array (Int×Value)) (n:Nat):Tidy b (relayAll t es n).2.1:=by
 unfold relayAll
 split
 ·rename_i t' order hr
  dsimp only
  split
  ·show Tidy b t'
   unfold SetTable.relaid SetTable.laid at hr
   obtain⟨owner,ho,e⟩:=Option.bind_eq_some_iff.mp hr
   cases e
   refine⟨h.led,?_,rfl⟩
   rw[up_list]
   dsimp only
   rw[List.pairwise_map,List.pairwise_filterMap]
   refine List.pairwise_lt_range.imp fun {a c} hac x hx y hy=>?_
   obtain⟨x',_,rfl⟩:=Option.map_eq_some_iff.mp hx
   obtain⟨y',_,rfl⟩:=Option.map_eq_some_iff.mp hy
   exact hac
  ·exact tidy_stand h _
 ·exact tidy_stand h _
end TwS
namespace TwS
open PySem PyProof.Rows
noncomputable def intOf:Value→Int
 | .int i _=>i
 | _=>0
structure Cnt (prog:Program) (w:World) (b:Bool) (L:List Int) (es:Array (Int×Value)) (t:SetTable):Prop where
 el:ElemsOf (intKind prog w) es.toList
 pm:(es.toList.map fun e=>intOf e.2).Perm L
 bd:es.size < scanBound
 ft:t.fits es.size=true
 td:Tidy b t
noncomputable def SetI (prog:Program) (w:World) (b:Bool) (h:Heap) (a:Addr) (L:List Int):Prop:=
 ∃ o es ep t,h.get? a=some o∧o.ExactSet∧o.data=.set es ep t∧Cnt prog w b L es t
section
variable {prog:Program}{w:World}{b:Bool}{A:Around}{E:Value→Shared→Prop}{s:Shared}{a:Addr}{L:List Int}
theorem el_int {es:List (Int×Value)} (h:ElemsOf (intKind prog w) es) {e:Int×Value} (he:e∈es):∃ i t,e.2=.int i t:=by
 obtain⟨⟨k,hk,_⟩,_⟩:=h e he
 obtain⟨t,z⟩:=Value.isInt_shape hk
 exact⟨k,t,z⟩
theorem is_int {es:List (Int×Value)} (h:ElemsOf (intKind prog w) es) {e:Int×Value} (he:e∈es) (k:Int):(intKind prog w).is k e.2=decide (intOf e.2=k):=by
 obtain⟨i,t,z⟩:=el_int h he
 rw[z]
 show (i == k)=decide (i=k)
 rfl
theorem mem_cnt {es:Array (Int×Value)}{t:SetTable} (c:Cnt prog w b L es t) (k:Int):k∈L↔∃ e∈es.toList,(intKind prog w).is k e.2=true:=by
 rw[← c.pm.mem_iff,List.mem_map]
 constructor
 ·rintro⟨e,he,z⟩
  exact⟨e,he,by rw[is_int c.el he];exact decide_eq_true z⟩
 ·rintro⟨e,he,z⟩
  rw[is_int c.el he] at z
  exact⟨e,he,of_decide_eq_true z⟩
theorem len_cnt {es:Array (Int×Value)}{t:SetTable} (c:Cnt prog w b L es t):es.size=L.length:=by
 rw[← c.pm.length_eq,List.length_map,Array.length_toList]
theorem cnt_store {o:Obj}{es es':Array (Int×Value)}{ep:Nat}{t t':SetTable}{h:Heap}{L':List Int} (g:h.get? a=some o) (x:o.ExactSet) (d:o.data=.set es ep t) (c:Cnt prog w b L' es' t') :
  (h.update a (Obj.putSet es' t')).get? a=some { o with data:=.set es' (ep+1) t' }∧SetI prog w b (h.update a (Obj.putSet es' t')) a L':=by
 have u:(h.update a (Obj.putSet es' t')).get? a=some { o with data:=.set es' (ep+1) t' }:=by
  have:=Heap.get?_update_self (Obj.putSet es' t') g (by rw[putSet_of es' t' d];rfl)
  rw[putSet_of es' t' d] at this
  exact this
 exact⟨u,_,_,_,_,u,x,rfl,c⟩
theorem gave_pass (q:Bool) {s1:Shared}{R:Unit→Shared→Prop} (h:R () s1):wpAny (model prog w) A (match q with | true=>rule "set.scan.the-table-gave-way" | false=>pure ()) R E s1:=by
 cases q
 ·exact wpAny_pure h
 ·exact wpAny_rule h
theorem add_int {k:Int}{tk:Tok}{R:Bool→Shared→Prop} (hS:SetI prog w b s.heap a L) (room:L.length+1 < scanBound)
  (hR:∀ h',Heap.SameBut a s.heap h'→SetI prog w b h' a (if k∈L then L else L++[k])→R (!decide (k∈L)) { s with heap:=h' }) :
  wpAny (model prog w) A (setAddHashed a (.int k tk) ((intKind prog w).hash k)) R E s:=by
 obtain⟨o,es,ep,t,g,x,d,c⟩:=hS
 have ln:=len_cnt c
 have isk:(intKind prog w).is k (.int k tk)=true:=intKind_is _ _ _ _
 have sc:(Value.int k tk).scannable=true:=rfl
 unfold setAddHashed setAddHashedIn
 refine wpAny_holding (wpAny_bind (wpAny_setState_of (prog:=prog) g d c.ft ?_))
 dsimp only
 rw[byScan_of sc c.bd c.el,if_pos rfl]
 unfold setAddByScan
 refine wpAny_bind (wpAny_bind (wpAny_rule (wpAny_bind (wpAny_setScan_of isk g d c.ft c.el ?_))))
 by_cases m:k∈L
 ·obtain⟨e,he,z⟩:=(mem_cnt c k).1 m
  cases q:es.toList.findIdx? (fun e=>(intKind prog w).is k e.2) with
  | none=>have:=List.findIdx?_eq_none_iff.mp q e he;rw[z] at this;cases this
  | some j=>
   have r:=hR s.heap (Heap.SameBut.refl a s.heap)
   rw[if_pos m,decide_eq_true m] at r
   exact wpAny_pure (wpAny_pure (r ⟨o,es,ep,t,g,x,d,c⟩))
 ·cases q:es.toList.findIdx? (fun e=>(intKind prog w).is k e.2) with
  | some j=>
   obtain⟨hj,z,_⟩:=List.findIdx?_eq_some_iff_getElem.mp q
   exact absurd ((mem_cnt c k).2 ⟨_,List.getElem_mem hj,z⟩) m
  | none=>
   dsimp only
   rw[if_neg m,decide_eq_false m] at hR
   have p1:=layNew_perm t es ((intKind prog w).hash k) (.int k tk)
   have f1:=layNew_fits t es ((intKind prog w).hash k) (.int k tk)
   have t1:=tidy_new c.td es ((intKind prog w).hash k) (.int k tk)
   generalize layNew t es ((intKind prog w).hash k) (.int k tk)=Y at p1 f1 t1 ⊢
   obtain⟨es1,tb1,wd,gv⟩:=Y
   dsimp only at p1 f1 t1 ⊢
   rw[Array.toList_push] at p1
   have c1:Cnt prog w b (L++[k]) es1 tb1:=by
    refine⟨(c.el.push isk sc).perm p1,?_,?_,f1,t1⟩
    ·refine (p1.map _).trans ?_
     rw[List.map_append]
     exact c.pm.append_right _
    ·rw[← Array.length_toList,p1.length_eq,List.length_append,Array.length_toList,ln]
     exact room
   have fin:∀ (tb2:SetTable),Cnt prog w b (L++[k]) es1 tb2→wpAny (model prog w) A (do
     storeSet a es1 tb2
     if (!wd && tb2.tooFull)=true then do
       (match (relayAll tb2 es1 (SetTable.grown es1.size)).2.2 with | true=>rule "set.scan.the-table-gave-way" | false=>pure ())
       storeSet a (relayAll tb2 es1 (SetTable.grown es1.size)).1 (relayAll tb2 es1 (SetTable.grown es1.size)).2.1
       pure (some true)
      else pure (some true)) (fun r s'=>wpAny (model prog w) A (match r with | some added=>pure added | none=>setAddHashedIn a (.int k tk) ((intKind prog w).hash k) 99999) R E s') E s:=by
    intro tb2 c2
    refine wpAny_bind (wpAny_storeSet_of g d ?_ (fits_of_scanBound c2.bd))
    obtain⟨g1,S1⟩:=cnt_store g x d c2
    have sb:=Heap.SameBut.update s.heap a (Obj.putSet es1 tb2)
    split
    ·have p3:=relayAll_perm tb2 es1 (SetTable.grown es1.size)
     have f3:=relayAll_fits tb2 es1 (SetTable.grown es1.size)
     have t3:=tidy_relay c2.td es1 (SetTable.grown es1.size)
     generalize relayAll tb2 es1 (SetTable.grown es1.size)=Y at p3 f3 t3 ⊢
     obtain⟨es3,tb3,gv3⟩:=Y
     dsimp only at p3 f3 t3 ⊢
     have c3:Cnt prog w b (L++[k]) es3 tb3:=⟨c2.el.perm p3,(p3.map _).trans c2.pm,by rw[← Array.length_toList,p3.length_eq,Array.length_toList];exact c2.bd,f3,t3⟩
     refine wpAny_bind (gave_pass gv3 (wpAny_bind (wpAny_storeSet_of g1 rfl ?_ (fits_of_scanBound c3.bd))))
     exact wpAny_pure (wpAny_pure (hR _ (sb.trans (Heap.SameBut.update _ a _)) (cnt_store g1 x rfl c3).2))
    ·exact wpAny_pure (wpAny_pure (hR _ sb S1))
   refine wpAny_bind (gave_pass gv ?_)
   split
   ·refine wpAny_bind ?_
    rw[hashByValue_scannable 8 sc]
    refine wpAny_pure ?_
    exact fin _ c1
   ·refine wpAny_bind (wpAny_pure ?_)
    exact fin _ c1
end
end TwS
namespace TwS
open PySem PySem.Spec PyProof.Rows
noncomputable def dd (val:Nat→Int):Nat→List Int
 | 0=>[]
 | i+1=>if val i∈dd val i then dd val i else dd val i++[val i]
theorem dd_succ (val:Nat→Int) (i:Nat):dd val (i+1)=if val i∈dd val i then dd val i else dd val i++[val i]:=rfl
theorem dd_len (val:Nat→Int):∀ i,(dd val i).length≤i
 | 0=>Nat.le_refl _
 | i+1=>by
  have ih:=dd_len val i
  rw[dd_succ]
  split
  ·omega
  ·rw[List.length_append,List.length_singleton];omega
theorem dd_mem (val:Nat→Int) (k:Int):∀ n,k∈dd val n↔∃ i,i < n∧val i=k
 | 0=>⟨fun z=>(by cases z),fun z=>(by obtain⟨i,hi,_⟩:=z;exact absurd hi (Nat.not_lt_zero _))⟩
 | n+1=>by
  have ih:=dd_mem val k n
  have key:k∈dd val (n+1)↔k∈dd val n∨val n=k:=by
   rw[dd_succ]
   split
   ·rename_i z
    exact⟨.inl,fun y=>y.elim id fun e=>e ▸ z⟩
   ·rw[List.mem_append,List.mem_singleton]
    exact⟨fun y=>y.imp id Eq.symm,fun y=>y.imp id Eq.symm⟩
  rw[key,ih]
  constructor
  ·rintro (⟨i,hi,e⟩ | e)
   ·exact⟨i,by omega,e⟩
   ·exact⟨n,by omega,e⟩
  ·rintro⟨i,hi,e⟩
   rcases Nat.lt_or_ge i n with z | z
   ·exact .inl ⟨i,z,e⟩
   ·have:i=n:=by omega
    subst this
    exact .inr e
theorem dd_nodup (val:Nat→Int):∀ n,(dd val n).Nodup
 | 0=>List.nodup_nil
 | n+1=>by
  have ih:=dd_nodup val n
  rw[dd_succ]
  split
  ·exact ih
  ·rename_i z
   rw[List.nodup_append]
   refine⟨ih,by simp,fun x hx y hy=>?_⟩
   rw[List.mem_singleton] at hy
   subst hy
   exact fun e=>z (e ▸ hx)
section
variable {prog:Program}{w:World}{b:Bool}{A:Around}{R:Result→Shared→Prop}{I:Addr}{fp wr:List Addr}{G:Array GenState→Array GenState→Prop}{n:Nat}{P:Nat→Value→Prop}{St:Nat→Shared→Prop}
theorem SetI.at {h h':Heap}{a:Addr}{L:List Int} (x:SetI prog w b h a L) (e:∀ o,h.get? a=some o→h'.get? a=some o):SetI prog w b h' a L:=by
 obtain⟨o,es,ep,t,g,r⟩:=x
 exact⟨o,es,ep,t,e o g,r⟩
theorem set_loop (Wk:WalksS prog w A.in1 I fp wr G n P St) (S:Addr) (off:S∉fp) (val:Nat→Int) (vals:∀ i v,P i v→∃ t,v=.int (val i) t) (small:n+1 < scanBound) :
  ∀ (m i:Nat) (s:Shared),n - i=m→i≤n→St i s→SetI prog w b s.heap S (dd val i)→(∀ s',Moved (S::wr) G s s'→SetI prog w b s'.heap S (dd val n)→R (.ok (.ret .none)) s')→
   codeAny (model prog w) A (.builtin "set.update.loop" ⟨[.ref S,.ref I],[]⟩) R s:=by
 have offw:S∉wr:=fun z=>off (Wk.sub _ z)
 have more:∀ c∈wr,c∈S::wr:=fun c hc=>List.mem_cons_of_mem _ hc
 intro m
 induction m with
 | zero=>
  intro i s hm hi st hS k
  obtain rfl:i=n:=by omega
  refine codeAny_builtin F.entry_set_update_loop ?_
  rw[Around.under_plainId F.plain_set_update_loop _]
  show wpAny _ A.in1 (pyNext (.ref I) >>= _) _ _ s
  refine wpAny_bind (Wk.done s _ _ st fun s1 mv=>?_)
  exact wpAny_pure (k s1 (mv.mono more) (hS.at fun o e=>mv.heap S o offw e))
 | succ m ih=>
  intro i s hm hi st hS k
  have lt:i < n:=by omega
  refine codeAny_builtin F.entry_set_update_loop ?_
  rw[Around.under_plainId F.plain_set_update_loop _]
  show wpAny _ A.in1 (pyNext (.ref I) >>= _) _ _ s
  refine wpAny_bind (Wk.item i s _ _ lt st fun v s1 hv st1 mv=>?_)
  obtain⟨t,rfl⟩:=vals i v hv
  have hS1:SetI prog w b s1.heap S (dd val i):=hS.at fun o e=>mv.heap S o offw e
  show wpAny _ A.in1 (holding [Value.int (val i) t] (setAdd S (.int (val i) t)) >>= _) _ _ s1
  refine wpAny_bind (wpAny_holding ?_)
  unfold setAdd
  refine wpAny_holding (wpAny_bind ((intKind prog w).pyHash (k:=val i) (intKind_is _ _ _ _) ?_))
  have rm:(dd val i).length+1 < scanBound:=by have:=dd_len val i;omega
  refine add_int (s:={ s1 with toks:=s1.toks+1 }) hS1 rm fun h2 sb hS2=>?_
  refine wpAny_pure ⟨plainId_quiet F.plain_set_update_loop _,ih (i+1) _ (by omega) lt (Wk.frame _ s1 _ _ st1 (Nat.le_succ _) fun c hc o e=>?_) hS2 fun s3 mv3 hS3=>?_⟩
  ·rw[sb.2 c fun z:c=S=>off (z ▸ hc)];exact e
  ·refine k s3 (Moved.trans Wk.gtrans ((mv.mono more).then_heap (Nat.le_succ _) fun c o hc e=>?_) mv3) hS3
   rw[sb.2 c fun z:c=S=>hc (by rw[z];exact List.mem_cons_self)];exact e
end
section
variable {prog:Program}{w:World}{A:Around}{E:Value→Shared→Prop}{s:Shared}
noncomputable abbrev freshS (w:World):Obj:={ cls:=.type "set",dict:=none,data:=.set #[] 0 (.fresh 0 0 (!w.params.followText "set-order")) }
theorem new_set (v:Value) {Q:Value→Shared→Prop} (k:Q (.ref s.heap.objs.size) { s with heap:=s.heap.push (freshS w) }) :
  codeAny (model prog w) A (.call (.builtin "set.__new__") ⟨[.type "set",v],[]⟩) (wants Q E) s:=by
 refine codeAny_of_tree ?_
 show wpAny _ A.in1 (checkBuiltinCall "set.__new__" ⟨[.type "set",v],[]⟩ >>= fun _=>again (.builtin "set.__new__" ⟨[.type "set",v],[]⟩)) _ _ s
 refine wpAny_bind (wpAny_of_eq (F.newCall_set_1 v) (wpAny_pure ⟨plainId_quiet F.plain_set_new _,codeAny_builtin F.entry_set_new ?_⟩))
 rw[Around.under_plainId F.plain_set_new _]
 unfold Builtin.«set.__new__» Builtin.Frozenset.newClass
 have su:=sub_set_self
 obtain⟨hp,g,d,tk,os⟩:=s
 dsimp only
 wp_walk
 refine wpAny_askSetting (wpAny_pure ?_)
 dsimp only
 simp only [newObj]
 exact wpAny_bind (wpAny_alloc (wpAny_pure (wpAny_pure k)))
theorem fresh_cnt:Cnt prog w (!w.params.followText "set-order") [] #[] (.fresh 0 0 (!w.params.followText "set-order")):=
 ⟨fun e he=>by simp at he,by simp,by unfold scanBound;decide,by rfl,tidy_fresh _⟩
theorem call_set {l:Addr}{items:Array Value}{ns:List Int}{Q:Value→Shared→Prop} (hh:A.handled=none) (hl:s.heap.IsList l items) (hi:IntsAre items.toList ns) (small:items.size+1 < scanBound)
  (k:∀ (h':Heap) (tk:Nat),SetI prog w (!w.params.followText "set-order") h' s.heap.objs.size (dd (fun i=>ns.getD i 0) items.size)→(∀ c o,c < s.heap.objs.size→s.heap.get? c=some o→h'.get? c=some o)→
   Q (.ref s.heap.objs.size) { s with heap:=h',toks:=tk }) :
  wpAny (model prog w) A (call (.type "set") [.ref l]) Q E s:=by
 obtain⟨c0,tl0,mro0⟩:=F.called_set.mro
 have made0:=F.called_set.made
 have sub0:=F.called_set.sub
 refine wpAny_call (codeAny_of_tree ?_)
 show wpAny _ _ (callAny (.type "set") _) _ _ _
 refine wpAny_pure ⟨Code.quiet_builtin _ (by decide +kernel),codeAny_builtin F.entry_type_call ?_⟩
 rw[Around.under_plain (weight_type_call_type "set" [.ref l] []) rfl]
 have nt:=F.called_set.notType
 have cc:=F.called_set.canCreate
 have tc:=F.typeCall_set_1 (.ref l)
 repeat (any_goals (first | assumption | wp_step))
 refine codeAny_mono (new_set (.ref l) (E:=E) (Q:=fun v s1=>v=.ref s.heap.objs.size∧s1={ s with heap:=s.heap.push (freshS w) }) ⟨rfl,rfl⟩) fun r s1 hr=>?_
 cases r with
 | error e=>exact hr
 | ok fl=>
  cases fl with
  | ret obj=>
   obtain⟨rfl,rfl⟩:=hr
   have gS:(s.heap.push (freshS w)).get? s.heap.objs.size=some (freshS w):=Heap.get?_push_size _ rfl
   have ty:Shared.TypeIs { s with heap:=s.heap.push (freshS w) } (.ref s.heap.objs.size) "set" := ⟨_,gS,rfl⟩
   have il:=F.called_set.init.lookup
   have ib:=F.called_set.init.bind (.ref s.heap.objs.size)
   repeat (any_goals (first | assumption | wp_step))
   refine codeAny_mono (codeAny_call_builtin (R:=wants (fun r s2=>r=.none∧∃ h' tk,s2={ s with heap:=h',toks:=tk }∧SetI prog w (!w.params.followText "set-order") h' s.heap.objs.size (dd (fun i=>ns.getD i 0) items.size)∧
     (∀ c o,c < s.heap.objs.size→s.heap.get? c=some o→h'.get? c=some o)) E) F.called_set.init.plain F.entry_set_init (check_set_init_1 ty ?_)) fun r2 s2 hr2=>?_
   ·obtain⟨ol,hol,cl,nl,dl⟩:=hl
    obtain⟨ocls,odict,odata,oslots⟩:=ol
    simp only at cl dl
    subst cl dl
    have hol1:(s.heap.push (freshS w)).get? l=some { cls:=.type "list",dict:=odict,data:=.seq items nl,slots:=oslots }:=Heap.get?_push_of_some _ hol
    have s1:=F.sub_list_set
    have s2:=F.sub_list_frozenset
    have ne:(Value.type "list" == Value.type "dict")=false:=by decide
    have hl1:(s.heap.push (freshS w)).IsList l items:=⟨_,hol1,rfl,nl,rfl⟩
    unfold Builtin.«set.__init__» noKeywords Builtin.Frozenset.updateFrom
    generalize hPI:pyIter=PI
    wp_walk
    subst hPI
    refine wpAny_pyIter_list hl1 (wpAny_bind (wpAny_runValue ?_))
    have ll:l < s.heap.objs.size:=Heap.lt_size hol
    have h3:A.in1.in1.in1.handled=none:=by simp [hh]
    have zz:(s.heap.push (freshS w)).objs.size=s.heap.objs.size+1:=Heap.size_push _ _
    have neI:l≠(s.heap.push (freshS w)).objs.size:=by rw[zz];exact Nat.ne_of_lt (Nat.lt_succ_of_lt ll)
    have offS:s.heap.objs.size∉[(s.heap.push (freshS w)).objs.size,l]:=by
     rw[zz];simp only [List.mem_cons,List.mem_singleton,List.not_mem_nil,or_false,not_or]
     exact⟨Nat.ne_of_lt (Nat.lt_succ_self _),Nat.ne_of_gt ll⟩
    refine set_loop ((Walks.list h3 _ l neI items).toS) s.heap.objs.size offS (fun i=>ns.getD i 0) (fun i v hv=>IntsAre.int_at hi i v (by rw[Array.getElem?_toList];exact hv)) small (items.size - 0) 0 _ (by omega) (Nat.zero_le _)
     ⟨⟨_,Heap.get?_push_size _ rfl,rfl,rfl⟩,hl1.push _⟩ ⟨_,#[],0,_,Heap.get?_push_of_some _ gS,⟨rfl,rfl,rfl⟩,rfl,fresh_cnt⟩ ?_
    intro s4 mv hS4
    obtain⟨h4,g4,d4,tk4,os4⟩:=s4
    obtain rfl:g4=s.gens:=mv.gens
    obtain rfl:d4=s.drawn:=mv.drawn
    obtain rfl:os4=s.os:=mv.os
    show wpAny _ _ _ _ _ _
    refine wpAny_pure ?_
    show wpAny _ _ (ret Value.none) _ _ _
    refine wpAny_pure ⟨rfl,h4,tk4,rfl,hS4,fun c o hc e=>?_⟩
    exact mv.heap c o (by
     simp only [List.mem_cons,List.mem_singleton,List.not_mem_nil,or_false,not_or]
     exact⟨Nat.ne_of_lt hc,by rw[zz];exact Nat.ne_of_lt (Nat.lt_succ_of_lt hc)⟩) (Heap.get?_push_of_some _ (Heap.get?_push_of_some _ e))
   ·cases r2 with
    | error e=>exact hr2
    | ok fl2=>
     cases fl2 with
     | ret r=>
      obtain⟨rfl,h',tk,rfl,hS2,hk2⟩:=hr2
      repeat (any_goals (first | assumption | wp_step))
      exact k _ _ hS2 hk2
     | _=>exact hr2.elim
  | _=>exact hr.elim
end
end TwS
namespace TwS
open PySem PySem.Spec PyProof.Rows
theorem eF:Slot "set_iterator" "__next__" "set_iterator.__next__" :=
 .of (owner := "set_iterator") (n := "__next__") (by rw[typeLookup_type,builtinLookup_eq_fast];kernel_rfl) (by decide +kernel) (by decide +kernel) (by decide +kernel)
  (by first | exact .inl (by decide +kernel) | exact .inr (by decide +kernel)) (by rw[isSubtype_type];kernel_rfl)
theorem entry_si_next:entryFor table "set_iterator.__next__" = some Builtin.«set_iterator.__next__»:=entryFor_of_fast (by kernel_rfl)
theorem args_si_next (a:Value):argsOk "set_iterator.__next__" ⟨[a],[]⟩:=by unfold argsOk;kernel_rfl
theorem slot_set_iter:Slot "set" "__iter__" "set.__iter__" :=
 .of (owner := "set") (n := "__iter__") (by rw[typeLookup_type,builtinLookup_eq_fast];kernel_rfl) (by decide +kernel) (by decide +kernel) (by decide +kernel)
  (by first | exact .inl (by decide +kernel) | exact .inr (by decide +kernel)) (by rw[isSubtype_type];kernel_rfl)
theorem entry_set_iter:entryFor table "set.__iter__" = some Builtin.«frozenset.__iter__»:=entryFor_alias (id' := "frozenset.__iter__") (by kernel_rfl) rfl (by decide +kernel) (by kernel_rfl)
theorem slot_si_iter:Slot "set_iterator" "__iter__" "set_iterator.__iter__" :=
 .of (owner := "set_iterator") (n := "__iter__") (by rw[typeLookup_type,builtinLookup_eq_fast];kernel_rfl) (by decide +kernel) (by decide +kernel) (by decide +kernel)
  (by first | exact .inl (by decide +kernel) | exact .inr (by decide +kernel)) (by rw[isSubtype_type];kernel_rfl)
theorem entry_si_iter:entryFor table "set_iterator.__iter__" = some Builtin.«dict_keyiterator.__iter__»:=entryFor_alias (id' := "dict_keyiterator.__iter__") (by kernel_rfl) rfl (by decide +kernel) (by kernel_rfl)
theorem args_si_iter (a:Value):argsOk "set_iterator.__iter__" ⟨[a],[]⟩:=by unfold argsOk;kernel_rfl
theorem args_set_iter (a:Value):argsOk "set.__iter__" ⟨[a],[]⟩:=by unfold argsOk;kernel_rfl
noncomputable abbrev itO (f:Value) (i:Nat) (S:Addr) (n ep:Nat):Obj:={ cls:=.type "set_iterator",data:=.fields #[f,rawInt (i:Int),.ref S,rawInt (n:Int),rawInt (ep:Int)] }
section
variable {prog:Program}{w:World}{A:Around}{E:Value→Shared→Prop}{s:Shared}{I S:Addr}{o:Obj}{es:Array (Int×Value)}{ep i:Nat}{t:SetTable}
theorem stop_now {Q:Fin→Shared→Prop} (hh:A.handled=none) (hE:∀ h' e,(∀ c q,s.heap.get? c=some q→h'.get? c=some q)→(∃ q,h'.get? e=some q∧q.cls=.type "StopIteration")→E (.ref e) { s with heap:=h' }) :
  wpAny (model prog w) A (newExc (.type "StopIteration") [] >>= fun x=>raiseNew x) Q E s:=by
 refine wpAny_bind ?_
 simp only [newExc,newTuple]
 refine wpAny_bind (wpAny_newObj_type ?_ (by size_fits))
 refine wpAny_bind (m:=firstArgMember _ _) (wpAny_of_eq (a:=Value.none) (by first | rfl | (simp only [firstArgMember];rfl)) (wpAny_newObj_type ?_ (by size_fits)))
 simp only [raiseNew]
 refine wpAny_bind (wpAny_handled ?_)
 rw[hh]
 exact wpAny_bind (wpAny_pure (wpAny_throw (hE _ _ (fun c q e=>Heap.get?_push_of_some _ (Heap.get?_push_of_some _ e)) ⟨_,Heap.get?_push_size _ rfl,rfl⟩)))
theorem pyNext_si {f:Value}{n:Nat}{Q:Option Value→Shared→Prop} (hI:s.heap.get? I=some (itO f i S n ep))
  (h:wpAny (model prog w) A.in1 (Builtin.«set_iterator.__next__» ⟨[.ref I],[]⟩) (fun fin s'=>∃ v,fin=.done (.ret v)∧Q (some v) s') (fun e s'=>(∃ a q,e=.ref a∧s'.heap.get? a=some q∧q.cls=.type "StopIteration")∧Q none s') s) :
  wpAny (model prog w) A (pyNext (.ref I)) Q E s:=by
 have ty:s.TypeIs (.ref I) "set_iterator" := ⟨_,hI,rfl⟩
 unfold pyNext
 refine wpAny_bind (wpAny_attempt (wpAny_callSpecial?_slot (name:=Str.ofString "__next__") ty eF
  (wpAny_call_entry eF ty entry_si_next (wpAny_mono h (fun fin s' z=>?_) fun e s' z=>?_) (args_si_next _))))
 ·obtain⟨v,rfl,q⟩:=z
  exact⟨v,rfl,wpAny_pure q⟩
 ·obtain⟨⟨a,q,rfl,ho,hc⟩,z⟩:=z
  exact wpAny_bind (wpAny_isInstance (T := "StopIteration") (b:=true) ⟨q,ho,hc⟩ isSubtype_stop (wpAny_pure z))
theorem pyIter_si {f:Value}{n:Nat}{Q:Value→Shared→Prop} (hI:s.heap.get? I=some (itO f i S n ep)) (k:Q (.ref I) s):wpAny (model prog w) A (pyIter (.ref I)) Q E s:=by
 have ty:s.TypeIs (.ref I) "set_iterator" := ⟨_,hI,rfl⟩
 refine wpAny_pyIter_slot ty slot_si_iter (wpAny_call_entry slot_si_iter ty entry_si_iter ?_ (args_si_iter _))
 show wpAny _ _ (ret (.ref I)) _ _ s
 exact wpAny_pure ⟨_,rfl,"set_iterator",_,ty,eF.lookup,k⟩
theorem next_num {slot nx:Nat}{x:Value}{Q:Fin→Shared→Prop} (hI:s.heap.get? I=some (itO (rawInt (slot:Int)) i S es.size ep)) (g:s.heap.get? S=some o) (d:o.data=.set es ep t) (ft:t.fits es.size=true)
  (hn:∀ (R:Option (Value×Nat)→Shared→Prop),R (some (x,nx)) s→wpAny (model prog w) A (setNext S slot i ep) R E s)
  (k:∀ h',h'.get? I=some (itO (rawInt (nx:Int)) (i+1) S es.size ep)→Heap.SameBut I s.heap h'→Q (.done (.ret x)) { s with heap:=h' }) :
  wpAny (model prog w) A (Builtin.«set_iterator.__next__» ⟨[.ref I],[]⟩) Q E s:=by
 show wpAny _ _ (fieldsOf (.ref I) >>= _) _ _ s
 refine wpAny_bind (wpAny_fieldsOf hI rfl ?_)
 show wpAny _ _ (setEntries S >>= _) _ _ s
 unfold setEntries
 refine wpAny_bind (wpAny_bind (wpAny_setState_of g d ft (wpAny_pure ?_)))
 dsimp only
 rw[if_neg (by simp)]
 show wpAny _ _ (setNext S (slot:Int).toNat (i:Int).toNat (ep:Int).toNat >>= _) _ _ s
 rw[Int.toNat_natCast,Int.toNat_natCast,Int.toNat_natCast]
 refine wpAny_bind (hn _ ?_)
 refine wpAny_bind (wpAny_setField_rec hI (by simp) fun h1 g1 b1=>?_)
 refine wpAny_bind (wpAny_setField_rec (s:={ s with heap:=h1 }) g1 (by simp) fun h2 g2 b2=>?_)
 exact wpAny_pure (k h2 (by simp at g2;exact g2) (b1.trans b2))
theorem end_num {slot:Nat}{Q:Fin→Shared→Prop} (hh:A.handled=none) (hI:s.heap.get? I=some (itO (rawInt (slot:Int)) i S es.size ep)) (g:s.heap.get? S=some o) (d:o.data=.set es ep t) (ft:t.fits es.size=true)
  (hn:∀ (R:Option (Value×Nat)→Shared→Prop),R none s→wpAny (model prog w) A (setNext S slot i ep) R E s)
  (hE:∀ h' e,(∀ c q,c≠I→s.heap.get? c=some q→h'.get? c=some q)→(∃ q,h'.get? e=some q∧q.cls=.type "StopIteration")→E (.ref e) { s with heap:=h' }) :
  wpAny (model prog w) A (Builtin.«set_iterator.__next__» ⟨[.ref I],[]⟩) Q E s:=by
 show wpAny _ _ (fieldsOf (.ref I) >>= _) _ _ s
 refine wpAny_bind (wpAny_fieldsOf hI rfl ?_)
 show wpAny _ _ (setEntries S >>= _) _ _ s
 unfold setEntries
 refine wpAny_bind (wpAny_bind (wpAny_setState_of g d ft (wpAny_pure ?_)))
 dsimp only
 rw[if_neg (by simp)]
 show wpAny _ _ (setNext S (slot:Int).toNat (i:Int).toNat (ep:Int).toNat >>= _) _ _ s
 rw[Int.toNat_natCast,Int.toNat_natCast,Int.toNat_natCast]
 refine wpAny_bind (hn _ ?_)
 refine wpAny_bind (wpAny_setField_rec hI (by simp) fun h1 g1 b1=>?_)
 exact stop_now (s:={ s with heap:=h1 }) hh fun h' e kp st=>hE h' e (fun c q hc z=>kp c q (by rw[b1.2 c hc];exact z)) st
theorem next_drawn {T:Addr}{ps:Array Value}{m p:Nat}{tk:Tok}{hx:Int}{x:Value}{Q:Fin→Shared→Prop} (hI:s.heap.get? I=some (itO (.ref T) i S es.size ep)) (g:s.heap.get? S=some o) (d:o.data=.set es ep t) (ft:t.fits es.size=true)
  (hT:s.heap.get? T=some { cls:=.type "tuple",data:=.seq ps m }) (hp:ps[i]? = some (.int (p:Int) tk)) (hx:es[p]? = some (hx,x))
  (k:∀ h',h'.get? I=some (itO (.ref T) (i+1) S es.size ep)→Heap.SameBut I s.heap h'→Q (.done (.ret x)) { s with heap:=h' }) :
  wpAny (model prog w) A (Builtin.«set_iterator.__next__» ⟨[.ref I],[]⟩) Q E s:=by
 show wpAny _ _ (fieldsOf (.ref I) >>= _) _ _ s
 refine wpAny_bind (wpAny_fieldsOf hI rfl ?_)
 show wpAny _ _ (setEntries S >>= _) _ _ s
 unfold setEntries
 refine wpAny_bind (wpAny_bind (wpAny_setState_of g d ft (wpAny_pure ?_)))
 dsimp only
 rw[if_neg (by simp)]
 show wpAny _ _ (seqItems? (.ref T) >>= _) _ _ s
 refine wpAny_bind (wpAny_seqItems hT rfl ?_)
 dsimp only
 rw[Int.toNat_natCast,hp]
 dsimp only
 unfold setNextDrawn
 refine wpAny_bind (wpAny_bind (wpAny_setState_of g d ft ?_))
 dsimp only
 rw[Int.toNat_natCast,Int.toNat_natCast,if_neg (by simp),hx]
 refine wpAny_pure (wpAny_bind (wpAny_setField_rec hI (by simp) fun h1 g1 b1=>?_))
 exact wpAny_pure (k h1 (by simp at g1;exact g1) b1)
theorem end_drawn {T:Addr}{ps:Array Value}{m:Nat}{Q:Fin→Shared→Prop} (hh:A.handled=none) (hI:s.heap.get? I=some (itO (.ref T) i S es.size ep)) (g:s.heap.get? S=some o) (d:o.data=.set es ep t) (ft:t.fits es.size=true)
  (hT:s.heap.get? T=some { cls:=.type "tuple",data:=.seq ps m }) (hp:ps[i]? = none)
  (hE:∀ h' e,(∀ c q,c≠I→s.heap.get? c=some q→h'.get? c=some q)→(∃ q,h'.get? e=some q∧q.cls=.type "StopIteration")→E (.ref e) { s with heap:=h' }) :
  wpAny (model prog w) A (Builtin.«set_iterator.__next__» ⟨[.ref I],[]⟩) Q E s:=by
 show wpAny _ _ (fieldsOf (.ref I) >>= _) _ _ s
 refine wpAny_bind (wpAny_fieldsOf hI rfl ?_)
 show wpAny _ _ (setEntries S >>= _) _ _ s
 unfold setEntries
 refine wpAny_bind (wpAny_bind (wpAny_setState_of g d ft (wpAny_pure ?_)))
 dsimp only
 rw[if_neg (by simp)]
 show wpAny _ _ (seqItems? (.ref T) >>= _) _ _ s
 refine wpAny_bind (wpAny_seqItems hT rfl ?_)
 dsimp only
 rw[Int.toNat_natCast,hp]
 dsimp only
 refine wpAny_bind (wpAny_setField_rec hI (by simp) fun h1 g1 b1=>?_)
 refine wpAny_bind (wpAny_setField_rec (s:={ s with heap:=h1 }) g1 (by simp) fun h2 g2 b2=>?_)
 exact stop_now (s:={ s with heap:=h2 }) hh fun h' e kp st=>hE h' e (fun c q hc z=>kp c q (by rw[b2.2 c hc,b1.2 c hc];exact z)) st
theorem setNext_text {slot:Nat}{R:Option (Value×Nat)→Shared→Prop} (tx:w.params.followText "set-order" = true) (g:s.heap.get? S=some o) (d:o.data=.set es ep t) (ft:t.fits es.size=true)
  (k:R (((pickOrder (w.params.setOrder S ep) es)[i]?).map fun e=>(e.2,slot)) s):wpAny (model prog w) A (setNext S slot i ep) R E s:=by
 unfold setNext
 refine wpAny_bind (wpAny_setState_of g d ft ?_)
 dsimp only
 refine wpAny_bind (wpAny_bind (wpAny_askSetting (wpAny_pure ?_)))
 rw[show (Setting.mk (model prog w).prog (model prog w).w.params).params.followText "set-order" = true from tx,if_pos rfl,if_neg (by simp)]
 unfold setWalk
 refine wpAny_bind (wpAny_bind (wpAny_setState_of g d ft ?_))
 dsimp only
 refine wpAny_bind (wpAny_bind (wpAny_askSetting (wpAny_pure ?_)))
 rw[show (Setting.mk (model prog w).prog (model prog w).w.params).params.followText "set-order" = true from tx,if_pos rfl]
 exact wpAny_bind (wpAny_askSetting (wpAny_pure (wpAny_pure k)))
theorem setNext_place {slot:Nat}{R:Option (Value×Nat)→Shared→Prop} (tx:w.params.followText "set-order" = false) (g:s.heap.get? S=some o) (d:o.data=.set es ep t) (ft:t.fits es.size=true) (pl:t.plain=true∨es.size≤1) (ld:t.led=true)
  (k:R (match es[SetTable.below t.place slot]?,t.place[SetTable.below t.place slot]? with | some (_,x),some j=>some (x,j+1) | _,_=>none) s):wpAny (model prog w) A (setNext S slot i ep) R E s:=by
 unfold setNext
 refine wpAny_bind (wpAny_setState_of g d ft ?_)
 dsimp only
 refine wpAny_bind (wpAny_bind (wpAny_askSetting (wpAny_pure ?_)))
 rw[show (Setting.mk (model prog w).prog (model prog w).w.params).params.followText "set-order" = false from tx,if_neg (by simp)]
 have nd:¬ ((!t.plain && decide (es.size > 1))=true):=by
  rcases pl with z | z
  ·rw[z];simp
  ·rw[decide_eq_false (by omega)];simp
 show wpAny _ _ (if (!t.plain && decide (es.size > 1))=true then _ else _) _ _ s
 rw[if_neg nd]
 refine wpAny_bind ?_
 show wpAny _ _ (if (!t.led && !es.isEmpty)=true then _ else _) _ _ s
 rw[ld,if_neg (by simp)]
 exact wpAny_pure (wpAny_pure k)
end
end TwS
namespace TwS
open PySem PySem.Spec PyProof.Rows
theorem erase_perm {α:Type}:∀ {l:List α}{i:Nat}{x:α},l[i]? = some x→(x::l.eraseIdx i).Perm l
 | [],_,_,h=>by cases h
 | y::l,0,x,h=>by cases h;exact List.Perm.refl _
 | y::l,i+1,x,h=>by
  have ih:=erase_perm (l:=l) (i:=i) (x:=x) h
  exact (List.Perm.swap y x _).trans (ih.cons y)
theorem pick_go {α:Type} (next:Nat→Nat):∀ (fuel k:Nat) (left:List α) (out:Array α),left.length=fuel→(pickOrder.go next fuel k left out).toList.Perm (out.toList++left)
 | 0,k,left,out,h=>by
  have:left=[]:=List.eq_nil_of_length_eq_zero h
  subst this
  show out.toList.Perm _
  rw[List.append_nil]
 | fuel+1,k,left,out,h=>by
  have hm:next k % left.length < left.length:=Nat.mod_lt _ (by omega)
  have e:left[next k % left.length]? = some left[next k % left.length]:=List.getElem?_eq_getElem hm
  show (match left[next k % left.length]? with | some x=>pickOrder.go next fuel (k+1) (left.eraseIdx (next k % left.length)) (out.push x) | none=>out).toList.Perm _
  rw[e]
  refine (pick_go next fuel (k+1) _ _ (by rw[List.length_eraseIdx,if_pos hm];omega)).trans ?_
  rw[Array.toList_push,List.append_assoc]
  exact (erase_perm e).append_left _
theorem pick_perm {α:Type} (next:Nat→Nat) (xs:Array α):(pickOrder next xs).toList.Perm xs.toList:=by
 have:=pick_go next xs.size 0 xs.toList #[] (Array.length_toList)
 simpa [pickOrder] using this
section
variable {prog:Program}{w:World}{A:Around}{E:Value→Shared→Prop}
theorem choose_any {src:Source}{n:Nat}{s:Shared}{R:Nat→Shared→Prop} (hn:n≠0) (k:∀ i d,i < n→R i { s with drawn:=d }):wpAny (model prog w) A (choose src n) R E s:=fun Γ p _=>by
 unfold choose
 rw[Sem.wp_choose]
 refine⟨hn,?_⟩
 rw[Sem.wp_pure]
 exact k _ _ (Nat.mod_lt _ (Nat.pos_of_ne_zero hn))
theorem draw_any {α:Type}:∀ (n:Nat) (xs:List α) (s:Shared) (R:List α→Shared→Prop),xs.length=n→(∀ ys d,ys.Perm xs→R ys { s with drawn:=d })→wpAny (model prog w) A (drawOrder n xs) R E s
 | 0,xs,s,R,h,k=>by
  have:xs=[]:=List.eq_nil_of_length_eq_zero h
  subst this
  exact wpAny_pure (k [] s.drawn (List.Perm.refl _))
 | n+1,[],s,R,h,k=>by cases h
 | n+1,x::xs,s,R,h,k=>by
  unfold drawOrder
  refine wpAny_bind (choose_any (by simp) fun i d hi=>?_)
  have e:(x::xs)[i]? = some (x::xs)[i]:=List.getElem?_eq_getElem hi
  rw[e]
  refine wpAny_bind (draw_any n _ _ _ (by rw[List.length_eraseIdx,if_pos hi];omega) fun ys d2 p=>?_)
  exact wpAny_pure (k _ _ ((p.cons _).trans (erase_perm e)))
end
theorem ints_of:∀ (vs:List Value),(∀ v∈vs,∃ i t,v=.int i t)→IntsAre vs (vs.map intOf)
 | [],_=>.nil
 | v::vs,h=>by
  obtain⟨i,t,rfl⟩:=h v List.mem_cons_self
  exact .cons i t (ints_of vs fun v hv=>h v (List.mem_cons_of_mem _ hv))
theorem items_are {P:Nat→Value→Prop}{acc:Array Value}{vs:List Value} (h:ItemsOf P acc vs.length) (hP:∀ j v,P j v→vs[j]? = some v):acc.toList=vs:=by
 apply List.ext_getElem?
 intro j
 rcases Nat.lt_or_ge j acc.size with hj | hj
 ·have e:acc[j]? = some acc[j]:=Array.getElem?_eq_getElem hj
  rw[Array.getElem?_toList,e,hP j _ (h.2 j _ e)]
 ·rw[List.getElem?_eq_none (by rw[Array.length_toList];exact hj),List.getElem?_eq_none (by rw[← h.1];exact hj)]
section
variable {prog:Program}{w:World}{S I T:Addr}{o:Obj}{es:Array (Int×Value)}{ep:Nat}{t:SetTable}{L:List Int}
theorem yields {b:Bool}{vs:List Value}{es':List (Int×Value)} (c:Cnt prog w b L es t) (hp:es'.Perm es.toList) (e:vs=es'.map (·.2)):IntsAre vs (vs.map intOf)∧(vs.map intOf).Perm L:=by
 subst e
 refine⟨ints_of _ fun v hv=>?_,?_⟩
 ·obtain⟨x,hx,rfl⟩:=List.mem_map.1 hv
  exact el_int c.el (hp.mem_iff.1 hx)
 ·rw[List.map_map]
  exact (hp.map _).trans c.pm
noncomputable def slotAt (pl:Array Nat):Nat→Nat
 | 0=>0
 | i+1=>pl.getD i 0+1
theorem slot_below {pl:Array Nat} (h:Up pl):∀ i,i≤pl.size→SetTable.below pl (slotAt pl i)=i
 | 0,_=>below_0 h
 | i+1,hi=>by
  have e:pl[i]? = some (pl.getD i 0):=by rw[Array.getD_eq_getD_getElem?,Array.getElem?_eq_getElem (by omega)];rfl
  exact below_next h e
theorem walk_text {A:Around} (hh:A.handled=none) (tx:w.params.followText "set-order" = true) (d:o.data=.set es ep t) (ft:t.fits es.size=true) (ne:S≠I) :
  Walks prog w A I [I,S] [I] es.size (fun i v=>((pickOrder (w.params.setOrder S ep) es).toList.map (·.2))[i]? = some v) (fun i h=>h.get? I=some (itO (rawInt ((0:Nat):Int)) i S es.size ep)∧h.get? S=some o) where
 sub:=fun c hc=>by simp at hc;simp [hc]
 frame:=fun _ _ _ st k=>⟨k I (by simp) _ st.1,k S (by simp) _ st.2⟩
 item:=fun i s Q E hi st k=>by
  have ln:(pickOrder (w.params.setOrder S ep) es).size=es.size:=by rw[← Array.length_toList,(pick_perm _ es).length_eq,Array.length_toList]
  have e:(pickOrder (w.params.setOrder S ep) es)[i]? = some ((pickOrder (w.params.setOrder S ep) es)[i]'(by omega)):=Array.getElem?_eq_getElem _
  refine pyNext_si st.1 (next_num (x:=((pickOrder (w.params.setOrder S ep) es)[i]'(by omega)).2) (nx:=0) st.1 st.2 d ft (fun R r=>setNext_text tx st.2 d ft (by rw[e];exact r)) fun h' g b=>⟨_,rfl,?_⟩)
  refine k _ h' s.toks ?_ ⟨g,by rw[b.2 S ne];exact st.2⟩ fun c q hc z=>by rw[b.2 c (fun y=>hc (by simp [y]))];exact z
  rw[List.getElem?_map,Array.getElem?_toList,e];rfl
 done:=fun s Q E st k=>by
  have ln:(pickOrder (w.params.setOrder S ep) es).size=es.size:=by rw[← Array.length_toList,(pick_perm _ es).length_eq,Array.length_toList]
  have e:(pickOrder (w.params.setOrder S ep) es)[es.size]? = none:=Array.getElem?_eq_none (by omega)
  refine pyNext_si st.1 (end_num hh st.1 st.2 d ft (fun R r=>setNext_text tx st.2 d ft (by rw[e];exact r)) fun h' x kp sp=>⟨?_,k h' s.toks fun c q hc z=>kp c q (fun y=>hc (by simp [y])) z⟩)
  obtain⟨q,e1,e2⟩:=sp
  exact⟨_,q,rfl,e1,e2⟩
 self:=fun i s Q E st k=>pyIter_si st.1 k
theorem walk_place {A:Around} (hh:A.handled=none) (tx:w.params.followText "set-order" = false) (d:o.data=.set es ep t) (ft:t.fits es.size=true) (pl:t.plain=true∨es.size≤1) (td:Tidy true t) (ne:S≠I) :
  Walks prog w A I [I,S] [I] es.size (fun i v=>(es.toList.map (·.2))[i]? = some v) (fun i h=>h.get? I=some (itO (rawInt ((slotAt t.place i:Nat):Int)) i S es.size ep)∧h.get? S=some o) where
 sub:=fun c hc=>by simp at hc;simp [hc]
 frame:=fun _ _ _ st k=>⟨k I (by simp) _ st.1,k S (by simp) _ st.2⟩
 item:=fun i s Q E hi st k=>by
  have psz:t.place.size=es.size:=by
   simp only [SetTable.fits,Bool.and_eq_true,beq_iff_eq] at ft
   exact ft.1
  have e1:es[i]? = some es[i]:=Array.getElem?_eq_getElem hi
  have e2:t.place[i]? = some (t.place.getD i 0):=by rw[Array.getD_eq_getD_getElem?,Array.getElem?_eq_getElem (by omega)];rfl
  have sb:=slot_below td.up i (by omega)
  refine pyNext_si st.1 (next_num (x:=es[i].2) (nx:=slotAt t.place (i+1)) st.1 st.2 d ft (fun R r=>setNext_place tx st.2 d ft pl td.led (by rw[sb,e1,e2];exact r)) fun h' g b=>⟨_,rfl,?_⟩)
  refine k _ h' s.toks ?_ ⟨g,by rw[b.2 S ne];exact st.2⟩ fun c q hc z=>by rw[b.2 c (fun y=>hc (by simp [y]))];exact z
  rw[List.getElem?_map,Array.getElem?_toList,e1];rfl
 done:=fun s Q E st k=>by
  have psz:t.place.size=es.size:=by
   simp only [SetTable.fits,Bool.and_eq_true,beq_iff_eq] at ft
   exact ft.1
  have e1:es[es.size]? = none:=Array.getElem?_eq_none (Nat.le_refl _)
  have sb:=slot_below td.up es.size (by omega)
  refine pyNext_si st.1 (end_num hh st.1 st.2 d ft (fun R r=>setNext_place tx st.2 d ft pl td.led (by rw[sb,e1];exact r)) fun h' x kp sp=>⟨?_,k h' s.toks fun c q hc z=>kp c q (fun y=>hc (by simp [y])) z⟩)
  obtain⟨q,e1,e2⟩:=sp
  exact⟨_,q,rfl,e1,e2⟩
 self:=fun i s Q E st k=>pyIter_si st.1 k
theorem fm_get {α β:Type}{f:α→Option β}:∀ (l:List α) (j:Nat),(∀ p∈l,∃ y,f p=some y)→(l.filterMap f)[j]? = l[j]?.bind f
 | [],j,_=>by simp
 | p::l,j,h=>by
  obtain⟨y,hy⟩:=h p List.mem_cons_self
  rw[List.filterMap_cons_some hy]
  cases j with
  | zero=>simp [hy]
  | succ j=>simpa using fm_get l j fun q hq=>h q (List.mem_cons_of_mem _ hq)
theorem walk_drawn {A:Around} (hh:A.handled=none) (d:o.data=.set es ep t) (ft:t.fits es.size=true) {ord:List Nat}{m:Nat} (hord:ord.Perm (List.range es.size)) (ne:S≠I) (neT:T≠I) :
  Walks prog w A I [I,S,T] [I] es.size (fun i v=>((ord.filterMap fun p=>es[p]?).map (·.2))[i]? = some v)
   (fun i h=>h.get? I=some (itO (.ref T) i S es.size ep)∧h.get? S=some o∧h.get? T=some { cls:=.type "tuple",data:=.seq (ord.map fun (i:Nat)=>rawInt (i:Int)).toArray m }) where
 sub:=fun c hc=>by simp at hc;simp [hc]
 frame:=fun _ _ _ st k=>⟨k I (by simp) _ st.1,k S (by simp) _ st.2.1,k T (by simp) _ st.2.2⟩
 item:=fun i s Q E hi st k=>by
  have ln:ord.length=es.size:=by rw[hord.length_eq,List.length_range]
  have all:∀ p∈ord,∃ y,es[p]? = some y:=fun p hp=>⟨_,Array.getElem?_eq_getElem (List.mem_range.1 (hord.mem_iff.1 hp))⟩
  have e0:ord[i]? = some (ord[i]'(by omega)):=List.getElem?_eq_getElem _
  obtain⟨y,hy⟩:=all _ (List.mem_of_getElem? e0)
  have e1:(ord.map fun (i:Nat)=>rawInt (i:Int)).toArray[i]? = some (.int (((ord[i]'(by omega)):Nat):Int) 0):=by
   rw[List.getElem?_toArray,List.getElem?_map,e0];rfl
  refine pyNext_si st.1 (next_drawn (x:=y.2) st.1 st.2.1 d ft st.2.2 e1 (show es[ord[i]'(by omega)]? = some (y.1,y.2) from hy) fun h' g b=>⟨_,rfl,?_⟩)
  refine k _ h' s.toks ?_ ⟨g,by rw[b.2 S ne];exact st.2.1,by rw[b.2 T neT];exact st.2.2⟩ fun c q hc z=>by rw[b.2 c (fun y=>hc (by simp [y]))];exact z
  rw[List.getElem?_map,fm_get _ _ all,e0]
  show Option.map _ (es[ord[i]'(by omega)]?)=_
  rw[hy];rfl
 done:=fun s Q E st k=>by
  have ln:ord.length=es.size:=by rw[hord.length_eq,List.length_range]
  have e1:(ord.map fun (i:Nat)=>rawInt (i:Int)).toArray[es.size]? = none:=by
   rw[List.getElem?_toArray,List.getElem?_map,List.getElem?_eq_none (by omega)];rfl
  refine pyNext_si st.1 (end_drawn hh st.1 st.2.1 d ft st.2.2 e1 fun h' x kp sp=>⟨?_,k h' s.toks fun c q hc z=>kp c q (fun y=>hc (by simp [y])) z⟩)
  obtain⟨q,e1,e2⟩:=sp
  exact⟨_,q,rfl,e1,e2⟩
 self:=fun i s Q E st k=>pyIter_si st.1 k
theorem set_iter {A:Around}{E:Value→Shared→Prop}{s:Shared}{Q:Value→Shared→Prop} (hS:SetI prog w (!w.params.followText "set-order") s.heap S L)
  (k:∀ (I:Addr) (h':Heap) (d':Drawn) (fp:List Addr) (P:Nat→Value→Prop) (St:Nat→Heap→Prop),(∀ A':Around,A'.handled=none→Walks prog w A' I fp [I] L.length P St)→St 0 h'→I∈fp→(∀ c∈fp,c=S∨s.heap.objs.size≤c)→
   s.heap.objs.size≤I→(∀ c q,s.heap.get? c=some q→h'.get? c=some q)→(∀ acc:Array Value,ItemsOf P acc L.length→∃ ms,IntsAre acc.toList ms∧ms.Perm L)→Q (.ref I) { s with heap:=h',drawn:=d' }) :
  wpAny (model prog w) A (pyIter (.ref S)) Q E s:=by
 obtain⟨o,es,ep,t,g,x,d,c⟩:=hS
 have ln:=len_cnt c
 rw[← ln] at k
 have ty:s.TypeIs (.ref S) "set" := ⟨o,g,x.1⟩
 have sz:S < s.heap.objs.size:=Heap.lt_size g
 refine wpAny_pyIter_slot ty slot_set_iter (wpAny_call_entry slot_set_iter ty entry_set_iter ?_ (args_set_iter _))
 show wpAny _ _ (Builtin.Frozenset.sizeOf S >>= _) _ _ s
 unfold Builtin.Frozenset.sizeOf setEntries
 refine wpAny_bind (wpAny_bind (wpAny_bind (wpAny_setState_of g d c.ft (wpAny_pure (wpAny_pure ?_)))))
 dsimp only
 unfold setDrawn
 refine wpAny_bind (wpAny_bind (wpAny_setState_of g d c.ft ?_))
 dsimp only
 refine wpAny_bind (wpAny_bind (wpAny_askSetting (wpAny_pure (wpAny_pure ?_))))
 show wpAny _ _ (if (!w.params.followText "set-order" && (!t.plain && decide (es.size > 1)))=true then _ else _) _ _ s
 by_cases cd:(!w.params.followText "set-order" && (!t.plain && decide (es.size > 1)))=true
 ·rw[if_pos cd]
  refine wpAny_bind (draw_any es.size _ _ _ (by rw[List.length_range]) fun ord d' hord=>?_)
  refine wpAny_bind (wpAny_newTuple ?_ (by rw[List.length_map,hord.length_eq,List.length_range];exact fits_of_scanBound c.bd))
  unfold setEpoch
  refine wpAny_bind (wpAny_bind (wpAny_setState_of (Heap.get?_push_of_some _ g) d c.ft (wpAny_pure ?_)))
  refine wpAny_bind (wpAny_newObj_type (wpAny_pure ⟨_,rfl,"set_iterator",_,⟨_,Heap.get?_push_size _ rfl,rfl⟩,eF.lookup,?_⟩))
  have z1:(s.heap.push { cls:=.type "tuple",data:=.seq (ord.map fun (i:Nat)=>rawInt (i:Int)).toArray }).objs.size=s.heap.objs.size+1:=Heap.size_push _ _
  refine k _ _ d' _ _ _ (fun A' hh=>walk_drawn hh d c.ft hord (T:=s.heap.objs.size) (Nat.ne_of_lt (by rw[z1];exact Nat.lt_succ_of_lt sz)) (Nat.ne_of_lt (by rw[z1];exact Nat.lt_succ_self _)))
   ⟨Heap.get?_push_size _ rfl,Heap.get?_push_of_some _ (Heap.get?_push_of_some _ g),Heap.get?_push_of_some _ (Heap.get?_push_size _ rfl)⟩ (by simp) (fun b hb=>?_) (by rw[z1];exact Nat.le_succ _) (fun b q e=>Heap.get?_push_of_some _ (Heap.get?_push_of_some _ e)) fun acc ha=>?_
  ·simp only [List.mem_cons,List.mem_singleton,List.not_mem_nil,or_false] at hb
   rcases hb with rfl | rfl | rfl
   ·right;rw[z1];exact Nat.le_succ _
   ·exact .inl rfl
   ·exact .inr (Nat.le_refl _)
  ·have pm:(ord.filterMap fun p=>es[p]?).Perm es.toList:=(hord.filterMap _).trans (by rw[filterMap_getElem?_range])
   have hv:=yields c pm rfl
   rw[show es.size=((ord.filterMap fun p=>es[p]?).map (·.2)).length by rw[List.length_map,pm.length_eq,Array.length_toList]] at ha
   rw[items_are ha fun j v h=>h]
   exact⟨_,hv⟩
 ·rw[if_neg cd]
  refine wpAny_bind (wpAny_pure ?_)
  unfold setEpoch
  refine wpAny_bind (wpAny_bind (wpAny_setState_of g d c.ft (wpAny_pure ?_)))
  refine wpAny_bind (wpAny_newObj_type (wpAny_pure ⟨_,rfl,"set_iterator",_,⟨_,Heap.get?_push_size _ rfl,rfl⟩,eF.lookup,?_⟩))
  have fr:∀ b∈[s.heap.objs.size,S],b=S∨s.heap.objs.size≤b:=fun b hb=>by
   simp only [List.mem_cons,List.mem_singleton,List.not_mem_nil,or_false] at hb
   rcases hb with rfl | rfl
   ·exact .inr (Nat.le_refl _)
   ·exact .inl rfl
  cases tx:w.params.followText "set-order" with
  | true=>
   refine k s.heap.objs.size _ s.drawn _ _ _ (fun A' hh=>walk_text hh tx d c.ft (Nat.ne_of_lt sz)) ⟨Heap.get?_push_size _ rfl,Heap.get?_push_of_some _ g⟩ (by simp) fr (Nat.le_refl _) (fun b q e=>Heap.get?_push_of_some _ e) fun acc ha=>?_
   have pm:=pick_perm (w.params.setOrder S ep) es
   have hv:=yields c pm rfl
   rw[show es.size=((pickOrder (w.params.setOrder S ep) es).toList.map (·.2)).length by rw[List.length_map,pm.length_eq,Array.length_toList]] at ha
   rw[items_are ha fun j v h=>h]
   exact⟨_,hv⟩
  | false=>
   rw[tx] at cd c
   have pl:t.plain=true∨es.size≤1:=by
    cases hp:t.plain with
    | true=>exact .inl rfl
    | false=>
     rw[hp] at cd
     refine .inr (Nat.le_of_not_lt fun z=>cd ?_)
     simp [z]
   refine k s.heap.objs.size _ s.drawn _ _ _ (fun A' hh=>walk_place hh tx d c.ft pl c.td (Nat.ne_of_lt sz)) ⟨Heap.get?_push_size _ rfl,Heap.get?_push_of_some _ g⟩ (by simp) fr (Nat.le_refl _) (fun b q e=>Heap.get?_push_of_some _ e) fun acc ha=>?_
   have hv:=yields c (List.Perm.refl _) rfl
   rw[show es.size=(es.toList.map (·.2)).length by rw[List.length_map,Array.length_toList]] at ha
   rw[items_are ha fun j v h=>h]
   exact⟨_,hv⟩
end
end TwS
namespace TwS
open PySem PySem.Spec PyProof.Rows
theorem len_look:typeLookup (.type "set") "__len__" = pure (some (.builtin "set.__len__")):=by rw[typeLookup_type,builtinLookup_eq_fast];kernel_rfl
theorem set_self:isSubtype (.type "set") (.type "set")=pure true:=by rw[isSubtype_type];kernel_rfl
section
variable {prog:Program}{w:World}{A:Around}{E:Value→Shared→Prop}{s:Shared}{S:Addr}{L:List Int}
theorem ite_of {α:Type}{M:Model}{c:Prop} [Decidable c] {x y:Sem α}{Q:α→Shared→Prop} (hc:c) (h:wpAny M A x Q E s):wpAny M A (if c then x else y) Q E s:=by rw[if_pos hc];exact h
theorem hint_set {Q:Bool→Shared→Prop} (ty:s.TypeIs (.ref S) "set") (k:Q false s):wpAny (model prog w) A (Builtin.List.listLengthHint (.ref S)) Q E s:=by
 unfold Builtin.List.listLengthHint
 refine wpAny_bind (wpAny_specialOf ty len_look ?_)
 show wpAny _ _ (isInstance (.ref S) (.type "set") >>= _) _ _ s
 refine wpAny_bind (wpAny_isInstance ty set_self ?_)
 rw[if_neg (by simp)]
 refine ite_of (by decide +kernel) ?_
 exact wpAny_bind (wpAny_typeOf ty (wpAny_pure k))
theorem collect_set {Q:List Value→Shared→Prop} (hh:A.handled=none) (hS:SetI prog w (!w.params.followText "set-order") s.heap S L) (hL:L.length≤sizeLine)
  (k:∀ (h':Heap) (d':Drawn) (tk:Nat) (vs:List Value) (ms:List Int),IntsAre vs ms→ms.Perm L→(∀ c q,s.heap.get? c=some q→h'.get? c=some q)→s.heap.objs.size≤h'.objs.size→Q vs { s with heap:=h',drawn:=d',toks:=tk }) :
  wpAny (model prog w) A (collect (.ref S)) Q E s:=by
 obtain⟨o,_,_,_,g,x,_⟩:=id hS
 have sz:S < s.heap.objs.size:=Heap.lt_size g
 unfold collect
 refine wpAny_bind (wpAny_runValue (codeAny_builtin F.entry_proto_collect ?_))
 rw[Around.under_plainId F.plain_proto_collect _]
 show wpAny _ A.in1 (newList [] >>= fun l=>again (.builtin "list.__iadd__" ⟨[l,.ref S],[]⟩)) _ _ s
 refine wpAny_bind (wpAny_newObj_type (wpAny_pure ⟨plainId_quiet F.plain_list_iadd _,codeAny_builtin F.entry_list_iadd ?_⟩))
 rw[Around.under_plainId F.plain_list_iadd _]
 show wpAny _ A.in1 (Builtin.List.listExtendWith (.ref s.heap.objs.size) (.ref S) (.ref s.heap.objs.size)) _ _ { s with heap:=s.heap.push { cls:=.type "list",data:=.seq ([]:List Value).toArray } }
 have hl1:(s.heap.push { cls:=.type "list",data:=.seq ([]:List Value).toArray }).get? s.heap.objs.size=some { cls:=.type "list",data:=.seq ([]:List Value).toArray }:=Heap.get?_push_size _ rfl
 have kp1:∀ c q,s.heap.get? c=some q→(s.heap.push { cls:=.type "list",data:=.seq ([]:List Value).toArray }).get? c=some q:=fun c q e=>Heap.get?_push_of_some _ e
 have zz:(s.heap.push { cls:=.type "list",data:=.seq ([]:List Value).toArray }).objs.size=s.heap.objs.size+1:=Heap.size_push _ _
 generalize s.heap.push { cls:=.type "list",data:=.seq ([]:List Value).toArray }=h1 at hl1 kp1 zz ⊢
 have hS1:SetI prog w (!w.params.followText "set-order") h1 S L:=hS.at fun q e=>kp1 S q e
 unfold Builtin.List.listExtendWith
 refine wpAny_bind (wpAny_typeOf (T := "set") ⟨o,kp1 S o g,x.1⟩ ?_)
 have e1:Builtin.List.listSameRef (.ref s.heap.objs.size) (.ref S)=false:=by
  have:s.heap.objs.size≠S:=Nat.ne_of_gt sz
  simp [Builtin.List.listSameRef,this]
 have e2:(Value.type "set" == Value.type "list")=false:=by decide
 have e3:(Value.type "set" == Value.type "tuple")=false:=by decide
 simp only [e1,e2,e3,Bool.or_false,Bool.false_eq_true,if_false]
 refine wpAny_bind (set_iter (s:={ s with heap:=h1 }) hS1 fun I h2 d2 fp P St Wk st0 hI hfp hIge kp2 yl=>?_)
 refine wpAny_bind (wpAny_holding (hint_set ⟨o,kp2 S o (kp1 S o g),x.1⟩ ?_))
 refine ite_of (by decide +kernel) ?_
 refine wpAny_bind (wpAny_rule (wpAny_bind ?_))
 show wpAny _ A.in1 (updateSeq s.heap.objs.size (·.push .none) >>= fun _=>updateSeq s.heap.objs.size (·.pop)) _ _ _
 have hl2:=kp2 _ _ hl1
 refine wpAny_bind (wpAny_updateSeq hl2 rfl ?_)
 have hl3:=Heap.get?_update_self (Obj.mapSeq (·.push Value.none)) hl2 rfl
 refine wpAny_updateSeq hl3 rfl ?_
 have hl4:=Heap.get?_update_self (Obj.mapSeq (·.pop)) hl3 rfl
 have kp4:∀ c q,c≠s.heap.objs.size→h2.get? c=some q→((h2.update s.heap.objs.size (Obj.mapSeq (·.push Value.none))).update s.heap.objs.size (Obj.mapSeq (·.pop))).get? c=some q:=
  fun c q hc e=>(Heap.get?_update_other _ _ (Ne.symm hc)).trans ((Heap.get?_update_other _ _ (Ne.symm hc)).trans e)
 have off:s.heap.objs.size∉fp:=fun z=>by
  rcases hfp _ z with e | e
  ·exact absurd e (Nat.ne_of_gt sz)
  ·rw[zz] at e;exact absurd e (Nat.not_succ_le_self _)
 have neI:∀ c,c < s.heap.objs.size→c≠I:=fun c hc e=>by
  rw[zz] at hIge
  exact absurd (Nat.lt_of_lt_of_le (Nat.lt_succ_of_lt hc) hIge) (by rw[e];exact Nat.lt_irrefl _)
 refine wpAny_pure ⟨plainId_quiet F.plain_extend_loop _,codeAny_extend_loopS ((Wk A.in1 hh).toS) hL _ off _ L.length 0 _ _ _ rfl (Nat.zero_le _)
  ((Wk A.in1 hh).frame 0 h2 _ st0 fun c hc q e=>kp4 c q (fun z=>off (z ▸ hc)) e) hl4 (ItemsOf.nil P) fun s5 acc n5 mv hl5 ha=>?_⟩
 obtain⟨h5,g5,d5,tk5,os5⟩:=s5
 obtain rfl:g5=s.gens:=mv.gens
 obtain rfl:d5=d2:=mv.drawn
 obtain rfl:os5=s.os:=mv.os
 show wpAny _ A (load s.heap.objs.size >>= _) _ _ _
 refine wpAny_bind (wpAny_load hl5 (wpAny_pure ?_))
 obtain⟨ms,i1,i2⟩:=yl acc ha
 have keep:∀ c q,s.heap.get? c=some q→h5.get? c=some q:=fun c q e=>by
  have hc:=Heap.lt_size e
  refine mv.heap c q ?_ (kp4 c q (Nat.ne_of_lt hc) (kp2 c q (kp1 c q e)))
  simp only [List.mem_cons,List.mem_singleton,List.not_mem_nil,or_false,not_or]
  exact⟨Nat.ne_of_lt hc,neI c hc⟩
 refine k h5 _ tk5 _ ms i1 i2 keep ?_
 exact Nat.le_of_lt (Heap.lt_size hl5)
theorem sorted_set {Q:Value→Shared→Prop} (hh:A.handled=none) (hS:SetI prog w (!w.params.followText "set-order") s.heap S L) (h64:L.length < 64)
  (k:∀ (l:Addr) (h':Heap) (d':Drawn) (tk:Nat) (out:Array Value) (ms:List Int) (e:Nat),IntsAre out.toList ms→ms.Perm L→ms.Pairwise (·≤·)→s.heap.objs.size≤l→h'.get? l=some (seqObj "list" out e)→
   (∀ c q,s.heap.get? c=some q→h'.get? c=some q)→Q (.ref l) { s with heap:=h',drawn:=d',toks:=tk }) :
  wpAny (model prog w) A (call (.builtin "sorted") [.ref S]) Q E s:=by
 refine Calls.call_function_entry kind_sorted plain_sorted entry_sorted (args_sorted1 _) ?_
 unfold Builtin.«sorted»
 refine wpAny_bind (m:=checkCount "sorted" 1 1 _) (wpAny_pure ?_)
 refine wpAny_bind (collect_set hh hS (by rw[sizeLine_eq];omega) fun h1 d1 tk1 vs ns i1 i2 keep le=>?_)
 have hv:vs.length < 64:=by rw[IntsAre.length i1,i2.length_eq];exact h64
 refine wpAny_bind (wpAny_newList ?_)
 have hoL:(h1.push (seqObj "list" vs.toArray 0)).get? h1.objs.size=some (seqObj "list" vs.toArray 0):=Heap.get?_push_size _ rfl
 refine wpAny_bind (wpAny_holding (wpAny_call_entry slot_list_sort ⟨_,hoL,rfl⟩ entry_list_sort (list_sort_tree hoL i1 hv fun out ms a1 a2 a3=>⟨_,rfl,?_⟩) (args_list_sort _)))
 obtain⟨e,he⟩:=sortedHeap_at (vs:=vs) (out:=out) hoL
 refine wpAny_pure ⟨_,rfl,k h1.objs.size _ _ _ out ms e a1 (a2.trans i2) a3 le he fun c q hc=>?_⟩
 have hlt:=Heap.lt_size (keep c q hc)
 rw[sortedHeap_old (Nat.ne_of_lt hlt) (by rw[size_push'];exact Nat.lt_succ_of_lt hlt)]
 exact Heap.get?_push_of_some _ (keep c q hc)
end
end TwS
namespace L2
open PySem PySem.Spec PyProof.Rows TwZ TwS
noncomputable def setO (P:Program) (w:World) (a:Addr) (L:List Int):HO:=.ext fun h=>SetI P w (!w.params.followText "set-order") h a L
noncomputable def ddL (ns:List Int):List Int:=dd (fun i=>ns.getD i 0) ns.length
theorem ddL_mem {ns:List Int}{k:Int}:k∈ddL ns↔k∈ns:=by
 unfold ddL
 rw[dd_mem]
 constructor
 ·rintro⟨i,hi,e⟩
  rw[List.getD_eq_getElem?_getD,List.getElem?_eq_getElem hi] at e
  rw[← e]
  exact List.getElem_mem hi
 ·intro h
  obtain⟨i,hi,e⟩:=List.mem_iff_getElem.1 h
  exact⟨i,hi,by rw[List.getD_eq_getElem?_getD,List.getElem?_eq_getElem hi,e];rfl⟩
theorem ddL_nodup (ns:List Int):(ddL ns).Nodup:=dd_nodup _ _
theorem ddL_len (ns:List Int):(ddL ns).length≤ns.length:=dd_len _ _
section
variable {X:Cx}{pins:List (Addr×Obj)}{σ:St}{H:Hp}{s:Shared}
theorem Inv.drew {d:Drawn} (I:Inv X pins σ H s):Inv X pins σ H { s with drawn:=d }:=⟨I.ok,I.os,I.bare,I.base,I.loc,I.cell,I.free,I.freeC,I.pin,I.hok,I.len⟩
noncomputable def rSet (P:Program) (w:World) (K:PySem.W.Frag):List V→Hp→VK→Prop:=fun xs H Q=>∃ (p:Addr) (ns:List Int),xs=[.ref p]∧cE K H p (ns.map V.int)∧ns.length≤1000∧∀ a,H a=none→Q (.ref a) (upd H a (setO P w a (ddL ns)))
theorem call_setB (hc:X.calm=true):eD X (.type "set") (rSet X.prog X.w X.K):=by
 intro pins s σ H xs us Q I r h
 obtain⟨p,ns,rfl,hq,hn,q⟩:=h
 obtain⟨u,rfl,ru⟩:=r.one
 cases ru
 obtain⟨its,rv,p1,hz⟩:=I.list hq
 have ia:=intsAre_of rv
 have il:its.length=ns.length:=IntsAre.length ia
 refine call_set (I.ok.hd hc) p1.isList (by simpa using ia) (by rw[List.size_toArray,il];unfold scanBound;omega) fun h' tk hS hk=>?_
 rw[show its.toArray.size=ns.length by rw[List.size_toArray,il]] at hS
 obtain⟨o,es,ep,t,g,r⟩:=id hS
 exact⟨.ref s.heap.objs.size,_,I.laid (fun b u e=>hk b u (Heap.lt_size e) e) (Nat.le_refl _) (show cN X.prog X.w _ h' _ (setO X.prog X.w s.heap.objs.size (ddL ns)) from ⟨hS,⟨o,g⟩,fun h1 h2 x e=>x.at e⟩),rfl,q _ I.fresh⟩
noncomputable def rSrt (P:Program) (w:World):List V→Hp→VK→Prop:=fun xs H Q=>∃ (a:Addr) (L:List Int),xs=[.ref a]∧H a=some (setO P w a L)∧L.length < 64∧∀ (l:Addr) (ms:List Int),H l=none→ms.Perm L→ms.Pairwise (·≤·)→Q (.ref l) (upd H l (.lst (ms.map V.int)))
theorem vals_intsS:∀ {vs:List Value}{ns:List Int},IntsAre vs ns→bE (ns.map V.int) vs
 | _,_,.nil=>.nil
 | _,_,.cons n t h=>.cons ⟨t,rfl⟩ (vals_intsS h)
theorem call_srtB (hc:X.calm=true):eD X (.builtin "sorted") (rSrt X.prog X.w):=by
 intro pins s σ H xs us Q I r h
 obtain⟨a,L,rfl,hq,hn,q⟩:=h
 obtain⟨u,rfl,ru⟩:=r.one
 cases ru
 obtain⟨hS,_,_⟩:SetI X.prog X.w (!X.w.params.followText "set-order") s.heap a L∧_:=I.hok a _ hq
 refine sorted_set (I.ok.hd hc) hS hn fun l h' d' tk out ms e i1 i2 i3 le hl keep=>?_
 refine⟨.ref l,upd H l (.lst (ms.map V.int)),(I.drew (d:=d')).laid keep le (show cN X.prog X.w _ h' _ (.lst (ms.map V.int)) from ⟨?_,out.toList,e,vals_intsS i1,by rw[Array.toArray_toList];exact hl⟩),rfl,q l ms (I.hok.fresh le) i2 i3⟩
 rw[List.length_map,i2.length_eq,sizeLine_eq]
 omega
theorem call_setK {P:Program}{w:World}{K:PySem.W.Frag} (hP:X.prog=P) (hw:X.w=w) (hK:X.K=K) (hc:X.calm=true):eD X (.type "set") (rSet P w K):=by
 subst hP hw hK
 exact call_setB hc
theorem call_srtK {P:Program}{w:World} (hP:X.prog=P) (hw:X.w=w) (hc:X.calm=true):eD X (.builtin "sorted") (rSrt P w):=by
 subst hP hw
 exact call_srtB hc
theorem boot_setT:bootBuiltins "set" = some (.type "set"):=by decide +kernel
end
structure Rises (ns ms:List Int):Prop where
 up:ms.Pairwise (· < ·)
 mem:∀ k,k∈ms↔k∈ns
theorem rises_of {ns ms:List Int} (p:ms.Perm (ddL ns)) (h:ms.Pairwise (·≤·)):Rises ns ms where
 up:=by
  have nd:ms.Nodup:=p.nodup_iff.2 (ddL_nodup ns)
  exact (h.and nd).imp fun {a b} z=>by have:=z.1;have:=z.2;omega
 mem:=fun k=>by rw[p.mem_iff,ddL_mem]
end L2
namespace Tw
open PySem L2
section
variable {P:Program}{w:World}{K:PySem.W.Frag}{mg:Str→Option Value}{base:Heap}
end
end Tw
namespace L2
open PySem PySem.Spec PyProof.Rows TwZ
section
variable {prog:Program}{w:World}
end
noncomputable instance decD:DecidableEq D:=fun a b=>Classical.propDecidable (a=b)
section
variable {prog:Program}{w:World}
end
end L2
namespace L2
open PySem PySem.Spec PyProof.Rows TwZ
section
variable {X:Cx}{pins:List (Addr×Obj)}{σ:St}{H:Hp}{s:Shared}
end
section
variable {P:Program}{w:World}{K:PySem.W.Frag}{H H':Hp}{a:Addr}{S:D}{kvs:List (D×V)}
end
section
variable {X:Cx}{pins:List (Addr×Obj)}{σ:St}{H:Hp}{s:Shared}{a:Addr}{S:D}{kvs:List (D×V)}
end
end L2
namespace Tw
open PySem L2
end Tw
namespace L2
open PySem PySem.Spec PyProof.Rows TwZ
section
variable {X:Cx}
theorem ps_calm {st:Stmt}{t:TS} (h:∀ pn:List (Addr×Obj),PS (X.within pn fun _ _=>False) st t):PS X st t:=by
 intro pins s σ H D I h1
 refine wpAny_mono (h (X.pn++pins) [] s σ H D I.within h1) (fun f s₁ hf=>?_) fun _ _ z=>z.elim
 cases f with
 | next=>obtain⟨σ',H',J,q⟩:=hf;exact⟨σ',H',J.unwithin,q⟩
 | brk=>obtain⟨σ',H',J,q⟩:=hf;exact⟨σ',H',J.unwithin,q⟩
 | cont=>obtain⟨σ',H',J,q⟩:=hf;exact⟨σ',H',J.unwithin,q⟩
 | ret u=>obtain⟨v,σ',H',J,r,q⟩:=hf;exact⟨v,σ',H',J.unwithin,r,q⟩
end
end L2
namespace L2
open PySem PySem.Spec PyProof.Rows TwZ
section
variable {X:Cx}{K:PySem.W.Frag}
end
end L2
namespace Tw
open PySem L2
theorem inV_tip (k:Nat):∀ l:List Nat,inV (.int (k:Int)) (l.map fun (i:Nat)=>V.int (i:Int))=decide (k∈l)
 | []=>rfl
 | x::l=>by
  show (eqV (.int (x:Int)) (.int (k:Int)) || inV (.int (k:Int)) (l.map fun (i:Nat)=>V.int (i:Int)))=_
  rw[inV_tip k l]
  show (((x:Int) == (k:Int)) || decide (k∈l))=decide (k∈x::l)
  by_cases h:k=x
  ·subst h;simp
  ·have h1:((x:Int) == (k:Int))=false:=by simp;omega
   have h2:decide (k∈x::l)=decide (k∈l):=by simp [h]
   rw[h1,h2,Bool.false_or]
theorem flat_tip (l:List Nat):(l.map fun (i:Nat)=>V.int (i:Int)).all flatV=true:=by
 rw[List.all_eq_true]
 intro z hz
 obtain⟨i,_,rfl⟩:=List.mem_map.1 hz
 rfl
end Tw
namespace L2
open PySem PySem.Spec PyProof.Rows TwZ
inductive G where
 | non
 | bl (b:Bool)
 | int (i:Int)
 | str (z:Str)
 | tup (gs:List G)
 | lst (gs:List G)
mutual
noncomputable def b0 (K:PySem.W.Frag) (H:Hp):G→V→Prop
 | .non,v=>v=.non
 | .bl b,v=>v=.bl b
 | .int i,v=>v=.int i
 | .str z,v=>v=.str z
 | .tup gs,v=>∃ a xs,v=.ref a∧bH K H a xs∧dY K H gs xs
 | .lst gs,v=>∃ a xs,v=.ref a∧cE K H a xs∧dY K H gs xs
noncomputable def dY (K:PySem.W.Frag) (H:Hp):List G→List V→Prop
 | [],vs=>vs=[]
 | g::gs,vs=>∃ v r,vs=v::r∧b0 K H g v∧dY K H gs r
end
mutual
noncomputable def bG:G→G→Bool
 | .non,.non=>true
 | .bl a,.bl b=>a == b
 | .bl a,.int b=>(if a then 1 else 0) == b
 | .int a,.bl b=>a == (if b then 1 else 0)
 | .int a,.int b=>a == b
 | .str a,.str b=>a == b
 | .tup a,.tup b=>eqGL a b
 | .lst a,.lst b=>eqGL a b
 | _,_=>false
noncomputable def eqGL:List G→List G→Bool
 | [],[]=>true
 | a::as,b::bs=>bG a b && eqGL as bs
 | _,_=>false
end
mutual
noncomputable def depG:G→Nat
 | .tup gs=>depGL gs+1
 | .lst gs=>depGL gs+1
 | _=>0
noncomputable def depGL:List G→Nat
 | []=>0
 | g::gs=>max (depG g) (depGL gs)
end
mutual
theorem eqG_refl:∀ g:G,bG g g=true
 | .non=>by rw[bG]
 | .bl b=>by rw[bG];simp
 | .int i=>by rw[bG];simp
 | .str z=>by rw[bG];simp
 | .tup gs=>by rw[bG];exact eqGL_refl gs
 | .lst gs=>by rw[bG];exact eqGL_refl gs
theorem eqGL_refl:∀ gs:List G,eqGL gs gs=true
 | []=>by rw[eqGL]
 | g::gs=>by rw[eqGL,eqG_refl g,eqGL_refl gs];rfl
end
theorem dY.length {K:PySem.W.Frag}{H:Hp}:∀ {gs:List G}{xs:List V},dY K H gs xs→xs.length=gs.length
 | [],_,h=>by rw[dY] at h;subst h;rfl
 | g::gs,_,h=>by rw[dY] at h;obtain⟨v,r,rfl,_,h⟩:=h;rw[List.length_cons,List.length_cons,dY.length h]
theorem dY.get {K:PySem.W.Frag}{H:Hp}:∀ {gs:List G}{xs:List V}{i:Nat}{g:G},dY K H gs xs→gs[i]? = some g→∃ x,xs[i]? = some x∧b0 K H g x
 | [],_,_,_,_,e=>by simp at e
 | g::gs,_,0,g',h,e=>by rw[dY] at h;obtain⟨v,r,rfl,h1,_⟩:=h;simp at e;subst e;exact⟨v,by simp,h1⟩
 | g::gs,_,i+1,g',h,e=>by
  rw[dY] at h;obtain⟨v,r,rfl,_,h⟩:=h
  obtain⟨x,h1,h2⟩:=dY.get h (i:=i) (by simpa using e)
  exact⟨x,by simpa using h1,h2⟩
theorem depGL_mem {g:G}:∀ {gs:List G},g∈gs→depG g≤depGL gs
 | [],h=>by cases h
 | a::gs,h=>by
  rw[depGL]
  rcases List.mem_cons.1 h with rfl | h
  ·omega
  ·have:=depGL_mem h;omega
noncomputable def eAt (gs hs:List G) (j:Nat):Bool:=match gs[j]?,hs[j]? with
 | some g,some h=>bG g h
 | _,_=>true
theorem range_all_succ (n:Nat) (e:Nat→Bool):(List.range (n+1)).all e=(e 0 && (List.range n).all fun j=>e (j+1)):=by
 rw[List.range_succ_eq_map,List.all_cons,List.all_map];rfl
theorem all_eAt:∀ (gs hs:List G),gs.length=hs.length→(List.range gs.length).all (eAt gs hs)=eqGL gs hs
 | [],[],_=>by rw[eqGL];rfl
 | [],_::_,h=>by simp at h
 | _::_,[],h=>by simp at h
 | g::gs,h::hs,hl=>by
  rw[List.length_cons,range_all_succ,eqGL,← all_eAt gs hs (by simpa using hl)]
  congr 1
theorem all_eAtT:∀ (gs hs:List G),((List.range (min gs.length hs.length)).all (eAt gs hs) && gs.length == hs.length)=eqGL gs hs
 | [],[]=>by rw[eqGL];rfl
 | [],_::_=>by simp [eqGL]
 | _::_,[]=>by simp [eqGL]
 | g::gs,h::hs=>by
  have e1:min (g::gs).length (h::hs).length=min gs.length hs.length+1:=by rw[List.length_cons,List.length_cons];omega
  have e2:((g::gs).length == (h::hs).length)=(gs.length == hs.length):=by simp
  rw[e1,e2,range_all_succ,eqGL,← all_eAtT gs hs,Bool.and_assoc]
  congr 1
theorem eqGL_len:∀ (gs hs:List G),gs.length≠hs.length→eqGL gs hs=false
 | [],[],h=>absurd rfl h
 | [],_::_,_=>by simp [eqGL]
 | _::_,[],_=>by simp [eqGL]
 | g::gs,h::hs,hl=>by rw[eqGL,eqGL_len gs hs (by simpa using hl),Bool.and_false]
theorem isTuple_uniq {h:Heap}{a:Addr}{xs ys:Array Value} (h1:h.IsTuple a xs) (h2:h.IsTuple a ys):xs=ys:=by
 obtain⟨o,e,_,n,d⟩:=h1
 obtain⟨o',e',_,n',d'⟩:=h2
 rw[e] at e'
 cases e'
 rw[d] at d'
 injection d'
theorem isList_uniq {h:Heap}{a:Addr}{xs ys:Array Value} (h1:h.IsList a xs) (h2:h.IsList a ys):xs=ys:=by
 obtain⟨o,e,_,n,d⟩:=h1
 obtain⟨o',e',_,n',d'⟩:=h2
 rw[e] at e'
 cases e'
 rw[d] at d'
 injection d'
section
variable {X:Cx}{pins:List (Addr×Obj)}{σ:St}{H:Hp}{s:Shared}
mutual
theorem uniqG (I:Inv X pins σ H s):∀ (g h:G) (x y:V) (u:Value),b0 X.K H g x→b0 X.K H h y→aY x u→aY y u→g=h
 | .non,h,x,y,u,hx,hy,rx,ry=>by
  rw[b0] at hx;subst hx;cases rx
  cases h <;> rw[b0] at hy
  ·subst hy;cases ry
  ·subst hy;obtain⟨_,e⟩:=ry;cases e
  ·subst hy;obtain⟨_,e⟩:=ry;cases e
  ·obtain⟨_,_,rfl,_⟩:=hy;cases ry
  ·obtain⟨_,_,rfl,_⟩:=hy;cases ry
 | .bl b,h,x,y,u,hx,hy,rx,ry=>by
  rw[b0] at hx;subst hx;cases rx
  cases h <;> rw[b0] at hy
  ·subst hy;cases ry
  ·subst hy;injection ry with e;rw[e]
  ·subst hy;obtain⟨_,e⟩:=ry;cases e
  ·subst hy;obtain⟨_,e⟩:=ry;cases e
  ·obtain⟨_,_,rfl,_⟩:=hy;cases ry
  ·obtain⟨_,_,rfl,_⟩:=hy;cases ry
 | .int b,h,x,y,u,hx,hy,rx,ry=>by
  rw[b0] at hx;subst hx;obtain⟨t,rfl⟩:=rx
  cases h <;> rw[b0] at hy
  ·subst hy;cases ry
  ·subst hy;cases ry
  ·subst hy;obtain⟨_,e⟩:=ry;injection e with e;rw[e]
  ·subst hy;obtain⟨_,e⟩:=ry;cases e
  ·obtain⟨_,_,rfl,_⟩:=hy;cases ry
  ·obtain⟨_,_,rfl,_⟩:=hy;cases ry
 | .str b,h,x,y,u,hx,hy,rx,ry=>by
  rw[b0] at hx;subst hx;obtain⟨t,rfl⟩:=rx
  cases h <;> rw[b0] at hy
  ·subst hy;cases ry
  ·subst hy;cases ry
  ·subst hy;obtain⟨_,e⟩:=ry;cases e
  ·subst hy;obtain⟨_,e⟩:=ry;injection e with e;rw[e]
  ·obtain⟨_,_,rfl,_⟩:=hy;cases ry
  ·obtain⟨_,_,rfl,_⟩:=hy;cases ry
 | .tup gs,h,x,y,u,hx,hy,rx,ry=>by
  rw[b0] at hx;obtain⟨a,xs,rfl,q1,l1⟩:=hx;cases rx
  cases h <;> rw[b0] at hy
  ·subst hy;cases ry
  ·subst hy;cases ry
  ·subst hy;obtain⟨_,e⟩:=ry;cases e
  ·subst hy;obtain⟨_,e⟩:=ry;cases e
  ·obtain⟨b,ys,rfl,q2,l2⟩:=hy;cases ry
   obtain⟨us,r1,p1,_⟩:=I.tuple q1
   obtain⟨vs,r2,p2,_⟩:=I.tuple q2
   have e:=isTuple_uniq p1 p2
   have e':us=vs:=by simpa using e
   subst e'
   rw[uniqGL I gs _ xs ys us l1 l2 r1 r2]
  ·obtain⟨b,ys,rfl,q2,l2⟩:=hy;cases ry
   obtain⟨us,r1,p1,_⟩:=I.tuple q1
   obtain⟨vs,r2,p2,_⟩:=I.list q2
   exact absurd rfl (SeqAt.ne_of_list_tuple p2.isList p1)
 | .lst gs,h,x,y,u,hx,hy,rx,ry=>by
  rw[b0] at hx;obtain⟨a,xs,rfl,q1,l1⟩:=hx;cases rx
  cases h <;> rw[b0] at hy
  ·subst hy;cases ry
  ·subst hy;cases ry
  ·subst hy;obtain⟨_,e⟩:=ry;cases e
  ·subst hy;obtain⟨_,e⟩:=ry;cases e
  ·obtain⟨b,ys,rfl,q2,l2⟩:=hy;cases ry
   obtain⟨us,r1,p1,_⟩:=I.list q1
   obtain⟨vs,r2,p2,_⟩:=I.tuple q2
   exact absurd rfl (SeqAt.ne_of_list_tuple p1.isList p2)
  ·obtain⟨b,ys,rfl,q2,l2⟩:=hy;cases ry
   obtain⟨us,r1,p1,_⟩:=I.list q1
   obtain⟨vs,r2,p2,_⟩:=I.list q2
   have e:=isList_uniq p1.isList p2.isList
   have e':us=vs:=by simpa using e
   subst e'
   rw[uniqGL I gs _ xs ys us l1 l2 r1 r2]
theorem uniqGL (I:Inv X pins σ H s):∀ (gs hs:List G) (xs ys:List V) (us:List Value),dY X.K H gs xs→dY X.K H hs ys→bE xs us→bE ys us→gs=hs
 | [],hs,xs,ys,us,h1,h2,r1,r2=>by
  rw[dY] at h1;subst h1;cases r1;cases r2
  cases hs with
  | nil=>rfl
  | cons h hs=>rw[dY] at h2;obtain⟨_,_,e,_⟩:=h2;cases e
 | g::gs,hs,xs,ys,us,h1,h2,r1,r2=>by
  rw[dY] at h1;obtain⟨x,r,rfl,i1,l1⟩:=h1
  cases r1 with
  | cons ra rb=>
   cases hs with
   | nil=>rw[dY] at h2;subst h2;cases r2
   | cons h hs=>
    rw[dY] at h2;obtain⟨y,r',rfl,i2,l2⟩:=h2
    cases r2 with
    | cons ra' rb'=>rw[uniqG I g h _ _ _ i1 i2 ra ra',uniqGL I gs hs _ _ _ l1 l2 rb rb']
end
theorem get_arr {us:List Value}{j:Nat}{w:Value} (h1:j < us.toArray.size) (h:us[j]? = some w):us.toArray[j]=w:=by
 have:us[j]? = some us.toArray[j]:=by simp
 rw[this] at h;exact Option.some.inj h
theorem el_eqAt {n:Nat}{gs hs:List G}{xs ys:List V}{us vs:List Value}{A:Around}
  (ih:∀ (g h:G) (x y:V) (u v:Value),g∈gs→b0 X.K H g x→b0 X.K H h y→aY x u→aY y v→SeqAt.EqAt A s u v (bG g h))
  (l1:dY X.K H gs xs) (l2:dY X.K H hs ys) (r1:bE xs us) (r2:bE ys vs) (j:Nat) (h1:j < us.toArray.size) (h2:j < vs.toArray.size):SeqAt.EqAt A s us.toArray[j] vs.toArray[j] (eAt gs hs j):=by
 have e1:=r1.length
 have e2:=r2.length
 have e3:=l1.length
 have e4:=l2.length
 have j1:j < gs.length:=by rw[← e3,e1];simpa using h1
 have j2:j < hs.length:=by rw[← e4,e2];simpa using h2
 obtain⟨x,gx,ix⟩:=l1.get (i:=j) (g:=gs[j]) (by simp)
 obtain⟨y,gy,iy⟩:=l2.get (i:=j) (g:=hs[j]) (by simp)
 obtain⟨w1,g1,t1⟩:=r1.get gx
 obtain⟨w2,g2,t2⟩:=r2.get gy
 rw[get_arr h1 g1,get_arr h2 g2]
 have:eAt gs hs j=bG gs[j] hs[j]:=by unfold eAt;simp [j1,j2]
 rw[this]
 exact ih _ _ x y w1 w2 (List.getElem_mem j1) ix iy t1 t2
end
section
variable {X:Cx}{pins:List (Addr×Obj)}{σ:St}{H:Hp}{s:Shared}
theorem eqAtG (I:Inv X pins σ H s):∀ (n:Nat) (g h:G) (A:Around) (x y:V) (u v:Value),depG g≤n→A.units+n < cLine→b0 X.K H g x→b0 X.K H h y→aY x u→aY y v→SeqAt.EqAt A s u v (bG g h)
 | n,.non,.non,A,x,y,u,v,hd,hu,hx,hy,rx,ry=>by
  rw[b0] at hx;subst hx;cases rx
  rw[b0] at hy;subst hy;cases ry
  rw[bG];exact SeqAt.EqAt.same _
 | n,.non,.bl gy,A,x,y,u,v,hd,hu,hx,hy,rx,ry=>by
  rw[b0] at hx;subst hx;cases rx
  rw[b0] at hy;subst hy;cases ry
  rw[show bG (.non) (.bl gy)=false from by simp [bG]];exact SeqAt.EqAt.none_bool gy
 | n,.non,.int gy,A,x,y,u,v,hd,hu,hx,hy,rx,ry=>by
  rw[b0] at hx;subst hx;cases rx
  rw[b0] at hy;subst hy;obtain⟨ty,rfl⟩:=ry
  rw[show bG (.non) (.int gy)=false from by simp [bG]];exact SeqAt.EqAt.none_int gy ty
 | n,.non,.str gy,A,x,y,u,v,hd,hu,hx,hy,rx,ry=>by
  rw[b0] at hx;subst hx;cases rx
  rw[b0] at hy;subst hy;obtain⟨ty,rfl⟩:=ry
  rw[show bG (.non) (.str gy)=false from by simp [bG]];exact SeqAt.EqAt.none_str gy ty
 | n,.non,.tup gy,A,x,y,u,v,hd,hu,hx,hy,rx,ry=>by
  rw[b0] at hx;subst hx;cases rx
  rw[b0] at hy;obtain⟨ay,xsy,rfl,qy,ly⟩:=hy;cases ry;obtain⟨usy,vy,py,_⟩:=I.tuple qy
  rw[show bG (.non) (.tup gy)=false from by simp [bG]];exact SeqAt.EqAt.none_tuple py (by omega)
 | n,.non,.lst gy,A,x,y,u,v,hd,hu,hx,hy,rx,ry=>by
  rw[b0] at hx;subst hx;cases rx
  rw[b0] at hy;obtain⟨ay,xsy,rfl,qy,ly⟩:=hy;cases ry;obtain⟨usy,vy,py,_⟩:=I.list qy
  rw[show bG (.non) (.lst gy)=false from by simp [bG]];exact SeqAt.EqAt.none_list py.isList (by omega)
 | n,.bl gx,.non,A,x,y,u,v,hd,hu,hx,hy,rx,ry=>by
  rw[b0] at hx;subst hx;cases rx
  rw[b0] at hy;subst hy;cases ry
  rw[show bG (.bl gx) (.non)=false from by simp [bG]];exact SeqAt.EqAt.bool_none gx
 | n,.bl gx,.bl gy,A,x,y,u,v,hd,hu,hx,hy,rx,ry=>by
  rw[b0] at hx;subst hx;cases rx
  rw[b0] at hy;subst hy;cases ry
  rw[bG];exact SeqAt.EqAt.bool_bool gx gy
 | n,.bl gx,.int gy,A,x,y,u,v,hd,hu,hx,hy,rx,ry=>by
  rw[b0] at hx;subst hx;cases rx
  rw[b0] at hy;subst hy;obtain⟨ty,rfl⟩:=ry
  rw[bG];exact SeqAt.EqAt.bool_int gx gy ty
 | n,.bl gx,.str gy,A,x,y,u,v,hd,hu,hx,hy,rx,ry=>by
  rw[b0] at hx;subst hx;cases rx
  rw[b0] at hy;subst hy;obtain⟨ty,rfl⟩:=ry
  rw[show bG (.bl gx) (.str gy)=false from by simp [bG]];exact SeqAt.EqAt.bool_str gx gy ty
 | n,.bl gx,.tup gy,A,x,y,u,v,hd,hu,hx,hy,rx,ry=>by
  rw[b0] at hx;subst hx;cases rx
  rw[b0] at hy;obtain⟨ay,xsy,rfl,qy,ly⟩:=hy;cases ry;obtain⟨usy,vy,py,_⟩:=I.tuple qy
  rw[show bG (.bl gx) (.tup gy)=false from by simp [bG]];exact SeqAt.EqAt.bool_tuple gx py (by omega)
 | n,.bl gx,.lst gy,A,x,y,u,v,hd,hu,hx,hy,rx,ry=>by
  rw[b0] at hx;subst hx;cases rx
  rw[b0] at hy;obtain⟨ay,xsy,rfl,qy,ly⟩:=hy;cases ry;obtain⟨usy,vy,py,_⟩:=I.list qy
  rw[show bG (.bl gx) (.lst gy)=false from by simp [bG]];exact SeqAt.EqAt.bool_list gx py.isList (by omega)
 | n,.int gx,.non,A,x,y,u,v,hd,hu,hx,hy,rx,ry=>by
  rw[b0] at hx;subst hx;obtain⟨tx,rfl⟩:=rx
  rw[b0] at hy;subst hy;cases ry
  rw[show bG (.int gx) (.non)=false from by simp [bG]];exact SeqAt.EqAt.int_none gx tx
 | n,.int gx,.bl gy,A,x,y,u,v,hd,hu,hx,hy,rx,ry=>by
  rw[b0] at hx;subst hx;obtain⟨tx,rfl⟩:=rx
  rw[b0] at hy;subst hy;cases ry
  rw[bG];exact SeqAt.EqAt.int_bool gx tx gy
 | n,.int gx,.int gy,A,x,y,u,v,hd,hu,hx,hy,rx,ry=>by
  rw[b0] at hx;subst hx;obtain⟨tx,rfl⟩:=rx
  rw[b0] at hy;subst hy;obtain⟨ty,rfl⟩:=ry
  rw[bG];exact SeqAt.EqAt.int_int gx tx gy ty
 | n,.int gx,.str gy,A,x,y,u,v,hd,hu,hx,hy,rx,ry=>by
  rw[b0] at hx;subst hx;obtain⟨tx,rfl⟩:=rx
  rw[b0] at hy;subst hy;obtain⟨ty,rfl⟩:=ry
  rw[show bG (.int gx) (.str gy)=false from by simp [bG]];exact SeqAt.EqAt.int_str gx tx gy ty
 | n,.int gx,.tup gy,A,x,y,u,v,hd,hu,hx,hy,rx,ry=>by
  rw[b0] at hx;subst hx;obtain⟨tx,rfl⟩:=rx
  rw[b0] at hy;obtain⟨ay,xsy,rfl,qy,ly⟩:=hy;cases ry;obtain⟨usy,vy,py,_⟩:=I.tuple qy
  rw[show bG (.int gx) (.tup gy)=false from by simp [bG]];exact SeqAt.EqAt.int_tuple gx tx py (by omega)
 | n,.int gx,.lst gy,A,x,y,u,v,hd,hu,hx,hy,rx,ry=>by
  rw[b0] at hx;subst hx;obtain⟨tx,rfl⟩:=rx
  rw[b0] at hy;obtain⟨ay,xsy,rfl,qy,ly⟩:=hy;cases ry;obtain⟨usy,vy,py,_⟩:=I.list qy
  rw[show bG (.int gx) (.lst gy)=false from by simp [bG]];exact SeqAt.EqAt.int_list gx tx py.isList (by omega)
 | n,.str gx,.non,A,x,y,u,v,hd,hu,hx,hy,rx,ry=>by
  rw[b0] at hx;subst hx;obtain⟨tx,rfl⟩:=rx
  rw[b0] at hy;subst hy;cases ry
  rw[show bG (.str gx) (.non)=false from by simp [bG]];exact SeqAt.EqAt.str_none gx tx
 | n,.str gx,.bl gy,A,x,y,u,v,hd,hu,hx,hy,rx,ry=>by
  rw[b0] at hx;subst hx;obtain⟨tx,rfl⟩:=rx
  rw[b0] at hy;subst hy;cases ry
  rw[show bG (.str gx) (.bl gy)=false from by simp [bG]];exact SeqAt.EqAt.str_bool gx tx gy
 | n,.str gx,.int gy,A,x,y,u,v,hd,hu,hx,hy,rx,ry=>by
  rw[b0] at hx;subst hx;obtain⟨tx,rfl⟩:=rx
  rw[b0] at hy;subst hy;obtain⟨ty,rfl⟩:=ry
  rw[show bG (.str gx) (.int gy)=false from by simp [bG]];exact SeqAt.EqAt.str_int gx tx gy ty
 | n,.str gx,.str gy,A,x,y,u,v,hd,hu,hx,hy,rx,ry=>by
  rw[b0] at hx;subst hx;obtain⟨tx,rfl⟩:=rx
  rw[b0] at hy;subst hy;obtain⟨ty,rfl⟩:=ry
  rw[bG];exact SeqAt.EqAt.str_str gx tx gy ty
 | n,.str gx,.tup gy,A,x,y,u,v,hd,hu,hx,hy,rx,ry=>by
  rw[b0] at hx;subst hx;obtain⟨tx,rfl⟩:=rx
  rw[b0] at hy;obtain⟨ay,xsy,rfl,qy,ly⟩:=hy;cases ry;obtain⟨usy,vy,py,_⟩:=I.tuple qy
  rw[show bG (.str gx) (.tup gy)=false from by simp [bG]];exact SeqAt.EqAt.str_tuple gx tx py (by omega)
 | n,.str gx,.lst gy,A,x,y,u,v,hd,hu,hx,hy,rx,ry=>by
  rw[b0] at hx;subst hx;obtain⟨tx,rfl⟩:=rx
  rw[b0] at hy;obtain⟨ay,xsy,rfl,qy,ly⟩:=hy;cases ry;obtain⟨usy,vy,py,_⟩:=I.list qy
  rw[show bG (.str gx) (.lst gy)=false from by simp [bG]];exact SeqAt.EqAt.str_list gx tx py.isList (by omega)
 | n,.tup gx,.non,A,x,y,u,v,hd,hu,hx,hy,rx,ry=>by
  rw[b0] at hx;obtain⟨ax,xsx,rfl,qx,lx⟩:=hx;cases rx;obtain⟨usx,vx,px,_⟩:=I.tuple qx
  rw[b0] at hy;subst hy;cases ry
  rw[show bG (.tup gx) (.non)=false from by simp [bG]];exact SeqAt.EqAt.tuple_none px (by omega)
 | n,.tup gx,.bl gy,A,x,y,u,v,hd,hu,hx,hy,rx,ry=>by
  rw[b0] at hx;obtain⟨ax,xsx,rfl,qx,lx⟩:=hx;cases rx;obtain⟨usx,vx,px,_⟩:=I.tuple qx
  rw[b0] at hy;subst hy;cases ry
  rw[show bG (.tup gx) (.bl gy)=false from by simp [bG]];exact SeqAt.EqAt.tuple_bool gy px (by omega)
 | n,.tup gx,.int gy,A,x,y,u,v,hd,hu,hx,hy,rx,ry=>by
  rw[b0] at hx;obtain⟨ax,xsx,rfl,qx,lx⟩:=hx;cases rx;obtain⟨usx,vx,px,_⟩:=I.tuple qx
  rw[b0] at hy;subst hy;obtain⟨ty,rfl⟩:=ry
  rw[show bG (.tup gx) (.int gy)=false from by simp [bG]];exact SeqAt.EqAt.tuple_int gy ty px (by omega)
 | n,.tup gx,.str gy,A,x,y,u,v,hd,hu,hx,hy,rx,ry=>by
  rw[b0] at hx;obtain⟨ax,xsx,rfl,qx,lx⟩:=hx;cases rx;obtain⟨usx,vx,px,_⟩:=I.tuple qx
  rw[b0] at hy;subst hy;obtain⟨ty,rfl⟩:=ry
  rw[show bG (.tup gx) (.str gy)=false from by simp [bG]];exact SeqAt.EqAt.tuple_str gy ty px (by omega)
 | 0,.tup gx,.tup gy,A,x,y,u,v,hd,_,_,_,_,_=>by rw[depG] at hd;omega
 | n+1,.tup gx,.tup gy,A,x,y,u,v,hd,hu,hx,hy,rx,ry=>by
  rw[b0] at hx;obtain⟨ax,xsx,rfl,qx,lx⟩:=hx;cases rx;obtain⟨usx,vx,px,_⟩:=I.tuple qx
  rw[b0] at hy;obtain⟨ay,xsy,rfl,qy,ly⟩:=hy;cases ry;obtain⟨usy,vy,py,_⟩:=I.tuple qy
  by_cases hab:ax=ay
  ·subst hab
   have e:=uniqG I (.tup gx) (.tup gy) (.ref ax) (.ref ax) _ (by rw[b0];exact⟨_,_,rfl,qx,lx⟩) (by rw[b0];exact⟨_,_,rfl,qy,ly⟩) rfl rfl
   rw[e,eqG_refl];exact SeqAt.EqAt.same _
  have e1:=vx.length
  have e2:=vy.length
  have e3:=lx.length
  have e4:=ly.length
  rw[show bG (.tup gx) (.tup gy)=eqGL gx gy from by rw[bG],← all_eAtT gx gy]
  have ex:gx.length=usx.toArray.size:=by rw[← e3,e1,List.size_toArray]
  have ey:gy.length=usy.toArray.size:=by rw[← e4,e2,List.size_toArray]
  rw[ex,ey]
  refine SeqAt.EqAt.of_refs hab ?_;exact SeqAt.RcAt.tuples px py (by omega) (fun j h1 h2=>el_eqAt (n:=0) (fun g h x y u v hm ix iy tx ty=>eqAtG I n g h A.in1 x y u v (by have:=depGL_mem hm;rw[depG] at hd;omega) (by show A.units+1+n < cLine;omega) ix iy tx ty) lx ly vx vy j h1 h2)
 | n,.tup gx,.lst gy,A,x,y,u,v,hd,hu,hx,hy,rx,ry=>by
  rw[b0] at hx;obtain⟨ax,xsx,rfl,qx,lx⟩:=hx;cases rx;obtain⟨usx,vx,px,_⟩:=I.tuple qx
  rw[b0] at hy;obtain⟨ay,xsy,rfl,qy,ly⟩:=hy;cases ry;obtain⟨usy,vy,py,_⟩:=I.list qy
  rw[show bG (.tup gx) (.lst gy)=false from by simp [bG]];exact SeqAt.EqAt.tuple_list px py.isList (by omega)
 | n,.lst gx,.non,A,x,y,u,v,hd,hu,hx,hy,rx,ry=>by
  rw[b0] at hx;obtain⟨ax,xsx,rfl,qx,lx⟩:=hx;cases rx;obtain⟨usx,vx,px,_⟩:=I.list qx
  rw[b0] at hy;subst hy;cases ry
  rw[show bG (.lst gx) (.non)=false from by simp [bG]];exact SeqAt.EqAt.list_none px.isList (by omega)
 | n,.lst gx,.bl gy,A,x,y,u,v,hd,hu,hx,hy,rx,ry=>by
  rw[b0] at hx;obtain⟨ax,xsx,rfl,qx,lx⟩:=hx;cases rx;obtain⟨usx,vx,px,_⟩:=I.list qx
  rw[b0] at hy;subst hy;cases ry
  rw[show bG (.lst gx) (.bl gy)=false from by simp [bG]];exact SeqAt.EqAt.list_bool gy px.isList (by omega)
 | n,.lst gx,.int gy,A,x,y,u,v,hd,hu,hx,hy,rx,ry=>by
  rw[b0] at hx;obtain⟨ax,xsx,rfl,qx,lx⟩:=hx;cases rx;obtain⟨usx,vx,px,_⟩:=I.list qx
  rw[b0] at hy;subst hy;obtain⟨ty,rfl⟩:=ry
  rw[show bG (.lst gx) (.int gy)=false from by simp [bG]];exact SeqAt.EqAt.list_int gy ty px.isList (by omega)
 | n,.lst gx,.str gy,A,x,y,u,v,hd,hu,hx,hy,rx,ry=>by
  rw[b0] at hx;obtain⟨ax,xsx,rfl,qx,lx⟩:=hx;cases rx;obtain⟨usx,vx,px,_⟩:=I.list qx
  rw[b0] at hy;subst hy;obtain⟨ty,rfl⟩:=ry
  rw[show bG (.lst gx) (.str gy)=false from by simp [bG]];exact SeqAt.EqAt.list_str gy ty px.isList (by omega)
 | n,.lst gx,.tup gy,A,x,y,u,v,hd,hu,hx,hy,rx,ry=>by
  rw[b0] at hx;obtain⟨ax,xsx,rfl,qx,lx⟩:=hx;cases rx;obtain⟨usx,vx,px,_⟩:=I.list qx
  rw[b0] at hy;obtain⟨ay,xsy,rfl,qy,ly⟩:=hy;cases ry;obtain⟨usy,vy,py,_⟩:=I.tuple qy
  rw[show bG (.lst gx) (.tup gy)=false from by simp [bG]];exact SeqAt.EqAt.list_tuple px.isList py (by omega)
 | 0,.lst gx,.lst gy,A,x,y,u,v,hd,_,_,_,_,_=>by rw[depG] at hd;omega
 | n+1,.lst gx,.lst gy,A,x,y,u,v,hd,hu,hx,hy,rx,ry=>by
  rw[b0] at hx;obtain⟨ax,xsx,rfl,qx,lx⟩:=hx;cases rx;obtain⟨usx,vx,px,_⟩:=I.list qx
  rw[b0] at hy;obtain⟨ay,xsy,rfl,qy,ly⟩:=hy;cases ry;obtain⟨usy,vy,py,_⟩:=I.list qy
  by_cases hab:ax=ay
  ·subst hab
   have e:=uniqG I (.lst gx) (.lst gy) (.ref ax) (.ref ax) _ (by rw[b0];exact⟨_,_,rfl,qx,lx⟩) (by rw[b0];exact⟨_,_,rfl,qy,ly⟩) rfl rfl
   rw[e,eqG_refl];exact SeqAt.EqAt.same _
  have e1:=vx.length
  have e2:=vy.length
  have e3:=lx.length
  have e4:=ly.length
  rw[show bG (.lst gx) (.lst gy)=eqGL gx gy from by rw[bG]]
  have ex:gx.length=usx.toArray.size:=by rw[← e3,e1,List.size_toArray]
  have ey:gy.length=usy.toArray.size:=by rw[← e4,e2,List.size_toArray]
  by_cases hl:gx.length=gy.length
  ·rw[← all_eAt gx gy hl,ex]
   refine SeqAt.EqAt.of_refs hab ?_;exact SeqAt.RcAt.lists px.isList py.isList (by omega) (by omega) (fun j h1 h2=>el_eqAt (n:=0) (fun g h x y u v hm ix iy tx ty=>eqAtG I n g h A.in1 x y u v (by have:=depGL_mem hm;rw[depG] at hd;omega) (by show A.units+1+n < cLine;omega) ix iy tx ty) lx ly vx vy j h1 h2)
  ·rw[eqGL_len gx gy hl]
   refine SeqAt.EqAt.of_refs hab ?_;exact SeqAt.RcAt.lists_lengths px.isList py.isList (by rw[← ex,← ey];simpa using hl) (by omega)
theorem rneG (I:Inv X pins σ H s) {A:Around} (hu:A.units+40 < cLine):∀ (g h:G) (x y:V) (u v:Value),depG g≤30→b0 X.K H g x→b0 X.K H h y→aY x u→aY y v→SeqAt.RcNeAt A s u v (!bG g h)
 | .non,.non,x,y,u,v,hd,hx,hy,rx,ry=>by
  rw[b0] at hx;subst hx;cases rx
  rw[b0] at hy;subst hy;cases ry
  rw[bG];exact SeqAt.RcNeAt.none_none
 | .non,.bl gy,x,y,u,v,hd,hx,hy,rx,ry=>by
  rw[b0] at hx;subst hx;cases rx
  rw[b0] at hy;subst hy;cases ry
  rw[show bG (.non) (.bl gy)=false from by simp [bG]];exact SeqAt.RcNeAt.none_bool gy
 | .non,.int gy,x,y,u,v,hd,hx,hy,rx,ry=>by
  rw[b0] at hx;subst hx;cases rx
  rw[b0] at hy;subst hy;obtain⟨ty,rfl⟩:=ry
  rw[show bG (.non) (.int gy)=false from by simp [bG]];exact SeqAt.RcNeAt.none_int gy ty
 | .non,.str gy,x,y,u,v,hd,hx,hy,rx,ry=>by
  rw[b0] at hx;subst hx;cases rx
  rw[b0] at hy;subst hy;obtain⟨ty,rfl⟩:=ry
  rw[show bG (.non) (.str gy)=false from by simp [bG]];exact SeqAt.RcNeAt.none_str gy ty
 | .non,.tup gy,x,y,u,v,hd,hx,hy,rx,ry=>by
  rw[b0] at hx;subst hx;cases rx
  rw[b0] at hy;obtain⟨ay,xsy,rfl,qy,ly⟩:=hy;cases ry;obtain⟨usy,vy,py,_⟩:=I.tuple qy
  rw[show bG (.non) (.tup gy)=false from by simp [bG]];exact SeqAt.RcNeAt.none_tuple py (by omega)
 | .non,.lst gy,x,y,u,v,hd,hx,hy,rx,ry=>by
  rw[b0] at hx;subst hx;cases rx
  rw[b0] at hy;obtain⟨ay,xsy,rfl,qy,ly⟩:=hy;cases ry;obtain⟨usy,vy,py,_⟩:=I.list qy
  rw[show bG (.non) (.lst gy)=false from by simp [bG]];exact SeqAt.RcNeAt.none_list py.isList (by omega)
 | .bl gx,.non,x,y,u,v,hd,hx,hy,rx,ry=>by
  rw[b0] at hx;subst hx;cases rx
  rw[b0] at hy;subst hy;cases ry
  rw[show bG (.bl gx) (.non)=false from by simp [bG]];exact SeqAt.RcNeAt.bool_none gx
 | .bl gx,.bl gy,x,y,u,v,hd,hx,hy,rx,ry=>by
  rw[b0] at hx;subst hx;cases rx
  rw[b0] at hy;subst hy;cases ry
  rw[bG];exact SeqAt.RcNeAt.bool_bool gx gy
 | .bl gx,.int gy,x,y,u,v,hd,hx,hy,rx,ry=>by
  rw[b0] at hx;subst hx;cases rx
  rw[b0] at hy;subst hy;obtain⟨ty,rfl⟩:=ry
  rw[bG];exact SeqAt.RcNeAt.bool_int gx gy ty
 | .bl gx,.str gy,x,y,u,v,hd,hx,hy,rx,ry=>by
  rw[b0] at hx;subst hx;cases rx
  rw[b0] at hy;subst hy;obtain⟨ty,rfl⟩:=ry
  rw[show bG (.bl gx) (.str gy)=false from by simp [bG]];exact SeqAt.RcNeAt.bool_str gx gy ty
 | .bl gx,.tup gy,x,y,u,v,hd,hx,hy,rx,ry=>by
  rw[b0] at hx;subst hx;cases rx
  rw[b0] at hy;obtain⟨ay,xsy,rfl,qy,ly⟩:=hy;cases ry;obtain⟨usy,vy,py,_⟩:=I.tuple qy
  rw[show bG (.bl gx) (.tup gy)=false from by simp [bG]];exact SeqAt.RcNeAt.bool_tuple gx py (by omega)
 | .bl gx,.lst gy,x,y,u,v,hd,hx,hy,rx,ry=>by
  rw[b0] at hx;subst hx;cases rx
  rw[b0] at hy;obtain⟨ay,xsy,rfl,qy,ly⟩:=hy;cases ry;obtain⟨usy,vy,py,_⟩:=I.list qy
  rw[show bG (.bl gx) (.lst gy)=false from by simp [bG]];exact SeqAt.RcNeAt.bool_list gx py.isList (by omega)
 | .int gx,.non,x,y,u,v,hd,hx,hy,rx,ry=>by
  rw[b0] at hx;subst hx;obtain⟨tx,rfl⟩:=rx
  rw[b0] at hy;subst hy;cases ry
  rw[show bG (.int gx) (.non)=false from by simp [bG]];exact SeqAt.RcNeAt.int_none gx tx
 | .int gx,.bl gy,x,y,u,v,hd,hx,hy,rx,ry=>by
  rw[b0] at hx;subst hx;obtain⟨tx,rfl⟩:=rx
  rw[b0] at hy;subst hy;cases ry
  rw[bG];exact SeqAt.RcNeAt.int_bool gx tx gy
 | .int gx,.int gy,x,y,u,v,hd,hx,hy,rx,ry=>by
  rw[b0] at hx;subst hx;obtain⟨tx,rfl⟩:=rx
  rw[b0] at hy;subst hy;obtain⟨ty,rfl⟩:=ry
  rw[bG];exact SeqAt.RcNeAt.int_int gx tx gy ty
 | .int gx,.str gy,x,y,u,v,hd,hx,hy,rx,ry=>by
  rw[b0] at hx;subst hx;obtain⟨tx,rfl⟩:=rx
  rw[b0] at hy;subst hy;obtain⟨ty,rfl⟩:=ry
  rw[show bG (.int gx) (.str gy)=false from by simp [bG]];exact SeqAt.RcNeAt.int_str gx tx gy ty
 | .int gx,.tup gy,x,y,u,v,hd,hx,hy,rx,ry=>by
  rw[b0] at hx;subst hx;obtain⟨tx,rfl⟩:=rx
  rw[b0] at hy;obtain⟨ay,xsy,rfl,qy,ly⟩:=hy;cases ry;obtain⟨usy,vy,py,_⟩:=I.tuple qy
  rw[show bG (.int gx) (.tup gy)=false from by simp [bG]];exact SeqAt.RcNeAt.int_tuple gx tx py (by omega)
 | .int gx,.lst gy,x,y,u,v,hd,hx,hy,rx,ry=>by
  rw[b0] at hx;subst hx;obtain⟨tx,rfl⟩:=rx
  rw[b0] at hy;obtain⟨ay,xsy,rfl,qy,ly⟩:=hy;cases ry;obtain⟨usy,vy,py,_⟩:=I.list qy
  rw[show bG (.int gx) (.lst gy)=false from by simp [bG]];exact SeqAt.RcNeAt.int_list gx tx py.isList (by omega)
 | .str gx,.non,x,y,u,v,hd,hx,hy,rx,ry=>by
  rw[b0] at hx;subst hx;obtain⟨tx,rfl⟩:=rx
  rw[b0] at hy;subst hy;cases ry
  rw[show bG (.str gx) (.non)=false from by simp [bG]];exact SeqAt.RcNeAt.str_none gx tx
 | .str gx,.bl gy,x,y,u,v,hd,hx,hy,rx,ry=>by
  rw[b0] at hx;subst hx;obtain⟨tx,rfl⟩:=rx
  rw[b0] at hy;subst hy;cases ry
  rw[show bG (.str gx) (.bl gy)=false from by simp [bG]];exact SeqAt.RcNeAt.str_bool gx tx gy
 | .str gx,.int gy,x,y,u,v,hd,hx,hy,rx,ry=>by
  rw[b0] at hx;subst hx;obtain⟨tx,rfl⟩:=rx
  rw[b0] at hy;subst hy;obtain⟨ty,rfl⟩:=ry
  rw[show bG (.str gx) (.int gy)=false from by simp [bG]];exact SeqAt.RcNeAt.str_int gx tx gy ty
 | .str gx,.str gy,x,y,u,v,hd,hx,hy,rx,ry=>by
  rw[b0] at hx;subst hx;obtain⟨tx,rfl⟩:=rx
  rw[b0] at hy;subst hy;obtain⟨ty,rfl⟩:=ry
  rw[bG];exact SeqAt.RcNeAt.str_str gx tx gy ty
 | .str gx,.tup gy,x,y,u,v,hd,hx,hy,rx,ry=>by
  rw[b0] at hx;subst hx;obtain⟨tx,rfl⟩:=rx
  rw[b0] at hy;obtain⟨ay,xsy,rfl,qy,ly⟩:=hy;cases ry;obtain⟨usy,vy,py,_⟩:=I.tuple qy
  rw[show bG (.str gx) (.tup gy)=false from by simp [bG]];exact SeqAt.RcNeAt.str_tuple gx tx py (by omega)
 | .str gx,.lst gy,x,y,u,v,hd,hx,hy,rx,ry=>by
  rw[b0] at hx;subst hx;obtain⟨tx,rfl⟩:=rx
  rw[b0] at hy;obtain⟨ay,xsy,rfl,qy,ly⟩:=hy;cases ry;obtain⟨usy,vy,py,_⟩:=I.list qy
  rw[show bG (.str gx) (.lst gy)=false from by simp [bG]];exact SeqAt.RcNeAt.str_list gx tx py.isList (by omega)
 | .tup gx,.non,x,y,u,v,hd,hx,hy,rx,ry=>by
  rw[b0] at hx;obtain⟨ax,xsx,rfl,qx,lx⟩:=hx;cases rx;obtain⟨usx,vx,px,_⟩:=I.tuple qx
  rw[b0] at hy;subst hy;cases ry
  rw[show bG (.tup gx) (.non)=false from by simp [bG]];exact SeqAt.RcNeAt.tuple_none px (by omega)
 | .tup gx,.bl gy,x,y,u,v,hd,hx,hy,rx,ry=>by
  rw[b0] at hx;obtain⟨ax,xsx,rfl,qx,lx⟩:=hx;cases rx;obtain⟨usx,vx,px,_⟩:=I.tuple qx
  rw[b0] at hy;subst hy;cases ry
  rw[show bG (.tup gx) (.bl gy)=false from by simp [bG]];exact SeqAt.RcNeAt.tuple_bool gy px (by omega)
 | .tup gx,.int gy,x,y,u,v,hd,hx,hy,rx,ry=>by
  rw[b0] at hx;obtain⟨ax,xsx,rfl,qx,lx⟩:=hx;cases rx;obtain⟨usx,vx,px,_⟩:=I.tuple qx
  rw[b0] at hy;subst hy;obtain⟨ty,rfl⟩:=ry
  rw[show bG (.tup gx) (.int gy)=false from by simp [bG]];exact SeqAt.RcNeAt.tuple_int gy ty px (by omega)
 | .tup gx,.str gy,x,y,u,v,hd,hx,hy,rx,ry=>by
  rw[b0] at hx;obtain⟨ax,xsx,rfl,qx,lx⟩:=hx;cases rx;obtain⟨usx,vx,px,_⟩:=I.tuple qx
  rw[b0] at hy;subst hy;obtain⟨ty,rfl⟩:=ry
  rw[show bG (.tup gx) (.str gy)=false from by simp [bG]];exact SeqAt.RcNeAt.tuple_str gy ty px (by omega)
 | .tup gx,.tup gy,x,y,u,v,hd,hx,hy,rx,ry=>by
  rw[b0] at hx;obtain⟨ax,xsx,rfl,qx,lx⟩:=hx;cases rx;obtain⟨usx,vx,px,_⟩:=I.tuple qx
  rw[b0] at hy;obtain⟨ay,xsy,rfl,qy,ly⟩:=hy;cases ry;obtain⟨usy,vy,py,_⟩:=I.tuple qy
  have e1:=vx.length
  have e2:=vy.length
  have e3:=lx.length
  have e4:=ly.length
  rw[show bG (.tup gx) (.tup gy)=eqGL gx gy from by rw[bG],← all_eAtT gx gy]
  have ex:gx.length=usx.toArray.size:=by rw[← e3,e1,List.size_toArray]
  have ey:gy.length=usy.toArray.size:=by rw[← e4,e2,List.size_toArray]
  rw[ex,ey]
  exact SeqAt.RcNeAt.tuples px py (by omega) (fun j h1 h2=>el_eqAt (n:=0) (fun g h x y u v hm ix iy tx ty=>eqAtG I 30 g h A.in1 x y u v (by have:=depGL_mem hm;rw[depG] at hd;omega) (by show A.units+1+30 < cLine;omega) ix iy tx ty) lx ly vx vy j h1 h2)
 | .tup gx,.lst gy,x,y,u,v,hd,hx,hy,rx,ry=>by
  rw[b0] at hx;obtain⟨ax,xsx,rfl,qx,lx⟩:=hx;cases rx;obtain⟨usx,vx,px,_⟩:=I.tuple qx
  rw[b0] at hy;obtain⟨ay,xsy,rfl,qy,ly⟩:=hy;cases ry;obtain⟨usy,vy,py,_⟩:=I.list qy
  rw[show bG (.tup gx) (.lst gy)=false from by simp [bG]];exact SeqAt.RcNeAt.tuple_list px py.isList (by omega)
 | .lst gx,.non,x,y,u,v,hd,hx,hy,rx,ry=>by
  rw[b0] at hx;obtain⟨ax,xsx,rfl,qx,lx⟩:=hx;cases rx;obtain⟨usx,vx,px,_⟩:=I.list qx
  rw[b0] at hy;subst hy;cases ry
  rw[show bG (.lst gx) (.non)=false from by simp [bG]];exact SeqAt.RcNeAt.list_none px.isList (by omega)
 | .lst gx,.bl gy,x,y,u,v,hd,hx,hy,rx,ry=>by
  rw[b0] at hx;obtain⟨ax,xsx,rfl,qx,lx⟩:=hx;cases rx;obtain⟨usx,vx,px,_⟩:=I.list qx
  rw[b0] at hy;subst hy;cases ry
  rw[show bG (.lst gx) (.bl gy)=false from by simp [bG]];exact SeqAt.RcNeAt.list_bool gy px.isList (by omega)
 | .lst gx,.int gy,x,y,u,v,hd,hx,hy,rx,ry=>by
  rw[b0] at hx;obtain⟨ax,xsx,rfl,qx,lx⟩:=hx;cases rx;obtain⟨usx,vx,px,_⟩:=I.list qx
  rw[b0] at hy;subst hy;obtain⟨ty,rfl⟩:=ry
  rw[show bG (.lst gx) (.int gy)=false from by simp [bG]];exact SeqAt.RcNeAt.list_int gy ty px.isList (by omega)
 | .lst gx,.str gy,x,y,u,v,hd,hx,hy,rx,ry=>by
  rw[b0] at hx;obtain⟨ax,xsx,rfl,qx,lx⟩:=hx;cases rx;obtain⟨usx,vx,px,_⟩:=I.list qx
  rw[b0] at hy;subst hy;obtain⟨ty,rfl⟩:=ry
  rw[show bG (.lst gx) (.str gy)=false from by simp [bG]];exact SeqAt.RcNeAt.list_str gy ty px.isList (by omega)
 | .lst gx,.tup gy,x,y,u,v,hd,hx,hy,rx,ry=>by
  rw[b0] at hx;obtain⟨ax,xsx,rfl,qx,lx⟩:=hx;cases rx;obtain⟨usx,vx,px,_⟩:=I.list qx
  rw[b0] at hy;obtain⟨ay,xsy,rfl,qy,ly⟩:=hy;cases ry;obtain⟨usy,vy,py,_⟩:=I.tuple qy
  rw[show bG (.lst gx) (.tup gy)=false from by simp [bG]];exact SeqAt.RcNeAt.list_tuple px.isList py (by omega)
 | .lst gx,.lst gy,x,y,u,v,hd,hx,hy,rx,ry=>by
  rw[b0] at hx;obtain⟨ax,xsx,rfl,qx,lx⟩:=hx;cases rx;obtain⟨usx,vx,px,_⟩:=I.list qx
  rw[b0] at hy;obtain⟨ay,xsy,rfl,qy,ly⟩:=hy;cases ry;obtain⟨usy,vy,py,_⟩:=I.list qy
  have e1:=vx.length
  have e2:=vy.length
  have e3:=lx.length
  have e4:=ly.length
  rw[show bG (.lst gx) (.lst gy)=eqGL gx gy from by rw[bG]]
  have ex:gx.length=usx.toArray.size:=by rw[← e3,e1,List.size_toArray]
  have ey:gy.length=usy.toArray.size:=by rw[← e4,e2,List.size_toArray]
  by_cases hl:gx.length=gy.length
  ·rw[← all_eAt gx gy hl,ex]
   exact SeqAt.RcNeAt.lists px.isList py.isList (by omega) (by omega) (fun j h1 h2=>el_eqAt (n:=0) (fun g h x y u v hm ix iy tx ty=>eqAtG I 30 g h A.in1 x y u v (by have:=depGL_mem hm;rw[depG] at hd;omega) (by show A.units+1+30 < cLine;omega) ix iy tx ty) lx ly vx vy j h1 h2)
  ·rw[eqGL_len gx gy hl]
   exact SeqAt.RcNeAt.lists_lengths px.isList py.isList (by rw[← ex,← ey];simpa using hl) (by omega)
noncomputable def rNeG (K:PySem.W.Frag):R2:=fun x y H Q=>∃ g h,depG g≤30∧b0 K H g x∧b0 K H h y∧Q (.bl (!bG g h)) H
theorem op_neG (hu:X.A.units+64 < cLine):OpR X (compareOp .NotEq) (rNeG X.K):=by
 intro pins s σ H x y v u Q I rx ry h
 obtain⟨g,h,hd,ix,iy,q⟩:=h
 exact rneG I (by omega) g h x y v u hd ix iy rx ry X.prog X.w X.xe _ ⟨.bl _,H,I,rfl,q⟩
theorem op_neGK {K:PySem.W.Frag} (hK:X.K=K) (hu:X.A.units+64 < cLine):OpR X (compareOp .NotEq) (rNeG K):=by subst hK;exact op_neG hu
end
section
variable {K:PySem.W.Frag}{H:Hp}
theorem dY.nil:dY K H [] []:=by rw[dY]
theorem dY.cons {g:G}{gs:List G}{x:V}{xs:List V} (h1:b0 K H g x) (h2:dY K H gs xs):dY K H (g::gs) (x::xs):=by rw[dY];exact⟨x,xs,rfl,h1,h2⟩
theorem b0.t {a:Addr}{gs:List G}{xs:List V} (q:bH K H a xs) (l:dY K H gs xs):b0 K H (.tup gs) (.ref a):=by rw[b0];exact⟨a,xs,rfl,q,l⟩
theorem b0.l {a:Addr}{gs:List G}{xs:List V} (q:cE K H a xs) (l:dY K H gs xs):b0 K H (.lst gs) (.ref a):=by rw[b0];exact⟨a,xs,rfl,q,l⟩
end
end L2
namespace L2
open PySem PySem.Spec PyProof.Rows TwZ
section
variable {X:Cx}
theorem vals_of_at:∀ {xs:List V}{us:List Value},xs.length=us.length→(∀ (i:Nat) x u,xs[i]? = some x→us[i]? = some u→aY x u)→bE xs us
 | [],[],_,_=>.nil
 | [],_::_,h,_=>by simp at h
 | _::_,[],h,_=>by simp at h
 | x::xs,u::us,hl,h=>.cons (h 0 x u rfl rfl) (vals_of_at (by simpa using hl) fun i y v h1 h2=>h (i+1) y v (by simpa using h1) (by simpa using h2))
theorem vals_items {a c:Int}{n:Nat}{acc:Array Value} (h:ItemsOf (fun i v=>∃ t,v=.int (a+i * c) t) acc n):bE ((List.range n).map fun (i:Nat)=>V.int (a+i * c)) acc.toList:=by
 obtain⟨h1,h2⟩:=h
 refine vals_of_at (by simp [h1]) fun i x u e1 e2=>?_
 rw[List.getElem?_map] at e1
 obtain⟨k,hk,rfl⟩:=Option.map_eq_some_iff.mp e1
 have hi:=(List.getElem?_eq_some_iff.mp hk).1
 have:k=i:=by
  have:=(List.getElem?_eq_some_iff.mp hk).2
  simpa using this.symm
 subst this
 exact h2 k u (by simpa using e2)
end
end L2
namespace Tw
open PySem L2
noncomputable def eE (l:List Nat):List V:=l.map fun (i:Nat)=>V.int (i:Int)
section
variable {P:Program}{w:World}{K:PySem.W.Frag}{mg:Str→Option Value}{base:Heap}
end
end Tw
namespace Tw
open PySem L2
section
variable {P:Program}{w:World}{K:PySem.W.Frag}{mg:Str→Option Value}{base:Heap}{C c_TipError c_NoNet c_NoVessel c_TooLong c_TooMany c_TooMuch c_Nothing c_NoText c_NoRow:Addr}
theorem sp_at {H:Hp}{net:Net}{ys:List V}{j:Nat} (l:IsL K H (net.sps.map spD) ys) (hj:j < net.sps.length):∃ a fl dr,ys[j]? = some (.ref a)∧bH K H a [.int (spAt net (j:Int)),.int fl,.bl dr]:=by
 obtain⟨v,hv,iv⟩:=l.get (i:=j) (d:=spD net.sps[j]) (by rw[List.getElem?_map,List.getElem?_eq_getElem hj];rfl)
 obtain⟨a,xs,rfl,q,lx⟩:=(show Is K H (.tup [.int net.sps[j].1,.int net.sps[j].2.1,.bl net.sps[j].2.2]) v from iv).un
 obtain⟨x1,r,rfl,h1,lx⟩:=lx.un
 obtain⟨x2,r,rfl,h2,lx⟩:=lx.un
 obtain⟨x3,r,rfl,h3,lx⟩:=lx.un
 have:=lx.un0
 subst this
 have e:spAt net (j:Int)=net.sps[j].1:=by
  unfold spAt
  rw[Int.toNat_natCast,List.getD_eq_getElem?_getD,List.getElem?_eq_getElem hj];rfl
 have e1:=h1.ui
 have e2:=h2.ui
 have e3:=h3.ub
 subst e1 e2 e3
 exact⟨a,_,_,hv,by rw[e];exact q⟩
noncomputable def spLeads (K:PySem.W.Frag):Sp:=fun vs H Q _=>∃ (x y:V) (net:Net) (v:Vs),vs=[x,y]∧Is K H (vsD v) x∧Is K H (.tup (net.sps.map spD)) y∧VOk net.vs.length net.sps.length v∧
 ∀ l H',aK H H'→H l=none→H' l=some (.lst ((cL net v).map tgV))→Q (.ref l) H'
theorem sc_leads_to:FnScope ["vessel","spouts","size","brim","outs","holds","spill","acts"] ["vessel","spouts"] (aJ (aU 29)):=⟨rfl,rfl,rfl,by decide +kernel,rfl,by decide +kernel,by decide +kernel⟩
theorem ok_leads_to {f:Addr}{fd:FuncData} (F:Fun K "leads_to" "leads_to" (aU 29) f fd) (T:Txt mg):FnOk P w K mg base CX0 1 f fd ["vessel","spouts"] (spLeads K):=by
 refine F.ok sc_leads_to (fun vs H Q E h=>?_) (fun cdv A outer s H vs Q E hr h=>?_)
 ·obtain⟨x,y,net,v,rfl,_⟩:=h;rfl
 ·obtain⟨x,y,net,v,rfl,hx,hy,ok,k⟩:=h
  have sc:=sc_leads_to
  refine⟨_,(aG (bK (pv 0) (aR (K:=K) (n:=6) rfl rfl (aE (aF (i:=2) sc.nd rfl (Or.inl rfl)) (aE (aF (i:=3) sc.nd rfl (Or.inl rfl)) (aE (aF (i:=4) sc.nd rfl (Or.inl rfl)) (aE (aF (i:=5) sc.nd rfl (Or.inl rfl)) (aE (aF (i:=6) sc.nd rfl (Or.inl rfl)) (aE (aF (i:=7) sc.nd rfl (Or.inl rfl)) aQ))))))))
   (aL (b9 (bA op_cat (bA op_cat (pe_lc (fun _ _ h=>h) rfl (LcOk.mk (N':=["target","parts"]) (fr:=[none,none]) rfl trivial rfl rfl rfl rfl rfl trivial) (dH (K:=K) rfl (pv 4)) (fun _ _ _=>(aR (K:=K) (n:=2) rfl rfl (aE (aF (i:=0) (show (["target","parts"]:List Str).Nodup by decide +kernel) rfl (Or.inl rfl) (Or.inr rfl)) (aE (aF (i:=1) (show (["target","parts"]:List Str).Nodup by decide +kernel) rfl (Or.inl rfl) (Or.inr rfl)) aQ)))) (fun _ _ _=>d8) (fun _ _ _=>(pv 0))) (bX (aA (pv 6) aD))) (pe_lc (fun _ _ h=>h) rfl (LcOk.mk (N':=["word","spout","spouts"]) (fr:=[none,none,some 1]) rfl ⟨rfl,trivial⟩ rfl rfl rfl rfl rfl ⟨⟨_,rfl,rfl,rfl,rfl⟩,trivial⟩) (dH (K:=K) rfl (pv 7)) (fun _ _ _=>(aR (K:=K) (n:=2) rfl rfl (aE (aF (i:=0) (show (["word","spout","spouts"]:List Str).Nodup by decide +kernel) rfl (Or.inl rfl) (Or.inr rfl)) (aE (aF (i:=1) (show (["word","spout","spouts"]:List Str).Nodup by decide +kernel) rfl (Or.inl rfl) (Or.inr rfl)) aQ)))) (fun _ _ _=>d8) (fun _ _ _=>(bI (aS (K:=K) rfl) (bI (aS (K:=K) rfl) (pv 2) (pv 1) (fun _ _=>rfl)) aI (fun _ _=>rfl)))))))),?_⟩
  obtain⟨va,o,c,rfl,qv,ho,hc⟩:=vs_un hx
  obtain⟨oa,os,rfl,qo,lo⟩:=ho.un
  obtain⟨ca,cs,rfl,qc,lc⟩:=hc.un
  obtain⟨sa,ss,rfl,qs,ls⟩:=hy.un
  have eol:os.length=v.outs.length:=by rw[lo.length,List.length_map]
  have ecl:cs.length=v.acts.length:=by rw[lc.length,List.length_map]
  have o3:=ok.o3
  have a3:=ok.a3
  refine⟨_,rfl,va,_,rfl,qv,rfl,_,_,rfl,_,_,rfl,_,_,rfl,_,_,rfl,_,_,rfl,_,_,rfl,rfl,?_⟩
  refine⟨_,rfl,oa,rfl,⟨_,qo⟩,lc_tup (K:=K) (a:=oa) (xs:=os) (fun D i r σ' H'=>H D=none∧aK H H'∧H' D=some (.lst r)∧r=(v.outs.take i).map (fun o=>tgV o.1)∧∃ u1 u2,σ'=[u1,u2])
   (fun D i r σ' H' p=>p.2.1.tup qo) (fun D hD=>⟨hD,aK.new hD,aB,rfl,none,none,rfl⟩) ?_ ?_⟩
  rotate_left
  ·rintro D i y r σ' H1 hy ⟨hD,sm,hDl,rfl,u1,u2,rfl⟩
   obtain⟨t,ht,ta,rfl,qt⟩:=outs_at lo hy
   refine⟨ta,_,rfl,sm.tup qt,rfl,_,_,rfl,_,_,rfl,rfl,?_⟩
   refine⟨_,rfl,hDl,aT (by rw[List.length_map,List.length_take];omega),hD,sm.put hD,aB,?_,_,_,rfl⟩
   rw[List.take_succ,ht,List.map_append];rfl
  rintro D1 r σ' H1 ⟨hD1,s1,hD1l,rfl,_⟩
  rw[eol,List.take_of_length_le (Nat.le_refl _)] at hD1l
  refine⟨_,rfl,(show 1≤sizeLine by decide),fun p2 hp2=>⟨D1,p2,_,_,rfl,rfl,aK.new hp2 _ _ hD1l,aB,Nat.le_of_lt (aT (by rw[List.length_map];show v.outs.length+1≤1000;omega)),fun p3 hp3=>?_⟩⟩
  have s3:=(s1.trans (aK.new (o:=HO.lst [tgV v.spill]) hp2)).trans (aK.new (o:=HO.lst (v.outs.map (fun o=>tgV o.1)++[tgV v.spill])) hp3)
  have g3:upd (upd H1 p2 (.lst [tgV v.spill])) p3 (.lst (v.outs.map (fun o=>tgV o.1)++[tgV v.spill])) p3=some (.lst (v.outs.map (fun o=>tgV o.1)++[tgV v.spill])):=aB
  generalize upd (upd H1 p2 (.lst [tgV v.spill])) p3 (.lst (v.outs.map (fun o=>tgV o.1)++[tgV v.spill]))=H3 at s3 g3 ⊢
  refine⟨_,rfl,ca,rfl,⟨_,s3.tup qc⟩,lc_tup (K:=K) (a:=ca) (xs:=cs) (fun D i r σ' H'=>H3 D=none∧aK H3 H'∧H' D=some (.lst r)∧r=(v.acts.take i).map (fun a=>tgV (some (spAt net a.2)))∧∃ u1 u2,σ'=[u1,u2,some (.ref sa)])
   (fun D i r σ' H' p=>p.2.1.tup (s3.tup qc)) (fun D hD=>⟨hD,aK.new hD,aB,rfl,none,none,rfl⟩) ?_ ?_⟩
  rotate_left
  ·rintro D i y r σ' H4 hy ⟨hD,sm,hDl,rfl,u1,u2,rfl⟩
   have s4:=s3.trans sm
   obtain⟨a,ha,ta,rfl,qt⟩:=acts_at (L2.IsL.mono s4.ts _ _ lc) hy
   have aok:=ok.acts a (List.mem_of_getElem? ha)
   obtain⟨j,hj⟩:∃ j:Nat,a.2=(j:Int):=⟨a.2.toNat,by have:=aok.lo;omega⟩
   have hjl:j < net.sps.length:=by have:=aok.hi;omega
   obtain⟨pa,fl,dr,hpa,qpa⟩:=sp_at (L2.IsL.mono s4.ts _ _ ls) hjl
   refine⟨ta,_,rfl,qt,rfl,_,_,rfl,_,_,rfl,rfl,?_⟩
   refine⟨_,rfl,_,rfl,.inr (.inl ⟨sa,_,_,_,rfl,rfl,s4.tup qs,by rw[hj];exact atI_nat hpa,.inr (.inl ⟨pa,_,0,_,rfl,rfl,qpa,rfl,hDl,aT (by rw[List.length_map,List.length_take];omega),hD,sm.put hD,aB,?_,_,_,rfl⟩)⟩)⟩
   rw[List.take_succ,ha,List.map_append,← hj];rfl
  rintro D4 r σ' H4 ⟨hD4,s4,hD4l,rfl,_⟩
  rw[ecl,List.take_of_length_le (Nat.le_refl _)] at hD4l
  refine⟨p3,D4,_,_,rfl,rfl,s4 _ _ g3,hD4l,Nat.le_of_lt (aT (by rw[List.length_append,List.length_map,List.length_map];show v.outs.length+1+v.acts.length≤1000;omega)),fun p5 hp5=>?_⟩
  refine k p5 _ ((s3.trans s4).trans (aK.new hp5)) ((s3.trans s4).free hp5) ?_
  rw[aB]
  unfold cL
  rw[List.map_append,List.map_append,List.map_map,List.map_map]
  rfl
end
end Tw
namespace Tw
open PySem L2
theorem inV_tg (j:Int):∀ l:List (Option Int),inV (.int j) (l.map tgV)=decide (some j∈l)
 | []=>rfl
 | none::l=>by
  show (eqV .non (.int j) || inV (.int j) (l.map tgV))=_
  rw[inV_tg j l]
  show (false || decide (some j∈l))=_
  rw[Bool.false_or,decide_eq_decide];simp
 | some i::l=>by
  show (eqV (.int i) (.int j) || inV (.int j) (l.map tgV))=_
  rw[inV_tg j l]
  show ((i == j) || decide (some j∈l))=_
  by_cases e:i=j
  ·subst e;simp
  ·have h1:(i == j)=false:=by simp [e]
   have h2:decide (some j∈some i::l)=decide (some j∈l):=by
    rw[decide_eq_decide]
    simp [Ne.symm e]
   rw[h1,h2,Bool.false_or]
theorem flat_tg (l:List (Option Int)):(l.map tgV).all flatV=true:=by
 rw[List.all_eq_true]
 intro z hz
 obtain⟨i,_,rfl⟩:=List.mem_map.1 hz
 cases i <;> rfl
structure MatS (net:Net) (w:Nat) (S:List Nat):Prop where
 up:S.Pairwise (· < ·)
 mem:∀ x,x∈S↔x∈dG net w∨x=0
theorem mat_rises {net:Net}{w:Nat}{ms:List Int} (h:Rises ((dG net w++[0]).map fun (i:Nat)=>(i:Int)) ms):∃ S:List Nat,ms.map V.int=eE S∧MatS net w S:=by
 have nn:∀ x∈ms,∃ i:Nat,i∈dG net w++[0]∧x=(i:Int):=fun x hx=>by
  obtain⟨i,hi,rfl⟩:=List.mem_map.1 ((h.mem x).1 hx)
  exact⟨i,hi,rfl⟩
 have mm:∀ x:Nat,x∈ms.map Int.toNat↔x∈dG net w++[0]:=fun x=>by
  constructor
  ·intro hx
   obtain⟨y,hy,rfl⟩:=List.mem_map.1 hx
   obtain⟨i,hi,rfl⟩:=nn y hy
   exact hi
  ·intro hx
   exact List.mem_map.2 ⟨(x:Int),(h.mem _).2 (List.mem_map.2 ⟨x,hx,rfl⟩),by omega⟩
 refine⟨ms.map Int.toNat,?_,?_,fun x=>?_⟩
 ·unfold eE
  rw[List.map_map]
  apply List.map_congr_left
  intro x hx
  obtain⟨i,_,rfl⟩:=nn x hx
  rfl
 ·rw[List.pairwise_map]
  refine h.up.imp_of_mem fun {a b} ha hb hab=>?_
  obtain⟨i,_,rfl⟩:=nn a ha
  obtain⟨j,_,rfl⟩:=nn b hb
  omega
 ·rw[mm x,List.mem_append,List.mem_singleton]
theorem natV_zero (f:List Nat):eE f++[V.int 0]=((f++[0]).map fun (i:Nat)=>(i:Int)).map V.int:=by
 unfold eE
 rw[List.map_map,List.map_append]
 rfl
section
variable {P:Program}{w:World}{K:PySem.W.Frag}{mg:Str→Option Value}{base:Heap}{C c_TipError c_NoNet c_NoVessel c_TooLong c_TooMany c_TooMuch c_Nothing c_NoText c_NoRow:Addr}
noncomputable def spMatters (K:PySem.W.Frag) (cV:Addr):Sp:=fun vs H Q E=>∃ (x:V) (net:Net) (v:Int),vs=[x,.int v]∧Is K H (netD net) x∧NetOk net∧
 ((¬ (0≤v∧v < net.vs.length)∧E (.ref cV) none H)∨∃ j:Nat,v=(j:Int)∧j < net.vs.length∧∀ p S H',aK H H'→bH K H' p (eE S)→MatS net j S→Q (.ref p) H')
theorem sc_matters:FnScope ["net","watched","vessels","spouts","found","place","number","vessel"] ["net","watched"] (aJ (aU 28)):=⟨rfl,rfl,rfl,by decide +kernel,rfl,by decide +kernel,by decide +kernel⟩
theorem ok_mattersR {f f1 f2:Addr}{fd fd1 fd2:FuncData} (F:Fun K "matters" "matters" (aU 28) f fd) (T:Txt mg) (G_need_vessel:CalleeR P w K mg base "need_vessel" ["net","number"] 2 (spNeedR K c_NoVessel) f1 fd1)
  (G_leads_to:Callee P w K mg base "leads_to" ["vessel","spouts"] 1 (spLeads K) f2 fd2):FnOk P w K mg base (CXR P w) 3 f fd ["net","watched"] (spMatters K c_NoVessel):=by
 refine F.okR sc_matters (fun vs H Q E h=>?_) (fun cdv A outer s H vs Q E hr h L=>?_)
 ·obtain⟨x,net,v,rfl,_⟩:=h;rfl
 ·obtain⟨x,net,v,rfl,hx,nok,k⟩:=h
  have sc:=sc_matters
  refine⟨_,(aG (cA (pe_call G_need_vessel.ok (hr.mono (by decide)) rfl G_need_vessel.mg G_need_vessel.kp G_need_vessel.bd .nil (pass_xe L) (aA (pv 0) (aA (pv 1) aD))))
   (aG (bK (pv 0) (aR (K:=K) (n:=2) rfl rfl (aE (aF (i:=2) sc.nd rfl (Or.inl rfl)) (aE (aF (i:=3) sc.nd rfl (Or.inl rfl)) aQ))))
   (aG (ps_par (i:=4) (j:=5) rfl sc.nd rfl rfl (by decide) rfl rfl (aA (bX (aA (pv 1) aD)) (aA aI aD)) rfl)
   (aG (ps_calm fun pn=>(ps_while PassesOwn.never (d7 op_lt (pv 5) (aX (bZ (K:=K) rfl) rfl T.b_len PySem.boot_len (aA (pv 4) aD)) (dA _)) (aG (dR PassesOwn.never rfl (pi_enumK (K:=K) rfl rfl T.b_enumerate (aA (pv 2) aD)) (aR (K:=K) (n:=2) rfl rfl (aE (aF (i:=6) sc.nd rfl (Or.inl rfl)) (aE (aF (i:=7) sc.nd rfl (Or.inl rfl)) aQ))) (aL (dD (PW.pt (pw_and (d7 (op_ninK (K:=K) rfl) (pv 6) (pv 4) (by rfl)) (pw_and1 (d7 (op_inK (K:=K) rfl) (bI (aS (K:=K) rfl) (pv 4) (pv 5) (fun _ _=>rfl)) (cU G_leads_to hr (aA (pv 7) (aA (pv 3) aD))) (by rfl))))) (aL (cA (pe_bmK (K:=K) rfl PySem.F.plainAttrs_list PySem.F.slot_list_append PySem.F.type_list_append cI (pv 4) (aA (pv 6) aD)))) bO)))
   (aL (ps_aug (i:=5) sc.nd rfl (Or.inl rfl) aI ip_add)))))
   (aL (b9 (aZ (bV (K:=K) rfl) rfl T.b_tuple bY (aA (aX (call_srtK (P:=P) (w:=w) rfl rfl rfl) rfl T.b_sorted PyProof.Rows.boot_sorted (aA (aZ (call_setK (P:=P) (w:=w) (K:=K) rfl rfl rfl rfl) rfl T.b_set boot_setT (aA (bA op_cat (pv 4) (bX (aA aI aD))) aD)) aD)) aD)))))))),?_⟩
  refine⟨_,rfl,_,rfl,x,net,v,rfl,hx,?_⟩
  rcases k with ⟨hn,k⟩ | ⟨j,rfl,hj,k⟩
  ·exact .inr ⟨hn,k⟩
  refine .inl ⟨by omega,by omega,?_⟩
  have n12:=nok.hi
  obtain⟨na,nb,nc,xs,ys,rfl,qn,qv,lv,qs,ls⟩:=net_un hx
  have exl:xs.length=net.vs.length:=by rw[lv.length,List.length_map]
  refine⟨_,rfl,na,_,rfl,qn,rfl,_,_,rfl,_,_,rfl,rfl,?_⟩
  refine⟨_,rfl,(show 1≤sizeLine by decide),fun fl hfl=>⟨_,_,rfl,?_⟩⟩
  refine⟨fun m σ' H'=>∃ (p:Nat) (f:List Nat) (v6 v7:Option V),m=13 - p∧WalkAt net j p f∧aK H H'∧H' fl=some (.lst (eE f))∧σ'=[some (.ref na),some (.int (j:Int)),some (.ref nb),some (.ref nc),some (.ref fl),some (.int (p:Int)),v6,v7],
   ⟨13,0,[j],none,none,rfl,WalkAt.first hj,aK.new hfl,aB,rfl⟩,?_⟩
  rintro m σ' H1 ⟨p,f,v6,v7,rfl,wa,s1,hf1,rfl⟩
  have fle:=wa.len
  have nfl:(eE f).length=f.length:=by unfold eE;rw[List.length_map]
  refine⟨_,rfl,_,rfl,fl,_,rfl,.inl (cE.of hf1),_,_,rfl,rfl,_,rfl,ite2 (fun hT=>?_) fun hF=>?_⟩
  ·have hT:(p:Int) < ((eE f).length:Int):=of_decide_eq_true hT
   rw[nfl] at hT
   have hp:p < f.length:=by omega
   obtain⟨y,hy⟩:∃ y,f[p]? = some y:=⟨_,List.getElem?_eq_getElem hp⟩
   refine⟨fun σ' H''=>∃ m',m' < 13 - p∧∃ (p:Nat) (f:List Nat) (v6 v7:Option V),m'=13 - p∧WalkAt net j p f∧aK H H''∧H'' fl=some (.lst (eE f))∧σ'=[some (.ref na),some (.int (j:Int)),some (.ref nb),some (.ref nc),some (.ref fl),some (.int (p:Int)),v6,v7],
    fun _ _ p=>p,?_⟩
   refine⟨_,rfl,true,nb,rfl,⟨_,(s1.tup qv)⟩,for_enum (K:=K) (t:=true) (a:=nb) (xs:=xs) (fun i σ' H'=>aK H H'∧H' fl=some (.lst (eE (dN net y f i)))∧∃ v6 v7,σ'=[some (.ref na),some (.int (j:Int)),some (.ref nb),some (.ref nc),some (.ref fl),some (.int (p:Int)),v6,v7])
    (fun i σ' H' q=>q.1.tup qv) ⟨s1,hf1,v6,v7,rfl⟩ ?_ ?_⟩
   ·rintro σ' H2 ⟨s2,hf2,v6,v7,rfl⟩
    rw[exl] at hf2
    refine⟨_,rfl,_,_,rfl,rfl,13 - (p+1),by omega,p+1,_,v6,v7,rfl,wa.go n12 hy,s2,hf2,?_⟩
    rfl
   ·rintro i x0 σ' H2 Tt hx0 ⟨s2,hf2,v6,v7,rfl⟩ hT
    have hil:i < net.vs.length:=by rw[← exl];exact (List.getElem?_eq_some_iff.mp hx0).1
    have sT:=aK.new (o:=HO.tup [.int (i:Int),x0]) hT
    refine⟨Tt,_,rfl,bH.of aB,rfl,_,_,rfl,_,_,rfl,rfl,?_⟩
    have hf3:=sT _ _ hf2
    have s3:=s2.trans sT
    generalize upd H2 Tt (.tup [.int (i:Int),x0])=H3 at hf3 s3 ⊢
    obtain⟨gg,eg⟩:=growT_pre net y f i
    have gok:=growT_ok (net:=net) (x:=y) wa.nd wa.lt i (by omega)
    have gl:=nodup_le _ _ gok.1 gok.2
    have hgp:(dN net y f i)[p]? = some y:=by rw[eg,List.getElem?_append_left hp];exact hy
    have hgs:=growT_succ net y f i
    have iv:Is K H3 (vsD (vAt net i)) x0:=by
     obtain⟨z,hz,iz⟩:=(L2.IsL.mono s3.ts _ _ lv).get (i:=i) (d:=vsD net.vs[i]) (by rw[List.getElem?_map,List.getElem?_eq_getElem hil];rfl)
     rw[hx0] at hz
     cases hz
     rw[show vAt net i=net.vs[i] by unfold vAt;rw[List.getD_eq_getElem?_getD,List.getElem?_eq_getElem hil];rfl]
     exact iz
    have vok:VOk net.vs.length net.sps.length (vAt net i):=by
     rw[show vAt net i=net.vs[i] by unfold vAt;rw[List.getD_eq_getElem?_getD,List.getElem?_eq_getElem hil];rfl]
     exact nok.vs _ (List.getElem_mem hil)
    refine⟨_,rfl,_,rfl,fl,_,rfl,.inl (cE.of hf3),rfl,flat_tip _,_,rfl,?_⟩
    rw[if_pos rfl,show inV (.int (i:Int)) (eE (dN net y f i))=_ from inV_tip _ _]
    refine ite2 (fun h1=>?_) fun h1=>?_
    ·have h1:i∉dN net y f i:=by simpa using h1
     refine⟨_,rfl,_,rfl,.inl ⟨fl,_,_,_,rfl,rfl,cE.of hf3,atI_nat (show (eE (dN net y f i))[p]? = some (V.int (y:Int)) by unfold eE;rw[List.getElem?_map,hgp];rfl),_,rfl,_,rfl,x0,.ref nc,net,vAt net i,rfl,iv,Is.tupOf (s3.tup qs) (L2.IsL.mono s3.ts _ _ ls),vok,fun l H4 s4 hln hl4=>?_⟩⟩
     refine⟨l,_,rfl,.inl (cE.of hl4),rfl,flat_tg _,_,rfl,?_⟩
     rw[if_neg Bool.false_ne_true,show inV (.int (y:Int)) ((cL net (vAt net i)).map tgV)=_ from inV_tg _ _]
     have hf4:=s4 _ _ hf3
     refine ite2 (fun h2=>?_) fun h2=>?_
     ·rw[if_pos ⟨h1,of_decide_eq_true h2⟩] at hgs
      refine⟨_,rfl,.inl ⟨rfl,_,cE.of hf4⟩,_,rfl,fl,_,_,rfl,rfl,hf4,aT (by unfold eE;rw[List.length_map];omega),(s3.trans s4).put hfl,?_,_,_,rfl⟩
      rw[aB,hgs]
      unfold eE
      rw[List.map_append];rfl
     ·rw[if_neg (fun z=>h2 (decide_eq_true z.2))] at hgs
      exact⟨s3.trans s4,by rw[hgs];exact hf4,_,_,rfl⟩
    ·rw[if_neg (fun z=>h1 (by simpa using z.1))] at hgs
     exact⟨s3,by rw[hgs];exact hf3,_,_,rfl⟩
  ·have hF:f.length≤p:=by
    rcases Nat.lt_or_ge p f.length with z | z
    ·exact absurd (decide_eq_true (show (p:Int) < ((eE f).length:Int) by rw[nfl];omega)) hF
    ·exact z
   have ef:=wa.done hF
   subst ef
   refine⟨_,rfl,(show 1≤sizeLine by decide),fun p2 hp2=>⟨fl,p2,_,_,rfl,rfl,aK.new hp2 _ _ hf1,aB,Nat.le_of_lt (aT (by rw[nfl];show _+1≤1000;omega)),fun p3 hp3=>?_⟩⟩
   rw[natV_zero]
   have lnz:((dG net j++[0]).map fun (i:Nat)=>(i:Int)).length=(dG net j).length+1:=by rw[List.length_map,List.length_append];rfl
   have dl:=ddL_len ((dG net j++[0]).map fun (i:Nat)=>(i:Int))
   refine⟨p3,_,rfl,cE.of aB,by omega,fun sa hsa=>⟨sa,_,rfl,aB,by omega,fun l ms hl pm pw=>⟨l,_,rfl,.inl ⟨cE.of aB,fun q hq=>?_⟩⟩⟩⟩
   obtain⟨S,e1,mS⟩:=mat_rises (rises_of pm pw)
   refine k q S _ (((((s1.trans (aK.new hp2)).trans (aK.new hp3)).trans (aK.new hsa)).trans (aK.new hl)).trans (aK.new hq)) ?_ mS
   rw[← e1]
   exact bH.of aB
end
end Tw
namespace Tw
open PySem L2
section
variable {P:Program}{w:World}{K:PySem.W.Frag}{mg:Str→Option Value}{base:Heap}{C c_TipError c_NoNet c_NoVessel c_TooLong c_TooMany c_TooMuch c_Nothing c_NoText c_NoRow:Addr}
end
end Tw
namespace Tw
open PySem L2
theorem dc_at {ms:Nums}{i:Nat}{k:dQ}{v:V} (h:(dcD ms)[i]? = some (k,v)):∃ p,ms[i]? = some p∧k=Sum.inl p.1∧v=.int p.2:=by
 unfold dcD at h
 rw[List.getElem?_map] at h
 obtain⟨p,hp,e⟩:=Option.map_eq_some_iff.mp h
 cases e
 exact⟨p,hp,rfl,rfl⟩
section
variable {P:Program}{w:World}{K:PySem.W.Frag}{mg:Str→Option Value}{base:Heap}{C c_TipError c_NoNet c_NoVessel c_TooLong c_TooMany c_TooMuch c_Nothing c_NoText c_NoRow aw:Addr}
noncomputable def spRen (K:PySem.W.Frag):Sp:=fun vs H Q _=>∃ (x:V) (dv ds:Addr) (net:Net) (nv ms:Nums),vs=[x,.ref dv,.ref ds]∧Is K H (netD net) x∧NetOk net∧H dv=some (.dK (dcD nv))∧H ds=some (.dK (dcD ms))∧dv≠ds∧RenOk net nv ms∧
 ∀ p H',ButL [dv,ds] H H'→RdD H' dv nv→Is K H' (netD (renN net nv ms)) p→Q p H'
theorem sc_renumbered:FnScope ["net","new_vessels","new_spouts","vessels","spouts","told_vessels","told_spouts","number","target","flow","door"] ["net","new_vessels","new_spouts"] (aJ (aU 25)):=⟨rfl,rfl,rfl,by decide +kernel,rfl,by decide +kernel,by decide +kernel⟩
theorem ok_renumbered {f f1:Addr}{fd fd1:FuncData} (F:Fun K "renumbered" "renumbered" (aU 25) f fd) (T:Txt mg) (G_renumbered_vessel:Callee P w K mg base "renumbered_vessel" ["vessel","new_vessels","new_spouts"] 1 (spRenV K) f1 fd1) :
  FnOk P w K mg base CX0 2 f fd ["net","new_vessels","new_spouts"] (spRen K):=by
 refine F.ok sc_renumbered (fun vs H Q E h=>?_) (fun cdv A outer s H vs Q E hr h=>?_)
 ·obtain⟨x,dv,ds,net,nv,ms,rfl,_⟩:=h;rfl
 ·obtain⟨x,dv,ds,net,nv,ms,rfl,hx,nok,hdv,hds,nds,rok,k⟩:=h
  have sc:=sc_renumbered
  have hu:=hu_of hr
  refine⟨_,(aG (bK (pv 0) (aR (K:=K) (n:=2) rfl rfl (aE (aF (i:=3) sc.nd rfl (Or.inr rfl)) (aE (aF (i:=4) sc.nd rfl (Or.inl rfl)) aQ))))
   (aG (ps_set_lc (i:=5) sc.nd rfl rfl (fun _ _ h=>h) rfl (LcOk.mk (N':=["number","new_vessels","new_spouts","vessels"]) (fr:=[none,some 1,some 2,some 3]) rfl ⟨rfl,rfl,rfl,trivial⟩ rfl rfl rfl rfl rfl ⟨⟨_,rfl,rfl,rfl,rfl⟩,⟨_,rfl,rfl,rfl,rfl⟩,⟨_,rfl,rfl,rfl,rfl⟩,trivial⟩) (pi_dict (pv 1)) (fun _ _ _=>(aF (i:=0) (show (["number","new_vessels","new_spouts","vessels"]:List Str).Nodup by decide +kernel) rfl (Or.inl rfl) (Or.inr rfl))) (fun _ _ _=>d8) (fun _ _ _=>(cU G_renumbered_vessel hr (aA (bI (aS (K:=K) rfl) (pv 3) (pv 0) (fun _ _=>rfl)) (aA (pv 1) (aA (pv 2) aD))))))
   (aG (bD (i:=6) sc.nd rfl (Or.inl rfl) (bX aD))
   (aG (dR PassesOwn.never rfl (pi_dict (pv 2)) (aF (i:=7) sc.nd rfl (Or.inl rfl)) (aG (bK (bI (aS (K:=K) rfl) (pv 4) (pv 7) (fun _ _=>rfl)) (aR (K:=K) (n:=3) rfl rfl (aE (aF (i:=8) sc.nd rfl (Or.inl rfl)) (aE (aF (i:=9) sc.nd rfl (Or.inl rfl)) (aE (aF (i:=10) sc.nd rfl (Or.inl rfl)) aQ)))))
   (aL (cA (pe_bmK (K:=K) rfl PySem.F.plainAttrs_list PySem.F.slot_list_append PySem.F.type_list_append cI (pv 6) (aA (bT (aA (pe_dget hu (pv 1) (pv 8) (fun _ _=>rfl)) (aA (pv 9) (aA (pv 10) aD)))) aD))))))
   (aL (b9 (bT (aA (aZ (bV (K:=K) rfl) rfl T.b_tuple bY (aA (pv 5) aD)) (aA (aZ (bV (K:=K) rfl) rfl T.b_tuple bY (aA (pv 6) aD)) aD))))))))),?_⟩
  obtain⟨na,nb,nc,xs,ys,rfl,q,q1,l1,q2,l2⟩:=net_un hx
  have exl:xs.length=net.vs.length:=by rw[l1.length,List.length_map]
  have eyl:ys.length=net.sps.length:=by rw[l2.length,List.length_map]
  have muv:Mut (H dv):=by rw[hdv];exact trivial
  have mus:Mut (H ds):=by rw[hds];exact trivial
  refine⟨_,rfl,na,_,rfl,q,rfl,_,_,rfl,_,_,rfl,rfl,?_⟩
  refine⟨_,rfl,dv,_,rfl,hdv,fun ob=>?_⟩
  have b1:cB dv H (upd H dv (.frz ob (.dK (dcD nv)))):=cB.upd
  have ts1:=b1.ts (K:=K) muv
  have f1:upd H dv (.frz ob (.dK (dcD nv))) dv=some (.frz ob (.dK (dcD nv))):=aB
  have hds1:=b1 _ _ (fun z=>nds z.symm) hds
  generalize upd H dv (.frz ob (.dK (dcD nv)))=H1 at b1 ts1 f1 hds1
  refine lc_dict (a:=dv) (o:=ob) (kvs:=dcD nv) (fun D i r σ' H'=>H1 D=none∧aK H1 H'∧H' D=some (.lst r)∧IsL K H' (((nv.take i).map fun p=>renV nv ms (net.vs.getD p.1.toNat cO)).map vsD) r∧∃ u,σ'=[u,some (.ref dv),some (.ref ds),some (.ref nb)])
   (fun D i r σ' H' p=>p.2.1 _ _ f1) (fun D hD=>⟨hD,aK.new hD,aB,.nil,none,rfl⟩) ?_ ?_
  rotate_left
  ·rintro D i key vv r σ' H2 hk ⟨hD,sm,hDl,lr,u,rfl⟩
   obtain⟨pp,hpp,rfl,rfl⟩:=dc_at hk
   have hil:=(List.getElem?_eq_some_iff.mp hpp).1
   have hlv:=rok.lv
   obtain⟨p0,p1⟩:=rok.vs pp (List.mem_of_getElem? hpp)
   have hlt:pp.1.toNat < xs.length:=by omega
   have hxj:xs[pp.1.toNat]? = some xs[pp.1.toNat]:=by simp
   obtain⟨d,hd,iv⟩:=l1.get' hxj
   rw[List.getElem?_map] at hd
   obtain⟨v,hv,rfl⟩:=Option.map_eq_some_iff.mp hd
   have vok:=nok.vs v (List.mem_of_getElem? hv)
   have egd:net.vs.getD pp.1.toNat cO=v:=by rw[List.getD_eq_getElem?_getD,hv];rfl
   refine dW ?_
   have tsA:=ts1.trans sm.ts
   refine⟨_,rfl,_,rfl,.inr (.inl ⟨nb,xs,pp.1,xs[pp.1.toNat],rfl,rfl,tsA _ _ q1,atI_int p0 hxj,_,rfl,_,rfl,_,dv,ds,v,nv,ms,rfl,Is.mono tsA _ _ iv,vok.o3,vok.a3,.inr ⟨ob,sm _ _ f1⟩,.inl (sm _ _ hds1),fun p H3 s3 ip=>?_⟩)⟩
   have hDl3:=s3 _ _ hDl
   have muD:Mut (H3 D):=by rw[hDl3];exact trivial
   have hrl:r.length≤12:=by rw[lr.length,List.length_map,List.length_map,List.length_take];omega
   refine⟨hDl3,aT (by omega),hD,(sm.trans s3).put hD,aB,?_,_,rfl⟩
   rw[List.take_succ,hpp,List.map_append,List.map_append]
   refine L2.IsL.snoc ?_ (L2.IsL.mono (s3.ts.trans (cB.ts cB.upd muD)) _ _ lr)
   show Is K _ (vsD (renV nv ms (net.vs.getD pp.1.toNat cO))) p
   rw[egd]
   exact Is.mono (cB.ts cB.upd muD) _ _ ip
  rintro D1 r1 σ' H2 ⟨hD1,sm1,hDl1,lr1,_⟩
  have elen:(dcD nv).length=nv.length:=by unfold dcD;rw[List.length_map]
  rw[elen,List.take_length] at lr1
  refine⟨Nat.zero_le _,fun D2 hD2=>?_⟩
  have s3:=aK.new (o:=HO.lst []) hD2
  have e3:upd H2 D2 (.lst []) D2=some (.lst []):=aB
  generalize upd H2 D2 (.lst [])=H3 at s3 e3
  have hds3:=s3 _ _ (sm1 _ _ hds1)
  have nD2:D2≠ds:=fun z=>by rw[z,sm1 _ _ hds1] at hD2;cases hD2
  have mus3:Mut (H3 ds):=by rw[hds3];exact trivial
  refine⟨_,rfl,ds,_,rfl,hds3,fun ob2=>?_⟩
  have b4:cB ds H3 (upd H3 ds (.frz ob2 (.dK (dcD ms)))):=cB.upd
  have ts4:=b4.ts (K:=K) mus3
  have f4:upd H3 ds (.frz ob2 (.dK (dcD ms))) ds=some (.frz ob2 (.dK (dcD ms))):=aB
  have e4:=b4 _ _ nD2 e3
  have g4:=b4 _ _ nds (s3 _ _ (sm1 _ _ f1))
  have nD1:D1≠ds:=fun z=>by rw[z,hds1] at hD1;cases hD1
  have hDl4:=b4 _ _ nD1 (s3 _ _ hDl1)
  have ts14:=((ts1.trans sm1.ts).trans s3.ts).trans ts4
  have lr4:=L2.IsL.mono (s3.ts.trans ts4) _ _ lr1
  have nD12:D1≠D2:=fun z=>by rw[z] at hDl1;rw[hDl1] at hD2;cases hD2
  have nDv:D2≠dv:=fun z=>by rw[z,sm1 _ _ f1] at hD2;cases hD2
  have fD2:H1 D2=none:=sm1.free hD2
  have keep04:∀ b o,b∉[dv,ds]→H b=some o→upd H3 ds (.frz ob2 (.dK (dcD ms))) b=some o:=fun b o hb e=>b4 _ _ (fun z=>hb (by simp [z])) (s3 _ _ (sm1 _ _ (b1 _ _ (fun z=>hb (by simp [z])) e)))
  generalize upd H3 ds (.frz ob2 (.dK (dcD ms)))=H4 at b4 ts4 f4 e4 g4 hDl4 ts14 lr4 keep04
  refine for_dict (a:=ds) (o:=ob2) (kvs:=dcD ms) (fun i σ' H'=>cB D2 H4 H'∧∃ (r:List V) (v7 v8 v9 v10:Option V),H' D2=some (.lst r)∧IsL K H' (((ms.take i).map fun p=>renS nv (net.sps.getD p.1.toNat (0,0,false))).map spD) r∧
    σ'=[some (.ref na),some (.ref dv),some (.ref ds),some (.ref nb),some (.ref nc),some (.ref D1),some (.ref D2),v7,v8,v9,v10])
   (fun i σ' H' p=>p.1 _ _ (fun z=>nD2 z.symm) f4) ⟨cB.refl _,[],_,_,_,_,e4,.nil,rfl⟩ ?_ ?_
  rotate_left
  ·rintro i key vv σ' H5 hk ⟨b5,r,v7,v8,v9,v10,h5,lr,rfl⟩
   obtain⟨pp,hpp,rfl,rfl⟩:=dc_at hk
   have hil:=(List.getElem?_eq_some_iff.mp hpp).1
   have hls:=rok.ls
   obtain⟨p0,p1⟩:=rok.sp pp (List.mem_of_getElem? hpp)
   obtain⟨j,hj⟩:=rok.tg pp (List.mem_of_getElem? hpp)
   have hlt:pp.1.toNat < ys.length:=by omega
   have hyj:ys[pp.1.toNat]? = some ys[pp.1.toNat]:=by simp
   obtain⟨sp,hsp,sa,esa,qs⟩:=sps_at l2 hyj
   have egd:net.sps.getD pp.1.toNat (0,0,false)=sp:=by rw[List.getD_eq_getElem?_getD,hsp];rfl
   rw[egd] at hj
   have muD4:Mut (H4 D2):=by rw[e4];exact trivial
   have ts5:=ts14.trans (b5.ts muD4)
   have hrl:r.length≤12:=by rw[lr.length,List.length_map,List.length_map,List.length_take];omega
   dsimp only [gName]
   refine⟨_,rfl,_,rfl,.inr (.inl ⟨nc,ys,pp.1,.ref sa,rfl,rfl,ts5 _ _ q2,atI_int p0 (by rw[hyj,esa]),sa,_,rfl,ts5 _ _ qs,rfl,_,_,rfl,_,_,rfl,_,_,rfl,rfl,?_⟩)⟩
   have g0:DGet H5 dv (.int sp.1) (some (.int j)):=by
    have:=RdD.get (show RdD H5 dv nv from .inr ⟨ob,b5 _ _ (fun z=>nDv z.symm) g4⟩) (some sp.1)
    rw[show ((some sp.1).bind (lkp nv)).map V.int=some (.int j) by show (lkp nv sp.1).map V.int=_;rw[hj];rfl] at this
    exact this
   refine⟨_,rfl,.inl ⟨rfl,_,cE.of h5⟩,_,rfl,_,rfl,dv,.int j,rfl,g0,_,rfl,_,rfl,(show 3≤sizeLine by decide),fun e he=>?_⟩
   have m6:=aK.new (o:=HO.tup [.int j,.int sp.2.1,.bl sp.2.2]) he
   have i6:Is K (upd H5 e (.tup [.int j,.int sp.2.1,.bl sp.2.2])) (spD (renS nv (net.sps.getD pp.1.toNat (0,0,false)))) (.ref e):=by
    rw[egd]
    unfold renS
    rw[hj]
    exact Is.tupOf (ds:=[.int j,.int sp.2.1,.bl sp.2.2]) (bH.of aB) (.cons (Is.i _) (.cons (Is.i _) (.cons (Is.b _) .nil)))
   generalize upd H5 e (.tup [.int j,.int sp.2.1,.bl sp.2.2])=H6 at m6 i6 ⊢
   have h6:=m6 _ _ h5
   have muD:Mut (H6 D2):=by rw[h6];exact trivial
   refine⟨D2,r,_,rfl,rfl,h6,aT (by omega),(b5.trans m6.but).trans cB.upd,_,_,_,_,_,aB,?_,rfl⟩
   rw[List.take_succ,hpp,List.map_append,List.map_append]
   exact L2.IsL.snoc (Is.mono (cB.ts cB.upd muD) _ _ i6) (L2.IsL.mono (m6.ts.trans (cB.ts cB.upd muD)) _ _ lr)
  ·rintro σ' H5 ⟨b5,r2,v7,v8,v9,v10,h5,lr2,rfl⟩
   have elen2:(dcD ms).length=ms.length:=by unfold dcD;rw[List.length_map]
   rw[elen2,List.take_length] at lr2
   have muD4:Mut (H4 D2):=by rw[e4];exact trivial
   have ts45:=b5.ts (K:=K) muD4
   refine⟨_,rfl,D1,r1,rfl,.inl ⟨cE.of (b5 _ _ nD12 hDl4),fun p1 hp1=>?_⟩⟩
   have m6:=aK.new (o:=HO.tup r1) hp1
   have t6:bH K (upd H5 p1 (.tup r1)) p1 r1:=bH.of aB
   generalize upd H5 p1 (.tup r1)=H6 at m6 t6
   refine⟨_,rfl,D2,r2,rfl,.inl ⟨cE.of (m6 _ _ h5),fun p2 hp2=>⟨(show 2≤sizeLine by decide),fun p hp=>?_⟩⟩⟩
   have m7:=aK.new (o:=HO.tup r2) hp2
   have t7:bH K (upd H6 p2 (.tup r2)) p2 r2:=bH.of aB
   generalize upd H6 p2 (.tup r2)=H7 at m7 t7 hp
   have m8:=aK.new (o:=HO.tup [.ref p1,.ref p2]) hp
   have m58:=(m6.trans m7).trans m8
   refine k _ _ (fun b o hb e=>m58 _ _ (b5 _ _ (fun z=>?_) (keep04 b o hb e))) (.inr ⟨ob,m58 _ _ (b5 _ _ (fun z=>nDv z.symm) g4)⟩) ?_
   ·have:=b1.free (fun z'=>nDv (by rw[← z'];)) fD2
    rw[z,this] at e;cases e
   ·refine Is.tupOf (ds:=[.tup ((nv.map fun p=>renV nv ms (net.vs.getD p.1.toNat cO)).map vsD),.tup ((ms.map fun p=>renS nv (net.sps.getD p.1.toNat (0,0,false))).map spD)]) (bH.of aB) (.cons (Is.tupOf ((m7.trans m8).tup t6) (L2.IsL.mono (ts45.trans m58.ts) _ _ lr4)) (.cons (Is.tupOf (m8.tup t7) (L2.IsL.mono m58.ts _ _ lr2)) .nil))
end
end Tw
namespace L2
open PySem PySem.Spec PyProof.Rows
theorem dc_enum {K:PySem.W.Frag}{g:TG}{tc:TT}{tk tv:TE}{fr:List (Option Nat)}{σ:St}{H1:Hp}{Q:Addr→Hp→Prop}{t:Bool}{a:Addr}{xs:List V} (Pv:Addr→Nat→St→Hp→Prop)
  (hq:∀ D i σ H,Pv D i σ H→SqB K H t a xs)
  (h0:∀ D,H1 D=none→Pv D 0 (frσ fr σ) (upd H1 D (.dK []))) (hstop:∀ D σ' H',Pv D xs.length σ' H'→Q D H')
  (hgo:∀ D i x σ' H' T,xs[i]? = some x→Pv D i σ' H'→H' T=none→g (.ref T) σ' (upd H' T (.tup [.int (i:Int),x])) fun σ3 H3=>tc σ3 H3 fun b H4=>
    if b=true then tk σ3 H4 fun y H5=>tv σ3 H5 fun z H6=>∃ kvs k,y=kV k∧H6 D=some (.dK kvs)∧kvs.length < sizeLine∧Pv D (i+1) σ3 (upd H6 D (.dK (putK kvs k z)))
    else Pv D (i+1) σ3 H4):dcRest (Ite K t a) g tc tk tv fr σ H1 Q:=by
 refine dc_gen (n:=xs.length) Pv h0 (fun D σ' H' p=>⟨⟨xs,hq D _ σ' H' p,Nat.le_refl _⟩,hstop D σ' H' p⟩) fun D i σ' H' hi p=>⟨⟨xs,xs[i],hq D _ σ' H' p,by simp [hi]⟩,?_⟩
 rintro v H2 ⟨T,x,hT,rfl,e1,rfl⟩
 exact hgo D i x σ' H' T (e1 xs (hq D _ σ' H' p)) p hT
end L2
namespace Tw
open PySem L2
noncomputable def bN:Nat→List Nat→Nums
 | _,[]=>[]
 | k,s::r=>((s:Int),(k:Int))::bN (k+1) r
theorem numF_len:∀ (r:List Nat) (k:Nat),(bN k r).length=r.length
 | [],_=>rfl
 | s::r,k=>by show (bN (k+1) r).length+1=r.length+1;rw[numF_len r]
theorem numF_app:∀ (r q:List Nat) (k:Nat),bN k (r++q)=bN k r++bN (k+r.length) q
 | [],q,k=>rfl
 | s::r,q,k=>by
  show _::bN (k+1) (r++q)=_::(bN (k+1) r++bN (k+(r.length+1)) q)
  rw[numF_app r q,show k+1+r.length=k+(r.length+1) by omega]
theorem lkp_no {x:Nat}:∀ {r:List Nat}{k:Nat},x∉r→lkp (bN k r) (x:Int)=none
 | [],_,_=>rfl
 | s::r,k,h=>by
  have ih:=lkp_no (r:=r) (k:=k+1) (x:=x) fun z=>h (List.mem_cons_of_mem _ z)
  have ne:¬ ((s:Int)=(x:Int)):=fun z=>h (by rw[show x=s by omega];exact List.mem_cons_self)
  unfold lkp at ih ⊢
  show Option.map _ (List.find? _ (((s:Int),(k:Int))::bN (k+1) r))=none
  rw[List.find?_cons_of_neg (by simpa using ne)]
  exact ih
section
variable {P:Program}{w:World}{K:PySem.W.Frag}{mg:Str→Option Value}{base:Heap}{C c_TipError c_NoNet c_NoVessel c_TooLong c_TooMany c_TooMuch c_Nothing c_NoText c_NoRow:Addr}
noncomputable def spCounted (K:PySem.W.Frag):Sp:=fun vs H Q _=>∃ (a:Addr) (t:Bool) (S:List Nat),vs=[.ref a]∧SqB K H t a (eE S)∧(t=false→∃ o,H a=some o∧∀ H',H' a=some o→SqB K H' t a (eE S))∧S.Nodup∧S.length≤12∧
 ∀ d H',aK H H'→H d=none→H' d=some (.dK (dcD (bN 0 S)))→Q (.ref d) H'
theorem sc_counted:FnScope ["kept"] ["kept"] (aJ (aU 31)):=⟨rfl,rfl,rfl,by decide +kernel,rfl,by decide +kernel,by decide +kernel⟩
theorem ok_counted {f:Addr}{fd:FuncData} (F:Fun K "counted" "counted" (aU 31) f fd) (T:Txt mg):FnOk P w K mg base CX0 1 f fd ["kept"] (spCounted K):=by
 refine F.ok sc_counted (fun vs H Q E h=>?_) (fun cdv A outer s H vs Q E hr h=>?_)
 ·obtain⟨a,t,S,rfl,_⟩:=h;rfl
 ·obtain⟨a,t,S,rfl,qa,qk,nd,h12,k⟩:=h
  have sc:=sc_counted
  refine⟨_,(aL (b9 (pe_dc (fun _ _ h=>h) rfl (LcOk.mk (N':=["place","number"]) (fr:=[none,none]) rfl trivial rfl rfl rfl rfl rfl trivial) (pi_enumK (K:=K) rfl rfl T.b_enumerate (aA (pv 0) aD)) (fun _ _ _=>(aR (K:=K) (n:=2) rfl rfl (aE (aF (i:=0) (show (["place","number"]:List Str).Nodup by decide +kernel) rfl (Or.inl rfl) (Or.inr rfl)) (aE (aF (i:=1) (show (["place","number"]:List Str).Nodup by decide +kernel) rfl (Or.inl rfl) (Or.inr rfl)) aQ)))) (fun _ _ _=>d8) (fun _ _ _=>(pv 1)) (fun _ _ _=>(pv 0))))),?_⟩
  have keep:∀ {H':Hp},aK H H'→SqB K H' t a (eE S):=fun {H'} sm=>by
   cases t with
   | true=>exact sm.tup (show bH K H a (eE S) from qa)
   | false=>
    obtain⟨o,e,h⟩:=qk rfl
    exact h H' (sm _ _ e)
  have nl:(eE S).length=S.length:=by unfold eE;rw[List.length_map]
  refine⟨_,rfl,t,a,rfl,⟨_,qa⟩,dc_enum (K:=K) (t:=t) (a:=a) (xs:=eE S) (fun D i σ' H'=>H D=none∧aK H H'∧H' D=some (.dK (dcD (bN 0 (S.take i))))∧∃ u1 u2,σ'=[u1,u2])
   (fun D i σ' H' p=>keep p.2.1) (fun D hD=>⟨hD,aK.new hD,aB,none,none,rfl⟩) ?_ ?_⟩
  ·rintro D σ' H' ⟨hD,sm,hDl,_⟩
   rw[nl,List.take_of_length_le (Nat.le_refl _)] at hDl
   exact k D H' sm hD hDl
  ·rintro D i x σ' H1 Tt hx ⟨hD,sm,hDl,u1,u2,rfl⟩ hT
   unfold eE at hx
   rw[List.getElem?_map] at hx
   obtain⟨z,hz,rfl⟩:=Option.map_eq_some_iff.mp hx
   have hil:=(List.getElem?_eq_some_iff.mp hz).1
   have sT:=aK.new (o:=HO.tup [.int (i:Int),.int (z:Int)]) hT
   refine⟨Tt,_,rfl,bH.of aB,rfl,_,_,rfl,_,_,rfl,rfl,?_⟩
   have hD2:=sT _ _ hDl
   have lt:(S.take i).length=i:=by rw[List.length_take];omega
   have no:z∉S.take i:=fun hm=>by
    obtain⟨q,hq⟩:=List.mem_iff_getElem?.1 hm
    rw[List.getElem?_take] at hq
    split at hq
    ·rename_i hlt
     have hql:=(List.getElem?_eq_some_iff.mp hq).1
     have e1:=(List.getElem?_eq_some_iff.mp hq).2
     have e2:=(List.getElem?_eq_some_iff.mp hz).2
     have:=(List.nodup_iff_pairwise_ne.1 nd)
     rw[List.pairwise_iff_getElem] at this
     exact this q i hql hil hlt (e1.trans e2.symm)
    ·cases hq
   refine⟨_,rfl,_,rfl,dcD (bN 0 (S.take i)),Sum.inl (z:Int),rfl,hD2,aT (by unfold dcD;rw[List.length_map,numF_len];omega),hD,(sm.trans sT).put hD,?_,_,_,rfl⟩
   have hv:dZ (dcD (bN 0 (S.take i))) (Sum.inl (z:Int))=none:=by rw[val_dcD,lkp_no no];rfl
   rw[putK_new _ hv,aB,List.take_succ,hz,show (some z:Option Nat).toList=[z] from rfl,numF_app,Nat.zero_add,lt]
   unfold dcD
   rw[List.map_append];rfl
end
end Tw
namespace Tw
open PySem L2
end Tw
namespace Tw
open PySem L2
section
variable {P:Program}{w:World}{K:PySem.W.Frag}{mg:Str→Option Value}{base:Heap}{C c_TipError c_NoNet c_NoVessel c_TooLong c_TooMany c_TooMuch c_Nothing c_NoText c_NoRow:Addr}
end
end Tw
namespace L2
open PySem PySem.Spec PyProof.Rows TwZ
section
variable {X:Cx}{K:PySem.W.Frag}
end
end L2
namespace Tw
open PySem L2
section
variable {P:Program}{w:World}{K:PySem.W.Frag}{mg:Str→Option Value}{base:Heap}
end
end Tw
namespace Tw
open PySem L2
section
variable {P:Program}{w:World}{K:PySem.W.Frag}{mg:Str→Option Value}{base:Heap}{C c_TipError c_NoNet c_NoVessel c_TooLong c_TooMany c_TooMuch c_Nothing c_NoText c_NoRow:Addr}
end
end Tw
namespace Tw
open PySem L2
end Tw
namespace Tw
open PySem L2
section
variable {P:Program}{w:World}{K:PySem.W.Frag}{mg:Str→Option Value}{base:Heap}{C c_TipError c_NoNet c_NoVessel c_TooLong c_TooMany c_TooMuch c_Nothing c_NoText c_NoRow:Addr}
end
end Tw
namespace Tw
open PySem L2
end Tw
namespace L2
open PySem PySem.Spec PyProof.Rows TwZ
theorem lc_enum {K:PySem.W.Frag}{g:TG}{tc:TT}{te:TE}{fr:List (Option Nat)}{σ:St}{H1:Hp}{Q:Addr→Hp→Prop}{t:Bool}{a:Addr}{xs:List V} (Pv:Addr→Nat→List V→St→Hp→Prop)
  (hq:∀ D i r σ H,Pv D i r σ H→SqB K H t a xs)
  (h0:∀ D,H1 D=none→Pv D 0 [] (frσ fr σ) (upd H1 D (.lst []))) (hstop:∀ D r σ' H',Pv D xs.length r σ' H'→Q D H')
  (hgo:∀ D i x r σ' H' T,xs[i]? = some x→Pv D i r σ' H'→H' T=none→g (.ref T) σ' (upd H' T (.tup [.int (i:Int),x])) fun σ3 H3=>tc σ3 H3 fun b H4=>
    if b=true then te σ3 H4 fun y H5=>H5 D=some (.lst r)∧r.length < PySem.sizeLine∧Pv D (i+1) (r++[y]) σ3 (upd H5 D (.lst (r++[y])))
    else Pv D (i+1) r σ3 H4):lcRest (Ite K t a) g tc te fr σ H1 Q:=by
 refine lc_gen (n:=xs.length) Pv h0 (fun D r σ' H' p=>⟨⟨xs,hq D _ r σ' H' p,Nat.le_refl _⟩,hstop D r σ' H' p⟩) fun D i r σ' H' hi p=>⟨⟨xs,xs[i],hq D _ r σ' H' p,by simp [hi]⟩,?_⟩
 rintro v H2 ⟨T,x,hT,rfl,e1,rfl⟩
 exact hgo D i x r σ' H' T (e1 xs (hq D _ r σ' H' p)) p hT
end L2
namespace Tw
open PySem L2
section
variable {P:Program}{w:World}{K:PySem.W.Frag}{mg:Str→Option Value}{base:Heap}{C c_TipError c_NoNet c_NoVessel c_TooLong c_TooMany c_TooMuch c_Nothing c_NoText c_NoRow:Addr}
end
end Tw
namespace Tw
open PySem L2
theorem lkp_at:∀ {r:List Nat}{k i x:Nat},r.Nodup→r[i]? = some x→lkp (bN k r) (x:Int)=some ((k+i:Nat):Int)
 | [],_,_,_,_,h=>by cases h
 | s::r,k,0,x,_,h=>by
  cases h
  unfold lkp
  show Option.map _ (List.find? _ (((s:Int),(k:Int))::bN (k+1) r))=_
  rw[List.find?_cons_of_pos (by simp)];rfl
 | s::r,k,i+1,x,nd,h=>by
  rw[List.nodup_cons] at nd
  have hx:x∈r:=List.mem_of_getElem? (show r[i]? = some x from h)
  have ne:¬ ((s:Int)=(x:Int)):=fun z=>nd.1 (by rw[show s=x by omega];exact hx)
  have ih:=lkp_at (r:=r) (k:=k+1) (i:=i) (x:=x) nd.2 h
  rw[show k+1+i=k+(i+1) by omega] at ih
  unfold lkp at ih ⊢
  show Option.map _ (List.find? _ (((s:Int),(k:Int))::bN (k+1) r))=_
  rw[List.find?_cons_of_neg (by simpa using ne)]
  exact ih
theorem numF_mem:∀ {r:List Nat}{k:Nat}{p:Int×Int},p∈bN k r→∃ s∈r,p.1=(s:Int)
 | [],_,_,h=>by cases h
 | s::r,k,p,h=>by
  rcases List.mem_cons.1 h with z | z
  ·subst z;exact⟨s,List.mem_cons_self,rfl⟩
  ·obtain⟨s',h1,h2⟩:=numF_mem z
   exact⟨s',List.mem_cons_of_mem _ h1,h2⟩
noncomputable def spK (net:Net) (S:List Nat) (n:Nat):List Nat:=(List.range n).filter fun k=>decide (∃ s∈S,spAt net (k:Int)=(s:Int))
theorem spK_succ (net:Net) (S:List Nat) (n:Nat):spK net S (n+1)=spK net S n++(if ∃ s∈S,spAt net (n:Int)=(s:Int) then [n] else []):=by
 unfold spK
 rw[List.range_succ,List.filter_append]
 by_cases h:∃ s∈S,spAt net (n:Int)=(s:Int)
 ·rw[if_pos h]
  congr 1
  rw[List.filter_cons_of_pos (by simpa using h)];rfl
 ·rw[if_neg h]
  congr 1
  rw[List.filter_cons_of_neg (by simpa using h)];rfl
theorem spK_len (net:Net) (S:List Nat) (n:Nat):(spK net S n).length≤n:=by
 unfold spK
 exact Nat.le_trans (List.length_filter_le _ _) (by simp)
noncomputable def bR (net:Net) (S:List Nat):Net:=renN net (bN 0 S) (bN 0 (spK net S net.sps.length))
theorem MatS.nd {net:Net}{w:Nat}{S:List Nat} (m:MatS net w S):S.Nodup:=m.up.imp fun z=>Nat.ne_of_lt z
theorem MatS.lt {net:Net}{w:Nat}{S:List Nat} (m:MatS net w S) (h12:net.vs.length≤12) (hw:w < net.vs.length):∀ y∈S,y < net.vs.length:=fun y hy=>by
 rcases (m.mem y).1 hy with z | z
 ·exact (mat_ok h12 hw).2.1 y z
 ·omega
theorem trim_ok {net:Net}{w:Nat}{S:List Nat} (nok:NetOk net) (m:MatS net w S) (hw:w < net.vs.length):RenOk net (bN 0 S) (bN 0 (spK net S net.sps.length)) where
 vs:=fun p hp=>by
  obtain⟨s,hs,e⟩:=numF_mem hp
  have:=m.lt nok.hi hw s hs
  omega
 sp:=fun p hp=>by
  obtain⟨s,hs,e⟩:=numF_mem hp
  have:=List.mem_range.1 (List.mem_filter.1 hs).1
  omega
 tg:=fun p hp=>by
  obtain⟨s,hs,e⟩:=numF_mem hp
  obtain⟨y,hy,e2⟩:=of_decide_eq_true (List.mem_filter.1 hs).2
  obtain⟨i,hi⟩:=List.mem_iff_getElem?.1 hy
  refine⟨((0+i:Nat):Int),?_⟩
  rw[e]
  show lkp _ (spAt net (s:Int))=_
  rw[e2]
  exact lkp_at m.nd hi
 lv:=by
  rw[numF_len]
  exact Nat.le_trans (nodup_le _ _ m.nd (m.lt nok.hi hw)) nok.hi
 ls:=by
  rw[numF_len]
  exact Nat.le_trans (spK_len _ _ _) nok.sp
theorem inV_nat (z:Int):∀ l:List Nat,inV (.int z) (eE l)=decide (∃ s∈l,z=(s:Int))
 | []=>by
  show false=_
  rw[eq_comm,decide_eq_false_iff_not]
  rintro⟨s,h,_⟩
  cases h
 | x::l=>by
  show (eqV (.int (x:Int)) (.int z) || inV (.int z) (eE l))=_
  rw[inV_nat z l]
  show (((x:Int) == z) || decide (∃ s∈l,z=(s:Int)))=_
  by_cases h:(x:Int)=z
  ·rw[show ((x:Int) == z)=true by simp [h],Bool.true_or,eq_comm,decide_eq_true_eq]
   exact⟨x,List.mem_cons_self,h.symm⟩
  ·rw[show ((x:Int) == z)=false by simp [h],Bool.false_or,decide_eq_decide]
   constructor
   ·rintro⟨s,h1,h2⟩
    exact⟨s,List.mem_cons_of_mem _ h1,h2⟩
   ·rintro⟨s,h1,h2⟩
    rcases List.mem_cons.1 h1 with y | y
    ·subst y;exact absurd h2.symm h
    ·exact⟨s,y,h2⟩
section
variable {P:Program}{w:World}{K:PySem.W.Frag}{mg:Str→Option Value}{base:Heap}{C c_TipError c_NoNet c_NoVessel c_TooLong c_TooMany c_TooMuch c_Nothing c_NoText c_NoRow:Addr}
noncomputable def spTrimmed (K:PySem.W.Frag) (cV:Addr):Sp:=fun vs H Q E=>∃ (x:V) (net:Net) (v:Int),vs=[x,.int v]∧Is K H (netD net) x∧NetOk net∧
 ((¬ (0≤v∧v < net.vs.length)∧E (.ref cV) none H)∨∃ j:Nat,v=(j:Int)∧j < net.vs.length∧∀ p S (i:Nat) H',aK H H'→MatS net j S→S[i]? = some j→Is K H' (.tup [netD (bR net S),.int (i:Int)]) p→Q p H')
theorem sc_trimmed:FnScope ["net","watched","kept","vessels","spouts","new_vessels","new_spouts"] ["net","watched"] (aJ (aU 30)):=⟨rfl,rfl,rfl,by decide +kernel,rfl,by decide +kernel,by decide +kernel⟩
theorem ok_trimmedR {f f1 f2 f3:Addr}{fd fd1 fd2 fd3:FuncData} (F:Fun K "trimmed" "trimmed" (aU 30) f fd) (T:Txt mg) (G_matters:CalleeR P w K mg base "matters" ["net","watched"] 3 (spMatters K c_NoVessel) f1 fd1)
  (G_counted:Callee P w K mg base "counted" ["kept"] 1 (spCounted K) f2 fd2) (G_renumbered:Callee P w K mg base "renumbered" ["net","new_vessels","new_spouts"] 2 (spRen K) f3 fd3):FnOk P w K mg base (CXR P w) 4 f fd ["net","watched"] (spTrimmed K c_NoVessel):=by
 refine F.okR sc_trimmed (fun vs H Q E h=>?_) (fun cdv A outer s H vs Q E hr h L=>?_)
 ·obtain⟨x,net,v,rfl,_⟩:=h;rfl
 ·obtain⟨x,net,v,rfl,hx,nok,k⟩:=h
  have sc:=sc_trimmed
  have hu:=hu_of hr
  refine⟨_,(aG (bD (i:=2) sc.nd rfl (Or.inr rfl) (pe_call G_matters.ok (hr.mono (by decide)) rfl G_matters.mg G_matters.kp G_matters.bd .nil (pass_xe L) (aA (pv 0) (aA (pv 1) aD))))
   (aG (bK (pv 0) (aR (K:=K) (n:=2) rfl rfl (aE (aF (i:=3) sc.nd rfl (Or.inl rfl)) (aE (aF (i:=4) sc.nd rfl (Or.inl rfl)) aQ))))
   (aG (bD (i:=5) sc.nd rfl (Or.inl rfl) (cU G_counted hr (aA (pv 2) aD)))
   (aG (ps_calm fun pn=>(bD (i:=6) sc.nd rfl (Or.inl rfl) (cU G_counted hr (aA (pe_lc (fun _ _ h=>h) rfl (LcOk.mk (N':=["number","spout","kept"]) (fr:=[none,none,some 2]) rfl ⟨rfl,trivial⟩ rfl rfl rfl rfl rfl ⟨⟨_,rfl,rfl,rfl,rfl⟩,trivial⟩) (pi_enumK (K:=K) rfl rfl T.b_enumerate (aA (pv 4) aD)) (fun _ _ _=>(aR (K:=K) (n:=2) rfl rfl (aE (aF (i:=0) (show (["number","spout","kept"]:List Str).Nodup by decide +kernel) rfl (Or.inl rfl) (Or.inr rfl)) (aE (aF (i:=1) (show (["number","spout","kept"]:List Str).Nodup by decide +kernel) rfl (Or.inl rfl) (Or.inr rfl)) aQ)))) (fun _ _ _=>pif_one (d7 (op_inK (K:=K) rfl) (bI (aS (K:=K) rfl) (pv 1) aI (fun _ _=>rfl)) (pv 2) (by rfl))) (fun _ _ _=>(pv 0))) aD))))
   (aL (b9 (bT (aA (cU G_renumbered hr (aA (pv 0) (aA (pv 5) (aA (pv 6) aD)))) (aA (pe_dget hu (pv 5) (pv 1) (fun _ _=>rfl)) aD))))))))),?_⟩
  refine⟨_,rfl,_,rfl,x,net,v,rfl,hx,nok,?_⟩
  rcases k with ⟨hn,k⟩ | ⟨j,rfl,hj,k⟩
  ·exact .inl ⟨hn,k⟩
  refine .inr ⟨j,rfl,hj,fun kp S H1 s1 qk mS=>?_⟩
  have hx1:=Is.mono s1.ts _ _ hx
  obtain⟨na,nb,nc,xs,ys,rfl,qn,qv,lv,qs,ls⟩:=net_un hx1
  have eyl:ys.length=net.sps.length:=by rw[ls.length,List.length_map]
  have sl:S.length≤12:=Nat.le_trans (nodup_le _ _ mS.nd (mS.lt nok.hi hj)) nok.hi
  refine⟨_,rfl,na,_,rfl,qn,rfl,_,_,rfl,_,_,rfl,rfl,?_⟩
  refine⟨_,rfl,kp,true,S,rfl,qk,(fun z=>by cases z),mS.nd,sl,fun dv H2 s2 hdv edv=>?_⟩
  refine⟨_,rfl,true,nc,rfl,⟨_,s2.tup qs⟩,lc_enum (K:=K) (t:=true) (a:=nc) (xs:=ys) (fun D i r σ' H'=>H2 D=none∧aK H2 H'∧H' D=some (.lst r)∧r=eE (spK net S i)∧∃ u1 u2,σ'=[u1,u2,some (.ref kp)])
   (fun D i r σ' H' p=>p.2.1.tup (s2.tup qs)) (fun D hD=>⟨hD,aK.new hD,aB,rfl,none,none,rfl⟩) ?_ ?_⟩
  rotate_left
  ·rintro D i y r σ' H3 Tt hy ⟨hD,sm,hDl,rfl,u1,u2,rfl⟩ hT
   have hil:i < net.sps.length:=by rw[← eyl];exact (List.getElem?_eq_some_iff.mp hy).1
   have sT:=aK.new (o:=HO.tup [.int (i:Int),y]) hT
   refine⟨Tt,_,rfl,bH.of aB,rfl,_,_,rfl,_,_,rfl,rfl,?_⟩
   have s14:=(s2.trans sm).trans sT
   have hD4:=sT _ _ hDl
   generalize upd H3 Tt (.tup [.int (i:Int),y])=H4 at sT s14 hD4 ⊢
   obtain⟨pa,fl,dr,hpa,qpa⟩:=sp_at (L2.IsL.mono s14.ts _ _ ls) hil
   rw[hpa] at hy
   cases hy
   refine⟨_,rfl,.inr (.inl ⟨pa,_,0,_,rfl,rfl,qpa,rfl,_,rfl,kp,_,rfl,.inr (s14.tup qk),rfl,flat_tip _,_,rfl,?_⟩)⟩
   rw[if_neg Bool.false_ne_true,inV_nat]
   have hs:=spK_succ net S i
   have hln:=spK_len net S i
   have sp12:=nok.sp
   refine ite2 (fun h1=>?_) fun h1=>?_
   ·rw[if_pos (of_decide_eq_true h1)] at hs
    refine⟨_,rfl,hD4,aT (by unfold eE;rw[List.length_map];omega),hD,(sm.trans sT).put hD,aB,?_,_,_,rfl⟩
    rw[hs];unfold eE;rw[List.map_append];rfl
   ·rw[if_neg (fun z=>h1 (decide_eq_true z)),List.append_nil] at hs
    exact⟨hD,sm.trans sT,hD4,by rw[hs],_,_,rfl⟩
  rintro D r σ' H3 ⟨hD,s3,hDl,rfl,_⟩
  rw[eyl] at hDl
  have spl:=spK_len net S net.sps.length
  have sp12:=nok.sp
  refine⟨D,false,spK net S net.sps.length,rfl,cE.of hDl,(fun _=>⟨_,hDl,fun H' e=>cE.of e⟩),List.Pairwise.filter _ List.nodup_range,by omega,fun ds H4 s4 hds eds=>?_⟩
  have s24:=s3.trans s4
  have nds:dv≠ds:=fun z=>by rw[← z,s3 _ _ edv] at hds;cases hds
  have hx4:=Is.mono (s2.trans s24).ts _ _ hx1
  have jS:j∈S:=(mS.mem j).2 (.inl (mat_ok nok.hi hj).2.2)
  obtain⟨i,hi⟩:=List.mem_iff_getElem?.1 jS
  refine⟨_,rfl,_,rfl,_,rfl,.ref na,dv,ds,net,bN 0 S,bN 0 (spK net S net.sps.length),rfl,hx4,nok,s24 _ _ edv,eds,nds,trim_ok nok mS hj,fun q H5 b5 rd ip=>?_⟩
  have g0:DGet H5 dv (.int (j:Int)) (some (.int (i:Int))):=by
   have:=RdD.get rd (some (j:Int))
   rw[show ((some (j:Int)).bind (lkp (bN 0 S))).map V.int=some (.int (i:Int)) by show (lkp (bN 0 S) (j:Int)).map V.int=_;rw[lkp_at mS.nd hi,Nat.zero_add];rfl] at this
   exact this
  refine⟨_,rfl,_,rfl,dv,.int (i:Int),rfl,g0,(show 2≤sizeLine by decide),fun e he=>?_⟩
  have s5:aK H H5:=fun b o hb=>b5 b o (fun z=>by
   simp only [List.mem_cons,List.mem_singleton,List.not_mem_nil,or_false] at z
   rcases z with z | z
   ·rw[z,s1.free hdv] at hb;cases hb
   ·rw[z,((s1.trans s2).trans s3).free hds] at hb;cases hb) (((s1.trans s2).trans s24) b o hb)
  have s6:=aK.new (o:=HO.tup [q,.int (i:Int)]) he
  exact k _ S i _ (s5.trans s6) mS hi (Is.tupOf (ds:=[netD (bR net S),.int (i:Int)]) (bH.of aB) (.cons (Is.mono s6.ts _ _ ip) (.cons (Is.i _) .nil)))
end
end Tw
namespace Tw
open PySem L2
section
variable {P:Program}{w:World}{K:PySem.W.Frag}{mg:Str→Option Value}{base:Heap}{C c_TipError c_NoNet c_NoVessel c_TooLong c_TooMany c_TooMuch c_Nothing c_NoText c_NoRow:Addr}
theorem lkp_none {z:Int}:∀ {r:List Nat}{k:Nat},(¬ ∃ s∈r,z=(s:Int))→lkp (bN k r) z=none
 | [],_,_=>rfl
 | s::r,k,h=>by
  have ih:=lkp_none (r:=r) (k:=k+1) (z:=z) fun ⟨s',h1,h2⟩=>h ⟨s',List.mem_cons_of_mem _ h1,h2⟩
  have ne:¬ ((s:Int)=z):=fun y=>h ⟨s,List.mem_cons_self,y.symm⟩
  unfold lkp at ih ⊢
  show Option.map _ (List.find? _ (((s:Int),(k:Int))::bN (k+1) r))=none
  rw[List.find?_cons_of_neg (by simpa using ne)]
  exact ih
end
end Tw
namespace Tw
open PySem L2
theorem numF_at:∀ {r:List Nat}{k i:Nat}{p:Int×Int},(bN k r)[i]? = some p→∃ s,r[i]? = some s∧p=((s:Int),((k+i:Nat):Int))
 | [],_,_,_,h=>by cases h
 | s::r,k,0,p,h=>by cases h;exact⟨s,rfl,rfl⟩
 | s::r,k,i+1,p,h=>by
  obtain⟨s',h1,h2⟩:=numF_at (r:=r) (k:=k+1) (i:=i) h
  exact⟨s',h1,by rw[h2,show k+1+i=k+(i+1) by omega]⟩
theorem lkp_some {r:List Nat}{z y:Int} (nd:r.Nodup) (h:lkp (bN 0 r) z=some y):∃ i s:Nat,r[i]? = some s∧z=(s:Int)∧y=(i:Int):=by
 by_cases c:∃ s∈r,z=(s:Int)
 ·obtain⟨s,hs,rfl⟩:=c
  obtain⟨i,hi⟩:=List.mem_iff_getElem?.1 hs
  rw[lkp_at nd hi,Nat.zero_add] at h
  injection h with h
  exact⟨i,s,hi,rfl,h.symm⟩
 ·rw[lkp_none c] at h;cases h
theorem trim_net {net:Net}{w:Nat}{S:List Nat} (nok:NetOk net) (m:MatS net w S) (hw:w < net.vs.length):NetOk (bR net S):=by
 have hS:S.length≤12:=Nat.le_trans (nodup_le _ _ m.nd (m.lt nok.hi hw)) nok.hi
 have hK:(spK net S net.sps.length).length≤12:=Nat.le_trans (spK_len _ _ _) nok.sp
 have kn:(spK net S net.sps.length).Nodup:=List.Pairwise.filter _ List.nodup_range
 have ev:(bR net S).vs.length=S.length:=by show (List.map _ _).length=_;rw[List.length_map,numF_len]
 have es:(bR net S).sps.length=(spK net S net.sps.length).length:=by show (List.map _ _).length=_;rw[List.length_map,numF_len]
 have z0:0∈S:=(m.mem 0).2 (.inr rfl)
 refine { lo:=by rw[ev];exact List.length_pos_of_mem z0,hi:=by rw[ev];exact hS,sp:=by rw[es];exact hK,vs:=fun v hv=>?_,sps:=fun p hp=>?_ }
 ·obtain⟨q,hq,rfl⟩:=List.mem_map.1 hv
  obtain⟨s,hs,e⟩:=numF_mem hq
  have hsl:=m.lt nok.hi hw s hs
  rw[e,Int.toNat_natCast,List.getD_eq_getElem?_getD,List.getElem?_eq_getElem hsl,ev,es]
  have vok:=nok.vs _ (List.getElem_mem hsl)
  show VOk S.length (spK net S net.sps.length).length (renV (bN 0 S) (bN 0 (spK net S net.sps.length)) net.vs[s])
  generalize net.vs[s]=v at vok
  have idx:∀ (t:Option Int) (y:Int),t.bind (lkp (bN 0 S))=some y→0≤y∧y < (S.length:Int):=fun t y h=>by
   cases t with
   | none=>cases h
   | some z=>
    obtain⟨i,s',h1,_,rfl⟩:=lkp_some m.nd (show lkp (bN 0 S) z=some y from h)
    have:=(List.getElem?_eq_some_iff.mp h1).1
    omega
  refine { size:=vok.size,ne:=fun z=>vok.ne (List.map_eq_nil_iff.1 z),o3:=by show (v.outs.map _).length≤3;rw[List.length_map];exact vok.o3,outs:=fun o ho=>?_,spill:=fun t ht=>idx _ _ ht,a3:=Nat.le_trans (List.length_filterMap_le _ _) vok.a3,acts:=fun a ha=>?_ }
  ·obtain⟨o',ho',rfl⟩:=List.mem_map.1 (show o∈v.outs.map (renO (bN 0 S)) from ho)
   have ook:=vok.outs o' ho'
   exact⟨fun t ht=>idx _ _ ht,ook.lo,ook.hi⟩
  ·obtain⟨a',ha',e'⟩:=List.mem_filterMap.1 (show a∈v.acts.filterMap (renA (bN 0 (spK net S net.sps.length))) from ha)
   have aok:=vok.acts a' ha'
   unfold renA at e'
   obtain⟨y,hy,rfl⟩:=Option.map_eq_some_iff.mp e'
   obtain⟨i,s',h1,_,rfl⟩:=lkp_some kn hy
   have:=(List.getElem?_eq_some_iff.mp h1).1
   exact⟨aok.word,by show (0:Int)≤(i:Int);omega,by show (i:Int) < _;omega⟩
 ·obtain⟨q,hq,rfl⟩:=List.mem_map.1 hp
  obtain⟨y,hy⟩:=(trim_ok nok m hw).tg q hq
  obtain⟨i,s',h1,_,rfl⟩:=lkp_some m.nd hy
  have:=(List.getElem?_eq_some_iff.mp h1).1
  rw[ev]
  unfold renS
  rw[hy]
  exact⟨by show (0:Int)≤(i:Int);omega,by show (i:Int) < _;omega⟩
theorem trim_full {net:Net}{w:Nat}{S:List Nat} (nok:NetOk net) (nfu:NetFull net) (m:MatS net w S) (hw:w < net.vs.length):NetFull (bR net S) where
 vs:=fun i v hv=>by
  have hv:((bN 0 S).map fun p=>renV (bN 0 S) (bN 0 (spK net S net.sps.length)) (net.vs.getD p.1.toNat cO))[i]? = some v:=hv
  rw[List.getElem?_map] at hv
  obtain⟨q,hq,rfl⟩:=Option.map_eq_some_iff.mp hv
  obtain⟨s,hs,rfl⟩:=numF_at hq
  have hsl:=m.lt nok.hi hw s (List.mem_of_getElem? hs)
  have fu:=nfu.vs s net.vs[s] (List.getElem?_eq_getElem hsl)
  show VFull i (renV _ _ (net.vs.getD ((s:Int)).toNat cO))
  rw[Int.toNat_natCast,List.getD_eq_getElem?_getD,List.getElem?_eq_getElem hsl]
  show VFull i (renV _ _ net.vs[s])
  refine⟨fu.sz,fu.br,fu.bh,fun t ht=>?_⟩
  have ht:net.vs[s].spill.bind (lkp (bN 0 S))=some t:=ht
  cases e:net.vs[s].spill with
  | none=>rw[e] at ht;cases ht
  | some z=>
   rw[e] at ht
   obtain⟨i',s',h1,rfl,rfl⟩:=lkp_some m.nd (show lkp (bN 0 S) z=some t from ht)
   have lt:=fu.sp _ e
   rcases Nat.lt_or_ge i i' with c | c
   ·omega
   ·exfalso
    rcases Nat.lt_or_ge i' i with c2 | c2
    ·have hp:=m.up
     rw[List.pairwise_iff_getElem] at hp
     have l1:=(List.getElem?_eq_some_iff.mp h1)
     have l2:=(List.getElem?_eq_some_iff.mp hs)
     have:=hp i' i l1.1 l2.1 c2
     rw[l1.2,l2.2] at this
     omega
    ·have:i'=i:=by omega
     subst this
     rw[hs] at h1
     injection h1 with h1
     omega
 sps:=fun p hp=>by
  obtain⟨q,hq,rfl⟩:=List.mem_map.1 (show p∈(bN 0 (spK net S net.sps.length)).map fun p=>renS (bN 0 S) (net.sps.getD p.1.toNat (0,0,false)) from hp)
  obtain⟨s,hs,e⟩:=numF_mem hq
  have hsl:=List.mem_range.1 (List.mem_filter.1 hs).1
  rw[e,Int.toNat_natCast,List.getD_eq_getElem?_getD,List.getElem?_eq_getElem hsl]
  have:=nfu.sps _ (List.getElem_mem hsl)
  exact this
end Tw
namespace Tw
open PySem L2
theorem growT_has {net:Net}{x:Nat}{f:List Nat}:∀ (n y:Nat),y < n→some (x:Int)∈cL net (vAt net y)→y∈dN net x f n
 | 0,_,h,_=>absurd h (Nat.not_lt_zero _)
 | n+1,y,h,hl=>by
  rw[growT_succ]
  by_cases c:y=n
  ·subst c
   by_cases m:y∈dN net x f y
   ·rw[if_neg fun z=>z.1 m];exact m
   ·rw[if_pos ⟨m,hl⟩];exact List.mem_append_right _ (List.mem_singleton.2 rfl)
  ·have ih:=growT_has (f:=f) n y (by omega) hl
   split
   ·exact List.mem_append_left _ ih
   ·exact ih
theorem growT_mem {net:Net}{x:Nat}{f:List Nat}:∀ (n y:Nat),y∈dN net x f n→y∈f∨(y < n∧some (x:Int)∈cL net (vAt net y))
 | 0,y,h=>.inl h
 | n+1,y,h=>by
  rw[growT_succ] at h
  split at h
  ·rename_i c
   rcases List.mem_append.1 h with z | z
   ·rcases growT_mem n y z with q | q
    ·exact .inl q
    ·exact .inr ⟨by omega,q.2⟩
   ·have:=List.mem_singleton.1 z
    subst this
    exact .inr ⟨by omega,c.2⟩
  ·rcases growT_mem n y h with q | q
   ·exact .inl q
   ·exact .inr ⟨by omega,q.2⟩
noncomputable def ClosedTo (net:Net) (p:Nat) (f:List Nat):Prop:=∀ (i x y:Nat),i < p→f[i]? = some x→y < net.vs.length→some (x:Int)∈cL net (vAt net y)→y∈f
theorem walk_facts {net:Net}{w:Nat} (h12:net.vs.length≤12) (Pr:Nat→Prop) (ps:∀ x y,x∈dG net w→Pr x→y < net.vs.length→some (x:Int)∈cL net (vAt net y)→Pr y) :
  ∀ (m p:Nat) (f:List Nat),WalkAt net w p f→ClosedTo net p f→(∀ y∈f,y∈dG net w→Pr y)→(∀ y∈f,y∈dG net w)→13 - p=m→
   (∀ x y:Nat,x∈dG net w→y < net.vs.length→some (x:Int)∈cL net (vAt net y)→y∈dG net w)∧∀ y∈dG net w,Pr y
 | 0,p,f,a,_,_,_,e=>by
  have:=a.len;have:=a.le
  omega
 | m+1,p,f,a,c,pr,inn,e=>by
  rcases Nat.lt_or_ge p f.length with z | z
  ·have hx:=List.getElem?_eq_getElem z
   generalize f[p]=x at hx
   have xm:=inn x (List.mem_of_getElem? hx)
   have a':=a.go h12 hx
   have sub:∀ (m p:Nat) (f:List Nat),WalkAt net w p f→13 - p=m→∀ y∈f,y∈dG net w:=by
    clear c pr inn a' z hx xm a e m p f x
    intro m
    induction m with
    | zero=>intro p f a e;have:=a.len;have:=a.le;omega
    | succ m ih=>
     intro p f a e y hy
     rcases Nat.lt_or_ge p f.length with z | z
     ·obtain⟨g,eg⟩:=growT_pre net f[p] f net.vs.length
      exact ih (p+1) _ (a.go h12 (List.getElem?_eq_getElem z)) (by omega) y (by rw[eg];exact List.mem_append_left _ hy)
     ·rw[← a.done z];exact hy
   obtain⟨g,eg⟩:=growT_pre net x f net.vs.length
   refine walk_facts h12 Pr ps m (p+1) _ a' (fun i x' y hi hf hy hl=>?_) (fun y hy ym=>?_) (fun y hy=>sub _ _ _ a' rfl y hy) (by omega)
   ·by_cases ci:i=p
    ·subst ci
     rw[eg,List.getElem?_append_left z,hx] at hf
     injection hf with hf
     subst hf
     exact growT_has _ _ hy hl
    ·rw[eg,List.getElem?_append_left (by omega)] at hf
     rw[eg]
     exact List.mem_append_left _ (c i x' y (by omega) hf hy hl)
   ·rcases growT_mem _ _ hy with q | q
    ·exact pr y q ym
    ·exact ps x y xm (pr x (List.mem_of_getElem? hx) xm) q.1 q.2
  ·have ef:=a.done z
   subst ef
   refine⟨fun x y hx hy hl=>?_,fun y hy=>pr y hy hy⟩
   obtain⟨i,hi⟩:=List.mem_iff_getElem?.1 hx
   have:=(List.getElem?_eq_some_iff.mp hi).1
   exact c i x y (by omega) hi hy hl
theorem mat_closed {net:Net}{w:Nat} (h12:net.vs.length≤12) (h:w < net.vs.length) {x y:Nat} (hx:x∈dG net w) (hy:y < net.vs.length) (hl:some (x:Int)∈cL net (vAt net y)):y∈dG net w:=by
 have hm:=(mat_ok h12 h).2.2
 refine (walk_facts h12 (fun _=>True) (fun _ _ _ _ _ _=>trivial) 13 0 [w] (WalkAt.first h) (fun i _ _ hi _ _ _=>absurd hi (Nat.not_lt_zero _)) (fun _ _ _=>trivial) (fun y hy=>?_) rfl).1 x y hx hy hl
 have:=List.mem_singleton.1 hy
 subst this;exact hm
theorem mat_ind {net:Net}{w:Nat} (h12:net.vs.length≤12) (h:w < net.vs.length) {Pr:Nat→Prop} (p0:Pr w) (ps:∀ x y,x∈dG net w→Pr x→y < net.vs.length→some (x:Int)∈cL net (vAt net y)→Pr y):∀ y∈dG net w,Pr y:=by
 have hm:=(mat_ok h12 h).2.2
 refine (walk_facts h12 Pr ps 13 0 [w] (WalkAt.first h) (fun i _ _ hi _ _ _=>absurd hi (Nat.not_lt_zero _)) (fun y hy _=>?_) (fun y hy=>?_) rfl).2
 ·have:=List.mem_singleton.1 hy
  subst this;exact p0
 ·have:=List.mem_singleton.1 hy
  subst this;exact hm
section
variable {net:Net}{w:Nat}{S:List Nat}
theorem dJ:(bR net S).vs.length=S.length:=by show (List.map _ _).length=_;rw[List.length_map,numF_len]
theorem trim_slen:(bR net S).sps.length=(spK net S net.sps.length).length:=by show (List.map _ _).length=_;rw[List.length_map,numF_len]
theorem numF_get:∀ {r:List Nat}{k i x:Nat},r[i]? = some x→(bN k r)[i]? = some ((x:Int),((k+i:Nat):Int))
 | [],_,_,_,h=>by cases h
 | s::r,k,0,x,h=>by cases h;rfl
 | s::r,k,i+1,x,h=>by
  have:=numF_get (r:=r) (k:=k+1) (i:=i) (x:=x) h
  rw[show k+1+i=k+(i+1) by omega] at this
  exact this
theorem trim_v {p s:Nat} (h:S[p]? = some s):(bR net S).vs.getD p cO=renV (bN 0 S) (bN 0 (spK net S net.sps.length)) (net.vs.getD s cO):=by
 show (((bN 0 S).map fun p=>renV (bN 0 S) (bN 0 (spK net S net.sps.length)) (net.vs.getD p.1.toNat cO)).getD p cO)=_
 rw[List.getD_eq_getElem?_getD,List.getElem?_map,numF_get h];rfl
theorem trim_s {q k:Nat} (h:(spK net S net.sps.length)[q]? = some k):(bR net S).sps.getD q sNil=renS (bN 0 S) (net.sps.getD k sNil):=by
 show (((bN 0 (spK net S net.sps.length)).map fun p=>renS (bN 0 S) (net.sps.getD p.1.toNat (0,0,false))).getD q sNil)=_
 rw[List.getD_eq_getElem?_getD,List.getElem?_map,numF_get h];rfl
theorem lkp_iff (nd:S.Nodup) {p s:Nat} (h:S[p]? = some s) (z:Int):lkp (bN 0 S) z=some (p:Int)↔z=(s:Int):=by
 constructor
 ·intro e
  obtain⟨i,s',h1,h2,h3⟩:=lkp_some nd e
  have:i=p:=by omega
  subst this
  rw[h] at h1
  injection h1 with h1
  rw[h2,h1]
 ·rintro rfl
  rw[lkp_at nd h,Nat.zero_add]
theorem bind_iff (nd:S.Nodup) {p s:Nat} (h:S[p]? = some s) (t:Option Int):t.bind (lkp (bN 0 S))=some (p:Int)↔t=some (s:Int):=by
 cases t with
 | none=>simp
 | some z=>show lkp (bN 0 S) z=some (p:Int)↔_;rw[lkp_iff nd h];simp
theorem ren_whole (nv:Nums) (outs:List (Option Int×Int)):whole (outs.map (renO nv))=whole outs:=by unfold whole;rw[List.map_map];rfl
theorem sum_ren (nd:S.Nodup) {p s:Nat} (h:S[p]? = some s):∀ gs:List (Option Int×Int),bJ (some (p:Int)) (gs.map fun g=>(g.1.bind (lkp (bN 0 S)),g.2))=bJ (some (s:Int)) gs
 | []=>rfl
 | g::gs=>by
  show (if g.1.bind (lkp (bN 0 S))=some (p:Int) then g.2 else 0)+bJ (some (p:Int)) (gs.map fun g=>(g.1.bind (lkp (bN 0 S)),g.2))=(if g.1=some (s:Int) then g.2 else 0)+bJ (some (s:Int)) gs
  rw[sum_ren nd h gs]
  congr 1
  by_cases c:g.1=some (s:Int)
  ·rw[if_pos c,if_pos ((bind_iff nd h _).2 c)]
  ·rw[if_neg c,if_neg fun z=>c ((bind_iff nd h _).1 z)]
theorem ren_goes (nv ms:Nums) (v:Vs) (a:Int):dP (renV nv ms v) a=(dP v a).map fun g=>(g.1.bind (lkp nv),g.2):=by
 unfold dP
 have e1:shared (renV nv ms v) (cC v a)=(shared v (cC v a)).map fun g=>(g.1.bind (lkp nv),g.2):=by
  unfold shared
  show (v.outs.map (renO nv)).map (fun o=>(o.1,cC v a / whole (v.outs.map (renO nv)) * o.2))=_
  rw[ren_whole,List.map_map,List.map_map];rfl
 show (v.spill.bind (lkp nv),a - cC v a)::(if dO v a=true then shared (renV nv ms v) (cC v a)++(if v.holds=true then [] else [(none,cC v a % whole (v.outs.map (renO nv)))]) else [])=_
 rw[e1,ren_whole,List.map_cons]
 congr 1
 split
 ·rw[List.map_append]
  congr 1
  split <;> rfl
 ·rfl
theorem ren_stay (nv ms:Nums) (v:Vs) (a:Int):vStay (renV nv ms v) a=vStay v a:=by
 unfold vStay
 show (if dO v a=true then (if v.holds=true then cC v a % whole (v.outs.map (renO nv)) else 0) else cC v a)=_
 rw[ren_whole]
theorem goes_zero {v:Vs}{t:Option Int} (h1:t∉v.outs.map (·.1)) (h2:t≠v.spill) (h3:t≠none) (a:Int):bJ t (dP v a)=0:=by
 have z:∀ (q:Int) (l:List (Option Int×Int)),t∉l.map (·.1)→bJ t (l.map fun o=>(o.1,q * o.2))=0:=by
  intro q l
  induction l with
  | nil=>intro _;rfl
  | cons o l ih=>
   intro h
   rw[List.map_cons,List.mem_cons] at h
   show (if o.1=t then q * o.2 else 0)+bJ t (l.map fun o=>(o.1,q * o.2))=0
   rw[if_neg fun e=>h (.inl e.symm),ih fun e=>h (.inr e)];rfl
 unfold dP
 show (if v.spill=t then a - cC v a else 0)+bJ t _=0
 rw[if_neg (Ne.symm h2)]
 split
 ·rw[sumFor_append]
  unfold shared
  rw[z _ _ h1]
  split
  ·rfl
  ·show 0+(0+((if none=t then _ else 0)+0))=(0:Int)
   rw[if_neg (Ne.symm h3)];rfl
 ·rfl
theorem leads_goes {i:Nat}{t:Int} (h:some t∉cL net (net.vs.getD i cO)) (a:Int):bJ (some t) (dP (net.vs.getD i cO) a)=0:=by
 unfold cL at h
 rw[List.mem_append,List.mem_append,List.mem_singleton] at h
 exact goes_zero (fun z=>h (.inl (.inl z))) (fun z=>h (.inl (.inr z))) (fun z=>nomatch z) a
theorem leads_acts {i k:Nat} (hk:∀ a∈(net.vs.getD i cO).acts,0≤a.2) (h:some (spAt net (k:Int))∉cL net (net.vs.getD i cO)):∀ a∈(net.vs.getD i cO).acts,a.2.toNat≠k:=fun a ha e=>by
 refine h ?_
 unfold cL
 refine List.mem_append_right _ (List.mem_map.2 ⟨a,ha,?_⟩)
 rw[show a.2=(k:Int) by have:=hk a ha;omega]
theorem actsAt_none {k:Nat}:∀ {as:List (Str×Int)} (b:Bool),(∀ a∈as,a.2.toNat≠k)→eK k as b=b
 | [],_,_=>rfl
 | a::as,b,h=>by
  show eK k as (if a.2.toNat=k then actW a.1 b else b)=b
  rw[if_neg (h a List.mem_cons_self)]
  exact actsAt_none b fun a ha=>h a (List.mem_cons_of_mem _ ha)
theorem actsAt_ren {ms:List Nat} (nd:ms.Nodup) {q k:Nat} (h:ms[q]? = some k):∀ (as:List (Str×Int)) (b:Bool),(∀ a∈as,0≤a.2)→eK q (as.filterMap (renA (bN 0 ms))) b=eK k as b
 | [],_,_=>rfl
 | a::as,b,h0=>by
  have ih:=fun b=>actsAt_ren nd h as b fun a ha=>h0 a (List.mem_cons_of_mem _ ha)
  have a0:=h0 a List.mem_cons_self
  show _=eK k as (if a.2.toNat=k then actW a.1 b else b)
  cases e:lkp (bN 0 ms) a.2 with
  | none=>
   rw[List.filterMap_cons_none (by unfold renA;rw[e];rfl),ih,if_neg]
   intro z
   have:=(lkp_iff nd h a.2).2 (by omega)
   rw[e] at this;cases this
  | some y=>
   rw[List.filterMap_cons_some (b:=(a.1,y)) (by unfold renA;rw[e];rfl)]
   show eK q (as.filterMap (renA (bN 0 ms))) (if y.toNat=q then actW a.1 b else b)=_
   rw[ih]
   congr 1
   obtain⟨i,s',h1,h2,h3⟩:=lkp_some nd e
   by_cases c:a.2.toNat=k
   ·have:=(lkp_iff nd h a.2).2 (by omega)
    rw[e] at this
    injection this with this
    rw[if_pos c,if_pos (by omega)]
   ·rw[if_neg c,if_neg]
    intro z
    have:i=q:=by omega
    subst this
    rw[h] at h1
    injection h1 with h1
    omega
end
end Tw
namespace Tw
open PySem L2
section
variable {A:Net}{w:Nat}{S:List Nat}
structure TrSt (A:Net) (w:Nat) (S:List Nat) (h c p:List Int) (d:List Bool) (h' c' p':List Int) (d':List Bool):Prop where
 held:∀ (i s:Nat),S[i]? = some s→s∈dG A w→h'.getD i 0=h.getD s 0
 coming:∀ (i s:Nat),S[i]? = some s→s∈dG A w→c'.getD i 0=c.getD s 0
 poured:∀ (i s:Nat),S[i]? = some s→s∈dG A w→p'.getD i 0=p.getD s 0
 doors:∀ (q k s:Nat),(spK A S A.sps.length)[q]? = some k→spAt A (k:Int)=(s:Int)→s∈dG A w→d'.getD q false=d.getD k false
theorem spK_nd:(spK A S A.sps.length).Nodup:=List.Pairwise.filter _ List.nodup_range
theorem spK_lt {k:Nat} (h:k∈spK A S A.sps.length):k < A.sps.length:=List.mem_range.1 (List.mem_filter.1 h).1
theorem getD_some {l:List Nat}{i:Nat} (h:i < l.length):l[i]? = some (l.getD i 0):=by rw[List.getD_eq_getElem?_getD,List.getElem?_eq_getElem h];rfl
theorem tr_has (ok:NetOk A) (m:MatS A w S) (hw:w < A.vs.length) {h c p h' c' p':List Int}{d d':List Bool} (st:StOk A h c d) (pl:p.length=A.vs.length) (st':StOk (bR A S) h' c' d') (pl':p'.length=(bR A S).vs.length) (t:TrSt A w S h c p d h' c' p' d') {i s:Nat} (hi:S[i]? = some s) (hs:s∈dG A w) :
  (bB (bR A S) h' c' p' d').getD i 0=(bB A h c p d).getD s 0:=by
 rw[has_at ok st pl,has_at (trim_net ok m hw) st' pl',t.held i s hi hs,t.coming i s hi hs,t.poured i s hi hs]
 congr 1
 have e1:dL A.sps.length (flowAt A.sps d s)=((spK A S A.sps.length).map (flowAt A.sps d s)).sum:=by
  unfold spK
  rw[sum_filter]
  ·rfl
  ·intro k _ hk
   unfold flowAt
   rw[if_neg]
   intro z
   have:¬ ∃ s∈S,spAt A (k:Int)=(s:Int):=of_decide_eq_false hk
   exact this ⟨s,List.mem_of_getElem? hi,z.2⟩
 rw[e1,sumN22_list,trim_slen]
 refine sumN22_congr fun q hq=>?_
 have hk:=getD_some hq
 generalize (spK A S A.sps.length).getD q 0=k at hk
 unfold flowAt
 rw[trim_s hk]
 have ha:=lkp_iff m.nd hi (A.sps.getD k sNil).1
 by_cases c:(A.sps.getD k sNil).1=(s:Int)
 ·have ed:=t.doors q k s hk c hs
  have e2:(renS (bN 0 S) (A.sps.getD k sNil)).1=(i:Int):=by unfold renS;rw[ha.2 c];rfl
  rw[ed]
  by_cases dk:d.getD k false=true
  ·rw[if_pos ⟨dk,e2⟩,if_pos ⟨dk,c⟩];rfl
  ·rw[if_neg fun z=>dk z.1,if_neg fun z=>dk z.1]
 ·
  obtain⟨y,hy,e⟩:=of_decide_eq_true (List.mem_filter.1 (List.mem_of_getElem? hk)).2
  have e:(A.sps.getD k sNil).1=(y:Int):=e
  obtain⟨j,hj⟩:=List.mem_iff_getElem?.1 hy
  have e3:(renS (bN 0 S) (A.sps.getD k sNil)).1=(j:Int):=by
   unfold renS
   rw[(lkp_iff m.nd hj _).2 e];rfl
  rw[if_neg (fun z=>?_),if_neg fun z=>c z.2]
  have:j=i:=by have:=z.2;omega
  subst this
  rw[hi] at hj
  injection hj with hj
  exact c (by rw[hj];exact e)
theorem S_filter (ok:NetOk A) (m:MatS A w S) (hw:w < A.vs.length):S=(List.range A.vs.length).filter fun k=>decide (k∈S):=up_filter _ _ m.up (m.lt ok.hi hw)
theorem acts0 (ok:NetOk A) {i:Nat}:∀ a∈(A.vs.getD i cO).acts,0≤a.2:=fun a ha=>by
 rcases Nat.lt_or_ge i A.vs.length with z | z
 ·rw[List.getD_eq_getElem?_getD,List.getElem?_eq_getElem z] at ha
  exact ((ok.vs _ (List.getElem_mem z)).acts a ha).lo
 ·rw[List.getD_eq_getElem?_getD,List.getElem?_eq_none z] at ha
  exact nomatch ha
theorem fold_list {β:Type} (l:List Nat) (f:β→Nat→β):∀ b,l.foldl f b=(List.range l.length).foldl (fun b q=>f b (l.getD q 0)) b:=by
 induction l with
 | nil=>intro b;rfl
 | cons a l ih=>
  intro b
  rw[List.foldl_cons,ih,List.length_cons,List.range_succ_eq_map,List.foldl_cons,List.foldl_map];rfl
theorem fold_congr {β:Type}{l:List Nat}{f g:β→Nat→β}:∀ b,(∀ i∈l,∀ b,f b i=g b i)→l.foldl f b=l.foldl g b:=by
 induction l with
 | nil=>intro b _;rfl
 | cons a l ih=>
  intro b h
  rw[List.foldl_cons,List.foldl_cons,h a List.mem_cons_self]
  exact ih _ fun i hi=>h i (List.mem_cons_of_mem _ hi)
theorem tr_tick (ok:NetOk A) (m:MatS A w S) (hw:w < A.vs.length) {h c p h' c' p':List Int}{d d':List Bool} (st:StOk A h c d) (pl:p.length=A.vs.length) (st':StOk (bR A S) h' c' d') (pl':p'.length=(bR A S).vs.length) (t:TrSt A w S h c p d h' c' p' d') :
  TrSt A w S (cZ A h c p d).held (cZ A h c p d).coming (dU A.vs.length) (cZ A h c p d).doors (cZ (bR A S) h' c' p' d').held (cZ (bR A S) h' c' p' d').coming (dU (bR A S).vs.length) (cZ (bR A S) h' c' p' d').doors:=by
 have hh:∀ (i s:Nat),S[i]? = some s→s∈dG A w→(bB (bR A S) h' c' p' d').getD i 0=(bB A h c p d).getD s 0:=fun i s hi hs=>tr_has ok m hw st pl st' pl' t hi hs
 have zz:∀ n i:Nat,(dU n).getD i 0=0:=fun n i=>by
  unfold dU
  rw[List.getD_eq_getElem?_getD]
  rcases Nat.lt_or_ge i n with z | z
  ·rw[List.getElem?_replicate,if_pos z];rfl
  ·rw[List.getElem?_replicate,if_neg (by omega)];rfl
 have cl:∀ {x y:Nat},x∈dG A w→y < A.vs.length→some (x:Int)∈cL A (A.vs.getD y cO)→y∈dG A w:=fun hx hy hl=>mat_closed ok.hi hw hx hy hl
 refine⟨fun i s hi hs=>?_,fun i s hi hs=>?_,fun i s _ _=>by rw[zz,zz],fun q k s hq hk hs=>?_⟩
 ·have hsl:=m.lt ok.hi hw s (List.mem_of_getElem? hi)
  have hil:=(List.getElem?_eq_some_iff.mp hi).1
  rw[tick_held st pl hsl,tick_held st' pl' (by rw[dJ];exact hil),trim_v hi,ren_stay,hh i s hi hs]
 ·have hsl:=m.lt ok.hi hw s (List.mem_of_getElem? hi)
  have hil:=(List.getElem?_eq_some_iff.mp hi).1
  rw[tick_coming st pl hsl,tick_coming st' pl' (by rw[dJ];exact hil),dJ]
  have e1:dL A.vs.length (fun j=>bJ (some (s:Int)) (dP (A.vs.getD j cO) ((bB A h c p d).getD j 0)))=(S.map fun j=>bJ (some (s:Int)) (dP (A.vs.getD j cO) ((bB A h c p d).getD j 0))).sum:=by
   conv=>rhs;rw[S_filter ok m hw]
   rw[sum_filter]
   ·rfl
   ·intro k hk hn
    refine leads_goes (fun z=>?_) _
    have:=cl hs (List.mem_range.1 hk) z
    exact (of_decide_eq_false hn) ((m.mem k).2 (.inl this))
  rw[e1,sumN22_list]
  refine sumN22_congr fun j hj=>?_
  have hy:=getD_some hj
  generalize S.getD j 0=y at hy
  rw[trim_v hy,ren_goes,sum_ren m.nd hi]
  by_cases ym:y∈dG A w
  ·rw[hh j y hy ym]
  ·have nl:some (s:Int)∉cL A (A.vs.getD y cO):=fun z=>ym (cl hs (m.lt ok.hi hw y (List.mem_of_getElem? hy)) z)
   rw[leads_goes nl,leads_goes nl]
 ·have hkl:=spK_lt (List.mem_of_getElem? hq)
  have hql:=(List.getElem?_eq_some_iff.mp hq).1
  rw[tick_doors st pl hkl,tick_doors st' pl' (by rw[trim_slen];exact hql),dJ,t.doors q k s hq hk hs]
  have e1:(List.range A.vs.length).foldl (fun b i=>if dO (A.vs.getD i cO) ((bB A h c p d).getD i 0)=true then eK k (A.vs.getD i cO).acts b else b) (d.getD k false)=S.foldl (fun b i=>if dO (A.vs.getD i cO) ((bB A h c p d).getD i 0)=true then eK k (A.vs.getD i cO).acts b else b) (d.getD k false):=by
   conv=>rhs;rw[S_filter ok m hw]
   rw[fold_filter]
   intro y hy hn b
   split
   ·refine actsAt_none b (leads_acts (acts0 ok) fun z=>?_)
    rw[hk] at z
    have:=cl hs (List.mem_range.1 hy) z
    exact (of_decide_eq_false hn) ((m.mem y).2 (.inl this))
   ·rfl
  rw[e1,fold_list S]
  refine fold_congr _ fun j hj b=>?_
  have hy:=getD_some (List.mem_range.1 hj)
  generalize S.getD j 0=y at hy
  rw[trim_v hy]
  show (if dO (A.vs.getD y cO) _=true then eK q ((A.vs.getD y cO).acts.filterMap (renA (bN 0 (spK A S A.sps.length)))) b else b)=_
  rw[actsAt_ren spK_nd hq _ _ (acts0 ok)]
  by_cases ym:y∈dG A w
  ·rw[hh j y hy ym]
  ·have na:eK k (A.vs.getD y cO).acts b=b:=by
    refine actsAt_none b (leads_acts (acts0 ok) fun z=>?_)
    rw[hk] at z
    exact ym (cl hs (m.lt ok.hi hw y (List.mem_of_getElem? hy)) z)
   rw[na]
   split <;> split <;> rfl
structure TrS (A:Net) (w:Nat) (S:List Nat) (S0 S1:RunS):Prop where
 n0:S0.net=A
 n1:S1.net=bR A S
 ok0:RunOk S0
 ok1:RunOk S1
 st:TrSt A w S S0.cur.held S0.cur.coming S0.cur.poured S0.cur.doors S1.cur.held S1.cur.coming S1.cur.poured S1.cur.doors
 tk:S0.cur.tick=S1.cur.tick
 tips:∀ (i s:Nat),S[i]? = some s→s∈dG A w→S1.tips.getD i []=S0.tips.getD s []
theorem tr0 (ok:NetOk A) (m:MatS A w S) (hw:w < A.vs.length):TrS A w S (run0 A) (run0 (bR A S)) where
 n0:=rfl
 n1:=rfl
 ok0:=run0_ok ok
 ok1:=run0_ok (trim_net ok m hw)
 st:=by
  have zz:∀ n i:Nat,(dU n).getD i 0=0:=fun n i=>by
   unfold dU
   rw[List.getD_eq_getElem?_getD,List.getElem?_replicate]
   split <;> rfl
  refine⟨fun i s _ _=>?_,fun i s _ _=>?_,fun i s _ _=>?_,fun q k s hq _ _=>?_⟩
  ·exact (zz _ _).trans (zz _ _).symm
  ·exact (zz _ _).trans (zz _ _).symm
  ·exact (zz _ _).trans (zz _ _).symm
  ·have hkl:=spK_lt (List.mem_of_getElem? hq)
   have hql:=(List.getElem?_eq_some_iff.mp hq).1
   have e:=trim_s hq
   show ((bR A S).sps.map (·.2.2)).getD q false=(A.sps.map (·.2.2)).getD k false
   have g:∀ (l:List Spt) (i:Nat),(l.map (·.2.2)).getD i false=(l.getD i sNil).2.2:=fun l i=>by
    rw[List.getD_eq_getElem?_getD,List.getElem?_map,List.getD_eq_getElem?_getD]
    cases l[i]? <;> rfl
   rw[g,g,e];rfl
 tk:=rfl
 tips:=fun i s _ _=>by
  have zz:∀ n i:Nat,(List.replicate n ([]:List Int)).getD i []=[]:=fun n i=>by
   rw[List.getD_eq_getElem?_getD,List.getElem?_replicate]
   split <;> rfl
  exact (zz _ _).trans (zz _ _).symm
theorem MatS.zero {A:Net}{w:Nat}{S:List Nat} (m:MatS A w S):S[0]? = some 0:=by
 have h0:0∈S:=(m.mem 0).2 (.inr rfl)
 cases S with
 | nil=>exact nomatch h0
 | cons x S=>
  have hp:=m.up
  rw[List.pairwise_cons] at hp
  rcases List.mem_cons.1 h0 with z | z
  ·subst z;rfl
  ·have:=hp.1 0 z
   omega
theorem TrS.pour {S0 S1:RunS} (t:TrS A w S S0 S1) (m:MatS A w S) (a:Int):TrS A w S (S0.pour 0 a) (S1.pour 0 a):=by
 refine { n0:=t.n0,n1:=t.n1,ok0:=t.ok0.pour 0 a,ok1:=t.ok1.pour 0 a,st:=?_,tk:=t.tk,tips:=t.tips }
 refine⟨t.st.held,t.st.coming,fun i s hi hs=>?_,t.st.doors⟩
 show (S1.cur.poured.set 0 (S1.cur.poured.getD 0 0+a)).getD i 0=(S0.cur.poured.set 0 (S0.cur.poured.getD 0 0+a)).getD s 0
 have z0:=m.zero
 have l0:0 < S0.cur.poured.length:=by rw[t.ok0.cur.pl];exact t.ok0.nok.lo
 have l1:0 < S1.cur.poured.length:=by rw[t.ok1.cur.pl];exact t.ok1.nok.lo
 by_cases c:i=0
 ·subst c
  rw[z0] at hi
  injection hi with hi
  subst hi
  have gs:∀ (l:List Int) (x:Int),0 < l.length→(l.set 0 x).getD 0 0=x:=fun l x h=>by rw[List.getD_eq_getElem?_getD,List.getElem?_set_self h];rfl
  rw[gs _ _ l1,gs _ _ l0,t.st.poured 0 0 z0 hs]
 ·have c2:s≠0:=fun z=>by
   subst z
   have hp:=m.nd
   have l2:=List.getElem?_eq_some_iff.mp hi
   have l3:=List.getElem?_eq_some_iff.mp z0
   exact c ((List.getElem_inj (h₀:=l2.1) (h₁:=l3.1) hp).1 (by rw[l2.2,l3.2]))
  have gn:∀ (l:List Int) (x:Int) (i:Nat),i≠0→(l.set 0 x).getD i 0=l.getD i 0:=fun l x i h=>by rw[List.getD_eq_getElem?_getD,List.getElem?_set_ne (Ne.symm h),← List.getD_eq_getElem?_getD]
  rw[gn _ _ _ c,gn _ _ _ c2]
  exact t.st.poured i s hi hs
theorem TrS.go {S0 S1:RunS} (t:TrS A w S S0 S1) (ok:NetOk A) (m:MatS A w S) (hw:w < A.vs.length):TrS A w S (S0.go 1) (S1.go 1):=by
 have c0:=t.ok0.cur
 have c1:=t.ok1.cur
 have g0:=fun (p:Nat)=>go_tips t.ok0 (p:=p)
 have g1:=fun (p:Nat)=>go_tips t.ok1 (p:=p)
 have k:=t.ok0.go 1
 have k':=t.ok1.go 1
 have st:=t.st
 have tp:=t.tips
 have tk:=t.tk
 have e0:=t.n0
 have e1:=t.n1
 refine { n0:=t.n0,n1:=t.n1,ok0:=k,ok1:=k',st:=?_,tk:=?_,tips:=fun i s hi hs=>?_ }
 ·show TrSt A w S (cZ S0.net _ _ _ _).held (cZ S0.net _ _ _ _).coming (dU S0.net.vs.length) (cZ S0.net _ _ _ _).doors (cZ S1.net _ _ _ _).held (cZ S1.net _ _ _ _).coming (dU S1.net.vs.length) (cZ S1.net _ _ _ _).doors
  rw[e0] at c0 ⊢
  rw[e1] at c1 ⊢
  exact tr_tick ok m hw c0.st c0.pl c1.st c1.pl st
 ·show S0.cur.tick+1=S1.cur.tick+1
  rw[tk]
 ·have hsl:=m.lt ok.hi hw s (List.mem_of_getElem? hi)
  have hil:=(List.getElem?_eq_some_iff.mp hi).1
  rw[g0 s (by rw[e0];exact hsl),g1 i (by rw[e1,dJ];exact hil),tp i s hi hs,tk]
  rw[e0] at c0 ⊢
  rw[e1] at c1 ⊢
  rw[tr_has ok m hw c0.st c0.pl c1.st c1.pl st hi hs,trim_v hi];rfl
theorem trim_spAt (m:MatS A w S) {q k i s:Nat} (hq:(spK A S A.sps.length)[q]? = some k) (hk:spAt A (k:Int)=(s:Int)) (hi:S[i]? = some s):spAt (bR A S) (q:Int)=(i:Int):=by
 show ((bR A S).sps.getD (q:Int).toNat (0,0,false)).1=_
 rw[Int.toNat_natCast]
 have:=trim_s hq
 rw[show (bR A S).sps.getD q (0,0,false)=(bR A S).sps.getD q sNil from rfl,this]
 have hk:(A.sps.getD k sNil).1=(s:Int):=hk
 unfold renS
 rw[(lkp_iff m.nd hi _).2 hk];rfl
theorem trim_leads (ok:NetOk A) (m:MatS A w S) {i j s y:Nat} (hi:S[i]? = some s) (hj:S[j]? = some y) (hy:y < A.vs.length) (hl:some (s:Int)∈cL A (vAt A y)):some (i:Int)∈cL (bR A S) (vAt (bR A S) j):=by
 have hl:some (s:Int)∈cL A (A.vs.getD y cO):=hl
 show some (i:Int)∈cL (bR A S) ((bR A S).vs.getD j cO)
 rw[trim_v hj]
 unfold cL at hl ⊢
 rcases List.mem_append.1 hl with z | z
 ·rcases List.mem_append.1 z with z | z
  ·refine List.mem_append_left _ (List.mem_append_left _ ?_)
   obtain⟨o,ho,e⟩:=List.mem_map.1 z
   refine List.mem_map.2 ⟨renO (bN 0 S) o,List.mem_map.2 ⟨o,ho,rfl⟩,(bind_iff m.nd hi _).2 e⟩
  ·refine List.mem_append_left _ (List.mem_append_right _ (List.mem_singleton.2 ?_))
   exact ((bind_iff m.nd hi _).2 (List.mem_singleton.1 z).symm).symm
 ·refine List.mem_append_right _ ?_
  obtain⟨a,ha,e⟩:=List.mem_map.1 z
  injection e with e
  have vok:=ok.vs _ (List.getElem_mem hy)
  rw[List.getD_eq_getElem?_getD,List.getElem?_eq_getElem hy] at ha
  have aok:=vok.acts a ha
  have ea:a.2=((a.2.toNat:Nat):Int):=by have:=aok.lo;omega
  have hk:a.2.toNat∈spK A S A.sps.length:=by
   refine List.mem_filter.2 ⟨List.mem_range.2 (by have:=aok.hi;have:=aok.lo;omega),decide_eq_true ⟨s,List.mem_of_getElem? hi,?_⟩⟩
   rw[← ea];exact e
  obtain⟨q,hq⟩:=List.mem_iff_getElem?.1 hk
  refine List.mem_map.2 ⟨(a.1,(q:Int)),List.mem_filterMap.2 ⟨a,by rw[List.getD_eq_getElem?_getD,List.getElem?_eq_getElem hy];exact ha,?_⟩,?_⟩
  ·unfold renA
   rw[ea,lkp_at spK_nd hq,Nat.zero_add];rfl
  ·rw[trim_spAt m hq (by rw[← ea];exact e) hi]
theorem trim_all (ok:NetOk A) (m:MatS A w S) (hw:w < A.vs.length) {n:Nat} (hn:S[n]? = some w) {S':List Nat} (m':MatS (bR A S) n S'):S'=List.range S.length:=by
 have okT:=trim_net ok m hw
 have hnl:n < (bR A S).vs.length:=by rw[dJ];exact (List.getElem?_eq_some_iff.mp hn).1
 have key:∀ y∈dG A w,∀ j:Nat,S[j]? = some y→j∈dG (bR A S) n:=by
  refine mat_ind ok.hi hw (fun j hj=>?_) fun x y hx px hy hl j hj=>?_
  ·have l1:=List.getElem?_eq_some_iff.mp hj
   have l2:=List.getElem?_eq_some_iff.mp hn
   have:j=n:=(List.getElem_inj (h₀:=l1.1) (h₁:=l2.1) m.nd).1 (by rw[l1.2,l2.2])
   subst this
   exact (mat_ok okT.hi hnl).2.2
  ·obtain⟨i,hi⟩:=List.mem_iff_getElem?.1 ((m.mem x).2 (.inl hx))
   exact mat_closed okT.hi hnl (px i hi) (by rw[dJ];exact (List.getElem?_eq_some_iff.mp hj).1) (trim_leads ok m hi hj hy hl)
 rw[up_filter S.length S' m'.up fun y hy=>by have:=m'.lt okT.hi hnl y hy;rw[dJ] at this;exact this]
 rw[List.filter_eq_self]
 intro j hj
 have hj:=List.mem_range.1 hj
 rw[decide_eq_true_eq,m'.mem]
 have hy:=getD_some hj
 rcases (m.mem _).1 (List.mem_of_getElem? hy) with z | z
 ·exact .inl (key _ z j hy)
 ·right
  rw[z] at hy
  have l1:=List.getElem?_eq_some_iff.mp hy
  have l2:=List.getElem?_eq_some_iff.mp m.zero
  exact (List.getElem_inj (h₀:=l1.1) (h₁:=l2.1) m.nd).1 (by rw[l1.2,l2.2])
end
end Tw
namespace Tw
open PySem L2
section
variable {K:PySem.W.Frag}{C:Addr}{σ:St}{H:Hp}{Q:VK}{t sl r rl na nb:Addr}{S:RunS}{fp:List Addr}{i j l:Nat}{n m v x:Int}{xs ys:List V}{u:V}
theorem x_drawC (h:σ[i]? = some (some (.ref t))) (tp:dB H t sl) (h1:0 < n) (h2:n < 1000000) (k:∀ (r:Int) H',cB t H H'→dB H' t sl→0≤r→r < n→Q (.int r) H'):tCall spDraw [] E0 (cT (cP i) (cT (tC (.int n)) tNil)) σ H Q:=
 ⟨_,h,t,sl,n,rfl,tp,h1,h2,k⟩
theorem x_drawL (h:σ[i]? = some (some (.ref t))) (hj:σ[j]? = some (some (.ref na))) (q:bH K H na xs) (e:atI xs m=some (.ref nb)) (q1:bH K H nb ys) (tp:dB H t sl) (h1:0 < ys.length) (h2:ys.length < 1000000)
  (k:∀ (r:Int) H',cB t H H'→dB H' t sl→0≤r→r < ys.length→Q (.int r) H'):tCall spDraw [] E0 (cT (cP i) (cT (tCB (rLen K) (cT (tOp (rIx K) (cP j) (tC (.int m))) tNil)) tNil)) σ H Q:=
 ⟨_,h,_,hj,.inr (.inl ⟨na,xs,m,_,rfl,rfl,q,e,nb,ys,rfl,.inr q1,t,sl,_,rfl,tp,by omega,by omega,k⟩)⟩
theorem x_ixL (h:σ[i]? = some (some (.ref na))) (q:H na=some (.lst xs)) (e:atI xs m=some u) (k:Q u H):tOp (rIx K) (cP i) (tC (.int m)) σ H Q:=⟨_,h,.inl ⟨na,xs,m,u,rfl,rfl,cE.of q,e,k⟩⟩
theorem m_goV {B:Nat} (h:σ[i]? = some (some (.ref r))) (ra:bU K C H r S fp) (sz:RunSz S B) (hB:B≤1000000) (k:∀ H',ButL fp H H'→bU K C H' r (S.go 1) fp→Q .non H'):tMeth C "go" (spGo K C) [] E0 (cP i) (cT (tC (.int 1)) tNil) σ H Q:=by
 obtain⟨dx,np,R,M,T,ei⟩:=ra.ins
 exact⟨_,h,r,dx,_,rfl,ei,lk_m "go" rfl,r,S,fp,1,B,rfl,ra,sz,hB,by decide,k⟩
noncomputable def spTips (K:PySem.W.Frag) (C:Addr):Sp:=fun vs H Q _=>∃ (r:Addr) (S:RunS) (fp:List Addr) (v:Int) (l:List Int),vs=[.ref r,.int v]∧bU K C H r S fp∧0≤v∧v < S.net.vs.length∧S.tips[v.toNat]? = some l∧
 ∀ p,H p=none→Q (.ref p) (upd H p (.lst (l.map V.int)))
theorem m_tipsI {tl:List Int} (h:σ[i]? = some (some (.ref rl))) (hj:σ[j]? = some (some (.int v))) (hl:H rl=some (.lst xs)) (e:atI xs n=some (.ref r)) (ra:bU K C H r S fp) (v0:0≤v) (v1:v < S.net.vs.length) (ht:S.tips[v.toNat]? = some tl)
  (k:∀ p,H p=none→Q (.ref p) (upd H p (.lst (tl.map V.int)))):tMeth C "tips" (spTips K C) [] E0 (tOp (rIx K) (cP i) (tC (.int n))) (cT (cP j) tNil) σ H Q:=by
 obtain⟨dx,np,R,M,T,ei⟩:=ra.ins
 exact x_ixL h hl e ⟨r,dx,_,rfl,ei,lk_m "tips" rfl,_,hj,r,S,fp,v,tl,rfl,ra,v0,v1,ht,k⟩
end
end Tw
namespace L2
open PySem PySem.Spec PyProof.Rows TwZ
section
variable {prog:Program}{w:World}{A:Around}{E:Value→Shared→Prop}{s:Shared}
theorem collect_range {Q:List Value→Shared→Prop}{r:Addr}{a b c:Int}{t u v:Tok}{n:Nat} (hh:A.handled=none) (hr:IsRange s.heap r a b c t u v) (hsmall:Builtin.Range.small a b c=true)
  (hn:Builtin.Range.rangeSize a b c=n) (hlen:n≤2 ^ 24)
  (hQ:∀ (h':Heap) (tk:Nat) (acc:Array Value),(∀ b o',s.heap.get? b=some o'→h'.get? b=some o')→ItemsOf (fun i v=>∃ t,v=.int (a+i * c) t) acc n→Q acc.toList { s with heap:=h',toks:=tk }) :
  wpAny (model prog w) A (collect (.ref r)) Q E s:=by
 unfold collect
 refine wpAny_bind (wpAny_runValue (codeAny_builtin F.entry_proto_collect ?_))
 rw[Around.under_plainId F.plain_proto_collect _]
 show wpAny _ A.in1 (newList [] >>= fun l=>again (.builtin "list.__iadd__" ⟨[l,.ref r],[]⟩)) _ _ s
 refine wpAny_bind (wpAny_newObj_type ?_)
 refine wpAny_pure ⟨plainId_quiet F.plain_list_iadd _,codeAny_builtin F.entry_list_iadd ?_⟩
 rw[Around.under_plainId F.plain_list_iadd _]
 show wpAny _ A.in1 (Builtin.List.listExtendWith (.ref s.heap.objs.size) (.ref r) (.ref s.heap.objs.size)) _ _ _
 have hS:(s.heap.push { cls:=.type "list",data:=.seq ([]:List Value).toArray }).get? s.heap.objs.size=some { cls:=.type "list",data:=.seq #[] 0 }:=Heap.get?_push_size _ rfl
 refine wpAny_mono (wpAny_extend_range (A:=A) (R:=fun q s'=>q=.ok (.ret (.ref s.heap.objs.size))∧∃ (h':Heap) (tk:Nat) (acc:Array Value) (c':Nat),(∀ b o',s.heap.get? b=some o'→h'.get? b=some o')∧h'.get? s.heap.objs.size=some { cls:=.type "list",dict:=none,data:=.seq acc c',slots:=#[] }∧ItemsOf (fun i v=>∃ t,v=.int (a+i * c) t) acc n∧s'={ s with heap:=h',toks:=tk })
  (s:={ s with heap:=s.heap.push { cls:=.type "list",data:=.seq ([]:List Value).toArray } }) hh (Heap.get?_push_of_some _ hr) hsmall hn hlen _ _ 0 hS fun h' tk acc c' hk hS' hacc=>⟨rfl,h',tk,acc,c',fun b o e=>hk b o (Nat.ne_of_lt (Heap.lt_size e)) (Heap.get?_push_of_some _ e),hS',hacc,rfl⟩) (fun fin s' h=>?_) (fun e s' h=>?_)
 ·have fin':∀ (h':Heap) (tk:Nat) (acc:Array Value) (c':Nat),(∀ b o',s.heap.get? b=some o'→h'.get? b=some o')→h'.get? s.heap.objs.size=some { cls:=.type "list",dict:=none,data:=.seq acc c',slots:=#[] }→ItemsOf (fun i v=>∃ t,v=.int (a+i * c) t) acc n→
    wpAny (model prog w) A (match Value.ref s.heap.objs.size with
    | Value.ref a=>do
     match (← load a).data with
      | Data.seq xs _=>pure xs.toList
      | _=>unsupported "internal:collect"
    | _=>unsupported "internal:collect") Q E { s with heap:=h',toks:=tk }:=by
   intro h' tk acc c' hk hS' hacc
   show wpAny _ A (load s.heap.objs.size >>= _) _ _ _
   refine wpAny_bind (wpAny_load hS' ?_)
   exact wpAny_pure (hQ h' tk acc hk hacc)
  cases fin with
  | done f=>
   obtain⟨e,h',tk,acc,c',h1,h2,h3,rfl⟩:=h
   cases e
   exact fin' h' tk acc c' h1 h2 h3
  | again c'=>exact⟨h.1,codeAny_mono h.2 fun r s'' hr=>by obtain⟨rfl,h',tk,acc,c',h1,h2,h3,rfl⟩:=hr;exact fin' h' tk acc c' h1 h2 h3⟩
 ·exact absurd h.1 (by simp)
end
theorem meets_tuple_range {r:Addr}{a b c:Int}{t u v:Tok}{n:Nat} (hsmall:Builtin.Range.small a b c=true) (hn:Builtin.Range.rangeSize a b c=n) (hlen:n≤2 ^ 24) :
  Meets (Builtin.«tuple.__new__» ⟨[.type "tuple",.ref r],[]⟩)
   (fun A R s=>A.handled=none∧IsRange s.heap r a b c t u v∧∀ (h':Heap) (tk:Nat) (acc:Array Value),(∀ b o,s.heap.get? b=some o→h'.get? b=some o)→ItemsOf (fun i v=>∃ t,v=.int (a+i * c) t) acc n→
    R (.ok (.ret (.ref h'.objs.size))) { s with heap:=h'.push { cls:=.type "tuple",data:=.seq acc },toks:=tk }):=
 .of_wp fun prog w A R s h=>by
  obtain⟨hp,g,d,tk0,os⟩:=s
  obtain⟨hh,hr,h⟩:=h
  have hsub:=sub_tuple_self
  have hinit:=init_tuple_lookup
  have hmh:=madeHere_tuple
  have hT:Shared.TypeIs ⟨hp,g,d,tk0,os⟩ (.ref r) "range" := ⟨_,hr,rfl⟩
  have hh1:A.in1.handled=none:=hh
  wp_walk using AutoSeq1.wpAny_loadPart' hr,wpAny_typeOf hT,collect_range hh1 hr hsmall hn hlen
  intro h' tk acc hk hacc
  show wpAny _ _ (Builtin.Tuple.tupleExact acc.toList.toArray >>= fun v=>ret v) _ _ _
  unfold Builtin.Tuple.tupleExact
  refine wpAny_bind (wpAny_newObj_type ?_ (show acc.toList.toArray.size≤sizeLine by simp only [Array.toArray_toList];rw[hacc.1,sizeLine_eq];omega))
  refine wpAny_pure ⟨_,rfl,?_⟩
  have e:acc.toList.toArray=acc:=by simp
  rw[e]
  exact h h' tk acc hk hacc
section
variable {prog:Program}{w:World}{A:Around}{E:Value→Shared→Prop}{s:Shared}
theorem call_tuple_range {Q:Value→Shared→Prop}{r:Addr}{a b c:Int}{t u v:Tok}{n:Nat} (hh:A.handled=none) (hr:IsRange s.heap r a b c t u v) (hsmall:Builtin.Range.small a b c=true)
  (hn:Builtin.Range.rangeSize a b c=n) (hlen:n≤2 ^ 24)
  (h:∀ (h':Heap) (tk:Nat) (acc:Array Value),(∀ b o,s.heap.get? b=some o→h'.get? b=some o)→ItemsOf (fun i v=>∃ t,v=.int (a+i * c) t) acc n→Q (.ref h'.objs.size) { s with heap:=h'.push { cls:=.type "tuple",data:=.seq acc },toks:=tk }) :
  wpAny (model prog w) A (call (.type "tuple") [.ref r]) Q E s:=
 callType_new F.called_tuple (by decide) (F.typeCall_tuple_1 _) (F.newCall_tuple_1 _) (fun obj=>F.args_object_init_2 obj _) F.entry_tuple_new
  (meets_tuple_range hsmall hn hlen) ⟨hh,hr,fun h' tk acc hk hacc=>⟨⟨_,Heap.get?_push_size _ rfl,rfl⟩,h h' tk acc hk hacc⟩⟩
end
section
variable {X:Cx}
noncomputable def tTRng (ta:TE):TE:=fun σ H Q=>ta σ H fun x H1=>∃ n:Nat,x=.int (n:Int)∧n≤1000000∧∀ l,H1 l=none→Q (.ref l) (upd H1 l (.tup ((List.range n).map fun (i:Nat)=>V.int (i:Int))))
theorem pe_trng {a:Expr}{ta:TE}{p p2 pos pos2:Pos} (hc:X.calm=true) (hg:Gl X "tuple") (hm:X.mg "tuple" = none) (hg2:Gl X "range") (hm2:X.mg "range" = none) (ha:PE X a ta) (hs:starEach [a] X.env=[(false,eval a X.env)]:=by rfl)
  (hs2:starEach [Expr.Call (.Name "range" p2) [a] [] pos2] X.env=[(false,eval (Expr.Call (.Name "range" p2) [a] [] pos2) X.env)]:=by rfl):PE X (.Call (.Name "tuple" p) [.Call (.Name "range" p2) [a] [] pos2] [] pos) (tTRng ta):=by
 intro pins s σ H Q I h
 refine wpAny_Call_Name_kw (ld_blt I hg hm bY ?_ (by decide) (by decide))
 refine PyProof.Rows.callWith_type1 ?_ hs2 rfl
 rw[hs2]
 show wpAny _ _ (spliced ((false,eval (Expr.Call (.Name "range" p2) [a] [] pos2) X.env)::backTo pos [])) _ _ s
 have h':cT ta tNil σ H (fun xs H1=>∃ n:Nat,xs=[.int (n:Int)]∧n≤1000000∧∀ l,H1 l=none→Q (.ref l) (upd H1 l (.tup ((List.range n).map fun (i:Nat)=>V.int (i:Int))))):=by
  show ta σ H fun x H1=>∃ n:Nat,[x]=[V.int (n:Int)]∧_
  have e:(fun (x:V) (H1:Hp)=>∃ n:Nat,[x]=[V.int (n:Int)]∧n≤1000000∧∀ l,H1 l=none→Q (.ref l) (upd H1 l (.tup ((List.range n).map fun (i:Nat)=>V.int (i:Int))))) =
    (fun (x:V) (H1:Hp)=>∃ n:Nat,x=V.int (n:Int)∧n≤1000000∧∀ l,H1 l=none→Q (.ref l) (upd H1 l (.tup ((List.range n).map fun (i:Nat)=>V.int (i:Int))))):=by
   funext x H1;simp
  rw[e];exact h
 refine Calls.spliced_cons (wpAny_Call_Name_kw (ld_blt I hg2 hm2 boot_range (PyProof.Rows.callWith_type1 (cH (aA ha aD hs pos2 pins s σ H _ I h') fun us s1 ⟨vs,H1,I1,r1,q1⟩=>?_) hs rfl)))
 obtain⟨n,rfl,hn,q⟩:=q1
 obtain⟨u,rfl,t,rfl⟩:=vals1 r1
 refine call_range_1 (Calls.spliced_nil ?_)
 have hsz:Builtin.Range.rangeSize 0 (n:Int) 1=n:=by rw[rangeSize_one];split <;> omega
 refine call_tuple_range (n:=n) (I1.ok.hd hc) (IsRange.new ..) (small_one (by omega) (by omega) (by omega) (by omega)) hsz (by omega) fun h2 tk acc hk hacc=>?_
 have hv:=vals_items hacc
 simp only [Int.zero_add,Int.mul_one] at hv
 have kk:∀ b o,s1.heap.get? b=some o→h2.get? b=some o:=fun b o e=>hk b o (Heap.get?_push_of_some _ e)
 have le:s1.heap.objs.size≤h2.objs.size:=by
  have:=Heap.lt_size (hk _ _ (Heap.get?_push_size s1.heap rfl))
  exact Nat.le_of_lt this
 refine⟨.ref h2.objs.size,_,I1.laid (t':=tk) (a:=h2.objs.size) (fun b o e=>Heap.get?_push_of_some _ (kk b o e)) le (show cN X.prog X.w _ _ _ (.tup ((List.range n).map fun (i:Nat)=>V.int (i:Int))) from ?_),rfl,q _ (I1.hok.fresh le)⟩
 refine⟨by rw[List.length_map,List.length_range,sizeLine_eq];omega,acc.toList,hv,?_⟩
 have e:acc.toList.toArray=acc:=by simp
 rw[e]
 exact IsTup.new _ _
end
end L2
namespace Tw
open PySem L2
end Tw
namespace L2
open PySem PySem.Spec PyProof.Rows TwZ
section
variable {X:Cx}
end
end L2
namespace Tw
open PySem L2
section
variable {K:PySem.W.Frag}{H:Hp}
end
section
variable {P:Program}{w:World}{K:PySem.W.Frag}{mg:Str→Option Value}{base:Heap}{C:Addr}
theorem sc_tips:FnScope ["self","vessel"] ["self","vessel"] (aJ (bQ (aU 48) 6)):=⟨rfl,rfl,rfl,by decide +kernel,rfl,by decide +kernel,by decide +kernel⟩
theorem ok_tips {f f1:Addr}{fd fd1:FuncData} (F:Fun K "tips" "Run.tips" (bQ (aU 48) 6) f fd) (T:Txt mg) (tx:RunTx K C) (G_need_vessel:Callee P w K mg base "need_vessel" ["net","number"] 2 (spNeed K) f1 fd1) :
  FnOk P w K mg base CX0 3 f fd ["self","vessel"] (spTips K C):=by
 refine F.ok sc_tips (fun vs H Q E h=>?_) (fun cdv A outer s H vs Q E hr h=>?_)
 ·obtain⟨r,S,fp,v,l,rfl,_⟩:=h;rfl
 ·obtain⟨r,S,fp,v,l,rfl,⟨dx,np,R,M,T',ts,rs,ms,mv,c,rfl⟩,v0,v1,hl,k⟩:=h
  have sc:=sc_tips
  refine⟨_,(aG (cA (cU G_need_vessel hr (aA (eJ (K:=K) rfl (pv 0) rfl) (aA (pv 1) aD))))
   (aL (b9 (aZ (call_lstK (K:=K) rfl) rfl T.b_list bt_list (aA (bI (aS (K:=K) rfl) (eJ (K:=K) rfl (pv 0) rfl) (pv 1) (fun _ _=>rfl)) aD))))),?_⟩
  have hlt:v.toNat < ts.length:=by rw[c.tl];exact (List.getElem?_eq_some_iff.mp hl).1
  have htt:ts[v.toNat]? = some ts[v.toNat]:=by simp [hlt]
  have hti:=c.ti _ _ _ htt hl
  refine⟨_,rfl,r,C,dx,_,_,rfl,c.ins,tx.cls,tx.net,lk_net,_,rfl,np,S.net,v,rfl,c.net,v0,v1,?_⟩
  exact⟨_,rfl,r,C,dx,_,_,rfl,c.ins,tx.cls,tx.tips,lk_tips,_,rfl,.inl ⟨T',_,v,.ref ts[v.toNat],rfl,rfl,cE.of c.hT,atI_int v0 (by rw[List.getElem?_map,htt];rfl),ts[v.toNat],_,rfl,.inl (cE.of hti),fun p hp=>k p hp⟩⟩
end
end Tw
namespace Tw
open PySem L2
section
variable {P:Program}{w:World}{K:PySem.W.Frag}{mg:Str→Option Value}{base:Heap}{C:Addr}
end
end Tw
namespace Tw
open PySem L2
section
variable {K:PySem.W.Frag}{C:Addr}{H:Hp}
theorem bU.r_out {r r':Addr}{S S':RunS}{fp fp':List Addr} (c:bU K C H r S fp) (c':bU K C H r' S' fp'):r∉fp':=fun z=>by
 obtain⟨xs,e⟩:=c'.lists r z
 obtain⟨dx,np,R,M,T,ei⟩:=c.ins
 rw[ei] at e;cases e
structure L6 (K:PySem.W.Frag) (C:Addr) (H:Hp) (t sl rl r0 r1 r2:Addr) (fp0 fp1 fp2:List Addr) (vb:Addr) (zs:List V) (po:V) (B:Net) (S0 S1 S2:RunS):Prop where
 tp:dB H t sl
 rs:H rl=some (.lst [.ref r0,.ref r1,.ref r2])
 a0:bU K C H r0 S0 fp0
 a1:bU K C H r1 S1 fp1
 a2:bU K C H r2 S2 fp2
 n0:t∉fp0∧sl∉fp0∧rl∉fp0
 n1:t∉fp1∧sl∉fp1∧rl∉fp1
 n2:t∉fp2∧sl∉fp2∧rl∉fp2
 rt:rl≠t
 d01:∀ b∈fp0,b∉fp1
 d02:∀ b∈fp0,b∉fp2
 d12:∀ b∈fp1,b∉fp2
 hv:bH K H vb zs
 ho:Is K H (netD B) po
variable {t sl rl r0 r1 r2 vb:Addr}{fp0 fp1 fp2:List Addr}{zs:List V}{po:V}{B:Net}{S0 S1 S2:RunS}
theorem L6.tr {r:Addr}{S:RunS}{fp:List Addr} (tp:dB H t sl) (c:bU K C H r S fp):t≠r:=by
 obtain⟨dx,np,R,M,T,e⟩:=c.ins
 obtain⟨ns,pos,cell,e2,_⟩:=tp
 exact fun z=>by rw[z,e] at e2;cases e2
theorem RunSz.up06 {S:RunS}{a b:Nat} (h:RunSz S a) (hb:a≤b):RunSz S b:=⟨Nat.le_trans h.rows hb,Nat.le_trans h.pre hb,fun l hl=>Nat.le_trans (h.tips l hl) hb⟩
end
end Tw
namespace Tw
open PySem L2
theorem dep_ints22:∀ l:List Int,depGL (l.map G.int)=0
 | []=>by rw[List.map_nil,depGL]
 | t::l=>by rw[List.map_cons,depGL,dep_ints22 l];simp [depG]
theorem gl_ints22 {K:PySem.W.Frag}{H:Hp}:∀ l:List Int,dY K H (l.map G.int) (l.map V.int)
 | []=>.nil
 | i::l=>.cons (by rw[b0]) (gl_ints22 l)
section
variable {P:Program}{w:World}{K:PySem.W.Frag}{mg:Str→Option Value}{base:Heap}{C c_TipError c_NoNet c_NoVessel c_TooLong c_TooMany c_TooMuch c_Nothing c_NoText c_NoRow:Addr}
structure L22 (K:PySem.W.Frag) (C:Addr) (H:Hp) (t sl rl r0 r1:Addr) (fp0 fp1:List Addr) (S0 S1:RunS):Prop where
 tp:dB H t sl
 rs:H rl=some (.lst [.ref r0,.ref r1])
 a0:bU K C H r0 S0 fp0
 a1:bU K C H r1 S1 fp1
 n0:t∉fp0∧sl∉fp0∧rl∉fp0
 n1:t∉fp1∧sl∉fp1∧rl∉fp1
 rt:rl≠t
 d01:∀ b∈fp0,b∉fp1
variable {H:Hp}{t sl rl r0 r1:Addr}{fp0 fp1:List Addr}{S0 S1:RunS}
theorem L22.same {H':Hp} (h:L22 K C H t sl rl r0 r1 fp0 fp1 S0 S1) (s:aK H H'):L22 K C H' t sl rl r0 r1 fp0 fp1 S0 S1:=
 { h with tp:=h.tp.same s,rs:=s _ _ h.rs,a0:=h.a0.same s,a1:=h.a1.same s }
theorem L22.draw {H':Hp} (h:L22 K C H t sl rl r0 r1 fp0 fp1 S0 S1) (b:cB t H H') (tp':dB H' t sl):L22 K C H' t sl rl r0 r1 fp0 fp1 S0 S1:=
 { h with tp:=tp',rs:=b _ _ h.rt h.rs,a0:=h.a0.but b h.tp.mut (L6.tr h.tp h.a0) h.n0.1,a1:=h.a1.but b h.tp.mut (L6.tr h.tp h.a1) h.n1.1 }
theorem L22.on0 {H':Hp}{S':RunS} (h:L22 K C H t sl rl r0 r1 fp0 fp1 S0 S1) (b:ButL fp0 H H') (ra:bU K C H' r0 S' fp0):L22 K C H' t sl rl r0 r1 fp0 fp1 S' S1:=
 { h with tp:=h.tp.butL b h.n0.1 h.n0.2.1,rs:=b _ _ h.n0.2.2 h.rs,a0:=ra,a1:=h.a1.butL b h.a0.mut (h.a1.r_out h.a0) (fun c hc z=>h.d01 c z hc) }
theorem L22.on1 {H':Hp}{S':RunS} (h:L22 K C H t sl rl r0 r1 fp0 fp1 S0 S1) (b:ButL fp1 H H') (ra:bU K C H' r1 S' fp1):L22 K C H' t sl rl r0 r1 fp0 fp1 S0 S':=
 { h with tp:=h.tp.butL b h.n1.1 h.n1.2.1,rs:=b _ _ h.n1.2.2 h.rs,a1:=ra,a0:=h.a0.butL b h.a1.mut (h.a0.r_out h.a1) (fun c hc z=>h.d01 c hc z) }
theorem sc_law:FnScope ["script","tape","turn","net","watched","less","number","runs","tick","amount","run"] ["script"] (aJ (aU 54)):=⟨rfl,rfl,rfl,by decide +kernel,rfl,by decide +kernel,by decide +kernel⟩
theorem ok_law {f f1 f2 f3 f4 f7 f8 f9 f11:Addr}{fd fd1 fd2 fd3 fd4 fd7 fd8 fd9 fd11:FuncData} (F:Fun K "law" "law" (aU 54) f fd) (T:Txt mg)
  (G__law_draw:Callee P w K mg base "_law_draw" ["tape","many"] 1 spDraw f1 fd1)
  (G__law_net:Callee P w K mg base "_law_net" ["tape","most","small"] 4 (spNetM K) f2 fd2)
  (G_trimmed:CalleeR P w K mg base "trimmed" ["net","watched"] 4 (spTrimmed K c_NoVessel) f3 fd3)
  (G_matters:CalleeR P w K mg base "matters" ["net","watched"] 3 (spMatters K c_NoVessel) f4 fd4)
  (G_Run:MkCal P w K mg base C "Run" ["self","net"] 5 (spInit K C) f7 fd7)
  (G_Run_pour:MCal P w K mg base C "pour" ["self","vessel","amount"] 3 (spPour K C) f8 fd8)
  (G_Run_go:MCal P w K mg base C "go" ["self","many"] 7 (spGo K C) f9 fd9)
  (G_Run_tips:MCal P w K mg base C "tips" ["self","vessel"] 3 (spTips K C) f11 fd11):FnOk P w K mg base CX0 8 f fd ["script"] (spLaw K):=by
 refine F.ok sc_law (fun vs H Q E h=>?_) (fun cdv A outer s H vs Q E hr h=>?_)
 ·obtain⟨a,ns,rfl,_⟩:=h;rfl
 ·obtain⟨a,ns,rfl,hS,hlen,k⟩:=h
  have sc:=sc_law
  refine⟨_,(aG (bD (i:=1) sc.nd rfl (Or.inl rfl) (bX (aA (aZ (call_lstK (K:=K) rfl) rfl T.b_list bt_list (aA (pv 0) aD)) (aA aI (aA aI aD)))))
   (aG (dR PassesOwn.never rfl (eC rfl T.b_range (aA aI aD)) (aF (i:=2) sc.nd rfl (Or.inl rfl)) (aG (bD (i:=3) sc.nd rfl (Or.inl rfl) (cU G__law_net hr (aA (pv 1) (aA aI (aA (pe_cmpR op_eq (cU G__law_draw hr (aA (pv 1) (aA aI aD))) aI (dA _)) aD)))))
   (aG (bD (i:=4) sc.nd rfl (Or.inl rfl) (cU G__law_draw hr (aA (pv 1) (aA (aX (bZ (K:=K) rfl) rfl T.b_len PySem.boot_len (aA (bI (aS (K:=K) rfl) (pv 3) aI (fun _ _=>rfl)) aD)) aD))))
   (aG (bK (pe_call G_trimmed.ok (hr.mono (by decide)) rfl G_trimmed.mg G_trimmed.kp G_trimmed.bd .nil passR0 (aA (pv 3) (aA (pv 4) aD))) (aR (K:=K) (n:=2) rfl rfl (aE (aF (i:=5) sc.nd rfl (Or.inl rfl)) (aE (aF (i:=6) sc.nd rfl (Or.inl rfl)) aQ))))
   (aG (dD (d7 (op_neGK (K:=K) rfl hr.units) (pe_call G_matters.ok (hr.mono (by decide)) rfl G_matters.mg G_matters.kp G_matters.bd .nil passR0 (aA (pv 5) (aA (pv 6) aD))) (pe_trng rfl rfl T.b_tuple rfl T.b_range (aX (bZ (K:=K) rfl) rfl T.b_len PySem.boot_len (aA (bI (aS (K:=K) rfl) (pv 5) aI (fun _ _=>rfl)) aD))) (dA _)) (aL (b9 pe_bl)) bO)
   (aG (bD (i:=7) sc.nd rfl (Or.inl rfl) (bX (aA (pe_make G_Run.make G_Run.ok (hr.mono (by decide)) rfl G_Run.mg G_Run.bd .nil pass0 (aA (pv 3) aD)) (aA (pe_make G_Run.make G_Run.ok (hr.mono (by decide)) rfl G_Run.mg G_Run.bd .nil pass0 (aA (pv 5) aD)) aD))))
   (aL (dR PassesOwn.never rfl (eC rfl T.b_range (aA aI aD)) (aF (i:=8) sc.nd rfl (Or.inl rfl)) (aG (bD (i:=9) sc.nd rfl (Or.inl rfl) (bI (aS (K:=K) rfl) (bX (aA aI (aA (cU G__law_draw hr (aA (pv 1) (aA aI aD))) (aA (cU G__law_draw hr (aA (pv 1) (aA aI aD))) aD)))) (cU G__law_draw hr (aA (pv 1) (aA aI aD))) (fun _ _=>rfl)))
   (aG (dR PassesOwn.never rfl (pi_listK (K:=K) rfl (pv 7)) (aF (i:=10) sc.nd rfl (Or.inl rfl)) (aG (cA (pe_meth (pv 10) G_Run_pour.cls G_Run_pour.mt G_Run_pour.ok (hr.mono (by decide)) G_Run_pour.bd .nil pass0 (aA aI (aA (pv 9) aD))))
   (aL (cA (pe_meth (pv 10) G_Run_go.cls G_Run_go.mt G_Run_go.ok (hr.mono (by decide)) G_Run_go.bd .nil pass0 (aA aI aD))))))
   (aL (dD (d7 (op_neGK (K:=K) rfl hr.units) (pe_meth (bI (aS (K:=K) rfl) (pv 7) aI (fun _ _=>rfl)) G_Run_tips.cls G_Run_tips.mt G_Run_tips.ok (hr.mono (by decide)) G_Run_tips.bd .nil pass0 (aA (pv 4) aD)) (pe_meth (bI (aS (K:=K) rfl) (pv 7) aI (fun _ _=>rfl)) G_Run_tips.cls G_Run_tips.mt G_Run_tips.ok (hr.mono (by decide)) G_Run_tips.bd .nil pass0 (aA (pv 6) aD)) (dA _)) (aL (b9 pe_bl)) bO))))))))))))
   (aL (b9 pe_bl)))),?_⟩
  refine⟨_,rfl,a,_,rfl,.inl hS,fun sl hsl=>⟨(show 3≤sizeLine by decide),fun t ht=>?_⟩⟩
  have nst:sl≠t:=aN (show upd H sl (.lst (ns.map V.int)) sl=_ from aB) ht
  have tp0:dB (upd (upd H sl (.lst (ns.map V.int))) t (.lst [.ref sl,.int 0,.int 0])) t sl:=⟨ns,0,0,aB,by rw[aM nst];exact aB,by omega⟩
  generalize upd (upd H sl (.lst (ns.map V.int))) t (.lst [.ref sl,.int 0,.int 0])=H0 at tp0
  refine⟨_,rfl,by decide,by decide,for_range (lo:=0) (n:=2) (fun _ σ' H'=>dB H' t sl∧∃ v2 v3 v4 v5 v6 v7 v8 v9 v10,σ'=[some (.ref a),some (.ref t),v2,v3,v4,v5,v6,v7,v8,v9,v10]) ⟨tp0,_,_,_,_,_,_,_,_,_,rfl⟩ ?_ fun σ' H1 _=>k H1⟩
  clear tp0
  rintro turn σ' H0 _ ⟨tp0,v2,v3,v4,v5,v6,v7,v8,v9,v10,rfl⟩
  refine⟨_,rfl,?_⟩
  refine x_drawC rfl tp0 (by decide) (by decide) fun d0 H1 b1 tp1 _ _=>⟨rfl,t,sl,12,_,rfl,by omega,by omega,tp1,fun B p0 H2 e2 nok nfu _ hp0=>?_⟩
  have tp2:=e2.tp
  clear e2 tp0 tp1 b1
  have n1:=nok.lo
  have n2:=nok.hi
  obtain⟨na,nb,nc,xs,ys,rfl,q,q1,lx,_,_⟩:=net_un hp0
  have exl:xs.length=B.vs.length:=by rw[lx.length,List.length_map]
  refine x_drawL rfl rfl q rfl q1 tp2 (by omega) (by omega) fun wj H3 b3 tp3 w0 w1=>?_
  obtain⟨j,rfl⟩:∃ j:Nat,wj=(j:Int):=⟨wj.toNat,by omega⟩
  have hj:j < B.vs.length:=by omega
  have hx3:=Is.mono (b3.ts tp2.mut) _ _ hp0
  refine⟨_,rfl,_,rfl,.ref na,B,(j:Int),rfl,hx3,nok,.inr ⟨j,rfl,hj,fun p S i H4 s4 mS hi ip=>?_⟩⟩
  obtain⟨pa,ps,rfl,qp,lp⟩:=ip.un
  obtain⟨lv,r,rfl,hl4,lp⟩:=lp.un
  obtain⟨iv,r,rfl,hi4,lp⟩:=lp.un
  have:=lp.un0
  subst this
  have:=hi4.ui
  subst this
  have okT:=trim_net nok mS hj
  have fuT:=trim_full nok nfu mS hj
  have hil:i < (bR B S).vs.length:=by rw[dJ];exact (List.getElem?_eq_some_iff.mp hi).1
  obtain⟨la,lb,lc,us,ws,rfl,ql,ql1,ll1,_,_⟩:=net_un hl4
  have eul:us.length=S.length:=by rw[ll1.length,List.length_map,dJ]
  have n12:=okT.hi
  rw[dJ] at n12
  refine⟨pa,_,rfl,qp,rfl,_,_,rfl,_,_,rfl,rfl,?_⟩
  refine⟨_,rfl,_,rfl,.ref la,bR B S,(i:Int),rfl,hl4,okT,.inr ⟨i,rfl,hil,fun mp S' H5 s5 qm mS'=>?_⟩⟩
  obtain rfl:=trim_all nok mS hj hi mS'
  refine⟨_,rfl,.inr (.inl ⟨la,_,0,_,rfl,rfl,s5.tup ql,rfl,lb,us,rfl,.inr (s5.tup ql1),us.length,rfl,by omega,fun l hl=>?_⟩)⟩
  have s6:=aK.new (o:=HO.tup ((List.range us.length).map fun (i:Nat)=>V.int (i:Int))) hl
  have e6:upd H5 l (.tup ((List.range us.length).map fun (i:Nat)=>V.int (i:Int))) l=some (.tup ((List.range us.length).map fun (i:Nat)=>V.int (i:Int))):=aB
  generalize upd H5 l (.tup ((List.range us.length).map fun (i:Nat)=>V.int (i:Int)))=H6 at s6 e6 ⊢
  rw[eul] at e6
  have em:((List.range S.length).map fun (i:Nat)=>V.int (i:Int))=((List.range S.length).map fun (i:Nat)=>(i:Int)).map V.int:=by rw[List.map_map];rfl
  have g1:b0 K H6 (.tup (((List.range S.length).map fun (i:Nat)=>(i:Int)).map G.int)) (.ref mp):=b0.t (s6.tup (show bH K H5 mp (((List.range S.length).map fun (i:Nat)=>(i:Int)).map V.int) by rw[← em];exact qm)) (gl_ints22 _)
  have g2:b0 K H6 (.tup (((List.range S.length).map fun (i:Nat)=>(i:Int)).map G.int)) (.ref l):=b0.t (bH.of (by rw[e6,em])) (gl_ints22 _)
  refine⟨_,_,by rw[depG,dep_ints22];decide,g1,g2,_,rfl,?_⟩
  rw[eqG_refl]
  refine iteF ?_
  have s46:=(s4.trans s5).trans s6
  have iA:=Is.mono s46.ts _ _ hx3
  have iB:=Is.mono (s5.trans s6).ts _ _ hl4
  have tp9:=tp3.same s46
  clear g1 g2 e6 em qm qp ql ql1 ll1 hl4 hx3 hp0 q q1 lx s46 s4 s5 s6 tp2 tp3 b3 hl ip hi4
  refine⟨_,rfl,fun r0 dx0 hr0 hdx0 ndx0=>?_⟩
  have m2:aK H6 (upd (upd H6 dx0 (.own r0)) r0 (.ins C dx0 [])):=fun b o e=>by
   rw[aM (aN e hr0),aM (aN e hdx0)];exact e
  refine⟨r0,dx0,.ref na,B,rfl,aB,Is.mono m2.ts _ _ iA,nok,nfu,fun fp0 H11 hfp0 bt0 ra0=>⟨rfl,_,rfl,fun r1 dx1 hr1 hdx1 ndx1=>?_⟩⟩
  have s11:aK H6 H11:=fun b o e=>bt0 b o (aN e hr0) (m2 b o e)
  have ff0:∀ b∈fp0,H6 b=none:=fun b hb=>m2.free (hfp0 b hb)
  have m3:aK H11 (upd (upd H11 dx1 (.own r1)) r1 (.ins C dx1 [])):=fun b o e=>by
   rw[aM (aN e hr1),aM (aN e hdx1)];exact e
  refine⟨r1,dx1,.ref la,bR B S,rfl,aB,Is.mono (s11.trans m3).ts _ _ iB,okT,fuT,fun fp1 H12 hfp1 bt1 ra1=>⟨rfl,(show 2≤sizeLine by decide),fun rl hrl=>?_⟩⟩
  have s12:aK H11 H12:=fun b o e=>bt1 b o (aN e hr1) (m3 b o e)
  have ff1:∀ b∈fp1,H11 b=none:=fun b hb=>m3.free (hfp1 b hb)
  have s13:=aK.new (o:=HO.lst [.ref r0,.ref r1]) hrl
  have tp11:=tp9.same s11
  have tp12:=tp11.same s12
  have ra0':=ra0.same s12
  have nt:∀ {Hx:Hp}{fp:List Addr},dB Hx t sl→(∀ b∈fp,Hx b=none)→t∉fp∧sl∉fp:=fun tp ff=>⟨fun z=>(by obtain⟨o,e⟩:=tp.some;rw[ff t z] at e;cases e),fun z=>(by obtain⟨ns,pos,cell,_,e,_⟩:=tp;rw[ff sl z] at e;cases e)⟩
  have i0:L22 K C (upd H12 rl (.lst [.ref r0,.ref r1])) t sl rl r0 r1 fp0 fp1 (run0 B) (run0 (bR B S)):={
   tp:=tp12.same s13
   rs:=aB
   a0:=ra0'.same s13
   a1:=ra1.same s13
   n0:=⟨(nt tp9 ff0).1,(nt tp9 ff0).2,ra0'.notfp hrl⟩
   n1:=⟨(nt tp11 ff1).1,(nt tp11 ff1).2,ra1.notfp hrl⟩
   rt:=fun z=>by obtain⟨o,e⟩:=tp12.some;rw[z,e] at hrl;cases hrl
   d01:=fun b hb z=>by obtain⟨ys,e⟩:=ra0.lists b hb;rw[ff1 b z] at e;cases e }
  have bo0:=tr0 nok mS hj
  have z0:=run0_sz B
  have z1:=run0_sz (bR B S)
  generalize upd H12 rl (.lst [.ref r0,.ref r1])=H13 at i0
  clear s13 s12 s11 m2 m3 bt0 bt1 ra0 ra1 ra0' ff0 ff1 tp9 tp11 tp12 nt iA iB hfp0 hfp1 hr0 hr1 hdx0 hdx1
  refine⟨_,rfl,by decide,by decide,?_⟩
  refine for_range (lo:=0) (n:=40) (fun n σ' H'=>∃ (S0 S1:RunS),L22 K C H' t sl rl r0 r1 fp0 fp1 S0 S1∧TrS B j S S0 S1∧RunSz S0 (100 * n)∧RunSz S1 (100 * n)∧
   ∃ v8 v9 v10,σ'=[some (.ref a),some (.ref t),some (.int (0+(turn:Int))),some (.ref na),some (.int (j:Int)),some (.ref la),some (.int (i:Int)),some (.ref rl),v8,v9,v10]) ?_ ?_ ?_
  ·exact⟨_,_,i0,bo0,z0,z1,_,_,_,rfl⟩
  rotate_left
  ·rintro σ' H14 ⟨S0,S1,I,_,_,_,v8,v9,v10,rfl⟩
   exact⟨I.tp,_,_,_,_,_,_,_,_,_,rfl⟩
  clear i0 bo0 z0 z1
  rintro n σ' H14 hn ⟨S0,S1,I,bo,z0,z1,v8,v9,v10,rfl⟩
  refine x_drawC rfl I.tp (by decide) (by decide) fun d1 H15 b15 t15 _ _=>?_
  have I15:=I.draw b15 t15
  refine x_drawC rfl I15.tp (by decide) (by decide) fun d2 H16 b16 t16 _ _=>⟨(show 3≤sizeLine by decide),fun l hl=>?_⟩
  have I16:=I15.draw b16 t16
  have s17:=aK.new (o:=HO.lst [.int 0,.int d1,.int d2]) hl
  have e17:upd H16 l (.lst [.int 0,.int d1,.int d2]) l=some (.lst [.int 0,.int d1,.int d2]):=aB
  have nlt:l≠t:=fun z=>by obtain⟨o,e⟩:=I16.tp.some;rw[← z,hl] at e;cases e
  generalize upd H16 l (.lst [.int 0,.int d1,.int d2])=H17 at s17 e17
  have I17:=I16.same s17
  refine x_drawC rfl I17.tp (by decide) (by decide) fun d3 H18 b18 t18 g0 g1=>?_
  have I18:=I17.draw b18 t18
  obtain⟨am,ham⟩:∃ am:Int,atI [V.int 0,.int d1,.int d2] d3=some (.int am):=by
   rcases (show d3=0∨d3=1∨d3=2 by omega) with rfl | rfl | rfl
   ·exact⟨0,rfl⟩
   ·exact⟨d1,rfl⟩
   ·exact⟨d2,rfl⟩
  refine .inl ⟨l,_,d3,_,rfl,rfl,cE.of (b18 _ _ nlt e17),ham,?_⟩
  clear I I15 I16 I17 e17 s17 hl b15 b16 b18
  have l0:(0:Int) < S0.net.vs.length:=by have:=bo.ok0.nok.lo;omega
  have l1:(0:Int) < S1.net.vs.length:=by have:=bo.ok1.nok.lo;omega
  have bo':=(bo.pour mS am).go nok mS hj
  have y0:=z0.pour 0 am
  have y1:=z1.pour 0 am
  have w0:=(y0.go bo.ok0.nok 1).up06 (show _≤100 * (n+1) by omega)
  have w1:=(y1.go bo.ok1.nok 1).up06 (show _≤100 * (n+1) by omega)
  refine⟨_,rfl,rl,rfl,⟨_,cE.of I18.rs⟩,for_list (K:=K) (a:=rl) (xs:=[.ref r0,.ref r1]) (fun m σ' H'=>L22 K C H' t sl rl r0 r1 fp0 fp1 (if 1≤m then (S0.pour 0 am).go 1 else S0) (if 2≤m then (S1.pour 0 am).go 1 else S1)∧
    ∃ v10,σ'=[some (.ref a),some (.ref t),some (.int (0+(turn:Int))),some (.ref na),some (.int (j:Int)),some (.ref la),some (.int (i:Int)),some (.ref rl),some (.int (0+(n:Int))),some (.int am),v10])
   ⟨I18,_,rfl⟩ (fun m σ' H' _ p=>cE.of p.1.rs) ?_ ?_⟩
  ·rintro m u σ' H25 hu ⟨I25,v10,rfl⟩
   rcases m with _ | _ | m
   ·cases hu
    obtain⟨dx,np,R,M,T',ei⟩:=I25.a0.ins
    refine⟨_,rfl,r0,dx,_,rfl,ei,lk_m "pour" rfl,_,rfl,r0,S0,fp0,0,am,100 * n,rfl,I25.a0,z0,by omega,by decide,l0,fun H26 b26 ra26=>?_⟩
    have I26:=I25.on0 b26 ra26
    exact m_goV rfl I26.a0 y0 (by omega) fun H27 b27 ra27=>⟨I26.on0 b27 ra27,_,rfl⟩
   ·cases hu
    obtain⟨dx,np,R,M,T',ei⟩:=I25.a1.ins
    refine⟨_,rfl,r1,dx,_,rfl,ei,lk_m "pour" rfl,_,rfl,r1,S1,fp1,0,am,100 * n,rfl,I25.a1,z1,by omega,by decide,l1,fun H26 b26 ra26=>?_⟩
    have I26:=I25.on1 b26 ra26
    exact m_goV rfl I26.a1 y1 (by omega) fun H27 b27 ra27=>⟨I26.on1 b27 ra27,_,rfl⟩
   ·cases hu
  ·rintro σ' H25 ⟨I25,v10,rfl⟩
   have I25:L22 K C H25 t sl rl r0 r1 fp0 fp1 ((S0.pour 0 am).go 1) ((S1.pour 0 am).go 1):=I25
   clear I18
   generalize (S0.pour 0 am).go 1=S0 at *
   generalize (S1.pour 0 am).go 1=S1 at *
   have e0:S0.net.vs.length=B.vs.length:=by rw[bo'.n0]
   have e1:S1.net.vs.length=(bR B S).vs.length:=by rw[bo'.n1]
   have hm:=(mat_ok nok.hi hj).2.2
   have et:=bo'.tips i j hi hm
   have ht0:S0.tips[(j:Int).toNat]? = some (S0.tips.getD j []):=by
    rw[Int.toNat_natCast,List.getD_eq_getElem?_getD,List.getElem?_eq_getElem (by rw[I25.a0.ok.tl,e0];exact hj)];rfl
   have ht1:S1.tips[(i:Int).toNat]? = some (S0.tips.getD j []):=by
    rw[← et,Int.toNat_natCast,List.getD_eq_getElem?_getD,List.getElem?_eq_getElem (by rw[I25.a1.ok.tl,e1];exact hil)];rfl
   refine m_tipsI (v:=(j:Int)) rfl rfl I25.rs rfl I25.a0 (by omega) (by omega) ht0 fun x0 hx0=>?_
   have s1:=aK.new (o:=HO.lst ((S0.tips.getD j []).map V.int)) hx0
   have q0:upd H25 x0 (.lst ((S0.tips.getD j []).map V.int)) x0=some (.lst ((S0.tips.getD j []).map V.int)):=aB
   generalize upd H25 x0 (.lst ((S0.tips.getD j []).map V.int))=H26 at s1 q0
   have I26:=I25.same s1
   refine m_tipsI (v:=(i:Int)) rfl rfl I26.rs rfl I26.a1 (by omega) (by omega) ht1 fun x1 hx1=>?_
   have s2:=aK.new (o:=HO.lst ((S0.tips.getD j []).map V.int)) hx1
   have q1:upd H26 x1 (.lst ((S0.tips.getD j []).map V.int)) x1=some (.lst ((S0.tips.getD j []).map V.int)):=aB
   generalize upd H26 x1 (.lst ((S0.tips.getD j []).map V.int))=H27 at s2 q1
   refine⟨.lst ((S0.tips.getD j []).map G.int),.lst ((S0.tips.getD j []).map G.int),by rw[depG,dep_ints22];decide,b0.l (cE.of (s2 _ _ q0)) (gl_ints22 _),b0.l (cE.of q1) (gl_ints22 _),_,rfl,?_⟩
   rw[eqG_refl]
   exact iteF ⟨S0,S1,I26.same s2,bo',w0,w1,_,_,_,rfl⟩
end
end Tw
namespace Tw
open PySem L2
theorem by_len1 {α:Type}{p:List α→Prop} (h:∀ a0,p [a0]):∀ us:List α,us.length=1→p us
 | [a0],_=>h a0
theorem dI {α:Type}{p:List α→Prop} (h:∀ a0 a1,p [a0,a1]):∀ us:List α,us.length=2→p us
 | [a0,a1],_=>h a0 a1
theorem cR {α:Type}{p:List α→Prop} (h:∀ a0 a1 a2,p [a0,a1,a2]):∀ us:List α,us.length=3→p us
 | [a0,a1,a2],_=>h a0 a1 a2
theorem by_len4 {α:Type}{p:List α→Prop} (h:∀ a0 a1 a2 a3,p [a0,a1,a2,a3]):∀ us:List α,us.length=4→p us
 | [a0,a1,a2,a3],_=>h a0 a1 a2 a3
theorem by_len5 {α:Type}{p:List α→Prop} (h:∀ a0 a1 a2 a3 a4,p [a0,a1,a2,a3,a4]):∀ us:List α,us.length=5→p us
 | [a0,a1,a2,a3,a4],_=>h a0 a1 a2 a3 a4
theorem all_mk {l:PySem.W.OpenLaw}{w:World}{K:PySem.W.Frag}{h:Heap}{mg:Str→Option Value}{fa f0 f1 f2 f3 f4 f5 f6 f7 f8 f9 f10 f11 f12 f13 f14 f15 f16 f17 f18 f19 f20 f21 f22 f23 f24 f25 f26 f27 f28 f29 f30 f31 f32 f33 f34 f35 C aw c_TipError c_NoNet c_NoVessel c_Nothing:Addr} (X:K.In h) (G:h.Ns mainGlobals mg) (hfa:mg "law" = some (.ref fa))
  {od0 an0 od1 an1 od2 an2 od3 an3 od4 an4 od5 an5 od6 an6 od7 an7 od8 an8 od9 an9 od10 an10 od11 an11 od12 an12 od13 an13 od14 an14 od15 an15 od16 an16 od17 an17 od18 an18 od19 an19 od20 an20 od21 an21 od22 an22 od23 an23 od24 an24 od25 an25 od26 an26 od27 an27 od28 an28 od29 an29 od30 an30 od31 an31 od32 an32 od33 an33 od34 an34 od35 an35:Option Addr}{sl0 sl1 sl2 sl3 sl4 sl5 sl6 sl7 sl8 sl9 sl10 sl11 sl12 sl13 sl14 sl15 sl16 sl17 sl18 sl19 sl20 sl21 sl22 sl23 sl24 sl25 sl26 sl27 sl28 sl29 sl30 sl31 sl32 sl33 sl34 sl35:Array (Option Value)}{oc0 kV0 dc0 pm0 cd0 ct0 oc1 kV1 dc1 pm1 cd1 ct1 oc2 kV2 dc2 pm2 cd2 ct2 oc3 kV3 dc3 pm3 cd3 ct3 oc4 kV4 dc4 pm4 cd4 ct4 oc5 kV5 dc5 pm5 cd5 ct5 oc6 kV6 dc6 pm6 cd6 ct6 oc7 kV7 dc7 pm7 cd7 ct7 oc8 kV8 dc8 pm8 cd8 ct8 oc9 kV9 dc9 pm9 cd9 ct9 oc10 kV10 dc10 pm10 cd10 ct10 oc11 kV11 dc11 pm11 cd11 ct11 oc12 kV12 dc12 pm12 cd12 ct12 oc13 kV13 dc13 pm13 cd13 ct13 oc14 kV14 dc14 pm14 cd14 ct14 oc15 kV15 dc15 pm15 cd15 ct15 oc16 kV16 dc16 pm16 cd16 ct16 oc17 kV17 dc17 pm17 cd17 ct17 oc18 kV18 dc18 pm18 cd18 ct18 oc19 kV19 dc19 pm19 cd19 ct19 oc20 kV20 dc20 pm20 cd20 ct20 oc21 kV21 dc21 pm21 cd21 ct21 oc22 kV22 dc22 pm22 cd22 ct22 oc23 kV23 dc23 pm23 cd23 ct23 oc24 kV24 dc24 pm24 cd24 ct24 oc25 kV25 dc25 pm25 cd25 ct25 oc26 kV26 dc26 pm26 cd26 ct26 oc27 kV27 dc27 pm27 cd27 ct27 oc28 kV28 dc28 pm28 cd28 ct28 oc29 kV29 dc29 pm29 cd29 ct29 oc30 kV30 dc30 pm30 cd30 ct30 oc31 kV31 dc31 pm31 cd31 ct31 oc32 kV32 dc32 pm32 cd32 ct32 oc33 kV33 dc33 pm33 cd33 ct33 oc34 kV34 dc34 pm34 cd34 ct34 oc35 kV35 dc35 pm35 cd35 ct35:Value}
  {tk0 tk1 tk2 tk3 tk4 tk5 tk6 tk7 tw1 tw2 tw3:Tok}{odw:Option Addr}{nw:Nat}{slw:Array (Option Value)}
  (aC:PySem.W.nsIn K mainGlobals "Run" = some (some (.ref C)))
  (a0:PySem.W.nsIn K mainGlobals "_law_draw" = some (some (.ref f0)))
  (l0:K.lookup f0=some ⟨oc0,od0,.func (PySem.W.fnOf "_law_draw" "_law_draw" (aW (aU 50)) (aV (aU 50)) (aJ (aU 50)) .none kV0 dc0 pm0 an0 cd0 ct0),sl0⟩)
  (c0:PySem.W.codeIn K cd0 "_law_draw" = true)
  (k0:PySem.W.keepIn K (.ref f0)=true)
  (a1:PySem.W.nsIn K mainGlobals "_law_outs" = some (some (.ref f1)))
  (l1:K.lookup f1=some ⟨oc1,od1,.func (PySem.W.fnOf "_law_outs" "_law_outs" (aW (aU 51)) (aV (aU 51)) (aJ (aU 51)) .none kV1 dc1 pm1 an1 cd1 ct1),sl1⟩)
  (c1:PySem.W.codeIn K cd1 "_law_outs" = true)
  (k1:PySem.W.keepIn K (.ref f1)=true)
  (a2:PySem.W.nsIn K mainGlobals "_law_vessel" = some (some (.ref f2)))
  (l2:K.lookup f2=some ⟨oc2,od2,.func (PySem.W.fnOf "_law_vessel" "_law_vessel" (aW (aU 52)) (aV (aU 52)) (aJ (aU 52)) .none kV2 dc2 pm2 an2 cd2 ct2),sl2⟩)
  (c2:PySem.W.codeIn K cd2 "_law_vessel" = true)
  (k2:PySem.W.keepIn K (.ref f2)=true)
  (a3:PySem.W.nsIn K mainGlobals "_law_net" = some (some (.ref f3)))
  (l3:K.lookup f3=some ⟨oc3,od3,.func (PySem.W.fnOf "_law_net" "_law_net" (aW (aU 53)) (aV (aU 53)) (aJ (aU 53)) .none kV3 dc3 pm3 an3 cd3 ct3),sl3⟩)
  (c3:PySem.W.codeIn K cd3 "_law_net" = true)
  (k3:PySem.W.keepIn K (.ref f3)=true)
  (a4:PySem.W.nsIn K mainGlobals "is_whole" = some (some (.ref f4)))
  (l4:K.lookup f4=some ⟨oc4,od4,.func (PySem.W.fnOf "is_whole" "is_whole" (aW (aU 23)) (aV (aU 23)) (aJ (aU 23)) .none kV4 dc4 pm4 an4 cd4 ct4),sl4⟩)
  (c4:PySem.W.codeIn K cd4 "is_whole" = true)
  (k4:PySem.W.keepIn K (.ref f4)=true)
  (a5:PySem.W.nsIn K mainGlobals "need_vessel" = some (some (.ref f5)))
  (l5:K.lookup f5=some ⟨oc5,od5,.func (PySem.W.fnOf "need_vessel" "need_vessel" (aW (aU 21)) (aV (aU 21)) (aJ (aU 21)) .none kV5 dc5 pm5 an5 cd5 ct5),sl5⟩)
  (c5:PySem.W.codeIn K cd5 "need_vessel" = true)
  (k5:PySem.W.keepIn K (.ref f5)=true)
  (a6:PySem.W.nsIn K mainGlobals "leads_to" = some (some (.ref f6)))
  (l6:K.lookup f6=some ⟨oc6,od6,.func (PySem.W.fnOf "leads_to" "leads_to" (aW (aU 29)) (aV (aU 29)) (aJ (aU 29)) .none kV6 dc6 pm6 an6 cd6 ct6),sl6⟩)
  (c6:PySem.W.codeIn K cd6 "leads_to" = true)
  (k6:PySem.W.keepIn K (.ref f6)=true)
  (a7:PySem.W.nsIn K mainGlobals "matters" = some (some (.ref f7)))
  (l7:K.lookup f7=some ⟨oc7,od7,.func (PySem.W.fnOf "matters" "matters" (aW (aU 28)) (aV (aU 28)) (aJ (aU 28)) .none kV7 dc7 pm7 an7 cd7 ct7),sl7⟩)
  (c7:PySem.W.codeIn K cd7 "matters" = true)
  (k7:PySem.W.keepIn K (.ref f7)=true)
  (a8:PySem.W.nsIn K mainGlobals "counted" = some (some (.ref f8)))
  (l8:K.lookup f8=some ⟨oc8,od8,.func (PySem.W.fnOf "counted" "counted" (aW (aU 31)) (aV (aU 31)) (aJ (aU 31)) .none kV8 dc8 pm8 an8 cd8 ct8),sl8⟩)
  (c8:PySem.W.codeIn K cd8 "counted" = true)
  (k8:PySem.W.keepIn K (.ref f8)=true)
  (a9:PySem.W.nsIn K mainGlobals "renumbered_vessel" = some (some (.ref f9)))
  (l9:K.lookup f9=some ⟨oc9,od9,.func (PySem.W.fnOf "renumbered_vessel" "renumbered_vessel" (aW (aU 26)) (aV (aU 26)) (aJ (aU 26)) .none kV9 dc9 pm9 an9 cd9 ct9),sl9⟩)
  (c9:PySem.W.codeIn K cd9 "renumbered_vessel" = true)
  (k9:PySem.W.keepIn K (.ref f9)=true)
  (a10:PySem.W.nsIn K mainGlobals "renumbered" = some (some (.ref f10)))
  (l10:K.lookup f10=some ⟨oc10,od10,.func (PySem.W.fnOf "renumbered" "renumbered" (aW (aU 25)) (aV (aU 25)) (aJ (aU 25)) .none kV10 dc10 pm10 an10 cd10 ct10),sl10⟩)
  (c10:PySem.W.codeIn K cd10 "renumbered" = true)
  (k10:PySem.W.keepIn K (.ref f10)=true)
  (a11:PySem.W.nsIn K mainGlobals "trimmed" = some (some (.ref f11)))
  (l11:K.lookup f11=some ⟨oc11,od11,.func (PySem.W.fnOf "trimmed" "trimmed" (aW (aU 30)) (aV (aU 30)) (aJ (aU 30)) .none kV11 dc11 pm11 an11 cd11 ct11),sl11⟩)
  (c11:PySem.W.codeIn K cd11 "trimmed" = true)
  (k11:PySem.W.keepIn K (.ref f11)=true)
  (a12:PySem.W.nsIn K mainGlobals "is_tuple" = some (some (.ref f12)))
  (l12:K.lookup f12=some ⟨oc12,od12,.func (PySem.W.fnOf "is_tuple" "is_tuple" (aW (aU 22)) (aV (aU 22)) (aJ (aU 22)) .none kV12 dc12 pm12 an12 cd12 ct12),sl12⟩)
  (c12:PySem.W.codeIn K cd12 "is_tuple" = true)
  (k12:PySem.W.keepIn K (.ref f12)=true)
  (a13:PySem.W.nsIn K mainGlobals "is_out" = some (some (.ref f13)))
  (l13:K.lookup f13=some ⟨oc13,od13,.func (PySem.W.fnOf "is_out" "is_out" (aW (aU 18)) (aV (aU 18)) (aJ (aU 18)) .none kV13 dc13 pm13 an13 cd13 ct13),sl13⟩)
  (c13:PySem.W.codeIn K cd13 "is_out" = true)
  (k13:PySem.W.keepIn K (.ref f13)=true)
  (a14:PySem.W.nsIn K mainGlobals "is_act" = some (some (.ref f14)))
  (l14:K.lookup f14=some ⟨oc14,od14,.func (PySem.W.fnOf "is_act" "is_act" (aW (aU 19)) (aV (aU 19)) (aJ (aU 19)) .none kV14 dc14 pm14 an14 cd14 ct14),sl14⟩)
  (c14:PySem.W.codeIn K cd14 "is_act" = true)
  (k14:PySem.W.keepIn K (.ref f14)=true)
  (a15:PySem.W.nsIn K mainGlobals "is_vessel" = some (some (.ref f15)))
  (l15:K.lookup f15=some ⟨oc15,od15,.func (PySem.W.fnOf "is_vessel" "is_vessel" (aW (aU 17)) (aV (aU 17)) (aJ (aU 17)) .none kV15 dc15 pm15 an15 cd15 ct15),sl15⟩)
  (c15:PySem.W.codeIn K cd15 "is_vessel" = true)
  (k15:PySem.W.keepIn K (.ref f15)=true)
  (a16:PySem.W.nsIn K mainGlobals "is_spout" = some (some (.ref f16)))
  (l16:K.lookup f16=some ⟨oc16,od16,.func (PySem.W.fnOf "is_spout" "is_spout" (aW (aU 20)) (aV (aU 20)) (aJ (aU 20)) .none kV16 dc16 pm16 an16 cd16 ct16),sl16⟩)
  (c16:PySem.W.codeIn K cd16 "is_spout" = true)
  (k16:PySem.W.keepIn K (.ref f16)=true)
  (a17:PySem.W.nsIn K mainGlobals "is_net" = some (some (.ref f17)))
  (l17:K.lookup f17=some ⟨oc17,od17,.func (PySem.W.fnOf "is_net" "is_net" (aW (aU 16)) (aV (aU 16)) (aJ (aU 16)) .none kV17 dc17 pm17 an17 cd17 ct17),sl17⟩)
  (c17:PySem.W.codeIn K cd17 "is_net" = true)
  (k17:PySem.W.keepIn K (.ref f17)=true)
  (a18:PySem.W.nsIn K mainGlobals "first_state" = some (some (.ref f18)))
  (l18:K.lookup f18=some ⟨oc18,od18,.func (PySem.W.fnOf "first_state" "first_state" (aW (aU 33)) (aV (aU 33)) (aJ (aU 33)) .none kV18 dc18 pm18 an18 cd18 ct18),sl18⟩)
  (c18:PySem.W.codeIn K cd18 "first_state" = true)
  (k18:PySem.W.keepIn K (.ref f18)=true)
  (a19:PySem.W.nsIn K mainGlobals "pouring" = some (some (.ref f19)))
  (l19:K.lookup f19=some ⟨oc19,od19,.func (PySem.W.fnOf "pouring" "pouring" (aW (aU 34)) (aV (aU 34)) (aJ (aU 34)) .none kV19 dc19 pm19 an19 cd19 ct19),sl19⟩)
  (c19:PySem.W.codeIn K cd19 "pouring" = true)
  (k19:PySem.W.keepIn K (.ref f19)=true)
  (a20:PySem.W.nsIn K mainGlobals "first_moment" = some (some (.ref f20)))
  (l20:K.lookup f20=some ⟨oc20,od20,.func (PySem.W.fnOf "first_moment" "first_moment" (aW (aU 43)) (aV (aU 43)) (aJ (aU 43)) .none kV20 dc20 pm20 an20 cd20 ct20),sl20⟩)
  (c20:PySem.W.codeIn K cd20 "first_moment" = true)
  (k20:PySem.W.keepIn K (.ref f20)=true)
  (a21:PySem.W.findIn K (.ref C) "__init__" = some (some (.ref f21)))
  (i21:PySem.W.isFn K (.ref f21)=true)
  (l21:K.lookup f21=some ⟨oc21,od21,.func (PySem.W.fnOf "__init__" "Run.__init__" (aW (bQ (aU 48) 0)) (aV (bQ (aU 48) 0)) (aJ (bQ (aU 48) 0)) .none kV21 dc21 pm21 an21 cd21 ct21),sl21⟩)
  (c21:PySem.W.codeIn K cd21 "Run.__init__" = true)
  (k21:PySem.W.keepIn K (.ref f21)=true)
  (a22:PySem.W.nsIn K mainGlobals "moment_poured" = some (some (.ref f22)))
  (l22:K.lookup f22=some ⟨oc22,od22,.func (PySem.W.fnOf "moment_poured" "moment_poured" (aW (aU 44)) (aV (aU 44)) (aJ (aU 44)) .none kV22 dc22 pm22 an22 cd22 ct22),sl22⟩)
  (c22:PySem.W.codeIn K cd22 "moment_poured" = true)
  (k22:PySem.W.keepIn K (.ref f22)=true)
  (a23:PySem.W.findIn K (.ref C) "pour" = some (some (.ref f23)))
  (i23:PySem.W.isFn K (.ref f23)=true)
  (l23:K.lookup f23=some ⟨oc23,od23,.func (PySem.W.fnOf "pour" "Run.pour" (aW (bQ (aU 48) 1)) (aV (bQ (aU 48) 1)) (aJ (bQ (aU 48) 1)) .none kV23 dc23 pm23 an23 cd23 ct23),sl23⟩)
  (c23:PySem.W.codeIn K cd23 "Run.pour" = true)
  (k23:PySem.W.keepIn K (.ref f23)=true)
  (a24:PySem.W.nsIn K mainGlobals "filled" = some (some (.ref f24)))
  (l24:K.lookup f24=some ⟨oc24,od24,.func (PySem.W.fnOf "filled" "filled" (aW (aU 37)) (aV (aU 37)) (aJ (aU 37)) .none kV24 dc24 pm24 an24 cd24 ct24),sl24⟩)
  (c24:PySem.W.codeIn K cd24 "filled" = true)
  (k24:PySem.W.keepIn K (.ref f24)=true)
  (a25:PySem.W.nsIn K mainGlobals "send" = some (some (.ref f25)))
  (l25:K.lookup f25=some ⟨oc25,od25,.func (PySem.W.fnOf "send" "send" (aW (aU 40)) (aV (aU 40)) (aJ (aU 40)) .none kV25 dc25 pm25 an25 cd25 ct25),sl25⟩)
  (c25:PySem.W.codeIn K cd25 "send" = true)
  (k25:PySem.W.keepIn K (.ref f25)=true)
  (a26:PySem.W.nsIn K mainGlobals "share_out" = some (some (.ref f26)))
  (l26:K.lookup f26=some ⟨oc26,od26,.func (PySem.W.fnOf "share_out" "share_out" (aW (aU 39)) (aV (aU 39)) (aJ (aU 39)) .none kV26 dc26 pm26 an26 cd26 ct26),sl26⟩)
  (c26:PySem.W.codeIn K cd26 "share_out" = true)
  (k26:PySem.W.keepIn K (.ref f26)=true)
  (a27:PySem.W.nsIn K mainGlobals "settle" = some (some (.ref f27)))
  (l27:K.lookup f27=some ⟨oc27,od27,.func (PySem.W.fnOf "settle" "settle" (aW (aU 38)) (aV (aU 38)) (aJ (aU 38)) .none kV27 dc27 pm27 an27 cd27 ct27),sl27⟩)
  (c27:PySem.W.codeIn K cd27 "settle" = true)
  (k27:PySem.W.keepIn K (.ref f27)=true)
  (a28:PySem.W.nsIn K mainGlobals "doors_behind" = some (some (.ref f28)))
  (l28:K.lookup f28=some ⟨oc28,od28,.func (PySem.W.fnOf "doors_behind" "doors_behind" (aW (aU 41)) (aV (aU 41)) (aJ (aU 41)) .none kV28 dc28 pm28 an28 cd28 ct28),sl28⟩)
  (c28:PySem.W.codeIn K cd28 "doors_behind" = true)
  (k28:PySem.W.keepIn K (.ref f28)=true)
  (a29:PySem.W.nsIn K mainGlobals "tick_behind" = some (some (.ref f29)))
  (l29:K.lookup f29=some ⟨oc29,od29,.func (PySem.W.fnOf "tick_behind" "tick_behind" (aW (aU 35)) (aV (aU 35)) (aJ (aU 35)) .none kV29 dc29 pm29 an29 cd29 ct29),sl29⟩)
  (c29:PySem.W.codeIn K cd29 "tick_behind" = true)
  (k29:PySem.W.keepIn K (.ref f29)=true)
  (a30:PySem.W.nsIn K mainGlobals "came_in" = some (some (.ref f30)))
  (l30:K.lookup f30=some ⟨oc30,od30,.func (PySem.W.fnOf "came_in" "came_in" (aW (aU 36)) (aV (aU 36)) (aJ (aU 36)) .none kV30 dc30 pm30 an30 cd30 ct30),sl30⟩)
  (c30:PySem.W.codeIn K cd30 "came_in" = true)
  (k30:PySem.W.keepIn K (.ref f30)=true)
  (a31:PySem.W.nsIn K mainGlobals "moment_behind" = some (some (.ref f31)))
  (l31:K.lookup f31=some ⟨oc31,od31,.func (PySem.W.fnOf "moment_behind" "moment_behind" (aW (aU 46)) (aV (aU 46)) (aJ (aU 46)) .none kV31 dc31 pm31 an31 cd31 ct31),sl31⟩)
  (c31:PySem.W.codeIn K cd31 "moment_behind" = true)
  (k31:PySem.W.keepIn K (.ref f31)=true)
  (a32:PySem.W.nsIn K mainGlobals "moment_gone" = some (some (.ref f32)))
  (l32:K.lookup f32=some ⟨oc32,od32,.func (PySem.W.fnOf "moment_gone" "moment_gone" (aW (aU 45)) (aV (aU 45)) (aJ (aU 45)) .none kV32 dc32 pm32 an32 cd32 ct32),sl32⟩)
  (c32:PySem.W.codeIn K cd32 "moment_gone" = true)
  (k32:PySem.W.keepIn K (.ref f32)=true)
  (a33:PySem.W.findIn K (.ref C) "go" = some (some (.ref f33)))
  (i33:PySem.W.isFn K (.ref f33)=true)
  (l33:K.lookup f33=some ⟨oc33,od33,.func (PySem.W.fnOf "go" "Run.go" (aW (bQ (aU 48) 2)) (aV (bQ (aU 48) 2)) (aJ (bQ (aU 48) 2)) .none kV33 dc33 pm33 an33 cd33 ct33),sl33⟩)
  (c33:PySem.W.codeIn K cd33 "Run.go" = true)
  (k33:PySem.W.keepIn K (.ref f33)=true)
  (a34:PySem.W.findIn K (.ref C) "tips" = some (some (.ref f34)))
  (i34:PySem.W.isFn K (.ref f34)=true)
  (l34:K.lookup f34=some ⟨oc34,od34,.func (PySem.W.fnOf "tips" "Run.tips" (aW (bQ (aU 48) 6)) (aV (bQ (aU 48) 6)) (aJ (bQ (aU 48) 6)) .none kV34 dc34 pm34 an34 cd34 ct34),sl34⟩)
  (c34:PySem.W.codeIn K cd34 "Run.tips" = true)
  (k34:PySem.W.keepIn K (.ref f34)=true)
  (a35:PySem.W.nsIn K mainGlobals "law" = some (some (.ref f35)))
  (l35:K.lookup f35=some ⟨oc35,od35,.func (PySem.W.fnOf "law" "law" (aW (aU 54)) (aV (aU 54)) (aJ (aU 54)) .none kV35 dc35 pm35 an35 cd35 ct35),sl35⟩)
  (c35:PySem.W.codeIn K cd35 "law" = true)
  (k35:PySem.W.keepIn K (.ref f35)=true)
  (pg:PySem.W.plainGet K C Str.empty=true)
  (hd:PySem.W.hasDictIn K C=true)
  (po:PySem.W.plainOver K C=true)
  (sa:PySem.W.findIn K (.ref C) "__setattr__" = some (some (.builtin "object.__setattr__")))
  (mk:PySem.W.makesIn K C=true)
  (kc:PySem.W.keepIn K (.ref C)=true)
  (n0:PySem.W.findIn K (.ref C) "net" = some none)
  (n1:PySem.W.findIn K (.ref C) "rows" = some none)
  (n2:PySem.W.findIn K (.ref C) "moments" = some none)
  (n3:PySem.W.findIn K (.ref C) "tip_ticks" = some none)
  (mc0:PySem.W.nsIn K mainGlobals "MOST_VESSELS" = some (some (.int 12 tk0)))
  (mc1:PySem.W.nsIn K mainGlobals "MOST_SPOUTS" = some (some (.int 12 tk1)))
  (mc2:PySem.W.nsIn K mainGlobals "MOST_SIZE" = some (some (.int 60 tk2)))
  (mc3:PySem.W.nsIn K mainGlobals "MOST_BRIM" = some (some (.int 200 tk3)))
  (mc4:PySem.W.nsIn K mainGlobals "MOST_OUTS" = some (some (.int 3 tk4)))
  (mc5:PySem.W.nsIn K mainGlobals "MOST_PARTS" = some (some (.int 60 tk5)))
  (mc6:PySem.W.nsIn K mainGlobals "MOST_ACTS" = some (some (.int 3 tk6)))
  (mc7:PySem.W.nsIn K mainGlobals "MOST_FLOW" = some (some (.int 60 tk7)))
  (mcw:PySem.W.nsIn K mainGlobals "ACT_WORDS" = some (some (.ref aw)))
  (mlw:K.lookup aw=some ⟨.type "tuple",odw,.seq #[.str "open" tw1,.str "shut" tw2,.str "turn" tw3] nw,slw⟩)
  (xcTipError:PySem.W.nsIn K mainGlobals "TipError" = some (some (.ref c_TipError)))
  (xcNoNet:PySem.W.nsIn K mainGlobals "NoNet" = some (some (.ref c_NoNet)))
  (xcNoVessel:PySem.W.nsIn K mainGlobals "NoVessel" = some (some (.ref c_NoVessel)))
  (xcNothing:PySem.W.nsIn K mainGlobals "Nothing" = some (some (.ref c_Nothing)))
  (z0:PySem.W.nsIn K mainGlobals "len" = some none)
  (z1:PySem.W.nsIn K mainGlobals "sum" = some none)
  (z2:PySem.W.nsIn K mainGlobals "all" = some none)
  (z3:PySem.W.nsIn K mainGlobals "max" = some none)
  (z4:PySem.W.nsIn K mainGlobals "min" = some none)
  (z5:PySem.W.nsIn K mainGlobals "int" = some none)
  (z6:PySem.W.nsIn K mainGlobals "tuple" = some none)
  (z7:PySem.W.nsIn K mainGlobals "list" = some none)
  (z8:PySem.W.nsIn K mainGlobals "bool" = some none)
  (z9:PySem.W.nsIn K mainGlobals "range" = some none)
  (z10:PySem.W.nsIn K mainGlobals "zip" = some none)
  (z11:PySem.W.nsIn K mainGlobals "enumerate" = some none)
  (z12:PySem.W.nsIn K mainGlobals "isinstance" = some none)
  (z13:PySem.W.nsIn K mainGlobals "divmod" = some none)
  (z14:PySem.W.nsIn K mainGlobals "set" = some none)
  (z15:PySem.W.nsIn K mainGlobals "sorted" = some none)
  (exV:PySem.W.excIn K c_NoVessel [.type "ValueError",.type "Exception",.type "BaseException",.type "object"] "ValueError.__new__" = true) :
  ∃ fd:FuncData,(∀ (s:Shared) (v:Value),BindsTo s fd ⟨[v],[]⟩ [("script",v)])∧∀ base:Heap,K.In base→base.Ns mainGlobals mg→FnOk l.prog w K mg base CX0 8 fa fd ["script"] (spLaw K):=by
 have e:=hfa.symm.trans (PySem.W.mg_of X G a35)
 cases e
 have T:Txt mg:=⟨PySem.W.mg_none_of X G z0,PySem.W.mg_none_of X G z1,PySem.W.mg_none_of X G z2,PySem.W.mg_none_of X G z3,PySem.W.mg_none_of X G z4,PySem.W.mg_none_of X G z5,PySem.W.mg_none_of X G z6,PySem.W.mg_none_of X G z7,PySem.W.mg_none_of X G z8,PySem.W.mg_none_of X G z9,PySem.W.mg_none_of X G z10,PySem.W.mg_none_of X G z11,PySem.W.mg_none_of X G z12,PySem.W.mg_none_of X G z13,PySem.W.mg_none_of X G z14,PySem.W.mg_none_of X G z15⟩
 have U:TxtN K mg aw:=⟨⟨_,PySem.W.mg_of X G mc0,_,rfl⟩,⟨_,PySem.W.mg_of X G mc1,_,rfl⟩,⟨_,PySem.W.mg_of X G mc2,_,rfl⟩,⟨_,PySem.W.mg_of X G mc3,_,rfl⟩,⟨_,PySem.W.mg_of X G mc4,_,rfl⟩,⟨_,PySem.W.mg_of X G mc5,_,rfl⟩,⟨_,PySem.W.mg_of X G mc6,_,rfl⟩,⟨_,PySem.W.mg_of X G mc7,_,rfl⟩,⟨_,PySem.W.mg_of X G mcw,rfl⟩,fun H=>.inr ⟨_,_,_,mlw,rfl,rfl,by show 3≤sizeLine;decide,.cons ⟨_,rfl⟩ (.cons ⟨_,rfl⟩ (.cons ⟨_,rfl⟩ .nil))⟩⟩
 have XC_NoVessel:ExC K "NoVessel" c_NoVessel:=⟨xcNoVessel,exV⟩
 have tx:RunTx K C:=⟨⟨pg,hd,po,sa⟩,n0,n1,n2,n3⟩
 have F0:=bF (st:=(aU 50)) l0 c0 k0
 have F1:=bF (st:=(aU 51)) l1 c1 k1
 have F2:=bF (st:=(aU 52)) l2 c2 k2
 have F3:=bF (st:=(aU 53)) l3 c3 k3
 have F4:=bF (st:=(aU 23)) l4 c4 k4
 have F5:=bF (st:=(aU 21)) l5 c5 k5
 have F6:=bF (st:=(aU 29)) l6 c6 k6
 have F7:=bF (st:=(aU 28)) l7 c7 k7
 have F8:=bF (st:=(aU 31)) l8 c8 k8
 have F9:=bF (st:=(aU 26)) l9 c9 k9
 have F10:=bF (st:=(aU 25)) l10 c10 k10
 have F11:=bF (st:=(aU 30)) l11 c11 k11
 have F12:=bF (st:=(aU 22)) l12 c12 k12
 have F13:=bF (st:=(aU 18)) l13 c13 k13
 have F14:=bF (st:=(aU 19)) l14 c14 k14
 have F15:=bF (st:=(aU 17)) l15 c15 k15
 have F16:=bF (st:=(aU 20)) l16 c16 k16
 have F17:=bF (st:=(aU 16)) l17 c17 k17
 have F18:=bF (st:=(aU 33)) l18 c18 k18
 have F19:=bF (st:=(aU 34)) l19 c19 k19
 have F20:=bF (st:=(aU 43)) l20 c20 k20
 have F21:=bF (st:=(bQ (aU 48) 0)) l21 c21 k21
 have F22:=bF (st:=(aU 44)) l22 c22 k22
 have F23:=bF (st:=(bQ (aU 48) 1)) l23 c23 k23
 have F24:=bF (st:=(aU 37)) l24 c24 k24
 have F25:=bF (st:=(aU 40)) l25 c25 k25
 have F26:=bF (st:=(aU 39)) l26 c26 k26
 have F27:=bF (st:=(aU 38)) l27 c27 k27
 have F28:=bF (st:=(aU 41)) l28 c28 k28
 have F29:=bF (st:=(aU 35)) l29 c29 k29
 have F30:=bF (st:=(aU 36)) l30 c30 k30
 have F31:=bF (st:=(aU 46)) l31 c31 k31
 have F32:=bF (st:=(aU 45)) l32 c32 k32
 have F33:=bF (st:=(bQ (aU 48) 2)) l33 c33 k33
 have F34:=bF (st:=(bQ (aU 48) 6)) l34 c34 k34
 have F35:=bF (st:=(aU 54)) l35 c35 k35
 refine⟨PySem.W.fnOf "law" "law" (aW (aU 54)) (aV (aU 54)) (aJ (aU 54)) .none kV35 dc35 pm35 an35 cd35 ct35,fun s v=>.of_eq rfl,fun base _ _=>?_⟩
 have C0:Callee l.prog w K mg base "_law_draw" ["tape","many"] 1 spDraw f0 _:=⟨ok__law_draw F0 T,PySem.W.mg_of X G a0,k0,F0.binds (ps:=["tape","many"]) fun _ _ _ _ _ _=>dI fun _ _=>rfl⟩
 have C1:Callee l.prog w K mg base "_law_outs" ["tape","many","small"] 2 (spOuts K) f1 _:=⟨ok__law_outs F1 T C0,PySem.W.mg_of X G a1,k1,F1.binds (ps:=["tape","many","small"]) fun _ _ _ _ _ _=>cR fun _ _ _=>rfl⟩
 have C2:Callee l.prog w K mg base "_law_vessel" ["tape","number","many","spouts","small"] 3 (spVessel K) f2 _:=⟨ok__law_vessel F2 T C0 C1,PySem.W.mg_of X G a2,k2,F2.binds (ps:=["tape","number","many","spouts","small"]) fun _ _ _ _ _ _=>by_len5 fun _ _ _ _ _=>rfl⟩
 have C3:Callee l.prog w K mg base "_law_net" ["tape","most","small"] 4 (spNetM K) f3 _:=⟨ok__law_netM F3 T C0 C2,PySem.W.mg_of X G a3,k3,F3.binds (ps:=["tape","most","small"]) fun _ _ _ _ _ _=>cR fun _ _ _=>rfl⟩
 have CB4:Callee l.prog w K mg base "is_whole" ["thing","least","most"] 1 spWholeI f4 _:=⟨ok_is_wholeI F4 T,PySem.W.mg_of X G a4,k4,F4.binds (ps:=["thing","least","most"]) fun _ _ _ _ _ _=>cR fun _ _ _=>rfl⟩
 have C4:Callee l.prog w K mg base "is_whole" ["thing","least","most"] 1 spWhole f4 _:=⟨ok_is_whole F4 T,PySem.W.mg_of X G a4,k4,F4.binds (ps:=["thing","least","most"]) fun _ _ _ _ _ _=>cR fun _ _ _=>rfl⟩
 have CB5:CalleeR l.prog w K mg base "need_vessel" ["net","number"] 2 (spNeedR K c_NoVessel) f5 _:=⟨ok_need_vesselR F5 T XC_NoVessel CB4,PySem.W.mg_of X G a5,k5,F5.binds (ps:=["net","number"]) fun _ _ _ _ _ _=>dI fun _ _=>rfl⟩
 have C5:Callee l.prog w K mg base "need_vessel" ["net","number"] 2 (spNeed K) f5 _:=⟨ok_need_vessel F5 T C4,PySem.W.mg_of X G a5,k5,F5.binds (ps:=["net","number"]) fun _ _ _ _ _ _=>dI fun _ _=>rfl⟩
 have C6:Callee l.prog w K mg base "leads_to" ["vessel","spouts"] 1 (spLeads K) f6 _:=⟨ok_leads_to F6 T,PySem.W.mg_of X G a6,k6,F6.binds (ps:=["vessel","spouts"]) fun _ _ _ _ _ _=>dI fun _ _=>rfl⟩
 have C7:CalleeR l.prog w K mg base "matters" ["net","watched"] 3 (spMatters K c_NoVessel) f7 _:=⟨ok_mattersR F7 T CB5 C6,PySem.W.mg_of X G a7,k7,F7.binds (ps:=["net","watched"]) fun _ _ _ _ _ _=>dI fun _ _=>rfl⟩
 have C8:Callee l.prog w K mg base "counted" ["kept"] 1 (spCounted K) f8 _:=⟨ok_counted F8 T,PySem.W.mg_of X G a8,k8,F8.binds (ps:=["kept"]) fun _ _ _ _ _ _=>by_len1 fun _=>rfl⟩
 have C9:Callee l.prog w K mg base "renumbered_vessel" ["vessel","new_vessels","new_spouts"] 1 (spRenV K) f9 _:=⟨ok_renumbered_vessel F9 T,PySem.W.mg_of X G a9,k9,F9.binds (ps:=["vessel","new_vessels","new_spouts"]) fun _ _ _ _ _ _=>cR fun _ _ _=>rfl⟩
 have C10:Callee l.prog w K mg base "renumbered" ["net","new_vessels","new_spouts"] 2 (spRen K) f10 _:=⟨ok_renumbered F10 T C9,PySem.W.mg_of X G a10,k10,F10.binds (ps:=["net","new_vessels","new_spouts"]) fun _ _ _ _ _ _=>cR fun _ _ _=>rfl⟩
 have C11:CalleeR l.prog w K mg base "trimmed" ["net","watched"] 4 (spTrimmed K c_NoVessel) f11 _:=⟨ok_trimmedR F11 T C7 C8 C10,PySem.W.mg_of X G a11,k11,F11.binds (ps:=["net","watched"]) fun _ _ _ _ _ _=>dI fun _ _=>rfl⟩
 have C12:Callee l.prog w K mg base "is_tuple" ["thing","least","most"] 1 (spTupN K) f12 _:=⟨ok_is_tuple F12 T,PySem.W.mg_of X G a12,k12,F12.binds (ps:=["thing","least","most"]) fun _ _ _ _ _ _=>cR fun _ _ _=>rfl⟩
 have C13:Callee l.prog w K mg base "is_out" ["thing","vessel_count"] 2 (spIsOut K) f13 _:=⟨ok_is_out F13 T U C12 C4,PySem.W.mg_of X G a13,k13,F13.binds (ps:=["thing","vessel_count"]) fun _ _ _ _ _ _=>dI fun _ _=>rfl⟩
 have C14:Callee l.prog w K mg base "is_act" ["thing","spout_count"] 2 (spIsAct K) f14 _:=⟨ok_is_act F14 T U C12 C4,PySem.W.mg_of X G a14,k14,F14.binds (ps:=["thing","spout_count"]) fun _ _ _ _ _ _=>dI fun _ _=>rfl⟩
 have C15:Callee l.prog w K mg base "is_vessel" ["thing","number","vessel_count","spout_count"] 3 (spIsVessel K) f15 _:=⟨ok_is_vessel F15 T U C12 C4 C13 C14,PySem.W.mg_of X G a15,k15,F15.binds (ps:=["thing","number","vessel_count","spout_count"]) fun _ _ _ _ _ _=>by_len4 fun _ _ _ _=>rfl⟩
 have C16:Callee l.prog w K mg base "is_spout" ["thing","vessel_count"] 2 (spIsSpout K) f16 _:=⟨ok_is_spout F16 T U C12 C4,PySem.W.mg_of X G a16,k16,F16.binds (ps:=["thing","vessel_count"]) fun _ _ _ _ _ _=>dI fun _ _=>rfl⟩
 have C17:Callee l.prog w K mg base "is_net" ["thing"] 4 (spIsNet K) f17 _:=⟨ok_is_net F17 T U C12 C15 C16,PySem.W.mg_of X G a17,k17,F17.binds (ps:=["thing"]) fun _ _ _ _ _ _=>by_len1 fun _=>rfl⟩
 have C18:Callee l.prog w K mg base "first_state" ["net"] 1 (spFirst K) f18 _:=⟨ok_first_state F18 T,PySem.W.mg_of X G a18,k18,F18.binds (ps:=["net"]) fun _ _ _ _ _ _=>by_len1 fun _=>rfl⟩
 have C19:Callee l.prog w K mg base "pouring" ["net","amount"] 1 (spPouring K) f19 _:=⟨ok_pouring F19 T,PySem.W.mg_of X G a19,k19,F19.binds (ps:=["net","amount"]) fun _ _ _ _ _ _=>dI fun _ _=>rfl⟩
 have C20:Callee l.prog w K mg base "first_moment" ["net"] 2 (spFirstMom K) f20 _:=⟨ok_first_moment F20 T C18 C19,PySem.W.mg_of X G a20,k20,F20.binds (ps:=["net"]) fun _ _ _ _ _ _=>by_len1 fun _=>rfl⟩
 have C21:MkCal l.prog w K mg base C "Run" ["self","net"] 5 (spInit K C) f21 _:=⟨⟨mk,a21,i21,kc⟩,ok_init F21 T tx C17 C20,PySem.W.mg_of X G aC,F21.binds (ps:=["self","net"]) fun _ _ _ _ _ _=>dI fun _ _=>rfl⟩
 have C22:Callee l.prog w K mg base "moment_poured" ["moment","vessel","amount"] 1 (spMomPour K) f22 _:=⟨ok_moment_poured F22 T,PySem.W.mg_of X G a22,k22,F22.binds (ps:=["moment","vessel","amount"]) fun _ _ _ _ _ _=>cR fun _ _ _=>rfl⟩
 have C23:MCal l.prog w K mg base C "pour" ["self","vessel","amount"] 3 (spPour K C) f23 _:=⟨tx.cls,⟨a23,i23,k23⟩,ok_pour F23 T tx C5 C22,F23.binds (ps:=["self","vessel","amount"]) fun _ _ _ _ _ _=>cR fun _ _ _=>rfl⟩
 have C24:Callee l.prog w K mg base "filled" ["spouts","state","poured"] 1 (spFilled K) f24 _:=⟨ok_filled F24 T,PySem.W.mg_of X G a24,k24,F24.binds (ps:=["spouts","state","poured"]) fun _ _ _ _ _ _=>cR fun _ _ _=>rfl⟩
 have C25:Callee l.prog w K mg base "send" ["sent","target","amount"] 1 spSend f25 _:=⟨ok_send F25 T,PySem.W.mg_of X G a25,k25,F25.binds (ps:=["sent","target","amount"]) fun _ _ _ _ _ _=>cR fun _ _ _=>rfl⟩
 have C26:Callee l.prog w K mg base "share_out" ["outs","has","sent"] 2 (spShare K) f26 _:=⟨ok_share_out F26 T C25,PySem.W.mg_of X G a26,k26,F26.binds (ps:=["outs","has","sent"]) fun _ _ _ _ _ _=>cR fun _ _ _=>rfl⟩
 have C27:Callee l.prog w K mg base "settle" ["vessel","has","sent"] 3 (spSettle K) f27 _:=⟨ok_settle F27 T C25 C26,PySem.W.mg_of X G a27,k27,F27.binds (ps:=["vessel","has","sent"]) fun _ _ _ _ _ _=>cR fun _ _ _=>rfl⟩
 have C28:Callee l.prog w K mg base "doors_behind" ["vessels","doors","tipped"] 1 (spDoors K) f28 _:=⟨ok_doors_behind F28 T,PySem.W.mg_of X G a28,k28,F28.binds (ps:=["vessels","doors","tipped"]) fun _ _ _ _ _ _=>cR fun _ _ _=>rfl⟩
 have C29:Callee l.prog w K mg base "tick_behind" ["net","state","poured"] 4 (spTick K) f29 _:=⟨ok_tick_behind F29 T C24 C27 C28,PySem.W.mg_of X G a29,k29,F29.binds (ps:=["net","state","poured"]) fun _ _ _ _ _ _=>cR fun _ _ _=>rfl⟩
 have C30:Callee l.prog w K mg base "came_in" ["net","state","poured"] 1 (spCameIn K) f30 _:=⟨ok_came_in F30 T,PySem.W.mg_of X G a30,k30,F30.binds (ps:=["net","state","poured"]) fun _ _ _ _ _ _=>cR fun _ _ _=>rfl⟩
 have C31:Callee l.prog w K mg base "moment_behind" ["net","moment"] 5 (spMoment K) f31 _:=⟨ok_moment_behind F31 T C29 C30 C19,PySem.W.mg_of X G a31,k31,F31.binds (ps:=["net","moment"]) fun _ _ _ _ _ _=>dI fun _ _=>rfl⟩
 have C32:Callee l.prog w K mg base "moment_gone" ["net","moment","many"] 6 (spMomGo K) f32 _:=⟨ok_moment_gone F32 T C31,PySem.W.mg_of X G a32,k32,F32.binds (ps:=["net","moment","many"]) fun _ _ _ _ _ _=>cR fun _ _ _=>rfl⟩
 have C33:MCal l.prog w K mg base C "go" ["self","many"] 7 (spGo K C) f33 _:=⟨tx.cls,⟨a33,i33,k33⟩,ok_go F33 T tx C32,F33.binds (ps:=["self","many"]) fun _ _ _ _ _ _=>dI fun _ _=>rfl⟩
 have C34:MCal l.prog w K mg base C "tips" ["self","vessel"] 3 (spTips K C) f34 _:=⟨tx.cls,⟨a34,i34,k34⟩,ok_tips F34 T tx C5,F34.binds (ps:=["self","vessel"]) fun _ _ _ _ _ _=>dI fun _ _=>rfl⟩
 exact ok_law F35 T C0 C3 C11 C7 C21 C23 C33 C34
theorem walk {l:PySem.W.OpenLaw}{q:Program}{loose:List Str}{XP:(Str→Option Value)→Heap→Prop}{YP:World→Heap→Prop}{d:DefRec}{K:Params→PySem.W.Frag} (hn:l.most=some 63) (hdf:d.params.defaults=[])
  (hY:∀ (w:World) (h:Heap),YP w h→(K w.params).In h)
  (F:∀ (w:World) (mg:Str→Option Value) (fa:Addr) (h:Heap),(K w.params).In h→h.Ns mainGlobals mg→mg d.name=some (.ref fa)→
   ∃ fd:FuncData,(∀ (s:Shared) (u:Value),BindsTo s fd ⟨[u],[]⟩ [("script",u)])∧∀ base:Heap,(K w.params).In base→base.Ns mainGlobals mg→FnOk l.prog w (K w.params) mg base CX0 8 fa fd ["script"] (spLaw (K w.params))) :
  PySem.W.WalkO q loose XP YP l.row.toRowW d [] (fun f vs=>PySem.call f vs):=
 L2.walk_of (n:=63) (k:=8) (x := "script") (CX:=fun _=>CX0) (sp:=fun w=>spLaw (K w.params)) hn (by decide) hdf ⟨rfl,by decide,by decide⟩ hY F (fun _ _ a ns hl _ hS=>⟨a,ns,rfl,hS,hl,fun _=>rfl⟩) fun _ _ _ _ _ z=>z
end Tw
noncomputable def PySem.W.Fast.tw4046109150216275179:Nat:=0
theorem PySem.W.Fast.te4046109150216275179:PySem.W.Fast.tw4046109150216275179=PySem.W.Fast.tw4046109150216275179:=rfl
noncomputable def PySem.W.Fast.tw12033781386502992737:PySem.Program:=PySem.Challenge.pw_tipwell_k22_whole_trimmed_act_alike
theorem PySem.W.Fast.te12033781386502992737:PySem.Challenge.pw_tipwell_k22_whole_trimmed_act_alike=PySem.W.Fast.tw12033781386502992737:=rfl
namespace PySem.W.Fast
def tw4064191494081564664:=0
def tw217144445557286728:=0
def tw8782438729901842093:=0
def tw2813376726484563779:=0
def tw15050287667014250330:=0
def tw13149135919114879175:=0
def tw14385536059320172997:=0
def tw16956789404181524928:=0
def tw15813828350611346114:=0
def tw2182173042332070582:=0
def tw9048400788635672938:=0
def tw13264136041928395710:=0
def tw1303770127440497820:=0
def tw7987843945021815513:=0
def tw5765684711721065297:=0
def tw2086959519171365171:=0
def tw10582253102701737769:=0
def tw7836217658817525484:=0
def tw17118181274556075989:=0
def tw7845031376098210570:=0
def tw584861709944296247:=0
def tw7046726146934842571:=0
def tw1186240398645533286:=0
def tw6858772189134074591:=0
def tw17891052418262079368:=0
def tw8988361404431741829:=0
def tw14032424427905765080:=0
def tw8387000197344686936:=0
def tw2874537879146799020:=0
def tw6634771532941665444:=0
def tw13615832542575203585:=0
def tw4133782058267823188:=0
def tw4235960876623793779:=0
def tw6642268513406620002:=0
def tw1150702076792176687:=0
def tw4881000419297182167:=0
def tw4883243503608770581:=0
def tw140375130343159807:=0
def tw11095360792698439010:=0
def tw16949766673287349846:=0
def tw11957116941711948439:=0
def tw16387283279308983714:=0
def tw8026384649025745001:=0
def tw9821686453292000526:=0
def tw17646093451118861870:=0
def tw2304364593553571421:=0
def tw15894044635535571819:=0
def tw15801093345537299278:=0
def tw9142872701121354404:=0
def tw17710803464513665796:=0
def tw15591580453988627618:=0
def tw9706827603655851651:=0
def tw3805986391878681115:=0
def tw7216472691398350975:=0
def tw14477751512596959200:=0
def tw11274415528696994573:=0
def tw6897328121625620084:=0
def tw3976166557777410125:=0
def tw1974328218230536619:=0
def tw9752204020452628282:=0
def tw12705961011021301456:=0
def tw10830310291940020918:=0
def tw14774058446324002445:=0
def tw5961542402209709421:=0
def tw989002311908944037:=0
def tw4073260840263299283:=0
def tw8693397176239035702:=0
def tw11395541475215887038:=0
def tw11980528200429709429:=0
def tw11916505929436244273:=0
def tw12697253413707875920:=0
def tw13284783359429703943:=0
def tw13781616639649287995:=0
def tw14991874352087350204:=0
def tw1791217968910172866:=0
def tw6004959002003922006:=0
def tw2256968797036607170:=0
def tw4741225549754689677:=0
def tw16636428121691279008:=0
def tw6299919333355670181:=0
def tw3821549639684209096:=0
def tw14224986604480766737:=0
def tw9782711515905926423:=0
def tw2041289847629032052:=0
def tw10546854164086236251:=0
def tw11391523196200914474:=0
def tw7431604657966736121:=0
def tw1325468994648026010:=0
def tw16505807267585144926:=0
def tw11531578573058460118:=0
def tw7031373456115050445:=0
def tw10125068739213918252:=0
def tw15599096828718777591:=0
def tw7054998276846600744:=0
def tw18087428124821657922:=0
def tw5787653208187251817:=0
def tw4618517606692820653:=0
end PySem.W.Fast
open PySem PySem.W PyProof.Rows
set_option maxRecDepth 100000 in
set_option maxHeartbeats 0 in
theorem PySem.Challenge.cw_tipwell_k22_whole_trimmed_act_alike_holds : PySem.Challenge.rw_tipwell_k22_whole_trimmed_act_alike.Holds := by
 w_on;o_law;k_head;(case hw=>w_witness2)
 k_fill
 refine Tw.walk (l:=PySem.Challenge.rw_tipwell_k22_whole_trimmed_act_alike) rfl rfl (fun w h Y=>by first | exact PySem.W.kIn_of Y | exact PySem.W.km_in_of Y) ?F
 case F=>
  intro w mg fa h KX G hmg
  refine' Tw.all_mk KX G hmg ?_ ?_ ?_ ?_ ?_ ?_ ?_ ?_ ?_ ?_ ?_ ?_ ?_ ?_ ?_ ?_ ?_ ?_ ?_ ?_ ?_ ?_ ?_ ?_ ?_ ?_ ?_ ?_ ?_ ?_ ?_ ?_ ?_ ?_ ?_ ?_ ?_ ?_ ?_ ?_ ?_ ?_ ?_ ?_ ?_ ?_ ?_ ?_ ?_ ?_ ?_ ?_ ?_ ?_ ?_ ?_ ?_ ?_ ?_ ?_ ?_ ?_ ?_ ?_ ?_ ?_ ?_ ?_ ?_ ?_ ?_ ?_ ?_ ?_ ?_ ?_ ?_ ?_ ?_ ?_ ?_ ?_ ?_ ?_ ?_ ?_ ?_ ?_ ?_ ?_ ?_ ?_ ?_ ?_ ?_ ?_ ?_ ?_ ?_ ?_ ?_ ?_ ?_ ?_ ?_ ?_ ?_ ?_ ?_ ?_ ?_ ?_ ?_ ?_ ?_ ?_ ?_ ?_ ?_ ?_ ?_ ?_ ?_ ?_ ?_ ?_ ?_ ?_ ?_ ?_ ?_ ?_ ?_ ?_ ?_ ?_ ?_ ?_ ?_ ?_ ?_ ?_ ?_ ?_ ?_ ?_ ?_ ?_ ?_ ?_ ?_ ?_ ?_ ?_ ?_ ?_ ?_ ?_ ?_ ?_ ?_ ?_ ?_ ?_ ?_ ?_ ?_ ?_ ?_ ?_ ?_ ?_ ?_ ?_ ?_ ?_ ?_ ?_ ?_ ?_ ?_ ?_ ?_ ?_ ?_ ?_ ?_ ?_ ?_ ?exV
  all_goals try k_is
  (case exV=>k_exc)
#print axioms PySem.Challenge.cw_tipwell_k22_whole_trimmed_act_alike_holds