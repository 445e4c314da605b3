import PyProof.Rows.All
import Wide.All
import OpenK.AllK
import Wide.FinOn
import Lean
import PyProof.EqAt
import PyProof.EqKinds
import PyProof.TupleCall
import PyProof.FactsAll.NoneType
import PyProof.ZipIter
import PyProof.EnumMake
import KE.KUnpack
import KE.KTryMore
import PyProof.NsDelKeeps
import PyProof.NeKinds
import KE.RegKIsAll
import KE.RegKTryMore
import PySem.Challenge.RW_tipwell_k38_whole_two_books
set_option Elab.async false
set_option linter.all false
set_option maxRecDepth 100000
namespace L2
open PySem PySem.Spec PyProof.Rows
noncomputable abbrev Key:=Sum Int (Option Str)
noncomputable def isNon:Value→Bool
 | .none=>true
 | _=>false
theorem isNon_shape {v:Value} (h:isNon v=true):v=Value.none:=by
 cases v <;> simp_all [isNon]
noncomputable def keyIs:Key→Value→Bool
 | .inl k,v=>Value.isInt k v
 | .inr (some x),v=>Value.isStrOf x v
 | .inr none,v=>isNon v
noncomputable def hashNon:Int:=0xFCA86420
noncomputable def keyH (w:World):Key→Int
 | .inl k=>hashInt k
 | .inr (some x)=>hashStr w x
 | .inr none=>hashNon
theorem cW:∀ {k:Key}{v:Value},keyIs k v=true→(∃ i t,k=Sum.inl i∧v=Value.int i t)∨(∃ x t,k=Sum.inr (some x)∧v=Value.str x t)∨(k=Sum.inr none∧v=Value.none)
 | .inl i,v,h=>by
  obtain⟨t,e⟩:=Value.isInt_shape (k:=i) (v:=v) h
  exact .inl ⟨i,t,rfl,e⟩
 | .inr (some x),v,h=>by
  obtain⟨t,e⟩:=Value.isStrOf_shape (x:=x) (v:=v) h
  exact .inr (.inl ⟨x,t,rfl,e⟩)
 | .inr none,v,h=>.inr (.inr ⟨rfl,isNon_shape h⟩)
theorem keyIs_int (i:Int) (t:Tok):keyIs (.inl i) (.int i t)=true:=by simp [keyIs,Value.isInt]
theorem keyIs_str (x:Str) (t:Tok):keyIs (.inr (some x)) (.str x t)=true:=by simp [keyIs,Value.isStrOf]
theorem key_ll (a b:Int):decide ((Sum.inl a:Key)=Sum.inl b)=(a == b):=by
 by_cases e:a=b
 ·subst e;simp
 ·have h:¬ (Sum.inl a:Key)=Sum.inl b:=fun q=>e (Sum.inl.inj q)
  rw[decide_eq_false h]
  exact (beq_eq_false_iff_ne.mpr e).symm
theorem key_rr (a b:Str):decide ((Sum.inr (some a):Key)=Sum.inr (some b))=decide (a=b):=by
 by_cases e:a=b
 ·subst e;simp
 ·have h:¬ (Sum.inr (some a):Key)=Sum.inr (some b):=fun q=>e (Option.some.inj (Sum.inr.inj q))
  rw[decide_eq_false h,decide_eq_false e]
theorem key_li (i:Int) (o:Option Str):decide ((Sum.inl i:Key)=Sum.inr o)=false:=decide_eq_false (fun q=>nomatch q)
theorem key_il (i:Int) (o:Option Str):decide ((Sum.inr o:Key)=Sum.inl i)=false:=decide_eq_false (fun q=>nomatch q)
theorem key_sn (x:Str):decide ((Sum.inr (some x):Key)=Sum.inr none)=false:=decide_eq_false (fun q=>nomatch (Sum.inr.inj q))
theorem key_ns (x:Str):decide ((Sum.inr none:Key)=Sum.inr (some x))=false:=decide_eq_false (fun q=>nomatch (Sum.inr.inj q))
theorem hash_non {prog:Program}{w:World}{A:Around}{E:Value→Shared→Prop}{s:Shared}{Q:Int→Shared→Prop} (h:Q hashNon { s with toks:=s.toks+1 }) :
  wpAny (model prog w) A (pyHash .none) Q E s:=by
 have hT:s.TypeIs .none "NoneType" := rfl
 unfold pyHash
 have hv:[Value.none].any Value.onHeap=false:=rfl
 refine wpAny_bind ?_
 rw[cRoomFor,if_neg (by rw[hv];exact Bool.false_ne_true)];refine wpAny_pure ?_
 refine wpAny_bind (wpAny_specialOf hT F.slot_NoneType_hash.lookup ?_)
 show wpAny _ _ (if (some (Value.builtin "NoneType.__hash__") == some Value.none)=true then _ else _) Q E s
 rw[if_neg (by rw[beq_builtin_none];exact Bool.false_ne_true)]
 refine wpAny_bind (wpAny_specialOf hT F.slot_NoneType_hash.lookup ?_)
 show wpAny _ _ (callSpecialIfBoundUnlessNone? .none "__hash__" _ >>= _) Q E s
 refine wpAny_bind (wpAny_callSpecialIfBoundUnlessNone?_slot hT F.slot_NoneType_hash
  (wpAny_call_entry F.slot_NoneType_hash hT F.entry_NoneType_hash
   (show wpAny _ _ (do ret (← mkInt hashNon)) _ _ s from wpAny_ret_mkInt ?_) (F.args_NoneType_hash_1 _)))
 show wpAny _ _ (if (decide (-(2:Int) ^ 63≤hashNon) && decide (hashNon < 2 ^ 63))=true then _ else _) Q E _
 rw[if_pos (by decide)]
 exact wpAny_pure h
noncomputable def dI (prog:Program) (w:World):PySem.KeyKind prog w Key where
 is:=keyIs
 hash:=keyH w
 inj:=fun v a b ha hb=>by
  rcases cW ha with ⟨i,t,rfl,rfl⟩ | ⟨x,t,rfl,rfl⟩ | ⟨rfl,rfl⟩
  ·rcases cW hb with ⟨j,u,rfl,e⟩ | ⟨y,u,rfl,e⟩ | ⟨rfl,e⟩
   ·injection e with e1 _;rw[e1]
   ·exact nomatch e
   ·exact nomatch e
  ·rcases cW hb with ⟨j,u,rfl,e⟩ | ⟨y,u,rfl,e⟩ | ⟨rfl,e⟩
   ·exact nomatch e
   ·injection e with e1 _;rw[e1]
   ·exact nomatch e
  ·rcases cW hb with ⟨j,u,rfl,e⟩ | ⟨y,u,rfl,e⟩ | ⟨rfl,e⟩
   ·exact nomatch e
   ·exact nomatch e
   ·rfl
 byValue:=fun k v h=>by
  rcases cW h with ⟨i,t,rfl,rfl⟩ | ⟨x,t,rfl,rfl⟩ | ⟨rfl,rfl⟩ <;> rfl
 pyHash:=fun hv h=>by
  rcases cW hv with ⟨i,t,rfl,rfl⟩ | ⟨x,t,rfl,rfl⟩ | ⟨rfl,rfl⟩
  ·exact wpAny_pyHash_int h
  ·exact wpAny_pyHash_str h
  ·exact hash_non h
 eqBool:=fun hu hv h=>by
  rcases cW hu with ⟨i,t,rfl,rfl⟩ | ⟨x,t,rfl,rfl⟩ | ⟨rfl,rfl⟩
  ·rcases cW hv with ⟨j,u,rfl,rfl⟩ | ⟨y,u,rfl,rfl⟩ | ⟨rfl,rfl⟩
   ·rw[key_ll] at h;exact wpAny_eqBool_int h
   ·rw[key_li] at h;exact SeqAt.EqAt.int_str i t y u _ _ _ _ h
   ·rw[key_li] at h;exact SeqAt.EqAt.int_none i t _ _ _ _ h
  ·rcases cW hv with ⟨j,u,rfl,rfl⟩ | ⟨y,u,rfl,rfl⟩ | ⟨rfl,rfl⟩
   ·rw[key_il] at h;exact SeqAt.EqAt.str_int x t j u _ _ _ _ h
   ·rw[key_rr] at h;exact wpAny_eqBool_str h
   ·rw[key_sn] at h;exact SeqAt.EqAt.str_none x t _ _ _ _ h
  ·rcases cW hv with ⟨j,u,rfl,rfl⟩ | ⟨y,u,rfl,rfl⟩ | ⟨rfl,rfl⟩
   ·rw[key_il] at h;exact SeqAt.EqAt.none_int j u _ _ _ _ h
   ·rw[key_ns] at h;exact SeqAt.EqAt.none_str y u _ _ _ _ h
   ·rw[decide_eq_true rfl] at h;exact SeqAt.EqAt.same Value.none _ _ _ _ h
 «strs»:=fun k x t v h=>by
  rcases cW h with ⟨i,u,rfl,e⟩ | ⟨y,u,rfl,e⟩ | ⟨rfl,e⟩
  ·exact nomatch e
  ·injection e with e1 _
   subst e1
   cases v <;> rfl
  ·exact nomatch e
theorem mixKind_int (prog:Program) (w:World) (i:Int) (t:Tok):(dI prog w).is (.inl i) (.int i t)=true:=keyIs_int i t
theorem mixKind_str (prog:Program) (w:World) (x:Str) (t:Tok):(dI prog w).is (.inr (some x)) (.str x t)=true:=keyIs_str x t
end L2
namespace L2
open PySem PySem.Spec PyProof.Rows
inductive V where
 | non | bl (b:Bool) | int (i:Int) | str (x:Str) | byt (b:Array UInt8) | flt (b:UInt64) | ref (a:Addr) | ty (n:String)
 deriving DecidableEq
noncomputable def bO:V→Value→Prop
 | .non,u=>u=Value.none
 | .bl b,u=>u=Value.bool b
 | .int i,u=>∃ t,u=Value.int i t
 | .str x,u=>∃ t,u=Value.str x t
 | .byt b,u=>∃ t,u=Value.bytes b t
 | .flt b,u=>∃ t,u=Value.float b t
 | .ref a,u=>u=Value.ref a
 | .ty n,u=>u=Value.type n
noncomputable abbrev bP:List V→List Value→Prop:=Paired bO
theorem bP.length {xs:List V}{us:List Value} (r:bP xs us):xs.length=us.length:=Paired.length r
theorem bP.get:∀ {xs:List V}{us:List Value}{i:Nat}{x:V},bP xs us→xs[i]? = some x→∃ u,us[i]? = some u∧bO x u
 | _,_,_,_,.nil,e=>by simp at e
 | _,_,0,_,.cons r _,e=>by simp at e;subst e;exact⟨_,rfl,r⟩
 | _,_,i+1,x,.cons _ t,e=>by
  obtain⟨u,h1,h2⟩:=bP.get (i:=i) (x:=x) t (by simpa using e)
  exact⟨u,by simpa using h1,h2⟩
theorem bP.set {x:V}{u:Value} (r:bO x u):∀ {xs:List V}{us:List Value} (i:Nat),bP xs us→bP (xs.set i x) (us.set i u)
 | _,_,_,.nil=>.nil
 | _,_,0,.cons _ t=>.cons r t
 | _,_,i+1,.cons q t=>.cons q (bP.set r i t)
theorem bP.append:∀ {xs ys:List V}{us ws:List Value},bP xs us→bP ys ws→bP (xs++ys) (us++ws)
 | _,_,_,_,.nil,s=>s
 | _,_,_,_,.cons r t,s=>.cons r (bP.append t s)
theorem bP.take:∀ {xs:List V}{us:List Value} (n:Nat),bP xs us→bP (xs.take n) (us.take n)
 | _,_,0,_=>.nil
 | _,_,_+1,.nil=>.nil
 | _,_,n+1,.cons r t=>.cons r (bP.take n t)
theorem bP.drop:∀ {xs:List V}{us:List Value} (n:Nat),bP xs us→bP (xs.drop n) (us.drop n)
 | _,_,0,r=>r
 | _,_,_+1,.nil=>.nil
 | _,_,n+1,.cons _ t=>bP.drop n t
noncomputable def RelO:Option V→Option Value→Prop
 | some v,some u=>bO v u
 | none,none=>True
 | _,_=>False
noncomputable def KV {κ:Type}:List (κ×V)→List (κ×Value)→Prop:=Paired fun (p:κ×V) (q:κ×Value)=>p.1=q.1∧bO p.2 q.2
noncomputable def kV:Key→V
 | .inl i=>.int i
 | .inr (some x)=>.str x
 | .inr none=>.non
inductive HO where
 | lst (xs:List V)
 | tup (xs:List V)
 | dK (kvs:List (Key×V)) | dT (kvs:List (List Key×V))
 | set (S:Int→Bool) (n:Nat)
 | ins (C dx:Addr) (fs:List (Str×V))
 | own (x:Addr)
 | xd (fs:List (Str×V))
 | met (f x:Addr)
 | rng (lo hi:Int)
 | frz (o:Obj) (u:HO)
 | tbl (ps:Array Value)
 | ext (φ:Heap→Prop)
noncomputable abbrev Hp:=Addr→Option HO
noncomputable def upd (H:Hp) (a:Addr) (o:HO):Hp:=fun b=>if b=a then some o else H b
theorem aD {H:Hp}{a:Addr}{o:HO}:upd H a o a=some o:=by unfold upd;rw[if_pos rfl]
theorem aP {H:Hp}{a b:Addr}{o:HO} (h:b≠a):upd H a o b=H b:=by unfold upd;rw[if_neg h]
theorem upd_upd {H:Hp}{a:Addr}{o u:HO}:upd (upd H a o) a u=upd H a u:=by
 funext b;unfold upd;split <;> rfl
theorem ne_of {H:Hp}{a b:Addr}{o u:HO} (h:H a=some o) (h':H b=some u) (d:o≠u):a≠b:=by
 intro e;subst e;rw[h] at h';exact d (Option.some.inj h')
theorem aQ {H:Hp}{a b:Addr}{o:HO} (h:H a=some o) (h':H b=none):a≠b:=by
 intro e;subst e;rw[h] at h';cases h'
section
variable (P:Program) (w:World)
noncomputable def dP (H:Hp) (h:Heap) (a:Addr):HO→Prop
 | .lst xs=>xs.length≤sizeLine∧∃ (its:List Value) (n:Nat),bP xs its∧h.get? a=some { cls:=.type "list",data:=.seq its.toArray n }
 | .tup xs=>xs.length≤sizeLine∧∃ its:List Value,bP xs its∧IsTup h a its.toArray
 | .dK kvs=>kvs.length≤sizeLine∧(a == sysModules)=false∧∃ vs,KV kvs vs∧h.DictOf (dI P w) a vs
 | .dT kvs=>kvs.length≤sizeLine∧(a == sysModules)=false∧∃ xs:List (List Key×Addr×Value),
   Paired (fun (p:List Key×V) (q:List Key×Addr×Value)=>p.1=q.1∧H q.2.1=some (.tup (p.1.map kV))∧bO p.2 q.2.2) kvs xs∧
   ∃ o es ep,h.get? a=some o∧o.ExactDict∧o.data=.dict es ep∧es.toList=xs.map (entryOfKey (tupleKind (dI P w)))∧(xs.map (·.1)).Nodup
 | .set S n=>h.SetOf (intKind P w) a S n
 | .ins C dx fs=>H dx=some (.own a)∧fs.length≤1000∧dx≠a∧h.get? a=some (PySem.W.instObj C dx)∧
   ∃ mA,h.Ns1 dx mA∧(∀ f,RelO (fs.lookup f) (mA f))∧PySem.Within mA (fs.map (·.1))
 | .own _=>∃ o,h.get? a=some o
 | .xd fs=>∃ mA,h.Ns1 a mA∧∀ f,RelO (fs.lookup f) (mA f)
 | .rng lo hi=>∃ t u v,h.get? a=some { cls:=.type "range",data:=.fields #[.int lo t,.int hi u,.int 1 v] }
 | .frz o u=>h.get? a=some o∧dP H h a u
 | .tbl ps=>h.get? a=some { cls:=.none,data:=.fields ps }
 | .met f x=>h.get? a=some (PySem.W.methodObj (.ref f) (.ref x))
 | .ext φ=>φ h∧(∃ o,h.get? a=some o)∧∀ h1 h2:Heap,φ h1→(∀ o,h1.get? a=some o→h2.get? a=some o)→φ h2
noncomputable def HOk (H:Hp) (h:Heap):Prop:=∀ a o,H a=some o→dP P w H h a o
end
section
variable {P:Program}{w:World}{H H':Hp}{h h':Heap}{a:Addr}{o:HO}
theorem dP.lt (x:dP P w H h a o):a < h.objs.size:=by
 cases o with
 | lst xs=>obtain⟨_,_,_,_,e⟩:=x;exact Heap.lt_size e
 | tup xs=>obtain⟨_,_,_,p⟩:=x;exact p.lt
 | dK kvs=>obtain⟨_,_,_,_,o,_,_,e,_⟩:=x;exact Heap.lt_size e
 | dT kvs=>obtain⟨_,_,_,_,o,_,_,e,_⟩:=x;exact Heap.lt_size e
 | set S n=>obtain⟨o,_,_,_,e,_⟩:=x;exact Heap.lt_size e
 | ins C dx fs=>obtain⟨_,_,_,e,_⟩:=x;exact Heap.lt_size e
 | own y=>obtain⟨_,e⟩:=x;exact Heap.lt_size e
 | xd fs=>obtain⟨_,⟨_,_,_,e,_⟩,_⟩:=x;exact Heap.lt_size e
 | rng lo hi=>obtain⟨_,_,_,e⟩:=x;exact Heap.lt_size e
 | frz ob u=>obtain⟨e,_⟩:=x;exact Heap.lt_size e
 | tbl ps=>exact Heap.lt_size (show h.get? a=some _ from x)
 | met f y=>exact Heap.lt_size (show h.get? a=some _ from x)
 | ext φ=>obtain⟨_,⟨_,e⟩,_⟩:=x;exact Heap.lt_size e
theorem Paired.mapP {α β:Type}{F G:α→β→Prop}:∀ {l₁:List α}{l₂:List β},Paired F l₁ l₂→(∀ a b,F a b→G a b)→Paired G l₁ l₂
 | _,_,.nil,_=>.nil
 | _,_,.cons r t,f=>.cons (f _ _ r) (Paired.mapP t f)
theorem dP.stay (x:dP P w H h a o) (k:∀ b u,(b=a∨H b=some (.own a))→h.get? b=some u→h'.get? b=some u)
  (ho:∀ b,H b=some (.own a)→H' b=some (.own a)) (ht:∀ b xs,H b=some (.tup xs)→H' b=some (.tup xs)):dP P w H' h' a o:=by
 induction o with
 | lst xs=>obtain⟨z,its,n,r,e⟩:=x;exact⟨z,its,n,r,k _ _ (.inl rfl) e⟩
 | tup xs=>obtain⟨z,its,r,ob,e,c⟩:=x;exact⟨z,its,r,ob,k _ _ (.inl rfl) e,c⟩
 | dK kvs=>obtain⟨z,y,vs,r,ob,es,ep,e,c⟩:=x;exact⟨z,y,vs,r,ob,es,ep,k _ _ (.inl rfl) e,c⟩
 | dT kvs=>
  obtain⟨z,y,xs,r,ob,es,ep,e,c⟩:=x
  exact⟨z,y,xs,Paired.mapP r fun p q z=>⟨z.1,ht _ _ z.2.1,z.2.2⟩,ob,es,ep,k _ _ (.inl rfl) e,c⟩
 | set S n=>obtain⟨ob,es,ep,t,e,c⟩:=x;exact⟨ob,es,ep,t,k _ _ (.inl rfl) e,c⟩
 | ins C dx fs=>
  obtain⟨d,z,ne,e,mA,⟨od,es,ep,e2,c⟩,r⟩:=x
  exact⟨ho _ d,z,ne,k _ _ (.inl rfl) e,mA,⟨od,es,ep,k _ _ (.inr d) e2,c⟩,r⟩
 | own y=>obtain⟨ob,e⟩:=x;exact⟨ob,k _ _ (.inl rfl) e⟩
 | xd fs=>obtain⟨mA,⟨od,es,ep,e,c⟩,r⟩:=x;exact⟨mA,⟨od,es,ep,k _ _ (.inl rfl) e,c⟩,r⟩
 | rng lo hi=>obtain⟨t,u,v,e⟩:=x;exact⟨t,u,v,k _ _ (.inl rfl) e⟩
 | frz ob u ih=>obtain⟨e,q⟩:=x;exact⟨k _ _ (.inl rfl) e,ih q⟩
 | tbl ps=>
  have e:h.get? a=some { cls:=.none,data:=.fields ps }:=x
  show h'.get? a=some { cls:=.none,data:=.fields ps }
  exact k a _ (.inl rfl) e
 | met f y=>
  have e:h.get? a=some (PySem.W.methodObj (.ref f) (.ref y)):=x
  show h'.get? a=some (PySem.W.methodObj (.ref f) (.ref y))
  exact k a _ (.inl rfl) e
 | ext φ=>obtain⟨p,⟨o,e⟩,st⟩:=x;exact⟨st _ _ p fun o q=>k _ _ (.inl rfl) q,⟨o,k _ _ (.inl rfl) e⟩,st⟩
theorem HOk.lt (x:HOk P w H h) (e:H a=some o):a < h.objs.size:=(x a o e).lt
theorem HOk.fresh (x:HOk P w H h) (e:h.objs.size≤a):H a=none:=by
 cases q:H a with
 | none=>rfl
 | some u=>exact absurd (Nat.lt_of_lt_of_le (x.lt q) e) (Nat.lt_irrefl _)
theorem HOk.kept (x:HOk P w H h) (k:∀ b u,h.get? b=some u→h'.get? b=some u):HOk P w H h':=fun a o e=>
 (x a o e).stay (fun b u _ q=>k b u q) (fun _ q=>q) fun _ _ q=>q
theorem HOk.laid (x:HOk P w H h) (k:∀ b u,h.get? b=some u→h'.get? b=some u) (hp:h.objs.size≤a) (new:dP P w (upd H a o) h' a o):HOk P w (upd H a o) h':=fun b u e=>by
 have hn:=x.fresh hp
 by_cases hb:b=a
 ·subst hb;rw[aD] at e;cases e;exact new
 ·rw[aP hb] at e
  exact (x b u e).stay (fun c v _ q=>k c v q) (fun c q=>by rw[aP (aQ q hn)];exact q) fun c xs q=>by rw[aP (aQ q hn)];exact q
end
noncomputable def Rd (H:Hp) (a:Addr) (u:HO):Prop:=H a=some u∨∃ o,H a=some (.frz o u)
theorem Rd.ok {P:Program}{w:World}{H:Hp}{h:Heap}{a:Addr}{u:HO} (r:Rd H a u) (x:HOk P w H h):dP P w H h a u:=by
 rcases r with r | ⟨o,r⟩
 ·exact x a u r
 ·obtain⟨_,q⟩:=x a _ r
  exact q
noncomputable def Mut:Option HO→Prop
 | some (.lst _)=>True
 | some (.dK _)=>True
 | some (.dT _)=>True
 | some (.set _ _)=>True
 | some (.ins _ _ _)=>True
 | some (.ext _)=>True
 | _=>False
section
variable {P:Program}{w:World}{H:Hp}{h h':Heap}{x e:Addr}{o':HO}
theorem HOk.write (ok:HOk P w H h) (mu:Mut (H x)) (he:e=x∨H e=some (.own x)) (k:∀ b u,b≠e→h.get? b=some u→h'.get? b=some u) (heo:∃ u,h'.get? e=some u)
  (new:dP P w (upd H x o') h' x o'):HOk P w (upd H x o') h':=fun b u q=>by
 have nown:∀ c y,H c=some (.own y)→c≠x:=fun c y r z=>by subst z;rw[r] at mu;exact mu
 have ntup:∀ c xs,H c=some (.tup xs)→c≠x:=fun c xs r z=>by subst z;rw[r] at mu;exact mu
 by_cases hb:b=x
 ·subst hb;rw[aD] at q;cases q;exact new
 ·rw[aP hb] at q
  by_cases hbe:b=e
  ·have q':H b=some (.own x):=by
    rcases he with z | z
    ·exact absurd (hbe.trans z) hb
    ·rw[hbe];exact z
   rw[q] at q';cases q'
   obtain⟨v,hv⟩:=heo
   exact⟨v,by rw[hbe];exact hv⟩
  ·refine (ok b u q).stay (fun c v hc r=>k c v ?_ r) (fun c r=>by rw[aP (nown c b r)];exact r) fun c xs r=>by rw[aP (ntup c xs r)];exact r
   rcases hc with rfl | hc
   ·exact hbe
   ·rintro rfl
    rcases he with z | z
    ·exact nown c b hc z
    ·rw[hc] at z;cases z;exact hb rfl
end
structure Un (fs ex:List Addr) (H H':Hp) (h h':Heap):Prop where
 keep:∀ b o,h.get? b=some o→H b=none→b∉fs→b∉ex→h'.get? b=some o
 slot:∀ b o,h.get? b=some o→H b=none→b∈fs→b∉ex→∃ sl,h'.get? b=some { o with slots:=sl }
 free:∀ b o,h.get? b=some o→H b=none→b∉ex→H' b=none
 there:∀ b o,h.get? b=some o→b∉ex→∃ o',h'.get? b=some o'
 tups:∀ b xs,H b=some (.tup xs)→H' b=some (.tup xs)
 frzs:∀ b o u,H b=some (.frz o u)→H' b=some (.frz o u)
 tbls:∀ b ps,H b=some (.tbl ps)→∃ more,H' b=some (.tbl (ps++more))
section
variable {fs fs' ex ex':List Addr}{H H1 H2:Hp}{h h1 h2 h':Heap}{a x e:Addr}{o:HO}
theorem Un.any (u:Un fs ex H H1 h h1) {b:Addr}{ob:Obj} (q:h.get? b=some ob) (n:H b=none) (hx:b∉ex):∃ sl,h1.get? b=some { ob with slots:=sl }:=by
 by_cases hb:b∈fs
 ·exact u.slot b ob q n hb hx
 ·exact⟨ob.slots,u.keep b ob q n hb hx⟩
theorem Un.kept (k:∀ b u,h.get? b=some u→h'.get? b=some u):Un fs ex H H h h':=
 ⟨fun b ob q _ _ _=>k b ob q,fun b ob q _ _ _=>⟨ob.slots,k b ob q⟩,fun _ _ _ n _=>n,fun b ob q _=>⟨ob,k b ob q⟩,fun _ _ q=>q,fun _ _ _ q=>q,fun _ ps q=>⟨#[],by rw[q];simp⟩⟩
theorem Un.refl:Un fs ex H H h h:=Un.kept fun _ _ q=>q
theorem Un.laid (k:∀ b u,h.get? b=some u→h'.get? b=some u) (hp:h.objs.size≤a) (hn:H a=none):Un fs ex H (upd H a o) h h' where
 keep:=fun b u q _ _ _=>k b u q
 slot:=fun b u q _ _ _=>⟨u.slots,k b u q⟩
 free:=fun b u q n _=>by rw[aP (Nat.ne_of_lt (Nat.lt_of_lt_of_le (Heap.lt_size q) hp))];exact n
 there:=fun b u q _=>⟨u,k b u q⟩
 tups:=fun b xs q=>by rw[aP (aQ q hn)];exact q
 frzs:=fun b u xs q=>by rw[aP (aQ q hn)];exact q
 tbls:=fun b ps q=>⟨#[],by rw[aP (aQ q hn),q];simp⟩
theorem Un.write (mu:Mut (H x)) (he:e=x∨H e=some (.own x)) (k:∀ b u,b≠e→h.get? b=some u→h'.get? b=some u) (heo:∃ u,h'.get? e=some u):Un fs ex H (upd H x o) h h':=by
 have hx:∀ b,H b=none→b≠x:=fun b n z=>by subst z;rw[n] at mu;exact mu
 have hb:∀ b,H b=none→b≠e:=fun b n z=>by
  subst z
  rcases he with r | r
  ·exact hx b n r
  ·rw[n] at r;cases r
 have hm:∀ b u,H b=some u→¬ Mut (some u)→b≠x:=fun b u q nm z=>by subst z;rw[q] at mu;exact nm mu
 refine⟨fun b u q n _ _=>k b u (hb b n) q,fun b u q n _ _=>⟨u.slots,k b u (hb b n) q⟩,fun b u q n _=>by rw[aP (hx b n)];exact n,fun b u q _=>?_,
  fun b xs q=>by rw[aP (hm b _ q fun z=>z)];exact q,fun b u xs q=>by rw[aP (hm b _ q fun z=>z)];exact q,fun b ps q=>⟨#[],by rw[aP (hm b _ q fun z=>z),q];simp⟩⟩
 by_cases hbe:b=e
 ·subst hbe;exact heo
 ·exact⟨u,k b u hbe q⟩
end
noncomputable def trk (h:Heap) (H:Hp):List Addr:=(List.range h.objs.size).filter fun a=>(H a).isSome
noncomputable def hidT (h:Heap) (H:Hp):Heap:=PySem.W.hideAll h (trk h H)
theorem hidT_size (h:Heap) (H:Hp):(hidT h H).objs.size=h.objs.size:=PySem.W.hideAll_size _ _
theorem hidT_get {h:Heap}{H:Hp}{b:Addr}{o:Obj} (e:h.get? b=some o) (n:H b=none):(hidT h H).get? b=some o:=
 PySem.W.hideAll_get _ e fun hm=>by
  have q:(H b).isSome=true:=(List.mem_filter.mp hm).2
  rw[n] at q;simp at q
theorem of_hidT {h:Heap}{H:Hp}{b:Addr}{o:Obj} (e:(hidT h H).get? b=some o):h.get? b=some o∧H b=none:=by
 have e':h.get? b=some o:=PySem.W.of_hideAll (trk h H) e
 refine⟨e',?_⟩
 cases q:H b with
 | none=>rfl
 | some x=>
  have hm:b∈trk h H:=List.mem_filter.mpr ⟨List.mem_range.mpr (Heap.lt_size e'),by simp [q]⟩
  have z:(hidT h H).get? b=none:=PySem.W.hideAll_none (trk h H) hm
  rw[z] at e;cases e
end L2
namespace L2
open PySem PySem.Spec PyProof.Rows
structure Mod (K:PySem.W.Frag) (mg:Str→Option Value) (base:Heap):Prop where
 kin:K.In base
 glob:base.Ns mainGlobals mg
 blt:∃ mb,base.Ns builtinsNs mb∧∀ x:Str,x ≠ "__name__" → mb x=bootBuiltins x
 nolimit:base.NoLimit
structure Cx where
 prog:Program
 w:World
 K:PySem.W.Frag
 mg:Str→Option Value
 base:Heap
 A:Around
 N:List Str
 s₀:Shared
 H₀:Hp
 env:Env
 outer:List Env
 stack:List Env
 ex:List Addr
 fn:Str→Bool
 calm:Bool
 pn:List (Addr×Obj)
 xe:Value→Shared→Prop
noncomputable def frs (l:List Env):List Addr:=l.filterMap (·.frame)
noncomputable abbrev Cx.fs (X:Cx):List Addr:=frs X.outer
noncomputable def Vis (sc:Scope) (x:Str):Prop:=sc.names.lookup x=some .local∨sc.names.lookup x=some .cell∨sc.names.lookup x=some .free
noncomputable def Loc (sc:Scope) (x:Str):Prop:=sc.names.lookup x=some .local∨sc.names.lookup x=some .cell
noncomputable def Look (env:Env) (h:Heap) (m:Str→Option Value) (x:Str) (u:Value):Prop:=
 (env.kindOf x=some .local∧m x=some u)∨((env.kindOf x=some .cell∨env.kindOf x=some .free)∧∃ c,env.cells.lookup x=some c∧h.IsCell c (some u))
structure Cx.Ok (X:Cx):Prop where
 mod:Mod X.K X.mg X.base
 kind:X.env.scope.kind=.function
 glob:X.env.globals=mainGlobals
 blt:X.env.builtins=builtinsNs
 above:X.s₀.heap.objs.size≤X.env.locals
 inj:∀ x y c,X.env.cells.lookup x=some c→X.env.cells.lookup y=some c→x=y
 has:∀ x,(X.env.kindOf x=some .cell∨X.env.kindOf x=some .free)→∃ c,X.env.cells.lookup x=some c
 cab:∀ x c,X.fn x=true→X.env.cells.lookup x=some c→X.s₀.heap.objs.size≤c
 hd:X.calm=true→X.A.handled=none
 frames:X.A.frames=some X.stack
 stk:X.stack=X.outer∨(X.stack=X.env::X.outer∧X.env.frame=some X.env.locals)
 exf:∀ b∈X.ex,b≠X.env.locals∧∀ x c,X.env.cells.lookup x=some c→c≠b
 bs:∀ b o,X.base.get? b=some o→X.s₀.heap.get? b=some o∧X.H₀ b=none
 bsz:X.base.objs.size≤X.s₀.heap.objs.size
 noex:∀ b o,X.base.get? b=some o→b∉X.ex
 exfs:∀ b∈X.ex,b∉X.fs
 funs:X.s₀.heap.FunFrames X.base X.outer
 frf:∀ b∈X.fs,X.H₀ b=none
structure Inv (X:Cx) (pins:List (Addr×Obj)) (σ:List (Option V)) (H:Hp) (s:Shared):Prop where
 ok:X.Ok
 os:s.os=X.s₀.os
 bare:AllBare s.gens
 base:Un X.fs X.ex X.H₀ H X.s₀.heap s.heap
 loc:∃ m,s.heap.Ns X.env.locals m∧∀ (i:Nat) (x:Str) (v:V),X.N[i]? = some x→σ[i]? = some (some v)→Vis X.env.scope x→∃ u,bO v u∧Look X.env s.heap m x u
 cell:∀ x c,X.env.cells.lookup x=some c→∃ v,s.heap.IsCell c v
 free:H X.env.locals=none
 freeC:∀ x c,X.env.cells.lookup x=some c→H c=none
 pin:∀ p∈X.pn++pins,s.heap.get? p.1=some p.2∧H p.1=none∧p.1≠X.env.locals∧p.1∉X.fs∧∀ v,p.2.data≠.cell v
 hok:HOk X.prog X.w H s.heap
 len:σ.length=X.N.length
section
variable {X:Cx}{pins:List (Addr×Obj)}{σ:List (Option V)}{H H':Hp}{s:Shared}{h':Heap}
theorem Cx.Ok.nofr (ok:X.Ok) {b:Addr}{o:Obj} (e:X.base.get? b=some o):b∉X.fs:=fun hb=>by
 have:=(ok.funs.mem hb).1
 rw[e] at this;cases this
theorem Inv.bs (I:Inv X pins σ H s):∀ b o,X.base.get? b=some o→s.heap.get? b=some o∧H b=none:=fun b o e=>
 ⟨I.base.keep b o (I.ok.bs b o e).1 (I.ok.bs b o e).2 (I.ok.nofr e) (I.ok.noex b o e),I.base.free b o (I.ok.bs b o e).1 (I.ok.bs b o e).2 (I.ok.noex b o e)⟩
theorem Inv.bk (I:Inv X pins σ H s):∀ b o,X.base.get? b=some o→s.heap.get? b=some o:=fun b o e=>(I.bs b o e).1
theorem Inv.mod (I:Inv X pins σ H s):Mod X.K X.mg X.base:=I.ok.mod
theorem Inv.kIn (I:Inv X pins σ H s):X.K.In s.heap:=I.ok.mod.kin.keeps I.bk
theorem Inv.lt (I:Inv X pins σ H s):X.env.locals < s.heap.objs.size:=let ⟨_,hn,_⟩:=I.loc;hn.lt
theorem Inv.sz (I:Inv X pins σ H s):X.s₀.heap.objs.size≤s.heap.objs.size:=Nat.le_trans I.ok.above (Nat.le_of_lt I.lt)
theorem Inv.nofs (I:Inv X pins σ H s) {a:Addr} (h:s.heap.objs.size≤a):a∉X.fs:=fun hb=>by
 obtain⟨_,o,ho,_⟩:=I.ok.funs.mem hb
 exact absurd (Nat.lt_of_lt_of_le (Heap.lt_size ho) (Nat.le_trans I.sz h)) (Nat.lt_irrefl _)
theorem Inv.cne (I:Inv X pins σ H s):∀ x c,X.env.cells.lookup x=some c→c≠X.env.locals:=fun x c e z=>by
 obtain⟨v,o,ho,hd⟩:=I.cell x c e
 obtain⟨m,⟨o',es,ep,ho',hd',_⟩,_⟩:=I.loc
 rw[z,ho'] at ho;cases ho;rw[hd'] at hd;cases hd
theorem Inv.funs (I:Inv X pins σ H s):s.heap.FunFrames X.base X.outer:=by
 have all:∀ (l:List Env),(∀ b∈frs l,b∈X.fs)→X.s₀.heap.FunFrames X.base l→s.heap.FunFrames X.base l:=by
  intro l
  induction l with
  | nil=>intro _ _;trivial
  | cons env r ih=>
   intro hs hl
   obtain⟨hk,⟨L,o,hf,hn,ho,hd⟩,hr⟩:=hl
   have hL:L∈X.fs:=hs L (by unfold frs;rw[List.filterMap_cons,hf];exact List.mem_cons_self)
   obtain⟨sl,e⟩:=I.base.slot L o ho (I.ok.frf L hL) hL fun z=>I.ok.exfs L z hL
   exact⟨hk,⟨L,_,hf,hn,e,hd⟩,ih (fun b hb=>hs b (by unfold frs;rw[List.filterMap_cons,hf];exact List.mem_cons_of_mem _ hb)) hr⟩
 exact all X.outer (fun _ hb=>hb) I.ok.funs
theorem Inv.stack (I:Inv X pins σ H s):s.heap.FunFrames X.base X.stack:=by
 rcases I.ok.stk with e | ⟨e,hf⟩
 ·rw[e];exact I.funs
 ·rw[e]
  obtain⟨m,hn,_⟩:=I.loc
  refine .cons (by rw[I.ok.kind];decide) hf hn ?_ I.funs
  exact Heap.get?_none_of_le (Nat.le_trans I.ok.bsz I.ok.above)
theorem Inv.stkSub (I:Inv X pins σ H s):∀ b∈frs X.stack,b∈X.env.locals::X.fs:=fun b hb=>by
 rcases I.ok.stk with e | ⟨e,hf⟩
 ·rw[e] at hb;exact List.mem_cons_of_mem _ hb
 ·rw[e] at hb
  unfold frs at hb
  rw[List.filterMap_cons,hf] at hb
  exact hb
theorem Inv.stkFree (I:Inv X pins σ H s):∀ b∈frs X.stack,H b=none:=fun b hb=>by
 rcases List.mem_cons.mp (I.stkSub b hb) with e | hb
 ·rw[e];exact I.free
 ·obtain⟨_,o,ho,_⟩:=I.ok.funs.mem hb
  exact I.base.free b o ho (I.ok.frf b hb) fun z=>I.ok.exfs b z hb
theorem Inv.step {g':Array GenState}{t':Nat}{d':Drawn}{ch:List Addr} (I:Inv X pins σ H s)
  (hch:∀ b∈ch,(b∈X.ex∨X.s₀.heap.objs.size≤b)∧b≠X.env.locals∧(∀ x c,X.env.cells.lookup x=some c→c≠b)∧∀ p∈X.pn++pins,p.1≠b)
  (keep:∀ b o,b≠X.env.locals→b∉X.fs→b∉ch→s.heap.get? b=some o→H b=none→h'.get? b=some o)
  (slot:∀ b o,b≠X.env.locals→b∈X.fs→b∉ch→s.heap.get? b=some o→H b=none→∃ sl,h'.get? b=some { o with slots:=sl }) (free:∀ b o,b∉ch→s.heap.get? b=some o→H b=none→H' b=none)
  (there:∀ b o,b∉ch→s.heap.get? b=some o→∃ o',h'.get? b=some o')
  (tups:∀ b xs,H b=some (.tup xs)→H' b=some (.tup xs)) (frzs:∀ b o u,H b=some (.frz o u)→H' b=some (.frz o u)) (tbls:∀ b ps,H b=some (.tbl ps)→∃ more,H' b=some (.tbl (ps++more)))
  (ns:∀ m,s.heap.Ns X.env.locals m→h'.Ns X.env.locals m) (hok:HOk X.prog X.w H' h') (hg:AllBare g') :
  Inv X pins σ H' { s with heap:=h',gens:=g',drawn:=d',toks:=t' }:=by
 have neL:∀ b o,X.s₀.heap.get? b=some o→b≠X.env.locals:=fun b o e=>Nat.ne_of_lt (Nat.lt_of_lt_of_le (Heap.lt_size e) I.ok.above)
 have neC:∀ b o,X.s₀.heap.get? b=some o→b∉X.ex→b∉ch:=fun b o e hx hb=>by
  rcases (hch b hb).1 with z | z
  ·exact hx z
  ·exact absurd (Nat.lt_of_lt_of_le (Heap.lt_size e) z) (Nat.lt_irrefl _)
 have cellK:∀ x c,X.env.cells.lookup x=some c→∀ v,s.heap.IsCell c v→h'.IsCell c v:=fun x c e v ⟨o,ho,hd⟩=>by
  have nch:c∉ch:=fun z=>(hch c z).2.2.1 x c e rfl
  by_cases hc:c∈X.fs
  ·obtain⟨sl,q⟩:=slot c o (I.cne x c e) hc nch ho (I.freeC x c e)
   exact⟨_,q,hd⟩
  ·exact⟨o,keep c o (I.cne x c e) hc nch ho (I.freeC x c e),hd⟩
 refine⟨I.ok,I.os,hg,⟨fun b o e n hb hx=>?_,fun b o e n hb hx=>?_,fun b o e n hx=>?_,fun b o e hx=>?_,fun b xs e=>tups b xs (I.base.tups b xs e),fun b o xs e=>frzs b o xs (I.base.frzs b o xs e),fun b ps e=>?_⟩,?_,fun x c e=>?_,?_,fun x c e=>?_,fun p hp=>?_,hok,I.len⟩
 ·exact keep b o (neL b o e) hb (neC b o e hx) (I.base.keep b o e n hb hx) (I.base.free b o e n hx)
 ·obtain⟨sl,e1⟩:=I.base.slot b o e n hb hx
  obtain⟨sl',e2⟩:=slot b _ (neL b o e) hb (neC b o e hx) e1 (I.base.free b o e n hx)
  exact⟨sl',e2⟩
 ·obtain⟨o',e1⟩:=I.base.there b o e hx
  exact free b o' (neC b o e hx) e1 (I.base.free b o e n hx)
 ·obtain⟨o',e1⟩:=I.base.there b o e hx
  exact there b o' (neC b o e hx) e1
 ·obtain⟨m1,e1⟩:=I.base.tbls b ps e
  obtain⟨m2,e2⟩:=tbls b _ e1
  exact⟨m1++m2,by rw[e2,Array.append_assoc]⟩
 ·obtain⟨m,hn,hl⟩:=I.loc
  refine⟨m,ns m hn,fun i x v e1 e2 e3=>?_⟩
  obtain⟨u,r,l⟩:=hl i x v e1 e2 e3
  refine⟨u,r,?_⟩
  rcases l with l | ⟨k,c,e,z⟩
  ·exact .inl l
  ·exact .inr ⟨k,c,e,cellK x c e _ z⟩
 ·obtain⟨v,z⟩:=I.cell x c e
  exact⟨v,cellK x c e v z⟩
 ·obtain⟨m,⟨o,_,_,ho,_⟩,_⟩:=I.loc
  exact free _ o (fun z=>(hch _ z).2.1 rfl) ho I.free
 ·obtain⟨v,o,ho,hd⟩:=I.cell x c e
  exact free c o (fun z=>(hch c z).2.2.1 x c e rfl) ho (I.freeC x c e)
 ·obtain⟨e,n,ne,nf,d⟩:=I.pin p hp
  have nch:p.1∉ch:=fun z=>(hch p.1 z).2.2.2 p hp rfl
  exact⟨keep p.1 p.2 ne nf nch e n,free p.1 p.2 nch e n,ne,nf,d⟩
theorem Inv.un {t':Nat} (I:Inv X pins σ H s) (u:Un X.fs [] H H' s.heap h') (hok:HOk X.prog X.w H' h'):Inv X pins σ H' { s with heap:=h',toks:=t' }:=by
 obtain⟨m,⟨o,es,ep,ho,r⟩,_⟩:=id I.loc
 obtain⟨sl,hL⟩:=u.any ho I.free (by simp)
 exact I.step (g':=s.gens) (d':=s.drawn) (ch:=[]) (fun _ z=>nomatch z) (fun b o _ hb _ e n=>u.keep b o e n hb (by simp)) (fun b o _ hb _ e n=>u.slot b o e n hb (by simp)) (fun b o _ e n=>u.free b o e n (by simp)) (fun b o _ e=>u.there b o e (by simp)) u.tups u.frzs u.tbls (fun m' hm=>by
  obtain⟨o',es',ep',ho',r'⟩:=hm
  rw[ho] at ho';cases ho'
  exact⟨_,es',ep',hL,r'⟩) hok I.bare
theorem Inv.call {g':Array GenState}{t':Nat}{d':Drawn}{ch:List Addr} (I:Inv X pins σ H s) (u:Un (frs X.stack) ch H H' s.heap h') (hok:HOk X.prog X.w H' h') (hg:AllBare g')
  (hch:∀ b∈ch,(b∈X.ex∨X.s₀.heap.objs.size≤b)∧b≠X.env.locals∧(∀ x c,X.env.cells.lookup x=some c→c≠b)∧∀ p∈X.pn++pins,p.1≠b) :
  Inv X pins σ H' { s with heap:=h',gens:=g',drawn:=d',toks:=t' }:=by
 obtain⟨m,⟨o,es,ep,ho,r⟩,_⟩:=id I.loc
 obtain⟨sl,hL⟩:=u.any ho I.free fun z=>(hch _ z).2.1 rfl
 exact I.step (ch:=ch) hch (fun b o hL hb hc e n=>u.keep b o e n (fun z=>(List.mem_cons.mp (I.stkSub b z)).elim hL hb) hc) (fun b o _ _ hc e n=>u.any e n hc) (fun b o hc e n=>u.free b o e n hc) (fun b o hc e=>u.there b o e hc) u.tups u.frzs u.tbls (fun m' hm=>by
  obtain⟨o',es',ep',ho',r'⟩:=hm
  rw[ho] at ho';cases ho'
  exact⟨_,es',ep',hL,r'⟩) hok hg
theorem Inv.turned {t':Nat}{it:Addr} (I:Inv X pins σ H s) (k:∀ b o,b≠it→s.heap.get? b=some o→h'.get? b=some o) (hn:H it=none) (hL:it≠X.env.locals)
  (h1:it∈X.ex∨X.s₀.heap.objs.size≤it) (h2:∀ x c,X.env.cells.lookup x=some c→c≠it) (h3:∀ p∈X.pn++pins,p.1≠it):Inv X pins σ H { s with heap:=h',toks:=t' }:=by
 have nit:∀ b u,H b=some u→b≠it:=fun b u e z=>by rw[z,hn] at e;cases e
 refine I.step (g':=s.gens) (d':=s.drawn) (ch:=[it]) (fun b hb=>?_) (fun b o _ _ hc e _=>k b o (fun z=>hc (by simp [z])) e) (fun b o _ _ hc e _=>⟨o.slots,k b o (fun z=>hc (by simp [z])) e⟩) (fun _ _ _ _ n=>n)
  (fun b o hc e=>⟨o,k b o (fun z=>hc (by simp [z])) e⟩) (fun _ _ e=>e) (fun _ _ _ e=>e) (fun b ps e=>⟨#[],by rw[e];simp⟩) (fun m hm=>?_) (fun b u e=>?_) I.bare
 ·have e:b=it:=by simpa using hb
  subst e
  exact⟨h1,hL,h2,h3⟩
 ·obtain⟨o,es,ep,ho,r⟩:=hm
  exact⟨o,es,ep,k _ o (Ne.symm hL) ho,r⟩
 ·refine (I.hok b u e).stay (fun c v hc q=>k c v ?_ q) (fun _ q=>q) fun _ _ q=>q
  rcases hc with z | z
  ·rw[z];exact nit b u e
  ·exact nit c _ z
theorem Inv.tok (I:Inv X pins σ H s) (t:Nat):Inv X pins σ H { s with toks:=t }:=I.un (h':=s.heap) (t':=t) Un.refl I.hok
theorem Inv.kept {t':Nat} (I:Inv X pins σ H s) (k:∀ b u,s.heap.get? b=some u→h'.get? b=some u):Inv X pins σ H { s with heap:=h',toks:=t' }:=I.un (Un.kept k) (I.hok.kept k)
theorem Inv.laid {a:Addr}{o:HO}{t':Nat} (I:Inv X pins σ H s) (k:∀ b u,s.heap.get? b=some u→h'.get? b=some u) (hp:s.heap.objs.size≤a) (new:dP X.prog X.w (upd H a o) h' a o) :
  Inv X pins σ (upd H a o) { s with heap:=h',toks:=t' }:=I.un (Un.laid k hp (I.hok.fresh hp)) (I.hok.laid k hp new)
theorem Inv.write {x e:Addr}{o:HO}{t':Nat} (I:Inv X pins σ H s) (mu:Mut (H x)) (he:e=x∨H e=some (.own x)) (k:∀ b u,b≠e→s.heap.get? b=some u→h'.get? b=some u) (heo:∃ u,h'.get? e=some u)
  (new:dP X.prog X.w (upd H x o) h' x o):Inv X pins σ (upd H x o) { s with heap:=h',toks:=t' }:=I.un (Un.write mu he k heo) (I.hok.write mu he k heo new)
theorem Inv.pins_of {pins':List (Addr×Obj)} (I:Inv X pins σ H s) (h:∀ p∈pins',s.heap.get? p.1=some p.2∧H p.1=none∧p.1≠X.env.locals∧p.1∉X.fs∧∀ v,p.2.data≠.cell v):Inv X pins' σ H s:=
 ⟨I.ok,I.os,I.bare,I.base,I.loc,I.cell,I.free,I.freeC,fun p hp=>(List.mem_append.mp hp).elim (fun z=>I.pin p (List.mem_append_left _ z)) (h p),I.hok,I.len⟩
theorem nodup_ix {N:List Str} (hN:N.Nodup) {i j:Nat}{x:Str} (a:N[i]? = some x) (b:N[j]? = some x):i=j:=by
 obtain⟨h1,e1⟩:=List.getElem?_eq_some_iff.mp a
 obtain⟨h2,e2⟩:=List.getElem?_eq_some_iff.mp b
 exact (List.getElem_inj hN).mp (e1.trans e2.symm)
theorem store_ok2 {M:Model}{A:Around}{E:Value→Shared→Prop}{i:Nat}{x:Str}{v:V}{u:Value}{Q:Unit→Shared→Prop} (I:Inv X pins σ H s) (hN:X.N.Nodup) (hi:X.N[i]? = some x) (hx:Loc X.env.scope x) (r:bO v u)
  (h:∀ s',Inv X pins (σ.set i (some v)) H s'→(∃ a,Heap.SameBut a s.heap s'.heap∧(a=X.env.locals∨X.env.cells.lookup x=some a))→Q () s') (hf:X.fn x=true∨X.env.scope.names.lookup x=some .local:=by first | exact .inl rfl | exact .inr rfl | assumption):wpAny M A (storeName X.env x u) Q E s:=by
 obtain⟨m,hn,hl⟩:=id I.loc
 have hcls:(X.env.scope.kind == .class || (X.env.scope.kind == .module && X.env.locals != X.env.globals))=false:=by rw[I.ok.kind];rfl
 have hiσ:i < σ.length:=by rw[I.len];exact (List.getElem?_eq_some_iff.mp hi).1
 have cne:=I.cne
 have tracked:∀ {a:Addr}{h':Heap},(∃ o,s.heap.get? a=some o∧H a=none)→Heap.SameBut a s.heap h'→HOk X.prog X.w H h':=fun {a h'} ha hs b ob e=>by
  obtain⟨_,_,hfree⟩:=ha
  refine (I.hok b ob e).stay (fun c w' hc q=>(hs.2 c ?_).trans q) (fun _ q=>q) fun _ _ q=>q
  rintro rfl
  rcases hc with rfl | hc
  ·rw[hfree] at e;cases e
  ·rw[hfree] at hc;cases hc
 rcases hx with hk | hk
 ·refine wpAny_storeName_local hk hn (fun h' hn' hs=>?_) hcls
  obtain⟨oL,_,_,hoL,_⟩:=id hn
  refine h _ ⟨I.ok,I.os,I.bare,⟨fun b o e n hb hx=>?_,fun b o e n hb hx=>?_,I.base.free,fun b o e hx=>?_,I.base.tups,I.base.frzs,I.base.tbls⟩,⟨_,hn',fun j y v' e1 e2 e3=>?_⟩,fun y c e=>?_,I.free,I.freeC,fun p hp=>?_,tracked ⟨oL,hoL,I.free⟩ hs,by simpa using I.len⟩ ⟨_,hs,.inl rfl⟩
  ·exact (hs.2 b (Nat.ne_of_lt (Nat.lt_of_lt_of_le (Heap.lt_size e) I.ok.above))).trans (I.base.keep b o e n hb hx)
  ·obtain⟨sl,e1⟩:=I.base.slot b o e n hb hx
   exact⟨sl,(hs.2 b (Nat.ne_of_lt (Nat.lt_of_lt_of_le (Heap.lt_size e) I.ok.above))).trans e1⟩
  ·obtain⟨o',e1⟩:=I.base.there b o e hx
   exact⟨o',(hs.2 b (Nat.ne_of_lt (Nat.lt_of_lt_of_le (Heap.lt_size e) I.ok.above))).trans e1⟩
  ·by_cases hj:j=i
   ·subst hj
    rw[hi] at e1;cases e1
    rw[List.getElem?_set_self hiσ] at e2
    cases e2
    exact⟨u,r,.inl ⟨hk,by simp⟩⟩
   ·rw[List.getElem?_set_ne (Ne.symm hj)] at e2
    obtain⟨u',r',q⟩:=hl j y v' e1 e2 e3
    refine⟨u',r',?_⟩
    rcases q with ⟨k,e⟩ | ⟨k,c,e,z⟩
    ·refine .inl ⟨k,?_⟩
     have:y≠x:=fun e=>hj (nodup_ix hN e1 (e ▸ hi))
     simp [this,e]
    ·exact .inr ⟨k,c,e,z.sameBut hs (cne y c e)⟩
  ·obtain⟨w',z⟩:=I.cell y c e
   exact⟨w',z.sameBut hs (cne y c e)⟩
  ·obtain⟨e,n,ne,nf,d⟩:=I.pin p hp
   exact⟨(hs.2 p.1 ne).trans e,n,ne,nf,d⟩
 ·have hfn:X.fn x=true:=by
   rcases hf with z | z
   ·exact z
   ·rw[z] at hk;cases hk
  obtain⟨c,hc⟩:=I.ok.has x (.inl hk)
  obtain⟨w',z⟩:=I.cell x c hc
  refine wpAny_storeName_cell I.ok.kind hk hc z (fun h' hc' hs=>?_)
  obtain⟨oc,hoc,hocd⟩:=id z
  refine h { s with heap:=h' } ⟨I.ok,I.os,I.bare,⟨fun b o e n hb hx=>?_,fun b o e n hb hx=>?_,I.base.free,fun b o e hx=>?_,I.base.tups,I.base.frzs,I.base.tbls⟩,⟨m,hn.sameBut hs (Ne.symm (cne x c hc)),fun j y v' e1 e2 e3=>?_⟩,fun y c' e=>?_,I.free,I.freeC,fun p hp=>?_,tracked ⟨oc,hoc,I.freeC x c hc⟩ hs,by simpa using I.len⟩ ⟨c,hs,.inr hc⟩
  ·exact (hs.2 b (Nat.ne_of_lt (Nat.lt_of_lt_of_le (Heap.lt_size e) (I.ok.cab x c hfn hc)))).trans (I.base.keep b o e n hb hx)
  ·obtain⟨sl,e1⟩:=I.base.slot b o e n hb hx
   exact⟨sl,(hs.2 b (Nat.ne_of_lt (Nat.lt_of_lt_of_le (Heap.lt_size e) (I.ok.cab x c hfn hc)))).trans e1⟩
  ·obtain⟨o',e1⟩:=I.base.there b o e hx
   exact⟨o',(hs.2 b (Nat.ne_of_lt (Nat.lt_of_lt_of_le (Heap.lt_size e) (I.ok.cab x c hfn hc)))).trans e1⟩
  ·by_cases hj:j=i
   ·subst hj
    rw[hi] at e1;cases e1
    rw[List.getElem?_set_self hiσ] at e2
    cases e2
    exact⟨u,r,.inr ⟨.inl hk,c,hc,hc'⟩⟩
   ·rw[List.getElem?_set_ne (Ne.symm hj)] at e2
    obtain⟨u',r',q⟩:=hl j y v' e1 e2 e3
    refine⟨u',r',?_⟩
    rcases q with q | ⟨k,c',e,z'⟩
    ·exact .inl q
    ·refine .inr ⟨k,c',e,z'.sameBut hs ?_⟩
     rintro rfl
     exact hj (nodup_ix hN e1 (I.ok.inj _ _ _ e hc ▸ hi))
  ·by_cases hcc:c'=c
   ·subst hcc;exact⟨_,hc'⟩
   ·obtain⟨w2,z2⟩:=I.cell y c' e
    exact⟨w2,z2.sameBut hs hcc⟩
  ·obtain⟨e,n,ne,nf,d⟩:=I.pin p hp
   refine⟨(hs.2 p.1 ?_).trans e,n,ne,nf,d⟩
   intro q
   rw[q,hoc] at e
   have q':oc=p.2:=Option.some.inj e
   exact d w' (by rw[← q'];exact hocd)
theorem store_ok {M:Model}{A:Around}{E:Value→Shared→Prop}{i:Nat}{x:Str}{v:V}{u:Value}{Q:Unit→Shared→Prop} (I:Inv X pins σ H s) (hN:X.N.Nodup) (hi:X.N[i]? = some x) (hx:Loc X.env.scope x) (r:bO v u)
  (h:∀ s',Inv X pins (σ.set i (some v)) H s'→Q () s') (hf:X.fn x=true∨X.env.scope.names.lookup x=some .local:=by first | exact .inl rfl | exact .inr rfl | assumption):wpAny M A (storeName X.env x u) Q E s:=
 store_ok2 I hN hi hx r (fun s' I' _=>h s' I') hf
theorem Inv.call' {s':Shared}{ch:List Addr} (I:Inv X pins σ H s) (ho:s'.os=s.os) (u:Un (frs X.stack) ch H H' s.heap s'.heap) (hok:HOk X.prog X.w H' s'.heap) (hg:AllBare s'.gens)
  (hch:∀ b∈ch,(b∈X.ex∨X.s₀.heap.objs.size≤b)∧b≠X.env.locals∧(∀ x c,X.env.cells.lookup x=some c→c≠b)∧∀ p∈X.pn++pins,p.1≠b):Inv X pins σ H' s':=by
 obtain⟨h',g',d',t',o'⟩:=s'
 have e:o'=s.os:=ho
 subst e
 exact I.call (g':=g') (t':=t') (d':=d') u hok hg hch
end
noncomputable abbrev XK:=Value→Option Addr→Hp→Prop
noncomputable abbrev St:=List (Option V)
noncomputable abbrev VK:=V→Hp→Prop
noncomputable abbrev TE:=St→Hp→VK→Prop
noncomputable abbrev TT:=St→Hp→(Bool→Hp→Prop)→Prop
noncomputable abbrev TA:=St→Hp→(List V→Hp→Prop)→Prop
structure Ends where
 nx:St→Hp→Prop
 rt:VK
 bk:St→Hp→Prop:=fun _ _=>False
 ct:St→Hp→Prop:=fun _ _=>False
noncomputable abbrev TS:=Ends→St→Hp→Prop
noncomputable def EP (X:Cx) (pins:List (Addr×Obj)) (σ:St) (Q:VK) (u:Value) (s':Shared):Prop:=∃ v H',Inv X pins σ H' s'∧bO v u∧Q v H'
noncomputable def TP (X:Cx) (pins:List (Addr×Obj)) (σ:St) (Q:Bool→Hp→Prop) (b:Bool) (s':Shared):Prop:=∃ H',Inv X pins σ H' s'∧Q b H'
noncomputable def AP (X:Cx) (pins:List (Addr×Obj)) (σ:St) (Q:List V→Hp→Prop) (us:List Value) (s':Shared):Prop:=∃ vs H',Inv X pins σ H' s'∧bP vs us∧Q vs H'
noncomputable def SP (X:Cx) (pins:List (Addr×Obj)) (D:Ends) (f:Flow) (s':Shared):Prop:=
 match f with
 | .next=>∃ σ' H',Inv X pins σ' H' s'∧D.nx σ' H'
 | .brk=>∃ σ' H',Inv X pins σ' H' s'∧D.bk σ' H'
 | .cont=>∃ σ' H',Inv X pins σ' H' s'∧D.ct σ' H'
 | .ret u=>∃ v σ' H',Inv X pins σ' H' s'∧bO v u∧D.rt v H'
noncomputable def PE (X:Cx) (e:Expr) (t:TE):Prop:=
 ∀ (pins:List (Addr×Obj)) (s:Shared) (σ:St) (H:Hp) (Q:VK),Inv X pins σ H s→t σ H Q→wpAny (model X.prog X.w) X.A (eval e X.env) (EP X pins σ Q) X.xe s
noncomputable def PT (X:Cx) (e:Expr) (t:TT):Prop:=
 ∀ (pins:List (Addr×Obj)) (s:Shared) (σ:St) (H:Hp) (Q:Bool→Hp→Prop),Inv X pins σ H s→t σ H Q→wpAny (model X.prog X.w) X.A (isTrue e X.env (eval e X.env)) (TP X pins σ Q) X.xe s
noncomputable def PW (X:Cx) (e:Expr) (t:TT):Prop:=
 ∀ (whole:Sem Value) (pins:List (Addr×Obj)) (s:Shared) (σ:St) (H:Hp) (Q:Bool→Hp→Prop),Inv X pins σ H s→t σ H Q→wpAny (model X.prog X.w) X.A (isTrue e X.env whole) (TP X pins σ Q) X.xe s
theorem PW.pt {X:Cx}{e:Expr}{t:TT} (h:PW X e t):PT X e t:=h _
noncomputable def PA (X:Cx) (es:List Expr) (t:TA):Prop:=
 ∀ (pos:Pos) (pins:List (Addr×Obj)) (s:Shared) (σ:St) (H:Hp) (Q:List V→Hp→Prop),Inv X pins σ H s→t σ H Q→wpAny (model X.prog X.w) X.A (spliced (backTo pos (starEach es X.env))) (AP X pins σ Q) X.xe s
noncomputable def PS (X:Cx) (st:Stmt) (t:TS):Prop:=
 ∀ (pins:List (Addr×Obj)) (s:Shared) (σ:St) (H:Hp) (D:Ends),Inv X pins σ H s→t D σ H→wpAny (model X.prog X.w) X.A (exec st X.env) (SP X pins D) X.xe s
noncomputable def PSs (X:Cx) (st:List Stmt) (t:TS):Prop:=
 ∀ (pins:List (Addr×Obj)) (s:Shared) (σ:St) (H:Hp) (D:Ends),Inv X pins σ H s→t D σ H→wpAny (model X.prog X.w) X.A (execs st X.env) (SP X pins D) X.xe s
theorem d8 {α:Type}{t:Sem α}{Q Q':α→Shared→Prop}{M:Model}{A:Around}{E:Value→Shared→Prop}{s:Shared} (h:wpAny M A t Q E s) (hQ:∀ a s,Q a s→Q' a s):wpAny M A t Q' E s:=wpAny_mono h hQ fun _ _ x=>x
end L2
namespace L2
open PySem PySem.Spec PyProof.Rows
section
variable {X:Cx}
noncomputable def d6 (i:Nat):TE:=fun σ H Q=>∃ v,σ[i]? = some (some v)∧Q v H
noncomputable def tC (v:V):TE:=fun _ H Q=>Q v H
theorem pe_var {i:Nat}{x:Str}{pos:Pos} (hN:X.N[i]? = some x) (hv:Vis X.env.scope x) (hd:(x == ("__debug__" : Str))=false:=by decide) (hcd:(x == ("__classdict__" : Str))=false:=by decide):PE X (.Name x pos) (d6 i):=by
 intro pins s σ H Q I h
 obtain⟨v,e,h⟩:=h
 obtain⟨m,hn,hl⟩:=I.loc
 obtain⟨u,r,l⟩:=hl i x v hN e hv
 have fin:EP X pins σ Q u s:=⟨v,H,I,r,h⟩
 rcases l with ⟨hk,hm⟩ | ⟨hk,c,hc,hcell⟩
 ·exact wpAny_Name (wpAny_loadName_local I.ok.kind hk hn hm fin) hd
 ·rcases hk with hk | hk
  ·exact wpAny_Name (wpAny_loadName_cell I.ok.kind hk hc hcell fin) hd
  ·exact wpAny_Name (wpAny_loadName_free I.ok.kind hk hc hcell fin hcd) hd
theorem aG {i j pos}:PE X (.Constant (.int i) j pos) (tC (.int i)):=fun _ _ _ H _ I h=>wpAny_Constant_int ⟨.int i,H,I.tok _,⟨_,rfl⟩,h⟩
theorem eL {b j pos}:PE X (.Constant (.bool b) j pos) (tC (.bl b)):=fun _ _ _ H _ I h=>Constant_bool ⟨.bl b,H,I,rfl,h⟩
theorem eO {j pos}:PE X (.Constant .none j pos) (tC .non):=fun _ _ _ H _ I h=>Constant_none ⟨.non,H,I,rfl,h⟩
theorem dM {x j pos}:PE X (.Constant (.str x) j pos) (tC (.str x)):=fun _ _ _ H _ I h=>Calls.Constant_str ⟨.str x,H,I.tok _,⟨_,rfl⟩,h⟩
noncomputable def Gl (X:Cx) (x:Str):Prop:=X.env.kindOf x=some .globalImplicit
theorem ld_glob {E:Value→Shared→Prop}{pins:List (Addr×Obj)}{s:Shared}{σ:St}{H:Hp}{x:Str}{u:Value}{pos:Pos}{Q:Value→Shared→Prop} (I:Inv X pins σ H s) (hg:Gl X x) (hm:X.mg x=some u) (h:Q u s)
  (hd:(x == ("__debug__" : Str))=false:=by decide):wpAny (model X.prog X.w) X.A (eval (.Name x pos) X.env) Q E s:=
 Calls.Name_function_global I.ok.kind hg (Calls.loadGlobal_global (by rw[I.ok.glob];exact I.mod.glob.keeps I.bk) hm h) hd
theorem ld_blt {E:Value→Shared→Prop}{pins:List (Addr×Obj)}{s:Shared}{σ:St}{H:Hp}{x:Str}{u:Value}{pos:Pos}{Q:Value→Shared→Prop} (I:Inv X pins σ H s) (hg:Gl X x) (hm:X.mg x=none) (hv:bootBuiltins x=some u) (h:Q u s)
  (hn:x ≠ "__name__" := by decide) (hd:(x == ("__debug__" : Str))=false:=by decide):wpAny (model X.prog X.w) X.A (eval (.Name x pos) X.env) Q E s:=by
 obtain⟨mb,h1,h2⟩:=I.mod.blt
 exact Calls.Name_function_global I.ok.kind hg (Calls.loadGlobal_builtin (by rw[I.ok.glob];exact I.mod.glob.keeps I.bk) hm (by rw[I.ok.blt];exact h1.keeps I.bk) ((h2 x hn).trans hv) h) hd
theorem pe_glob {x:Str}{v:V}{u:Value}{pos:Pos} (hg:Gl X x) (hm:X.mg x=some u) (r:bO v u) (hd:(x == ("__debug__" : Str))=false:=by decide):PE X (.Name x pos) (tC v):=
 fun _ _ _ H _ I h=>ld_glob I hg hm ⟨v,H,I,r,h⟩ hd
theorem pe_bltn {x:Str}{v:V}{u:Value}{pos:Pos} (hg:Gl X x) (hm:X.mg x=none) (hv:bootBuiltins x=some u) (r:bO v u) (hn:x ≠ "__name__" := by decide) (hd:(x == ("__debug__" : Str))=false:=by decide):PE X (.Name x pos) (tC v):=
 fun _ _ _ H _ I h=>ld_blt I hg hm hv ⟨v,H,I,r,h⟩ hn hd
variable {a b:Expr}{ta tb:TE}{pos:Pos}
noncomputable def tB (t:TE):TT:=fun σ H Q=>t σ H fun x H1=>∃ c,x=.bl c∧Q c H1
theorem cU {e:Expr}{t:TE} (h:PE X e t) (he:∀ whole,isTrue e X.env whole=(do let v ← whole;standAt e.pos;holding [v] (truthy v)):=by intro _;rfl):PT X e (tB t):=by
 intro pins s σ H Q I hw
 refine isTrue_plain (d8 (h pins s σ H _ I hw) fun v s1 ⟨x,H1,I1,r1,q1⟩=>?_) (he _)
 obtain⟨d,rfl,q⟩:=q1
 cases r1
 exact wpAny_truthy_bool ⟨H1,I1,q⟩
variable {tA tB':TT}{rest:List Expr}
noncomputable def tAnd (t u:TT):TT:=fun σ H Q=>t σ H fun c H1=>if c=true then u σ H1 Q else Q false H1
noncomputable def tOr (t u:TT):TT:=fun σ H Q=>t σ H fun c H1=>if c=true then Q true H1 else u σ H1 Q
noncomputable def tNot (t:TT):TT:=fun σ H Q=>t σ H fun c H1=>Q (!c) H1
theorem pw_and1 (ha:PT X a tA):PW X (.BoolOp .And [a] pos) tA:=by
 intro wh pins s σ H Q I h
 refine isTrue_and (d8 (ha pins s σ H Q I h) fun c s1 e=>?_)
 cases c with
 | true=>exact isTrue_and_nil e
 | false=>exact e
theorem pw_or1 (ha:PT X a tA):PW X (.BoolOp .Or [a] pos) tA:=by
 intro wh pins s σ H Q I h
 refine isTrue_or (d8 (ha pins s σ H Q I h) fun c s1 e=>?_)
 cases c with
 | false=>exact isTrue_or_nil e
 | true=>exact e
theorem pw_and (ha:PT X a tA) (hb:PW X (.BoolOp .And (b::rest) pos) tB'):PW X (.BoolOp .And (a::b::rest) pos) (tAnd tA tB'):=by
 intro wh pins s σ H Q I h
 refine isTrue_and (d8 (ha pins s σ H _ I h) fun c s1 ⟨H1,I1,q1⟩=>?_)
 cases c with
 | true=>exact hb wh pins s1 σ H1 Q I1 q1
 | false=>exact⟨H1,I1,q1⟩
theorem pw_or (ha:PT X a tA) (hb:PW X (.BoolOp .Or (b::rest) pos) tB'):PW X (.BoolOp .Or (a::b::rest) pos) (tOr tA tB'):=by
 intro wh pins s σ H Q I h
 refine isTrue_or (d8 (ha pins s σ H _ I h) fun c s1 ⟨H1,I1,q1⟩=>?_)
 cases c with
 | true=>exact⟨H1,I1,q1⟩
 | false=>exact hb wh pins s1 σ H1 Q I1 q1
theorem dL (ha:PT X a tA):PT X (.UnaryOp .Not a pos) (tNot tA):=by
 intro pins s σ H Q I h
 exact isTrue_not (ha pins s σ H (fun c H1=>Q (!c) H1) I h)
noncomputable def tAndV (ta tb:TE):TE:=fun σ H Q=>ta σ H fun x H1=>∃ c,x=.bl c∧if c=true then tb σ H1 Q else Q (.bl false) H1
noncomputable def tOrV (ta tb:TE):TE:=fun σ H Q=>ta σ H fun x H1=>∃ c,x=.bl c∧if c=true then Q (.bl true) H1 else tb σ H1 Q
noncomputable def tNotV (ta:TE):TE:=fun σ H Q=>ta σ H fun x H1=>∃ c,x=.bl c∧Q (.bl (!c)) H1
theorem eS {op}{t:TE} (h:PE X a t):PE X (.BoolOp op [a] pos) t:=fun pins s σ H Q I hw=>BoolOp_one (h pins s σ H Q I hw)
theorem dZ (ha:PE X a ta) (hb:PE X (.BoolOp .And (b::rest) pos) tb):PE X (.BoolOp .And (a::b::rest) pos) (tAndV ta tb):=by
 intro pins s σ H Q I h
 refine BoolOp_and (d8 (ha pins s σ H _ I h) fun v s1 ⟨x,H1,I1,r1,q1⟩=>?_)
 obtain⟨c,rfl,q1⟩:=q1
 cases r1
 refine wpAny_truthy_bool ?_
 cases c with
 | true=>exact hb pins s1 σ H1 Q I1 q1
 | false=>exact⟨.bl false,H1,I1,rfl,q1⟩
theorem pe_or (ha:PE X a ta) (hb:PE X (.BoolOp .Or (b::rest) pos) tb):PE X (.BoolOp .Or (a::b::rest) pos) (tOrV ta tb):=by
 intro pins s σ H Q I h
 refine BoolOp_or (d8 (ha pins s σ H _ I h) fun v s1 ⟨x,H1,I1,r1,q1⟩=>?_)
 obtain⟨c,rfl,q1⟩:=q1
 cases r1
 refine wpAny_truthy_bool ?_
 cases c with
 | false=>exact hb pins s1 σ H1 Q I1 q1
 | true=>exact⟨.bl true,H1,I1,rfl,q1⟩
theorem pe_not (ha:PE X a ta):PE X (.UnaryOp .Not a pos) (tNotV ta):=by
 intro pins s σ H Q I h
 refine UnaryOp_ (d8 (ha pins s σ H _ I h) fun v s1 ⟨x,H1,I1,r1,q1⟩=>?_)
 obtain⟨c,rfl,q1⟩:=q1
 cases r1
 exact not_of (wpAny_truthy_bool ⟨.bl (!c),H1,I1,rfl,q1⟩)
noncomputable def tIf (t:TT) (ta tb:TE):TE:=fun σ H Q=>t σ H fun c H1=>if c=true then ta σ H1 Q else tb σ H1 Q
theorem pe_ifExp {c:Expr} (hc:PT X c tA) (ha:PE X a ta) (hb:PE X b tb):PE X (.IfExp c a b pos) (tIf tA ta tb):=by
 intro pins s σ H Q I h
 refine wpAny_IfExp (d8 (hc pins s σ H _ I h) fun d s1 ⟨H1,I1,q1⟩=>?_)
 cases d with
 | true=>exact ha pins s1 σ H1 Q I1 q1
 | false=>exact hb pins s1 σ H1 Q I1 q1
end
end L2
namespace L2
open PySem PySem.Spec PyProof.Rows
noncomputable def bM (K:PySem.W.Frag) (H:Hp) (a:Addr) (xs:List V):Prop:=
 Rd H a (.lst xs)∨
  ∃ (o:Obj) (its:Array Value) (n:Nat),K.lookup a=some o∧o.cls=.type "list" ∧ o.dict=none∧o.data=.seq its n∧its.size≤sizeLine∧bP xs its.toList
noncomputable def bT (K:PySem.W.Frag) (H:Hp) (a:Addr) (xs:List V):Prop:=
 Rd H a (.tup xs)∨
  ∃ (o:Obj) (its:Array Value) (n:Nat),K.lookup a=some o∧o.cls=.type "tuple" ∧ o.data=.seq its n∧its.size≤sizeLine∧bP xs its.toList
noncomputable def absV:Value→Option V
 | .none=>some .non
 | .bool b=>some (.bl b)
 | .int i _=>some (.int i)
 | .str x _=>some (.str x)
 | .bytes b _=>some (.byt b)
 | .float b _=>some (.flt b)
 | .ref a=>some (.ref a)
 | .type n=>some (.ty n)
 | _=>none
theorem bO.abs {x:V}{u:Value} (r:bO x u):absV u=some x:=by
 cases x with
 | non=>cases r;rfl
 | bl _=>cases r;rfl
 | int _=>obtain⟨t,rfl⟩:=r;rfl
 | str _=>obtain⟨t,rfl⟩:=r;rfl
 | byt _=>obtain⟨t,rfl⟩:=r;rfl
 | flt _=>obtain⟨t,rfl⟩:=r;rfl
 | ref _=>cases r;rfl
 | ty _=>cases r;rfl
theorem bO.inj {x y:V}{u:Value} (r:bO x u) (q:bO y u):x=y:=Option.some.inj (r.abs.symm.trans q.abs)
theorem bP.inj:∀ {xs ys:List V}{us:List Value},bP xs us→bP ys us→xs=ys
 | _,_,_,.nil,.nil=>rfl
 | _,_,_,.cons r t,.cons r' t'=>by rw[r.inj r',bP.inj t t']
section
variable {X:Cx}{pins:List (Addr×Obj)}{σ:St}{H:Hp}{s:Shared}{a:Addr}{xs ys:List V}
theorem bM.of {K:PySem.W.Frag} (h:H a=some (.lst xs)):bM K H a xs:=.inl (.inl h)
theorem bT.of {K:PySem.W.Frag} (h:H a=some (.tup xs)):bT K H a xs:=.inl (.inl h)
theorem Inv.list (I:Inv X pins σ H s) (h:bM X.K H a xs):∃ its:List Value,bP xs its∧PlainL s.heap a its.toArray∧xs.length≤sizeLine:=by
 rcases h with h | ⟨o,its,n,hk,hc,hd,hs,hz,r⟩
 ·obtain⟨z,its,n,r,e⟩:=h.ok I.hok
  exact⟨its,r,⟨_,n,e,rfl,rfl,rfl⟩,z⟩
 ·refine⟨its.toList,r,⟨o,n,I.kIn a o hk,hc,hd,by simpa using hs⟩,?_⟩
  have e:=r.length
  simp only [Array.length_toList] at e
  omega
theorem Inv.tuple (I:Inv X pins σ H s) (h:bT X.K H a xs):∃ its:List Value,bP xs its∧IsTup s.heap a its.toArray∧xs.length≤sizeLine:=by
 rcases h with h | ⟨o,its,n,hk,hc,hs,hz,r⟩
 ·obtain⟨z,its,r,p⟩:=h.ok I.hok
  exact⟨its,r,p,z⟩
 ·refine⟨its.toList,r,⟨o,I.kIn a o hk,hc,n,by simpa using hs⟩,?_⟩
  have e:=r.length
  simp only [Array.length_toList] at e
  omega
theorem Inv.list_inj (I:Inv X pins σ H s) (h:bM X.K H a xs) (h':bM X.K H a ys):xs=ys:=by
 obtain⟨its,r,⟨o,n,e,_,_,d⟩,_⟩:=I.list h
 obtain⟨its',r',⟨o',n',e',_,_,d'⟩,_⟩:=I.list h'
 rw[e] at e';cases e'
 rw[d] at d'
 injection d' with d1 _
 have:its=its':=by simpa using congrArg Array.toList d1
 subst this
 exact r.inj r'
theorem Inv.tuple_inj (I:Inv X pins σ H s) (h:bT X.K H a xs) (h':bT X.K H a ys):xs=ys:=by
 obtain⟨its,r,⟨o,e,_,n,d⟩,_⟩:=I.tuple h
 obtain⟨its',r',⟨o',e',_,n',d'⟩,_⟩:=I.tuple h'
 rw[e] at e';cases e'
 rw[d] at d'
 injection d' with d1 _
 have:its=its':=by simpa using congrArg Array.toList d1
 subst this
 exact r.inj r'
end
noncomputable abbrev Cx.wish (X:Cx) (E:Value→Shared→Prop):Cx:={ X with xe:=E }
noncomputable abbrev Cx.nox (X:Cx):Cx:=X.wish fun _ _=>False
theorem Cx.Ok.wish {X:Cx} (ok:X.Ok) (E:Value→Shared→Prop):(X.wish E).Ok:=
 ⟨ok.mod,ok.kind,ok.glob,ok.blt,ok.above,ok.inj,ok.has,ok.cab,ok.hd,ok.frames,ok.stk,ok.exf,ok.bs,ok.bsz,ok.noex,ok.exfs,ok.funs,ok.frf⟩
theorem Cx.Ok.unwish {X:Cx}{E:Value→Shared→Prop} (ok:(X.wish E).Ok):X.Ok:=
 ⟨ok.mod,ok.kind,ok.glob,ok.blt,ok.above,ok.inj,ok.has,ok.cab,ok.hd,ok.frames,ok.stk,ok.exf,ok.bs,ok.bsz,ok.noex,ok.exfs,ok.funs,ok.frf⟩
section
variable {X:Cx}{pins:List (Addr×Obj)}{σ:St}{H:Hp}{s:Shared}{E:Value→Shared→Prop}
theorem Inv.wish (I:Inv X pins σ H s) (E:Value→Shared→Prop):Inv (X.wish E) pins σ H s:=⟨I.ok.wish E,I.os,I.bare,I.base,I.loc,I.cell,I.free,I.freeC,I.pin,I.hok,I.len⟩
theorem Inv.unwish (I:Inv (X.wish E) pins σ H s):Inv X pins σ H s:=⟨I.ok.unwish,I.os,I.bare,I.base,I.loc,I.cell,I.free,I.freeC,I.pin,I.hok,I.len⟩
theorem SP.unwish {D:Ends}{f:Flow}{s':Shared} (h:SP (X.wish E) pins D f s'):SP X pins D f s':=by
 cases f with
 | next=>obtain⟨σ',H',I,q⟩:=h;exact⟨σ',H',I.unwish,q⟩
 | brk=>obtain⟨σ',H',I,q⟩:=h;exact⟨σ',H',I.unwish,q⟩
 | cont=>obtain⟨σ',H',I,q⟩:=h;exact⟨σ',H',I.unwish,q⟩
 | ret u=>obtain⟨v,σ',H',I,r,q⟩:=h;exact⟨v,σ',H',I.unwish,r,q⟩
theorem PSs.nox {st:List Stmt}{t:TS} (h:PSs X.nox st t):PSs X st t:=fun pins s σ H D I hw=>
 wpAny_mono (h pins s σ H D (I.wish _) hw) (fun _ _ q=>q.unwish) fun _ _ z=>False.elim z
end
section
variable {X:Cx}{st:Stmt}{rest:List Stmt}{t u:TS}{e:Expr}{te:TE}{pos:Pos}
noncomputable def tNext:TS:=fun D σ H=>D.nx σ H
noncomputable def tSeq (t u:TS):TS:=fun D σ H=>t { D with nx:=u D } σ H
theorem bH:PSs X [] tNext:=fun _ _ σ H _ I h=>wpAny_execs_nil ⟨σ,H,I,h⟩
theorem aF (h1:PS X st t) (h2:PSs X rest u):PSs X (st::rest) (tSeq t u):=by
 intro pins s σ H D I h
 refine wpAny_execs_cons (d8 (h1 pins s σ H { D with nx:=u D } I h) fun f s1 q=>?_)
 cases f with
 | next=>
  obtain⟨σ',H',I',q⟩:=q
  exact h2 pins s1 σ' H' D I' q
 | ret v=>exact q
 | brk=>exact q
 | cont=>exact q
theorem aO (h1:PS X st t):PSs X [st] t:=by
 intro pins s σ H D I h
 refine wpAny_execs_cons (d8 (h1 pins s σ H D I h) fun f s1 q=>?_)
 cases f with
 | next=>exact wpAny_execs_nil q
 | ret v=>exact q
 | brk=>exact q
 | cont=>exact q
theorem Inv.quiet {pins:List (Addr×Obj)}{σ:St}{H:Hp}{s:Shared} (I:Inv X pins σ H s):interactive X.env=false:=by simp [interactive,I.ok.kind]
noncomputable def tDrop (te:TE):TS:=fun D σ H=>te σ H fun _ H1=>D.nx σ H1
theorem bZ (he:PE X e te) (hs:swapsWith e none pos.line X.env=pure false:=by rfl):PS X (.Expr e pos) (tDrop te):=by
 intro pins s σ H D I h
 exact wpAny_Expr_any (d8 (he pins s σ H _ I h) fun v s1 ⟨x,H1,I1,r1,q1⟩=>⟨σ,H1,I1,q1⟩) I.quiet hs
noncomputable def tRet (te:TE):TS:=fun D σ H=>te σ H D.rt
theorem aX (he:PE X e te):PS X (.Return (some e) pos) (tRet te):=by
 intro pins s σ H D I h
 exact wpAny_Return_some (d8 (he pins s σ H _ I h) fun v s1 ⟨x,H1,I1,r1,q1⟩=>⟨x,σ,H1,I1,r1,q1⟩)
noncomputable def tIfS (c:TT) (t u:TS):TS:=fun D σ H=>c σ H fun b H1=>if b=true then t D σ H1 else u D σ H1
theorem cF {c:Expr}{a b:List Stmt}{tc:TT} (hc:PT X c tc) (ha:PSs X a t) (hb:PSs X b u):PS X (.If c a b pos) (tIfS tc t u):=by
 intro pins s σ H D I h
 refine wpAny_If (d8 (hc pins s σ H _ I h) fun d s1 ⟨H1,I1,q1⟩=>?_)
 cases d with
 | true=>exact ha pins s1 σ H1 D I1 q1
 | false=>exact hb pins s1 σ H1 D I1 q1
end
noncomputable abbrev TG:=V→St→Hp→(St→Hp→Prop)→Prop
noncomputable abbrev TGs:=List V→St→Hp→(St→Hp→Prop)→Prop
noncomputable def PG (X:Cx) (target:Expr) (t:TG):Prop:=
 ∀ (pins:List (Addr×Obj)) (s:Shared) (σ:St) (H:Hp) (v:V) (u:Value) (Q:St→Hp→Prop),Inv X pins σ H s→bO v u→t v σ H Q→
  wpAny (model X.prog X.w) X.A (assign target X.env u) (fun _ s'=>∃ σ' H',Inv X pins σ' H' s'∧Q σ' H') X.xe s
noncomputable def PGs (X:Cx) (ts:List Expr) (t:TGs):Prop:=
 ∀ (pins:List (Addr×Obj)) (s:Shared) (σ:St) (H:Hp) (vs:List V) (us:List Value) (Q:St→Hp→Prop),Inv X pins σ H s→bP vs us→t vs σ H Q→
  wpAny (model X.prog X.w) X.A (assignInOrder ((assignEach ts X.env).map (·.2)) us) (fun _ s'=>∃ σ' H',Inv X pins σ' H' s'∧Q σ' H') X.xe s
noncomputable abbrev TSet:=V→V→V→Hp→(Hp→Prop)→Prop
noncomputable def PSet (X:Cx) (t:TSet):Prop:=
 ∀ (pins:List (Addr×Obj)) (s:Shared) (σ:St) (H:Hp) (o i v:V) (ov iv u:Value) (Q:Hp→Prop),Inv X pins σ H s→bO o ov→bO i iv→bO v u→t o i v H Q→
  wpAny (model X.prog X.w) X.A (setItem ov iv u) (fun _ s'=>∃ H',Inv X pins σ H' s'∧Q H') X.xe s
noncomputable abbrev TIp:=V→V→Hp→VK→Prop
noncomputable def PIp (X:Cx) (op:Operator) (t:TIp):Prop:=
 ∀ (pins:List (Addr×Obj)) (s:Shared) (σ:St) (H:Hp) (x y:V) (v u:Value) (Q:VK),Inv X pins σ H s→bO x v→bO y u→t x y H Q→
  wpAny (model X.prog X.w) X.A (inplaceOp op v u) (EP X pins σ Q) X.xe s
section
variable {X:Cx}{pos:Pos}
noncomputable def eZ (i:Nat):TG:=fun v σ H Q=>Q (σ.set i (some v)) H
theorem aJ {i:Nat}{x:Str} (hN:X.N.Nodup) (hi:X.N[i]? = some x) (hx:Loc X.env.scope x) (hf:X.fn x=true∨X.env.scope.names.lookup x=some .local:=by first | exact .inl rfl | exact .inr rfl | assumption):PG X (.Name x pos) (eZ i):=by
 intro pins s σ H v u Q I r h
 exact wpAny_assign_Name (store_ok I hN hi hx r (fun s' I'=>⟨_,H,I',h⟩) hf)
noncomputable def gNil:TGs:=fun vs σ H Q=>vs=[]∧Q σ H
noncomputable def gCons (t:TG) (u:TGs):TGs:=fun vs σ H Q=>∃ v r,vs=v::r∧t v σ H fun σ' H'=>u r σ' H' Q
theorem bD:PGs X [] gNil:=by
 intro pins s σ H vs us Q I r h
 obtain⟨e,h⟩:=h
 subst e
 cases r
 exact assignInOrder_nil ⟨σ,H,I,h⟩
theorem aH {e:Expr}{es:List Expr}{t:TG}{u:TGs} (h1:PG X e t) (h2:PGs X es u)
  (hs:(assignEach (e::es) X.env).map (·.2)=assign e X.env::(assignEach es X.env).map (·.2):=by rfl):PGs X (e::es) (gCons t u):=by
 intro pins s σ H vs us Q I r h
 obtain⟨v,vr,e1,h⟩:=h
 subst e1
 cases r with
 | cons r rr=>
  rw[hs]
  refine assignInOrder_cons (d8 (h1 pins s σ H _ _ _ I r h) fun _ s1 ⟨σ1,H1,I1,q1⟩=>?_)
  exact h2 pins s1 σ1 H1 _ _ Q I1 rr q1
noncomputable def gTup (K:PySem.W.Frag) (n:Nat) (t:TGs):TG:=fun v σ H Q=>∃ a xs,v=.ref a∧bT K H a xs∧xs.length=n∧t xs σ H Q
theorem pg_tup {es:List Expr}{k:Nat}{t:TGs}{n:Nat} (hc:X.calm=true) (h:PGs X es t)
  (hn:(assignEach es X.env).length=n:=by rfl) (hst:(assignEach es X.env).findIdx? (·.1)=none:=by rfl):PG X (.Tuple es k pos) (gTup X.K n t):=by
 intro pins s σ H v u Q I r hw
 obtain⟨a,xs,e1,hq,hl,hw⟩:=hw
 subst e1
 cases r
 obtain⟨its,rv,ht,hz⟩:=I.tuple hq
 refine assign_Tuple_tuple (I.ok.hd hc) ht (by simp [hn,← hl,rv.length]) hst fun h' hx=>?_
 have I1:Inv X pins σ H { s with heap:=h' }:=I.kept (t':=s.toks) fun b o e=>hx b o (Nat.ne_of_lt (Heap.lt_size e)) e
 exact h pins _ σ H xs _ Q I1 (by simpa using rv) hw
noncomputable def gSub (to ti:TE) (t:TSet):TG:=fun v σ H Q=>to σ H fun o H1=>ti σ H1 fun i H2=>t o i v H2 fun H3=>Q σ H3
theorem pg_sub {o i:Expr}{to ti:TE}{t:TSet} (ho:PE X o to) (hi:PE X i ti) (hs:PSet X t)
  (ha:∀ v,assign (.Subscript o i pos) X.env v=(do
   let ov ← holding [v] (eval o X.env)
   let iv ← holding [v,ov] (eval i X.env)
   standAt pos
   holding [v,ov,iv] (setItem ov iv v)
   release [v,ov,iv] []):=by intro _;rfl):PG X (.Subscript o i pos) (gSub to ti t):=by
 intro pins s σ H v u Q I r h
 rw[ha]
 refine wpAny_bind (wpAny_holding (d8 (ho pins s σ H _ I h) fun ov s1 ⟨x,H1,I1,r1,q1⟩=>?_))
 refine wpAny_bind (wpAny_holding (d8 (hi pins s1 σ H1 _ I1 q1) fun iv s2 ⟨y,H2,I2,r2,q2⟩=>?_))
 refine wpAny_bind (wpAny_standAt (wpAny_bind (wpAny_holding (d8 (hs pins s2 σ H2 x y v ov iv u _ I2 r1 r2 r q2) fun _ s3 ⟨H3,I3,q3⟩=>?_))))
 exact wpAny_release ⟨σ,H3,I3,q3⟩
noncomputable def tAsg (te:TE) (g:TG):TS:=fun D σ H=>te σ H fun x H1=>g x σ H1 D.nx
theorem cB {tg e:Expr}{te:TE}{g:TG} (he:PE X e te) (hg:PG X tg g) (hs:swapsWithSole [tg] e pos.line X.env=pure false:=by rfl) (hw:swappedStores [tg] e X.env=pure none:=by rfl)
  (h1:(assignEach [tg] X.env).map (·.2)=[assign tg X.env]:=by rfl):PS X (.Assign [tg] e pos) (tAsg te g):=by
 intro pins s σ H D I h
 refine wpAny_Assign_stores (d8 (he pins s σ H _ I h) fun v s1 ⟨x,H1,I1,r1,q1⟩=>?_) hs hw
 rw[h1]
 exact d8 (hg pins s1 σ H1 x v _ I1 r1 q1) fun _ s2 q=>q
theorem bE {i:Nat}{x:Str}{e:Expr}{te:TE}{pos':Pos} (hN:X.N.Nodup) (hi:X.N[i]? = some x) (hx:Loc X.env.scope x) (he:PE X e te) (hs:swapsWith e (some (.Name x pos')) pos.line X.env=pure false:=by rfl) (hf:X.fn x=true∨X.env.scope.names.lookup x=some .local:=by first | exact .inl rfl | exact .inr rfl | assumption) :
  PS X (.Assign [.Name x pos'] e pos) (tAsg te (eZ i)):=by
 intro pins s σ H D I h
 refine wpAny_Assign_Name (d8 (he pins s σ H _ I h) fun v s1 ⟨y,H1,I1,r1,q1⟩=>?_) hs
 exact store_ok I1 hN hi hx r1 (fun s2 I2=>⟨_,H1,I2,q1⟩) hf
noncomputable def tAug (i:Nat) (te:TE) (ti:TIp):TS:=fun D σ H=>∃ x,σ[i]? = some (some x)∧te σ H fun y H1=>ti x y H1 fun z H2=>D.nx (σ.set i (some z)) H2
theorem ps_aug {i:Nat}{x:Str}{e:Expr}{te:TE}{op:Operator}{ti:TIp}{pos':Pos} (hN:X.N.Nodup) (hi:X.N[i]? = some x) (hx:Loc X.env.scope x) (he:PE X e te) (ho:PIp X op ti) (hf:X.fn x=true∨X.env.scope.names.lookup x=some .local:=by first | exact .inl rfl | exact .inr rfl | assumption) :
  PS X (.AugAssign (.Name x pos') op e pos) (tAug i te ti):=by
 intro pins s σ H D I h
 obtain⟨v,e1,h⟩:=h
 obtain⟨m,hn,hl⟩:=I.loc
 have vis:Vis X.env.scope x:=by rcases hx with k | k;exact .inl k;exact .inr (.inl k)
 obtain⟨u,r,l⟩:=hl i x v hi e1 vis
 refine wpAny_AugAssign_Name ?_
 have go:wpAny (model X.prog X.w) X.A (eval e X.env) (fun w s₂=>wpAny (model X.prog X.w) X.A (inplaceOp op u w) (fun r s₃=>wpAny (model X.prog X.w) X.A (storeName X.env x r) (fun _=>SP X pins D .next) X.xe s₃) X.xe s₂) X.xe s:=by
  refine d8 (he pins s σ H _ I h) fun w s1 ⟨y,H1,I1,r1,q1⟩=>?_
  refine d8 (ho pins s1 σ H1 v y u w _ I1 r r1 q1) fun z s2 ⟨zv,H2,I2,r2,q2⟩=>?_
  exact store_ok I2 hN hi hx r2 (fun s3 I3=>⟨_,H2,I3,q2⟩) hf
 rcases l with ⟨hk,hm⟩ | ⟨hk,c,hc,hcell⟩
 ·exact wpAny_loadName_local I.ok.kind hk hn hm go
 ·rcases hk with hk | hk
  ·exact wpAny_loadName_cell I.ok.kind hk hc hcell go
  ·rcases hx with k | k
   ·have:X.env.scope.names.lookup x=some .free:=hk
    rw[k] at this;cases this
   ·have:X.env.scope.names.lookup x=some .free:=hk
    rw[k] at this;cases this
noncomputable def tAugS (to ti te:TE) (tget:V→V→Hp→VK→Prop) (tip:TIp) (tset:TSet):TS:=fun D σ H=>to σ H fun o H1=>ti σ H1 fun i H2=>tget o i H2 fun x H3=>te σ H3 fun y H4=>tip x y H4 fun z H5=>tset o i z H5 fun H6=>D.nx σ H6
noncomputable def PGet (X:Cx) (t:V→V→Hp→VK→Prop):Prop:=
 ∀ (pins:List (Addr×Obj)) (s:Shared) (σ:St) (H:Hp) (o i:V) (ov iv:Value) (Q:VK),Inv X pins σ H s→bO o ov→bO i iv→t o i H Q→
  wpAny (model X.prog X.w) X.A (getItem ov iv) (EP X pins σ Q) X.xe s
theorem ps_augS {o i e:Expr}{to ti te:TE}{tget:V→V→Hp→VK→Prop}{tip:TIp}{tset:TSet}{op:Operator}{tpos:Pos} (ho:PE X o to) (hi:PE X i ti) (hg:PGet X tget) (he:PE X e te) (hp:PIp X op tip) (hs:PSet X tset)
  (ha:∀ ov iv new,augStore i ov iv new=(do holding [new,ov,iv] (setItem ov iv new);release [new,ov,iv] [];pure .next):=by intros;rfl):PS X (.AugAssign (.Subscript o i tpos) op e pos) (tAugS to ti te tget tip tset):=by
 intro pins s σ H D I h
 refine wpAny_AugAssign_SubscriptAny (d8 (ho pins s σ H _ I h) fun ov s1 ⟨x1,H1,I1,r1,q1⟩=>?_) ha
 refine d8 (hi pins s1 σ H1 _ I1 q1) fun iv s2 ⟨x2,H2,I2,r2,q2⟩=>?_
 refine d8 (hg pins s2 σ H2 x1 x2 ov iv _ I2 r1 r2 q2) fun old s3 ⟨x3,H3,I3,r3,q3⟩=>?_
 refine d8 (he pins s3 σ H3 _ I3 q3) fun v s4 ⟨x4,H4,I4,r4,q4⟩=>?_
 refine d8 (hp pins s4 σ H4 x3 x4 old v _ I4 r3 r4 q4) fun new s5 ⟨x5,H5,I5,r5,q5⟩=>?_
 exact d8 (hs pins s5 σ H5 x1 x2 x5 ov iv new _ I5 r1 r2 r5 q5) fun _ s6 ⟨H6,I6,q6⟩=>⟨σ,H6,I6,q6⟩
noncomputable def ipI (f:Int→Int→Int):TIp:=fun x y H Q=>∃ i j,x=.int i∧y=.int j∧Q (.int (f i j)) H
theorem ip_add:PIp X .Add (ipI fun i j=>i+j):=by
 intro pins s σ H x y v u Q I r1 r2 h
 obtain⟨i,j,e1,e2,q⟩:=h
 subst e1;subst e2
 obtain⟨t,rfl⟩:=r1
 obtain⟨t',rfl⟩:=r2
 exact iadd_int ⟨.int _,H,I.tok _,⟨_,rfl⟩,q⟩
theorem ip_sub:PIp X .Sub (ipI fun i j=>i - j):=by
 intro pins s σ H x y v u Q I r1 r2 h
 obtain⟨i,j,e1,e2,q⟩:=h
 subst e1;subst e2
 obtain⟨t,rfl⟩:=r1
 obtain⟨t',rfl⟩:=r2
 exact isub_int ⟨.int _,H,I.tok _,⟨_,rfl⟩,q⟩
end
section
variable {X:Cx}{pos:Pos}
end
structure It where
 go:Nat→Hp→Prop
 yld:Nat→Hp→V→Hp→Prop
 stop:Nat→Hp→Prop
noncomputable def FpOk (X:Cx) (pins:List (Addr×Obj)) (H:Hp) (b:Addr):Prop:=
 H b=none∧b≠X.env.locals∧b∉X.fs∧(b∈X.ex∨X.s₀.heap.objs.size≤b)∧(∀ x c,X.env.cells.lookup x=some c→c≠b)∧∀ p∈X.pn++pins,p.1≠b
theorem Inv.fpOk {X:Cx}{pins:List (Addr×Obj)}{σ:St}{H H':Hp}{s:Shared}{b:Addr} (I:Inv X pins σ H s) (hb:s.heap.objs.size≤b) (hn:H' b=none):FpOk X pins H' b:=by
 refine⟨hn,Nat.ne_of_gt (Nat.lt_of_lt_of_le I.lt hb),I.nofs hb,.inr (Nat.le_trans I.sz hb),fun x c e z=>?_,fun p hp z=>?_⟩
 ·obtain⟨v,q⟩:=I.cell x c e
  exact absurd (Nat.lt_of_lt_of_le q.lt (by rw[z];exact hb)) (Nat.lt_irrefl _)
 ·exact absurd (Nat.lt_of_lt_of_le (Heap.lt_size (I.pin p hp).1) (by rw[z];exact hb)) (Nat.lt_irrefl _)
structure Turn (P:Program) (w:World) (K:PySem.W.Frag) (tg:Expr) (J:It) (fp:List Addr) (it:Addr) (tn:Nat→Heap→Prop):Prop where
 mem:it∈fp
 obj:∀ i h,tn i h→∀ b∈fp,∃ o,h.get? b=some o∧∀ v,o.data≠.cell v
 keep:∀ i h h',tn i h→(∀ b∈fp,∀ o,h.get? b=some o→h'.get? b=some o)→tn i h'
 item:∀ (X:Cx),X.prog=P→X.w=w→X.K=K→X.calm=true→∀ (i:Nat) (pins:List (Addr×Obj)) (s:Shared) (σ:St) (H:Hp) (E:Value→Shared→Prop),Inv X pins σ H s→(∀ b∈fp,FpOk X pins H b)→tn i s.heap→J.go i H→
  wpAny (model P w) X.A (pyNext (.ref it)) (fun r s1=>∃ u,r=some u∧
   wpAny (model P w) X.A (letOwnedTupleGo tg (.ref it) u) (fun _ s2=>∃ x H',Inv X pins σ H' s2∧bO x u∧J.yld i H x H'∧tn (i+1) s2.heap∧∀ b∈fp,H' b=none) E s1) E s
 done:∀ (X:Cx),X.prog=P→X.w=w→X.K=K→X.calm=true→∀ (i:Nat) (pins:List (Addr×Obj)) (s:Shared) (σ:St) (H:Hp) (E:Value→Shared→Prop),Inv X pins σ H s→(∀ b∈fp,FpOk X pins H b)→tn i s.heap→J.stop i H→
  wpAny (model P w) X.A (pyNext (.ref it)) (fun r s1=>r=none∧Inv X pins σ H s1) E s
 self:∀ (A:Around) (i:Nat) (s:Shared) (Q:Value→Shared→Prop) (E:Value→Shared→Prop),tn i s.heap→Q (.ref it) s→wpAny (model P w) A (pyIter (.ref it)) Q E s
noncomputable abbrev TI:=St→Hp→(It→Hp→Prop)→Prop
noncomputable def PIE (X:Cx) (pins:List (Addr×Obj)) (σ:St) (tg:Expr) (R:It→Hp→Prop) (itv:Value) (s2:Shared):Prop:=
 ∃ (it:Addr) (fp:List Addr) (tn:Nat→Heap→Prop) (J:It) (H':Hp),itv=.ref it∧Inv X pins σ H' s2∧Turn X.prog X.w X.K tg J fp it tn∧tn 0 s2.heap∧(∀ b∈fp,FpOk X pins H' b)∧R J H'
noncomputable def PI (X:Cx) (tg iter:Expr) (wi:TI):Prop:=
 ∀ (pins:List (Addr×Obj)) (s:Shared) (σ:St) (H:Hp) (R:It→Hp→Prop),Inv X pins σ H s→wi σ H R→
  wpAny (model X.prog X.w) X.A (eval iter X.env) (fun v s1=>wpAny (model X.prog X.w) X.A (pyIter v) (PIE X pins σ tg R) X.xe s1) X.xe s
theorem go_of {M:Model}{A:Around}{E:Value→Shared→Prop}{s:Shared}{tg:Expr}{it:Addr}{u:Value}{o:Obj}{n:String}{vs:Array Value}{Q:Unit→Shared→Prop} (ho:s.heap.get? it=some o) (hc:o.cls=.type n) (hd:o.data=.fields vs)
  (hn:["enumerate","zip","dict_itemiterator","dict_reverseitemiterator","odict_iterator","itertools.zip_longest","itertools.pairwise"].contains n=false) (hQ:Q () s):wpAny M A (letOwnedTupleGo tg (.ref it) u) Q E s:=by
 unfold letOwnedTupleGo
 cases tg <;> first
  | exact wpAny_pure hQ
  | (cases u <;> first
    | exact wpAny_pure hQ
    | (refine wpAny_bind (wpAny_load ho ?_)
       rw[hc,hd]
       show wpAny M A (if (["enumerate","zip","dict_itemiterator","dict_reverseitemiterator","odict_iterator","itertools.zip_longest","itertools.pairwise"].contains n && vs[0]? == some (rawInt _))=true then _ else _) Q E s
       rw[if_neg (by intro h;rw[hn,Bool.false_and] at h;cases h)]
       exact wpAny_pure hQ))
noncomputable def Itl (K:PySem.W.Frag) (a:Addr):It:=
 ⟨fun i H=>∃ xs x,bM K H a xs∧xs[i]? = some x,fun i H x H'=>H'=H∧∀ xs,bM K H a xs→xs[i]? = some x,fun i H=>∃ xs,bM K H a xs∧xs.length≤i⟩
noncomputable def Itt (K:PySem.W.Frag) (a:Addr):It:=
 ⟨fun i H=>∃ xs x,bT K H a xs∧xs[i]? = some x,fun i H x H'=>H'=H∧∀ xs,bT K H a xs→xs[i]? = some x,fun i H=>∃ xs,bT K H a xs∧xs.length≤i⟩
noncomputable def Itr (lo:Int) (n:Nat):It:=⟨fun i _=>i < n,fun i H x H'=>H'=H∧x=.int (lo+i),fun i _=>n≤i⟩
theorem turn_list {P:Program}{w:World}{K:PySem.W.Frag}{tg:Expr} (a it:Addr):Turn P w K tg (Itl K a) [it] it (fun i h=>h.IsListIter it a i) where
 mem:=by simp
 obj:=fun i h st b hb=>by
  have e:b=it:=by simpa using hb
  subst e
  obtain⟨o,e,c,d⟩:=st
  exact⟨o,e,fun v z=>by rw[d] at z;cases z⟩
 keep:=fun i h h' st k=>st.at fun o e=>k it (by simp) o e
 item:=by
  intro X hP hw hK hc i pins s σ H E I hf st hg
  subst hP hw hK
  obtain⟨xs,x,hq,hx⟩:=hg
  obtain⟨its,rv,p,hz⟩:=I.list hq
  obtain⟨u,hu,ru⟩:=rv.get hx
  obtain⟨f0,f1,f2,f3,f4,f5⟩:=hf it (by simp)
  refine wpAny_pyNext_list_item st p.isList (x:=u) (by simpa using hu) fun h' st' sb=>?_
  have I1:Inv X pins σ H { s with heap:=h' }:=I.turned (t':=s.toks) (fun b o hb e=>(sb.2 b hb).trans e) f0 f1 f3 f4 f5
  obtain⟨o,e,c,d⟩:=id st'
  exact⟨u,rfl,go_of (s:={ s with heap:=h' }) e c d (by decide) ⟨x,H,I1,ru,⟨rfl,fun ys hy=>by rw[I.list_inj hy hq];exact hx⟩,st',fun b hb=>(hf b hb).1⟩⟩
 done:=by
  intro X hP hw hK hc i pins s σ H E I hf st hg
  subst hP hw hK
  obtain⟨xs,hq,hx⟩:=hg
  obtain⟨its,rv,p,hz⟩:=I.list hq
  obtain⟨f0,f1,f2,f3,f4,f5⟩:=hf it (by simp)
  have hl:=rv.length
  exact wpAny_pyNext_list_end (I.ok.hd hc) st p.isList (by simp;omega) fun h' eb=>⟨rfl,I.turned (t':=s.toks) (fun b o hb e=>eb b o hb e) f0 f1 f3 f4 f5⟩
 self:=fun _ _ _ _ _ st h=>wpAny_pyIter_listiter st h
theorem turn_tuple {P:Program}{w:World}{K:PySem.W.Frag}{tg:Expr} (a it:Addr):Turn P w K tg (Itt K a) [it] it (fun i h=>h.IsTupleIter it a i) where
 mem:=by simp
 obj:=fun i h st b hb=>by
  have e:b=it:=by simpa using hb
  subst e
  obtain⟨o,e,c,d⟩:=st
  exact⟨o,e,fun v z=>by rw[d] at z;cases z⟩
 keep:=fun i h h' st k=>st.at fun o e=>k it (by simp) o e
 item:=by
  intro X hP hw hK hc i pins s σ H E I hf st hg
  subst hP hw hK
  obtain⟨xs,x,hq,hx⟩:=hg
  obtain⟨its,rv,p,hz⟩:=I.tuple hq
  obtain⟨u,hu,ru⟩:=rv.get hx
  obtain⟨f0,f1,f2,f3,f4,f5⟩:=hf it (by simp)
  refine wpAny_pyNext_tuple_item st (show s.heap.IsTuple a its.toArray from p) (x:=u) (by simpa using hu) fun h' st' sb=>?_
  have I1:Inv X pins σ H { s with heap:=h' }:=I.turned (t':=s.toks) (fun b o hb e=>(sb.2 b hb).trans e) f0 f1 f3 f4 f5
  obtain⟨o,e,c,d⟩:=id st'
  exact⟨u,rfl,go_of (s:={ s with heap:=h' }) e c d (by decide) ⟨x,H,I1,ru,⟨rfl,fun ys hy=>by rw[I.tuple_inj hy hq];exact hx⟩,st',fun b hb=>(hf b hb).1⟩⟩
 done:=by
  intro X hP hw hK hc i pins s σ H E I hf st hg
  subst hP hw hK
  obtain⟨xs,hq,hx⟩:=hg
  obtain⟨its,rv,p,hz⟩:=I.tuple hq
  obtain⟨f0,f1,f2,f3,f4,f5⟩:=hf it (by simp)
  have hl:=rv.length
  exact wpAny_pyNext_tuple_end (I.ok.hd hc) st (show s.heap.IsTuple a its.toArray from p) (by simp;omega) fun h' eb=>⟨rfl,I.turned (t':=s.toks) (fun b o hb e=>eb b o hb e) f0 f1 f3 f4 f5⟩
 self:=fun _ _ _ _ _ st h=>wpAny_pyIter_tupleiter st h
theorem turn_range {P:Program}{w:World}{K:PySem.W.Frag}{tg:Expr} (it:Addr) (lo:Int) (n:Nat):Turn P w K tg (Itr lo n) [it] it (fun i h=>IsRangeIter h it (lo+(i:Nat) * 1) ((n:Int) - (i:Nat)) 1) where
 mem:=by simp
 obj:=fun i h st b hb=>by
  have e:b=it:=by simpa using hb
  subst e
  exact⟨_,st,fun v z=>by
   have z':Data.fields _=Data.cell v:=z
   cases z'⟩
 keep:=fun i h h' st k=>k it (by simp) _ st
 item:=by
  intro X hP hw hK hc i pins s σ H E I hf st hg
  subst hP hw hK
  obtain⟨f0,f1,f2,f3,f4,f5⟩:=hf it (by simp)
  have W:=Walks.range (prog:=X.prog) (w:=X.w) (I.ok.hd hc) it lo 1 n
  refine W.item i s _ _ hg st fun v h' tk hv st' kk=>?_
  obtain⟨t,rfl⟩:=hv
  have I1:Inv X pins σ H { s with heap:=h',toks:=tk }:=I.turned (fun b o hb e=>kk b o (by simpa using hb) e) f0 f1 f3 f4 f5
  refine⟨_,rfl,go_of (s:={ s with heap:=h',toks:=tk }) (n := "range_iterator") st' rfl rfl (by decide) ⟨.int (lo+i),H,I1,⟨t,?_⟩,⟨rfl,rfl⟩,st',fun b hb=>(hf b hb).1⟩⟩
  rw[Int.mul_one]
 done:=by
  intro X hP hw hK hc i pins s σ H E I hf st hg
  subst hP hw hK
  obtain⟨f0,f1,f2,f3,f4,f5⟩:=hf it (by simp)
  exact wpAny_pyNext_range_end (I.ok.hd hc) st (by have:n≤i:=hg;omega) fun h' eb=>⟨rfl,I.turned (t':=s.toks) (fun b o hb e=>eb b o hb e) f0 f1 f3 f4 f5⟩
 self:=fun _ _ _ _ _ st h=>wpAny_pyIter_rangeiter st h
end L2
namespace L2
open PySem PySem.Spec PyProof.Rows
section
variable {X:Cx}{tg:Expr}
noncomputable def iList (K:PySem.W.Frag) (tl:TE):TI:=fun σ H R=>tl σ H fun x H1=>∃ a,x=.ref a∧(∃ xs,bM K H1 a xs)∧R (Itl K a) H1
noncomputable def iTup (K:PySem.W.Frag) (tl:TE):TI:=fun σ H R=>tl σ H fun x H1=>∃ a,x=.ref a∧(∃ xs,bT K H1 a xs)∧R (Itt K a) H1
theorem pi_list {l:Expr}{tl:TE} (hl:PE X l tl):PI X tg l (iList X.K tl):=by
 intro pins s σ H R I h
 refine d8 (hl pins s σ H _ I h) fun v s1 ⟨x,H1,I1,r1,q1⟩=>?_
 obtain⟨a,e,⟨xs,hq⟩,q⟩:=q1
 subst e
 cases r1
 obtain⟨its,rv,p,hz⟩:=I1.list hq
 refine wpAny_pyIter_list p.isList ?_
 refine⟨s1.heap.objs.size,[s1.heap.objs.size],_,_,H1,rfl,I1.kept (t':=s1.toks) fun b o e=>Heap.get?_push_of_some _ e,turn_list a _,⟨_,Heap.get?_push_size _ rfl,rfl,rfl⟩,fun b hb=>?_,q⟩
 have e:b=s1.heap.objs.size:=by simpa using hb
 subst e
 exact I1.fpOk (Nat.le_refl _) (I1.hok.fresh (Nat.le_refl _))
theorem pi_tup {l:Expr}{tl:TE} (hl:PE X l tl):PI X tg l (iTup X.K tl):=by
 intro pins s σ H R I h
 refine d8 (hl pins s σ H _ I h) fun v s1 ⟨x,H1,I1,r1,q1⟩=>?_
 obtain⟨a,e,⟨xs,hq⟩,q⟩:=q1
 subst e
 cases r1
 obtain⟨its,rv,p,hz⟩:=I1.tuple hq
 refine wpAny_pyIter_tuple (show s1.heap.IsTuple a its.toArray from p) ?_
 refine⟨s1.heap.objs.size,[s1.heap.objs.size],_,_,H1,rfl,I1.kept (t':=s1.toks) fun b o e=>Heap.get?_push_of_some _ e,turn_tuple a _,⟨_,Heap.get?_push_size _ rfl,rfl,rfl⟩,fun b hb=>?_,q⟩
 have e:b=s1.heap.objs.size:=by simpa using hb
 subst e
 exact I1.fpOk (Nat.le_refl _) (I1.hok.fresh (Nat.le_refl _))
theorem range_it {pins:List (Addr×Obj)}{σ:St}{H:Hp}{s:Shared}{R:It→Hp→Prop}{E:Value→Shared→Prop}{lo hi:Int}{t u v:Tok}{tk:Nat} (I:Inv X pins σ H s) (h1 : -(2 ^ 62)≤lo) (h2:lo < 2 ^ 62) (h3 : -(2 ^ 62)≤hi) (h4:hi < 2 ^ 62)
  (q:R (Itr lo (hi - lo).toNat) H):wpAny (model X.prog X.w) X.A (pyIter (.ref s.heap.objs.size)) (PIE X pins σ tg R) E { s with heap:=s.heap.push { cls:=.type "range",data:=.fields #[.int lo t,.int hi u,.int 1 v] },toks:=tk }:=by
 refine wpAny_pyIter_range (IsRange.new ..) (small_one h1 h2 h3 h4) ?_
 have I1:Inv X pins σ H { s with heap:=s.heap.push { cls:=.type "range",data:=.fields #[.int lo t,.int hi u,.int 1 v] },toks:=tk }:=I.kept fun b o e=>Heap.get?_push_of_some _ e
 refine⟨(s.heap.push { cls:=.type "range",data:=.fields #[.int lo t,.int hi u,.int 1 v] }).objs.size,[(s.heap.push { cls:=.type "range",data:=.fields #[.int lo t,.int hi u,.int 1 v] }).objs.size],_,_,H,rfl,
  I1.kept (t':=tk) fun b o e=>Heap.get?_push_of_some _ e,turn_range _ lo (hi - lo).toNat,?_,fun b hb=>?_,q⟩
 ·have e1:lo+((0:Nat):Int) * 1=lo:=by simp
  have e2:(((hi - lo).toNat:Nat):Int) - ((0:Nat):Int)=Builtin.Range.rangeSize lo hi 1:=by rw[rangeSize_one];split <;> omega
  show IsRangeIter _ _ (lo+((0:Nat):Int) * 1) ((((hi - lo).toNat:Nat):Int) - ((0:Nat):Int)) 1
  rw[e1,e2]
  exact Heap.get?_push_size _ rfl
 ·have e:b=(s.heap.push { cls:=.type "range",data:=.fields #[.int lo t,.int hi u,.int 1 v] }).objs.size:=by simpa using hb
  subst e
  exact I1.fpOk (Nat.le_refl _) (I1.hok.fresh (Nat.le_refl _))
noncomputable def iRng1 (ta:TA):TI:=fun σ H R=>ta σ H fun vs H1=>∃ j:Int,vs=[.int j]∧-(2 ^ 62)≤j∧j < 2 ^ 62∧R (Itr 0 j.toNat) H1
theorem cG {a:Expr}{ta:TA}{p pos:Pos} (hg:Gl X "range") (hm:X.mg "range" = none) (ha:PA X [a] ta) (hs:starEach [a] X.env=[(false,eval a X.env)]:=by rfl):PI X tg (.Call (.Name "range" p) [a] [] pos) (iRng1 ta):=by
 intro pins s σ H R I h
 refine Call_ (ld_blt I hg hm boot_range (PyProof.Rows.callWith_type1 (d8 (ha pos pins s σ H _ I h) fun us s1 ⟨vs,H1,I1,r1,q1⟩=>?_) hs rfl))
 obtain⟨j,e,q1,q2,q⟩:=q1
 subst e
 cases r1 with
 | cons r rr=>
  cases rr
  obtain⟨t,rfl⟩:=r
  exact call_range_1 (range_it I1 (by omega) (by omega) q1 q2 (by simpa using q))
noncomputable def tFor (wi:TI) (g:TG) (tb:TS):TS:=fun D σ H=>wi σ H fun J H1=>∃ W:Nat→Nat→St→Hp→Prop,(∃ m,W 0 m σ H1)∧∀ i m σ H,W i m σ H→
 (J.stop i H∧D.nx σ H)∨(J.go i H∧∃ N:St→Hp→Prop,(∀ σ' H',N σ' H'→∃ m',m' < m∧W (i+1) m' σ' H')∧∀ x H',J.yld i H x H'→g x σ H' fun σ2 H2=>tb { D with nx:=N,ct:=N,bk:=D.nx } σ2 H2)
noncomputable def pinsAt (fp:List Addr) (h:Heap):List (Addr×Obj):=fp.filterMap fun b=>(h.get? b).map fun o=>(b,o)
theorem mem_pinsAt {fp:List Addr}{h:Heap}{b:Addr}{o:Obj} (hb:b∈fp) (e:h.get? b=some o):(b,o)∈pinsAt fp h:=List.mem_filterMap.mpr ⟨b,hb,by rw[e];rfl⟩
theorem of_pinsAt {fp:List Addr}{h:Heap}{p:Addr×Obj} (hp:p∈pinsAt fp h):p.1∈fp∧h.get? p.1=some p.2:=by
 obtain⟨b,hb,e⟩:=List.mem_filterMap.mp hp
 cases q:h.get? b with
 | none=>rw[q] at e;cases e
 | some o=>
  rw[q] at e
  have e':(b,o)=p:=Option.some.inj e
  subst e'
  exact⟨hb,q⟩
theorem Inv.pinned {pins:List (Addr×Obj)}{σ:St}{H:Hp}{s:Shared}{fp:List Addr} (I:Inv X pins σ H s) (hf:∀ b∈fp,FpOk X pins H b) (ho:∀ b∈fp,∃ o,s.heap.get? b=some o∧∀ v,o.data≠.cell v):Inv X (pins++pinsAt fp s.heap) σ H s:=
 I.pins_of fun p hp=>(List.mem_append.mp hp).elim (fun z=>I.pin p (List.mem_append_right _ z)) fun z=>by
  obtain⟨hb,e⟩:=of_pinsAt z
  obtain⟨f0,f1,f2,_⟩:=hf p.1 hb
  obtain⟨o,e',d⟩:=ho p.1 hb
  rw[e] at e';cases e'
  exact⟨e,f0,f1,f2,d⟩
theorem Inv.unpinned {pins pl:List (Addr×Obj)}{σ:St}{H:Hp}{s:Shared} (I:Inv X (pins++pl) σ H s):Inv X pins σ H s:=I.pins_of fun p hp=>I.pin p (List.mem_append_right _ (List.mem_append_left _ hp))
theorem dB {iter:Expr}{body:List Stmt}{wi:TI}{g:TG}{tb:TS}{pos:Pos} (hp:PassesOwn (model X.prog X.w) X.A X.env X.xe) (hc:X.calm=true) (hi:PI X tg iter wi) (hg:PG X tg g) (hb:PSs X body tb)
  (hs:∀ x,foldedSetIterable iter X.env x=pure x:=by intro _;rfl):PS X (.For tg iter body [] pos) (tFor wi g tb):=by
 intro pins s σ H D I h
 refine wpAny_For (d8 (hi pins s σ H _ I h) fun v s1 h1=>d8 h1 fun itv s2 h2=>?_) hs
 obtain⟨it,fp,tn,J,H2,e,I2,T,st2,f2,W,⟨m0,w0⟩,turn⟩:=h2
 subst e
 have stat:∀ {H':Hp},(∀ b∈fp,H' b=none)→∀ b∈fp,FpOk X pins H' b:=fun hn b hb=>⟨hn b hb,(f2 b hb).2⟩
 refine codeAny_forLoop_any (fun n s'=>∃ i σ' H',Inv X pins σ' H' s'∧tn i s'.heap∧(∀ b∈fp,H' b=none)∧W i n σ' H') ?_ m0 ⟨0,σ,H2,I2,st2,fun b hb=>(f2 b hb).1,w0⟩
 rintro n s3 ⟨i,σ3,H3,I3,st3,fr3,w3⟩
 rcases turn i n σ3 H3 w3 with ⟨stop,qn⟩ | ⟨go,N,hN,step⟩
 ·refine wpAny_passesOwn hp (d8 (T.done X rfl rfl rfl hc i pins s3 σ3 H3 X.xe I3 (stat fr3) st3 stop) fun r s4 ⟨hr,I4⟩=>?_)
  subst hr
  exact wpAny_execs_nil ⟨σ3,H3,I4,qn⟩
 ·refine wpAny_passesOwn hp (d8 (T.item X rfl rfl rfl hc i pins s3 σ3 H3 X.xe I3 (stat fr3) st3 go) fun r s4 ⟨u,hr,h4⟩=>?_)
  subst hr
  refine wpAny_passesOwn hp (d8 h4 fun _ s5 ⟨x,H5,I5,r5,y5,st5,fr5⟩=>?_)
  have I5':=I5.pinned (stat fr5) (T.obj _ _ st5)
  refine wpAny_passesOwn hp (d8 (hg _ s5 σ3 H5 x u _ I5' r5 (step x H5 y5)) fun _ s6 ⟨σ6,H6,I6,q6⟩=>?_)
  refine wpAny_passesOwn hp (d8 (hb _ s6 σ6 H6 _ I6 q6) fun f s7 q7=>?_)
  have again:∀ {σ7:St}{H7:Hp},Inv X (pins++pinsAt fp s5.heap) σ7 H7 s7→N σ7 H7→∃ m,m < n∧∃ i σ' H',Inv X pins σ' H' s7∧tn i s7.heap∧(∀ b∈fp,H' b=none)∧W i m σ' H':=fun {σ7 H7} I7 n7=>by
   obtain⟨m',hm,w7⟩:=hN σ7 H7 n7
   refine⟨m',hm,i+1,σ7,H7,I7.unpinned,T.keep _ _ _ st5 fun b hb o e=>(I7.pin (b,o) (List.mem_append_right _ (List.mem_append_right _ (mem_pinsAt hb e)))).1,fun b hb=>?_,w7⟩
   obtain⟨o,e,d⟩:=T.obj _ _ st5 b hb
   exact (I7.pin (b,o) (List.mem_append_right _ (List.mem_append_right _ (mem_pinsAt hb e)))).2.1
  cases f with
  | next=>obtain⟨σ7,H7,I7,n7⟩:=q7;exact again I7 n7
  | cont=>obtain⟨σ7,H7,I7,n7⟩:=q7;exact again I7 n7
  | brk=>obtain⟨σ7,H7,I7,q7⟩:=q7;exact⟨σ7,H7,I7.unpinned,q7⟩
  | ret v=>obtain⟨x7,σ7,H7,I7,r7,q7⟩:=q7;exact⟨x7,σ7,H7,I7.unpinned,r7,q7⟩
end
theorem for_list {K:PySem.W.Frag}{a:Addr}{xs:List V}{g:TG}{tb:TS}{D:Ends}{σ:St}{H:Hp} (Pv:Nat→St→Hp→Prop) (h0:Pv 0 σ H) (hl:∀ i σ H,i≤xs.length→Pv i σ H→bM K H a xs)
  (hs:∀ i x σ H,xs[i]? = some x→Pv i σ H→g x σ H fun σ2 H2=>tb { D with nx:=Pv (i+1),ct:=Pv (i+1),bk:=D.nx } σ2 H2) (hd:∀ σ H,Pv xs.length σ H→D.nx σ H) :
  ∃ W:Nat→Nat→St→Hp→Prop,(∃ m,W 0 m σ H)∧∀ i m σ H,W i m σ H→
   ((Itl K a).stop i H∧D.nx σ H)∨((Itl K a).go i H∧∃ N:St→Hp→Prop,(∀ σ' H',N σ' H'→∃ m',m' < m∧W (i+1) m' σ' H')∧∀ x H',(Itl K a).yld i H x H'→g x σ H' fun σ2 H2=>tb { D with nx:=N,ct:=N,bk:=D.nx } σ2 H2):=by
 refine⟨fun i m σ H=>m=xs.length - i∧i≤xs.length∧Pv i σ H,⟨xs.length,by simp,Nat.zero_le _,h0⟩,?_⟩
 rintro i m σ H ⟨rfl,hi,p⟩
 have q:=hl i σ H hi p
 by_cases hlt:i < xs.length
 ·refine .inr ⟨⟨xs,xs[i],q,by simp [hlt]⟩,Pv (i+1),fun σ' H' p'=>⟨xs.length - (i+1),by omega,rfl,hlt,p'⟩,fun x H' y=>?_⟩
  obtain⟨e,y⟩:=y
  subst e
  exact hs i x σ _ (y xs q) p
 ·have e:i=xs.length:=by omega
  subst e
  exact .inl ⟨⟨xs,q,Nat.le_refl _⟩,hd σ H p⟩
theorem for_tup {K:PySem.W.Frag}{a:Addr}{xs:List V}{g:TG}{tb:TS}{D:Ends}{σ:St}{H:Hp} (Pv:Nat→St→Hp→Prop) (h0:Pv 0 σ H) (hl:∀ i σ H,i≤xs.length→Pv i σ H→bT K H a xs)
  (hs:∀ i x σ H,xs[i]? = some x→Pv i σ H→g x σ H fun σ2 H2=>tb { D with nx:=Pv (i+1),ct:=Pv (i+1),bk:=D.nx } σ2 H2) (hd:∀ σ H,Pv xs.length σ H→D.nx σ H) :
  ∃ W:Nat→Nat→St→Hp→Prop,(∃ m,W 0 m σ H)∧∀ i m σ H,W i m σ H→
   ((Itt K a).stop i H∧D.nx σ H)∨((Itt K a).go i H∧∃ N:St→Hp→Prop,(∀ σ' H',N σ' H'→∃ m',m' < m∧W (i+1) m' σ' H')∧∀ x H',(Itt K a).yld i H x H'→g x σ H' fun σ2 H2=>tb { D with nx:=N,ct:=N,bk:=D.nx } σ2 H2):=by
 refine⟨fun i m σ H=>m=xs.length - i∧i≤xs.length∧Pv i σ H,⟨xs.length,by simp,Nat.zero_le _,h0⟩,?_⟩
 rintro i m σ H ⟨rfl,hi,p⟩
 have q:=hl i σ H hi p
 by_cases hlt:i < xs.length
 ·refine .inr ⟨⟨xs,xs[i],q,by simp [hlt]⟩,Pv (i+1),fun σ' H' p'=>⟨xs.length - (i+1),by omega,rfl,hlt,p'⟩,fun x H' y=>?_⟩
  obtain⟨e,y⟩:=y
  subst e
  exact hs i x σ _ (y xs q) p
 ·have e:i=xs.length:=by omega
  subst e
  exact .inl ⟨⟨xs,q,Nat.le_refl _⟩,hd σ H p⟩
theorem dO {lo:Int}{n:Nat}{g:TG}{tb:TS}{D:Ends}{σ:St}{H:Hp} (Pv:Nat→St→Hp→Prop) (h0:Pv 0 σ H)
  (hs:∀ i σ H,i < n→Pv i σ H→g (.int (lo+i)) σ H fun σ2 H2=>tb { D with nx:=Pv (i+1),ct:=Pv (i+1),bk:=D.nx } σ2 H2) (hd:∀ σ H,Pv n σ H→D.nx σ H) :
  ∃ W:Nat→Nat→St→Hp→Prop,(∃ m,W 0 m σ H)∧∀ i m σ H,W i m σ H→
   ((Itr lo n).stop i H∧D.nx σ H)∨((Itr lo n).go i H∧∃ N:St→Hp→Prop,(∀ σ' H',N σ' H'→∃ m',m' < m∧W (i+1) m' σ' H')∧∀ x H',(Itr lo n).yld i H x H'→g x σ H' fun σ2 H2=>tb { D with nx:=N,ct:=N,bk:=D.nx } σ2 H2):=by
 refine⟨fun i m σ H=>m=n - i∧i≤n∧Pv i σ H,⟨n,by simp,Nat.zero_le _,h0⟩,?_⟩
 rintro i m σ H ⟨rfl,hi,p⟩
 by_cases hlt:i < n
 ·refine .inr ⟨hlt,Pv (i+1),fun σ' H' p'=>⟨n - (i+1),by omega,rfl,hlt,p'⟩,fun x H' y=>?_⟩
  obtain⟨e,y⟩:=y
  subst e y
  exact hs i σ _ hlt p
 ·have e:i=n:=by omega
  subst e
  exact .inl ⟨Nat.le_refl _,hd σ H p⟩
end L2
namespace L2
open PySem PySem.Spec PyProof.Rows
noncomputable abbrev R2:=V→V→Hp→VK→Prop
noncomputable def OpR (X:Cx) (f:Value→Value→Sem Value) (r:R2):Prop:=
 ∀ (pins:List (Addr×Obj)) (s:Shared) (σ:St) (H:Hp) (x y:V) (v u:Value) (Q:VK),Inv X pins σ H s→bO x v→bO y u→r x y H Q→
  wpAny (model X.prog X.w) X.A (f v u) (EP X pins σ Q) X.xe s
noncomputable def UnR (X:Cx) (f:Value→Sem Value) (r:V→Hp→VK→Prop):Prop:=
 ∀ (pins:List (Addr×Obj)) (s:Shared) (σ:St) (H:Hp) (x:V) (v:Value) (Q:VK),Inv X pins σ H s→bO x v→r x H Q→
  wpAny (model X.prog X.w) X.A (f v) (EP X pins σ Q) X.xe s
noncomputable def CallR (X:Cx) (f:Value) (r:List V→Hp→VK→Prop):Prop:=
 ∀ (pins:List (Addr×Obj)) (s:Shared) (σ:St) (H:Hp) (xs:List V) (us:List Value) (Q:VK),Inv X pins σ H s→bP xs us→r xs H Q→
  wpAny (model X.prog X.w) X.A (call f us) (EP X pins σ Q) X.xe s
noncomputable def TruR (X:Cx) (r:V→Hp→(Bool→Hp→Prop)→Prop):Prop:=
 ∀ (pins:List (Addr×Obj)) (s:Shared) (σ:St) (H:Hp) (x:V) (v:Value) (Q:Bool→Hp→Prop),Inv X pins σ H s→bO x v→r x H Q→
  wpAny (model X.prog X.w) X.A (truthy v) (TP X pins σ Q) X.xe s
noncomputable def tOp (r:R2) (ta tb:TE):TE:=fun σ H Q=>ta σ H fun x H1=>tb σ H1 fun y H2=>r x y H2 Q
noncomputable def tUn (r:V→Hp→VK→Prop) (ta:TE):TE:=fun σ H Q=>ta σ H fun x H1=>r x H1 Q
noncomputable def rI (C:Int→Int→Prop) (g:Int→Int→V):R2:=fun x y H Q=>∃ i j,x=.int i∧y=.int j∧C i j∧Q (g i j) H
noncomputable def rI0 (g:Int→Int→V):R2:=fun x y H Q=>∃ i j,x=.int i∧y=.int j∧Q (g i j) H
noncomputable def rU (g:Int→V):V→Hp→VK→Prop:=fun x H Q=>∃ i,x=.int i∧Q (g i) H
section
variable {X:Cx}{a b c:Expr}{ta tb tc:TE}{pos:Pos}
theorem binT (ha:PE X a ta) (hb:PE X b tb) {pins:List (Addr×Obj)}{s:Shared}{σ:St}{H:Hp}{R:V→V→Hp→Prop} (I:Inv X pins σ H s)
  (h:ta σ H fun x H1=>tb σ H1 fun y H2=>R x y H2) {Q:Value→Shared→Prop}{f:Value→Value→Sem Value}
  (hf:∀ v u s2 x y H2,Inv X pins σ H2 s2→bO x v→bO y u→R x y H2→wpAny (model X.prog X.w) X.A (f v u) Q X.xe s2) :
  wpAny (model X.prog X.w) X.A (eval a X.env) (fun v s₁=>wpAny (model X.prog X.w) X.A (eval b X.env) (fun u s₂=>wpAny (model X.prog X.w) X.A (f v u) Q X.xe s₂) X.xe s₁) X.xe s:=by
 refine d8 (ha pins s σ H _ I h) fun v s1 ⟨x,H1,I1,r1,q1⟩=>?_
 refine d8 (hb pins s1 σ H1 _ I1 q1) fun u s2 ⟨y,H2,I2,r2,q2⟩=>?_
 exact hf v u s2 x y H2 I2 r1 r2 q2
theorem b0 {op:Operator}{r:R2} (ho:OpR X (binaryOp op) r) (ha:PE X a ta) (hb:PE X b tb):PE X (.BinOp a op b pos) (tOp r ta tb):=by
 intro pins s σ H Q I h
 exact wpAny_BinOp (binT ha hb I h fun v u s2 x y H2 I2 rx ry q=>ho pins s2 σ H2 x y v u Q I2 rx ry q)
theorem pe_un {op:UnaryOp}{r:V→Hp→VK→Prop} (ho:UnR X (unaryOp op) r) (ha:PE X a ta):PE X (.UnaryOp op a pos) (tUn r ta):=by
 intro pins s σ H Q I h
 exact UnaryOp_ (d8 (ha pins s σ H _ I h) fun v s1 ⟨x,H1,I1,r1,q1⟩=>ho pins s1 σ H1 x v Q I1 r1 q1)
theorem opI {f:Value→Value→Sem Value}{C:Int→Int→Prop}{g:Int→Int→Int}
  (rule:∀ (i j:Int) (t u:Tok) (s:Shared) (Q:Value→Shared→Prop) (E:Value→Shared→Prop),C i j→Q (.int (g i j) s.toks) { s with toks:=s.toks+1 }→wpAny (model X.prog X.w) X.A (f (.int i t) (.int j u)) Q E s) :
  OpR X f (rI C fun i j=>.int (g i j)):=by
 intro pins s σ H x y v u Q I rx ry h
 obtain⟨i,j,rfl,rfl,hc,q⟩:=h
 obtain⟨t,rfl⟩:=rx
 obtain⟨t',rfl⟩:=ry
 exact rule i j t t' s _ _ hc ⟨.int (g i j),H,I.tok _,⟨_,rfl⟩,q⟩
theorem opI0 {f:Value→Value→Sem Value}{g:Int→Int→Int}
  (rule:∀ (i j:Int) (t u:Tok) (s:Shared) (Q:Value→Shared→Prop) (E:Value→Shared→Prop),Q (.int (g i j) s.toks) { s with toks:=s.toks+1 }→wpAny (model X.prog X.w) X.A (f (.int i t) (.int j u)) Q E s) :
  OpR X f (rI0 fun i j=>.int (g i j)):=by
 intro pins s σ H x y v u Q I rx ry h
 obtain⟨i,j,rfl,rfl,q⟩:=h
 obtain⟨t,rfl⟩:=rx
 obtain⟨t',rfl⟩:=ry
 exact rule i j t t' s _ _ ⟨.int (g i j),H,I.tok _,⟨_,rfl⟩,q⟩
theorem opB0 {f:Value→Value→Sem Value}{g:Int→Int→Bool}
  (rule:∀ (i j:Int) (t u:Tok) (s:Shared) (Q:Value→Shared→Prop) (E:Value→Shared→Prop),Q (.bool (g i j)) s→wpAny (model X.prog X.w) X.A (f (.int i t) (.int j u)) Q E s) :
  OpR X f (rI0 fun i j=>.bl (g i j)):=by
 intro pins s σ H x y v u Q I rx ry h
 obtain⟨i,j,rfl,rfl,q⟩:=h
 obtain⟨t,rfl⟩:=rx
 obtain⟨t',rfl⟩:=ry
 exact rule i j t t' s _ _ ⟨.bl (g i j),H,I,rfl,q⟩
noncomputable def CDiv (i j:Int):Prop:=0 < j∧j < 1073741824
noncomputable def CPow (i j:Int):Prop:=0≤j∧j≤1000000∧i.natAbs < 2 ^ 64
noncomputable def CMul (i j:Int):Prop:=(-(2 ^ 64) < i∧i < 2 ^ 64)∨(-(2 ^ 64) < j∧j < 2 ^ 64)
theorem CMul.ok {i j:Int} (h:CMul i j):IntMulOk i j:=by
 rcases h with ⟨h1,h2⟩ | ⟨h1,h2⟩
 ·exact .of_left (intBits_le_64 h1 h2)
 ·exact .of_right (intBits_le_64 h1 h2)
theorem cO:OpR X (binaryOp .Add) (rI0 fun i j=>.int (i+j)):=opI0 fun _ _ _ _ _ _ _ q=>add_int q
theorem dN:OpR X (binaryOp .Sub) (rI0 fun i j=>.int (i - j)):=opI0 fun _ _ _ _ _ _ _ q=>sub_int q
theorem op_mul:OpR X (binaryOp .Mult) (rI CMul fun i j=>.int (i * j)):=opI fun _ _ _ _ _ _ _ hc q=>mul_int q hc.ok
theorem op_fdiv:OpR X (binaryOp .FloorDiv) (rI CDiv fun i j=>.int (i / j)):=opI fun i j _ _ _ _ _ hc q=>by
 have h1:(0:Int) < j:=hc.1
 have h2:j < 1073741824:=hc.2
 exact floordiv_int (by omega) (by rw[Int.fdiv_eq_ediv_of_nonneg i (by omega)];exact q) (.inl (PyProof.noPylong_small (by omega)))
theorem op_mod:OpR X (binaryOp .Mod) (rI (fun _ j=>0 < j) fun i j=>.int (i % j)):=opI fun i j _ _ _ _ _ hc q=>by
 have h1:(0:Int) < j:=hc
 exact mod_int' (by omega) (by rw[Int.fmod_eq_emod_of_nonneg i (by omega)];exact q)
theorem op_pow:OpR X (binaryOp .Pow) (rI CPow fun i j=>.int (i ^ j.toNat)):=opI fun _ _ _ _ _ _ _ hc q=>pow_int_small hc.1 hc.2.1 hc.2.2 q
theorem unI {f:Value→Sem Value}{g:Int→Int}
  (rule:∀ (i:Int) (t:Tok) (s:Shared) (Q:Value→Shared→Prop) (E:Value→Shared→Prop),Q (.int (g i) s.toks) { s with toks:=s.toks+1 }→wpAny (model X.prog X.w) X.A (f (.int i t)) Q E s) :
  UnR X f (rU fun i=>.int (g i)):=by
 intro pins s σ H x v Q I rx h
 obtain⟨i,rfl,q⟩:=h
 obtain⟨t,rfl⟩:=rx
 exact rule i t s _ _ ⟨.int (g i),H,I.tok _,⟨_,rfl⟩,q⟩
theorem un_neg:UnR X (unaryOp .USub) (rU fun i=>.int (-i)):=unI fun _ _ _ _ _ q=>neg_int q
end
noncomputable def scal:V→V→Bool
 | .non,.non=>true | .non,.int _=>true | .int _,.non=>true | .non,.bl _=>true | .bl _,.non=>true | .non,.str _=>true | .str _,.non=>true
 | .int _,.int _=>true | .bl _,.bl _=>true | .str _,.str _=>true | .byt _,.byt _=>true
 | .int _,.str _=>true | .str _,.int _=>true | .bl _,.str _=>true | .str _,.bl _=>true
 | _,_=>false
noncomputable def rEq:R2:=fun x y H Q=>scal x y=true∧Q (.bl (decide (x=y))) H
noncomputable def rNe:R2:=fun x y H Q=>scal x y=true∧Q (.bl (!decide (x=y))) H
theorem dec_int {i j:Int}:decide (V.int i=V.int j)=(i == j):=by
 rw[Bool.eq_iff_iff]
 simp
theorem dec_bl {i j:Bool}:decide (V.bl i=V.bl j)=(i == j):=by
 rw[Bool.eq_iff_iff]
 simp
theorem dec_str {i j:Str}:decide (V.str i=V.str j)=(i == j):=by
 rw[Bool.eq_iff_iff]
 simp
theorem dec_byt {i j:Array UInt8}:decide (V.byt i=V.byt j)=(i.toList == j.toList):=by
 rw[Bool.eq_iff_iff]
 cases i
 cases j
 simp
section
variable {X:Cx}{a b c:Expr}{ta tb tc:TE}{pos:Pos}
theorem cE {pins:List (Addr×Obj)}{σ:St}{H:Hp}{s:Shared}{Q:VK}{k k':Bool} (I:Inv X pins σ H s) (q:Q (.bl k) H) (e:k=k'):EP X pins σ Q (.bool k') s:=by
 subst e
 exact⟨.bl k,H,I,rfl,q⟩
theorem op_eq:OpR X (compareOp .Eq) rEq:=by
 intro pins s σ H x y v u Q I rx ry h
 obtain⟨hs,q⟩:=h
 cases x with
 | non=>
  cases rx
  cases y with
  | non=>cases ry;exact PySem.EqNone.eq_none_none (cE I q (by simp))
  | bl j=>cases ry;exact PySem.EqNone.eq_none_bool (cE I q (by simp))
  | int j=>obtain⟨t',rfl⟩:=ry;exact PySem.EqNone.eq_none_int (cE I q (by simp))
  | str j=>obtain⟨t',rfl⟩:=ry;exact PySem.EqNone.eq_none_str (cE I q (by simp))
  | _=>exact absurd (show false=true from hs) Bool.false_ne_true
 | bl i=>
  cases rx
  cases y with
  | non=>cases ry;exact PySem.EqNone.eq_bool_none (cE I q (by simp))
  | bl j=>cases ry;exact eq_bool (cE I q dec_bl)
  | str j=>obtain⟨t',rfl⟩:=ry;exact PySem.EqMixed.eq_bool_str (cE I q (by simp))
  | _=>exact absurd (show false=true from hs) Bool.false_ne_true
 | int i=>
  obtain⟨t,rfl⟩:=rx
  cases y with
  | non=>cases ry;exact PySem.EqNone.eq_int_none (cE I q (by simp))
  | int j=>obtain⟨t',rfl⟩:=ry;exact eq_int (cE I q dec_int)
  | str j=>obtain⟨t',rfl⟩:=ry;exact PySem.EqMixed.eq_int_str (cE I q (by simp))
  | _=>exact absurd (show false=true from hs) Bool.false_ne_true
 | str i=>
  obtain⟨t,rfl⟩:=rx
  cases y with
  | non=>cases ry;exact PySem.EqNone.eq_str_none (cE I q (by simp))
  | bl j=>cases ry;exact PySem.EqMixed.eq_str_bool (cE I q (by simp))
  | int j=>obtain⟨t',rfl⟩:=ry;exact PySem.EqMixed.eq_str_int (cE I q (by simp))
  | str j=>obtain⟨t',rfl⟩:=ry;exact eq_str (cE I q dec_str)
  | _=>exact absurd (show false=true from hs) Bool.false_ne_true
 | byt i=>
  obtain⟨t,rfl⟩:=rx
  cases y with
  | byt j=>obtain⟨t',rfl⟩:=ry;exact PySem.W.eq_bytes (cE I q dec_byt)
  | _=>exact absurd (show false=true from hs) Bool.false_ne_true
 | _=>cases y <;> exact absurd (show false=true from hs) Bool.false_ne_true
theorem op_ne:OpR X (compareOp .NotEq) rNe:=by
 intro pins s σ H x y v u Q I rx ry h
 obtain⟨hs,q⟩:=h
 cases x with
 | non=>
  cases rx
  cases y with
  | non=>cases ry;exact PySem.EqNone.ne_none_none (cE I q (by simp))
  | bl j=>cases ry;exact PySem.EqNone.ne_none_bool (cE I q (by simp))
  | int j=>obtain⟨t',rfl⟩:=ry;exact PySem.EqNone.ne_none_int (cE I q (by simp))
  | str j=>obtain⟨t',rfl⟩:=ry;exact PySem.EqNone.ne_none_str (cE I q (by simp))
  | _=>exact absurd (show false=true from hs) Bool.false_ne_true
 | bl i=>
  cases rx
  cases y with
  | non=>cases ry;exact PySem.EqNone.ne_bool_none (cE I q (by simp))
  | bl j=>cases ry;exact ne_bool (cE I q (congrArg not dec_bl))
  | str j=>obtain⟨t',rfl⟩:=ry;exact PySem.EqMixed.ne_bool_str (cE I q (by simp))
  | _=>exact absurd (show false=true from hs) Bool.false_ne_true
 | int i=>
  obtain⟨t,rfl⟩:=rx
  cases y with
  | non=>cases ry;exact PySem.EqNone.ne_int_none (cE I q (by simp))
  | int j=>obtain⟨t',rfl⟩:=ry;exact ne_int (cE I q (congrArg not dec_int))
  | str j=>obtain⟨t',rfl⟩:=ry;exact PySem.EqMixed.ne_int_str (cE I q (by simp))
  | _=>exact absurd (show false=true from hs) Bool.false_ne_true
 | str i=>
  obtain⟨t,rfl⟩:=rx
  cases y with
  | non=>cases ry;exact PySem.EqNone.ne_str_none (cE I q (by simp))
  | bl j=>cases ry;exact PySem.EqMixed.ne_str_bool (cE I q (by simp))
  | int j=>obtain⟨t',rfl⟩:=ry;exact PySem.EqMixed.ne_str_int (cE I q (by simp))
  | str j=>obtain⟨t',rfl⟩:=ry;exact ne_str (cE I q (congrArg not dec_str))
  | _=>exact absurd (show false=true from hs) Bool.false_ne_true
 | byt i=>
  obtain⟨t,rfl⟩:=rx
  cases y with
  | byt j=>obtain⟨t',rfl⟩:=ry;exact PySem.W.ne_bytes (cE I q (congrArg not dec_byt))
  | _=>exact absurd (show false=true from hs) Bool.false_ne_true
 | _=>cases y <;> exact absurd (show false=true from hs) Bool.false_ne_true
theorem op_lt:OpR X (compareOp .Lt) (rI0 fun i j=>.bl (decide (i < j))):=opB0 fun _ _ _ _ _ _ _ q=>lt_int q
theorem op_le:OpR X (compareOp .LtE) (rI0 fun i j=>.bl (decide (i≤j))):=opB0 fun _ _ _ _ _ _ _ q=>le_int q
theorem op_gt:OpR X (compareOp .Gt) (rI0 fun i j=>.bl (decide (j < i))):=opB0 fun _ _ _ _ _ _ _ q=>gt_int q
theorem op_ge:OpR X (compareOp .GtE) (rI0 fun i j=>.bl (decide (j≤i))):=opB0 fun _ _ _ _ _ _ _ q=>ge_int q
theorem op_isN:OpR X (compareOp .Is) (fun x y H Q=>y=.non∧Q (.bl (decide (x=.non))) H):=by
 intro pins s σ H x y v u Q I rx ry h
 obtain⟨rfl,q⟩:=h
 cases ry
 refine is_none_gen (cE I q ?_)
 cases x <;> first
  | (cases rx;rfl)
  | (obtain⟨t,rfl⟩:=rx;rfl)
theorem op_notN:OpR X (compareOp .IsNot) (fun x y H Q=>y=.non∧Q (.bl (!decide (x=.non))) H):=by
 intro pins s σ H x y v u Q I rx ry h
 obtain⟨rfl,q⟩:=h
 cases ry
 refine isnot_none_gen (cE I q ?_)
 cases x <;> first
  | (cases rx;rfl)
  | (obtain⟨t,rfl⟩:=rx;rfl)
theorem bW (b:Expr) {op:CmpOp} (h:op≠.In:=by decide) (h2:op≠.NotIn:=by decide):behindInMarks op b=false:=by
 have e1:(op == CmpOp.In)=false:=by cases op <;> first | rfl | exact absurd rfl h
 have e2:(op == CmpOp.NotIn)=false:=by cases op <;> first | rfl | exact absurd rfl h2
 cases b <;> simp [behindInMarks,e1,e2]
theorem pe_cmpR {op:CmpOp}{r:R2} (ho:OpR X (compareOp op) r) (ha:PE X a ta) (hb:PE X b tb) (hm:behindInMarks op b=false):PE X (.Compare a [op] [b] pos) (tOp r ta tb):=by
 intro pins s σ H Q I h
 exact wpAny_Compare1 (binT ha hb I h fun v u s2 x y H2 I2 rx ry q=>ho pins s2 σ H2 x y v u Q I2 rx ry q) hm
noncomputable def tTest (t:TE):TT:=fun σ H Q=>t σ H fun x H'=>∃ k,x=.bl k∧Q k H'
theorem bU {op:CmpOp}{r:R2} (ho:OpR X (compareOp op) r) (ha:PE X a ta) (hb:PE X b tb) (hm:behindInMarks op b=false):PT X (.Compare a [op] [b] pos) (tTest (tOp r ta tb)):=by
 intro pins s σ H Q I h
 refine wpAny_isTrue_Compare1 (d8 (ha pins s σ H _ I h) fun v s1 ⟨x,H1,I1,r1,q1⟩=>d8 (hb pins s1 σ H1 _ I1 q1) fun u s2 ⟨y,H2,I2,r2,q2⟩=>
  d8 (ho pins s2 σ H2 x y v u _ I2 r1 r2 q2) fun c s3 ⟨z,H3,I3,r3,k,e,q3⟩=>?_) hm
 subst e
 cases r3
 exact wpAny_truthy_bool ⟨H3,I3,q3⟩
noncomputable def tChain (r r':R2) (ta tb tc:TE):TE:=fun σ H Q=>ta σ H fun x H1=>tb σ H1 fun y H2=>r x y H2 fun z H3=>∃ k,z=.bl k∧
 (if k=true then tc σ H3 fun w' H4=>r' y w' H4 Q else Q (.bl false) H3)
theorem pe_chain {op op':CmpOp}{r r':R2} (ho:OpR X (compareOp op) r) (ho':OpR X (compareOp op') r') (ha:PE X a ta) (hb:PE X b tb) (hc:PE X c tc)
  (hm:lastMarks [op,op'] [b,c]=false:=by with_unfolding_all rfl):PE X (.Compare a [op,op'] [b,c] pos) (tChain r r' ta tb tc):=by
 intro pins s σ H Q I h
 refine Compare_chain (d8 (ha pins s σ H _ I h) fun v s1 ⟨x,H1,I1,r1,q1⟩=>chain_link (d8 (hb pins s1 σ H1 _ I1 q1) fun u s2 ⟨y,H2,I2,r2,q2⟩=>
  d8 (ho pins s2 σ H2 x y v u _ I2 r1 r2 q2) fun d s3 ⟨z,H3,I3,r3,k,e,q3⟩=>?_)) hm
 subst e
 cases r3
 refine wpAny_truthy_bool ?_
 cases k with
 | false=>exact ite_ff ⟨.bl false,H3,I3,rfl,q3⟩
 | true=>exact ite_tt (chain_last (d8 (hc pins s3 σ H3 _ I3 q3) fun w' s4 ⟨z',H4,I4,r4,q4⟩=>ho' pins s4 σ H4 y z' u w' Q I4 r2 r4 q4))
noncomputable def TruV (K:PySem.W.Frag) (x:V) (H:Hp) (k:Bool):Prop:=
 match x with
 | .non=>k=false
 | .bl b=>k=b
 | .int i=>k=(i != 0)
 | .str y=>y.length≤sizeLine∧k=((y.length:Int) != 0)
 | .byt y=>y.size≤sizeLine∧k=((y.size:Int) != 0)
 | .ref p=>(∃ xs,bM K H p xs∧k = !xs.isEmpty)∨(∃ xs,bT K H p xs∧k = !xs.isEmpty)∨∃ kvs,H p=some (.dK kvs)∧k = !kvs.isEmpty
 | _=>False
theorem isEmpty_kv {κ:Type}{kvs:List (κ×V)}{vs:List (κ×Value)} (r:KV kvs vs):(!vs.isEmpty) = !kvs.isEmpty:=by
 cases r <;> rfl
theorem isEmpty_of {xs:List V}{its:List Value} (r:bP xs its):(!its.toArray.isEmpty) = !xs.isEmpty:=by
 cases r <;> simp
theorem line63:(sizeLine:Nat) < 2 ^ 63:=by rw[sizeLine_eq];decide
theorem tru_ok:TruR X (fun x H Q=>∃ k,TruV X.K x H k∧Q k H):=by
 intro pins s σ H x v Q I rx h
 obtain⟨k,e,q⟩:=h
 have hl:=line63
 have hs:sizeLine=16777216:=sizeLine_eq
 cases x with
 | non=>
  cases rx
  have e':k=false:=e
  subst e'
  exact truthy_none ⟨H,I,q⟩
 | bl b=>
  cases rx
  have e':k=b:=e
  subst e'
  exact wpAny_truthy_bool ⟨H,I,q⟩
 | int i=>
  obtain⟨t,rfl⟩:=rx
  have e':k=(i != 0):=e
  subst e'
  exact PySem.P.truthy_int ⟨H,I,q⟩
 | str y=>
  obtain⟨t,rfl⟩:=rx
  obtain⟨hy,e'⟩:y.length≤sizeLine∧k=((y.length:Int) != 0):=e
  subst e'
  exact PySem.P.truthy_str (by omega) ⟨H,I.tok _,q⟩
 | byt y=>
  obtain⟨t,rfl⟩:=rx
  obtain⟨hy,e'⟩:y.size≤sizeLine∧k=((y.size:Int) != 0):=e
  subst e'
  exact PySem.W.truthy_bytes (by omega) ⟨H,I.tok _,q⟩
 | ref p=>
  cases rx
  have e':(∃ xs,bM X.K H p xs∧k = !xs.isEmpty)∨(∃ xs,bT X.K H p xs∧k = !xs.isEmpty)∨∃ kvs,H p=some (.dK kvs)∧k = !kvs.isEmpty:=e
  rcases e' with ⟨xs,hx,e'⟩ | ⟨xs,hx,e'⟩ | ⟨kvs,hx,e'⟩
  ·subst e'
   obtain⟨its,r,pl,hz⟩:=I.list hx
   have hlen:=r.length
   exact wpAny_truthy_list pl.isList (by simp only [List.size_toArray];omega) ⟨H,I.tok _,by rw[isEmpty_of r];exact q⟩
  ·subst e'
   obtain⟨its,r,pl,hz⟩:=I.tuple hx
   have hlen:=r.length
   exact truthy_tuple pl (by simp only [List.size_toArray];omega) ⟨H,I.tok _,by rw[isEmpty_of r];exact q⟩
  ·subst e'
   obtain⟨hz,hS,vs,r,m⟩:kvs.length≤sizeLine∧(p == sysModules)=false∧∃ vs,KV kvs vs∧s.heap.DictOf (dI X.prog X.w) p vs:=I.hok p _ hx
   have hlen:kvs.length=vs.length:=Paired.length r
   exact wpAny_truthy_dict hS m (by omega) ⟨H,I.tok _,by rw[isEmpty_kv r];exact q⟩
 | _=>exact (show False from e).elim
theorem pt_truth (ha:PE X a ta) (he:∀ whole,isTrue a X.env whole=(do let v ← whole;standAt a.pos;holding [v] (truthy v))) :
  PT X a (fun σ H Q=>ta σ H fun x H'=>∃ k,TruV X.K x H' k∧Q k H'):=by
 intro pins s σ H Q I h
 exact isTrue_plain (d8 (ha pins s σ H _ I h) fun v s1 ⟨x,H1,I1,r1,q1⟩=>tru_ok pins s1 σ H1 x v Q I1 r1 q1) (he _)
theorem vals1 {x:V}{us:List Value} (r:bP [x] us):∃ u,us=[u]∧bO x u:=by
 cases r with
 | cons r1 r2=>cases r2;exact⟨_,rfl,r1⟩
theorem vals2 {x y:V}{us:List Value} (r:bP [x,y] us):∃ u w',us=[u,w']∧bO x u∧bO y w':=by
 cases r with
 | cons r1 r2=>
  cases r2 with
  | cons r3 r4=>cases r4;exact⟨_,_,rfl,r1,r3⟩
theorem call_max2 (hc:X.calm=true):CallR X (.builtin "max") (fun xs H Q=>∃ i j,xs=[.int i,.int j]∧Q (.int (if j > i then j else i)) H):=by
 intro pins s σ H xs us Q I r h
 obtain⟨i,j,rfl,q⟩:=h
 obtain⟨u,w',rfl,⟨t,rfl⟩,⟨t',rfl⟩⟩:=vals2 r
 refine max_two_ints (I.ok.hd hc) fun h' tk k=>⟨_,H,I.kept k,?_,q⟩
 by_cases hj:j > i
 ·rw[if_pos hj,if_pos hj];exact⟨_,rfl⟩
 ·rw[if_neg hj,if_neg hj];exact⟨_,rfl⟩
theorem call_min2 (hc:X.calm=true):CallR X (.builtin "min") (fun xs H Q=>∃ i j,xs=[.int i,.int j]∧Q (.int (if j < i then j else i)) H):=by
 intro pins s σ H xs us Q I r h
 obtain⟨i,j,rfl,q⟩:=h
 obtain⟨u,w',rfl,⟨t,rfl⟩,⟨t',rfl⟩⟩:=vals2 r
 refine min_two_ints (I.ok.hd hc) fun h' tk k=>⟨_,H,I.kept k,?_,q⟩
 by_cases hj:j < i
 ·rw[if_pos hj,if_pos hj];exact⟨_,rfl⟩
 ·rw[if_neg hj,if_neg hj];exact⟨_,rfl⟩
theorem call_int1:CallR X (.type "int") (fun xs H Q=>(∃ i,xs=[.int i]∧Q (.int i) H)∨∃ k,xs=[.bl k]∧Q (.int (if k then 1 else 0)) H):=by
 intro pins s σ H xs us Q I r h
 rcases h with ⟨i,rfl,q⟩ | ⟨k,rfl,q⟩
 ·obtain⟨u,rfl,t,rfl⟩:=vals1 r
  exact call_int_int ⟨.int i,H,I,⟨_,rfl⟩,q⟩
 ·obtain⟨u,rfl,r1⟩:=vals1 r
  cases r1
  exact call_int_bool ⟨.int (if k then 1 else 0),H,I.tok _,⟨_,rfl⟩,q⟩
end
end L2
namespace L2
open PySem PySem.Spec PyProof.Rows
structure ObjM (h:Heap) (x dx C:Addr) (mA:Str→Option Value):Prop where
 obj:h.get? x=some (PySem.W.instObj C dx)
 ns:h.Ns1 dx mA
 ne:dx≠x
theorem lookIn_ns {h:Heap}{dx:Addr}{mA:Str→Option Value} (n:h.Ns1 dx mA):∃ od,h.get? dx=some od∧∀ name,PySem.W.lookIn name od=some (mA name):=by
 obtain⟨o,es,ep,ho,hd,hk,_,hm⟩:=n
 refine⟨o,ho,fun name=>?_⟩
 have e:=hm name
 unfold nsFind findBy at e
 rw[← Array.find?_toList] at e
 unfold PySem.W.lookIn
 rw[hd]
 dsimp only
 split
 ·rename_i y q
  rw[q] at e
  exact congrArg some e
 ·rename_i q
  rw[q] at e
  have a:es.toList.any (·.refKey)=false:=by
   rw[List.any_eq_false]
   intro y hy
   obtain⟨z,t,hkey⟩:=hk y (Array.mem_toList_iff.mp hy)
   simp [DictEntry.refKey,hkey]
  have a':¬ es.toList.any (·.refKey)=true:=by rw[a];exact Bool.false_ne_true
  rw[if_neg a']
  exact congrArg some e
theorem ObjM.look {h:Heap}{x dx C:Addr}{mA:Str→Option Value} (I:ObjM h x dx C mA):∃ od,PySem.W.InstAt h x (PySem.W.instObj C dx) C (some od)∧∀ name,PySem.W.lookIn name od=some (mA name):=
 let ⟨od,ho,hl⟩:=lookIn_ns I.ns
 ⟨od,⟨I.obj,rfl,rfl,ho⟩,hl⟩
section
variable {prog:Program}{w:World}{A:Around}{E:Value→Shared→Prop}{s:Shared}{K:PySem.W.Frag}{x dx C f:Addr}{mA:Str→Option Value}{name:Str}{v:Value}
theorem get_map {expr:Bool}{Q:Value→Shared→Prop} (X:K.In s.heap) (I:ObjM s.heap x dx C mA) (hg:PySem.W.plainGet K C name=true) (hh:PySem.W.hasDictIn K C=true)
  (ha:PySem.W.findIn K (.ref C) name=some none) (hv:mA name=some v) (hv':PySem.W.handedIn v=true) (h:Q v { s with toks:=s.toks+1 }) :
  wpAny (model prog w) A (getAttr (.ref x) name expr) Q E s:=by
 obtain⟨od,J,hl⟩:=I.look
 exact PySem.W.get_value X J (PySem.W.plainGet_of hg).1 (PySem.W.findObj_own hh ha rfl (by rw[hl,hv])) hv' h
theorem get_meth {pl:Sem Bool}{Q:Value×List Value→Shared→Prop} (X:K.In s.heap) (I:ObjM s.heap x dx C mA) (hg:PySem.W.plainGet K C name=true)
  (hf:PySem.W.findIn K (.ref C) name=some (some (.ref f))) (ht:PySem.W.isFn K (.ref f)=true) (hv:mA name=none) (h:Q (.ref f,[.ref x]) s) :
  wpAny (model prog w) A (getMethod (.ref x) name pl) Q E s:=by
 obtain⟨od,J,hl⟩:=I.look
 exact PySem.W.method_fn X J (PySem.W.plainGet_of hg).1 (PySem.W.plainGet_of hg).2 hf (beq_iff_eq.mp ht) (by show (PySem.W.lookIn name od).map (·.isSome)=some false;rw[hl,hv];rfl) h
theorem set_map {ns:List Str}{Q:Unit→Shared→Prop} (X:K.In s.heap) (I:ObjM s.heap x dx C mA)
  (hs:PySem.W.findIn K (.ref C) "__setattr__" = some (some (.builtin "object.__setattr__"))) (hp:PySem.W.plainOver K C=true) (ht:PySem.W.takerIn K C name=some none) (hh:PySem.W.hasDictIn K C=true)
  (hw:PySem.Within mA ns) (hsz:ns.length≤sizeLine)
  (h:∀ h',ObjM h' x dx C (fun y=>if y=name then some v else mA y)→Heap.SameBut dx s.heap h'→Q () { s with heap:=h',toks:=s.toks+2 }) :
  wpAny (model prog w) A (setAttr (.ref x) name v) Q E s:=by
 obtain⟨od,J,hl⟩:=I.look
 refine PySem.W.set_plain X J hs (PySem.W.osa_open (s:={ s with toks:=s.toks+1 }) (r:=none) X J hp ht fun b=>?_)
 obtain⟨cd,hc,hd'⟩:=PySem.W.any_some hh
 have hx:s.heap.get? x=some ⟨.ref C,some dx,.plain,#[]⟩:=I.obj
 refine wpAny_bind (wpAny_pure (wpAny_bind (wpAny_bind (wpAny_loadPart hx (wpAny_bind (PySem.W.Looks.here (s:={ s with toks:=s.toks+1 }) (PySem.W.looks_clsIn X hc) ?_))))))
 rw[hd']
 refine wpAny_pure (a:=some dx) (wpAny_bind (wpAny_pure (wpAny_bind ?_)))
 refine wpAny_nsSet1 (s:={ s with toks:=s.toks+1 }) I.ns fun h' hn2 hs2=>?_
 obtain⟨oD,esD,epD,hoD,hdD,hcD⟩:=hn2.count (PySem.Within.cons name v hw)
 refine wpAny_bind (wpAny_lookBehind hoD (by rw[hdD];exact pastItsLine_dict (Nat.le_trans hcD (by rw[List.length_cons];omega))) ?_)
 exact wpAny_pure (h _ ⟨(hs2.2 _ (Ne.symm I.ne)).trans I.obj,hn2,I.ne⟩ hs2)
theorem make_map {R:Result→Shared→Prop}{vs:List Value}{kw:List (Str×Value)} (X:K.In s.heap) (hm:PySem.W.makesIn K C=true)
  (hi:PySem.W.findIn K (.ref C) "__init__" = some (some (.ref f))) (hf:PySem.W.typeIn K (.ref f)=some (.type "function"))
  (h:codeAny (model prog w) (A.under (.builtin "type.__call__" ⟨.ref C::vs,kw⟩)) (.call (.ref f) ⟨.ref (s.heap.objs.size+1)::vs,kw⟩) (PySem.W.InitBack (s.heap.objs.size+1) R)
   { s with heap:=(s.heap.push PySem.W.emptyDict).push (PySem.W.instObj C s.heap.objs.size) }) :
  codeAny (model prog w) A (.call (.ref C) ⟨vs,kw⟩) R s:=by
 obtain⟨hh,g,d,t,os⟩:=s
 exact PySem.W.make_core (PySem.W.makes_of X hm) (PySem.W.looks_findIn X hi) (fun self=>PySem.W.bind_fn X self hf) (.inl rfl) h
end
noncomputable def cI (f:Str) (v:V):List (Str×V)→List (Str×V)
 | []=>[(f,v)]
 | (g,x)::r=>if g=f then (g,v)::r else (g,x)::cI f v r
theorem lookup_putF (f g:Str) (v:V):∀ fs:List (Str×V),(cI f v fs).lookup g=if g=f then some v else fs.lookup g
 | []=>by
  show List.lookup g [(f,v)]=_
  by_cases h:g=f
  ·have hb:(g == f)=true:=beq_iff_eq.mpr h
   simp only [List.lookup,hb,if_pos h]
  ·have hb:(g == f)=false:=beq_eq_false_iff_ne.mpr h
   simp only [List.lookup,hb,if_neg h]
 | (k,x)::r=>by
  have ih:=lookup_putF f g v r
  rw[show cI f v ((k,x)::r)=(if k=f then (k,v)::r else (k,x)::cI f v r) from rfl]
  by_cases hk:k=f
  ·rw[if_pos hk]
   by_cases h:g=k
   ·have hb:(g == k)=true:=beq_iff_eq.mpr h
    simp only [List.lookup,hb,if_pos (h.trans hk)]
   ·have hb:(g == k)=false:=beq_eq_false_iff_ne.mpr h
    simp only [List.lookup,hb,if_neg (fun e:g=f=>h (e.trans hk.symm))]
  ·rw[if_neg hk]
   by_cases h:g=k
   ·have hb:(g == k)=true:=beq_iff_eq.mpr h
    simp only [List.lookup,hb,if_neg (fun e:g=f=>hk (h.symm.trans e))]
   ·have hb:(g == k)=false:=beq_eq_false_iff_ne.mpr h
    simp only [List.lookup,hb]
    exact ih
theorem keys_putF (f:Str) (v:V):∀ fs:List (Str×V),f∈(cI f v fs).map (·.1)∧∀ g,g∈fs.map (·.1)→g∈(cI f v fs).map (·.1)
 | []=>⟨by simp [cI],fun g h=>by simp at h⟩
 | (k,x)::r=>by
  obtain⟨i1,i2⟩:=keys_putF f v r
  rw[show cI f v ((k,x)::r)=(if k=f then (k,v)::r else (k,x)::cI f v r) from rfl]
  by_cases hk:k=f
  ·rw[if_pos hk]
   subst hk
   exact⟨by simp,fun g h=>by simpa using h⟩
  ·rw[if_neg hk]
   refine⟨?_,fun g h=>?_⟩
   ·rw[List.map_cons]
    exact List.mem_cons_of_mem _ i1
   ·rw[List.map_cons] at h ⊢
    rcases List.mem_cons.mp h with e | e
    ·exact List.mem_cons.mpr (.inl e)
    ·exact List.mem_cons_of_mem _ (i2 g e)
theorem length_putF (f:Str) (v:V):∀ fs:List (Str×V),(cI f v fs).length≤fs.length+1
 | []=>by simp [cI]
 | (k,x)::r=>by
  have ih:=length_putF f v r
  rw[show cI f v ((k,x)::r)=(if k=f then (k,v)::r else (k,x)::cI f v r) from rfl]
  by_cases hk:k=f
  ·rw[if_pos hk,List.length_cons,List.length_cons];omega
  ·rw[if_neg hk,List.length_cons,List.length_cons];omega
theorem RelO.some_of {v:V}{o:Option Value} (r:RelO (some v) o):∃ u,o=some u∧bO v u:=by
 cases o with
 | none=>exact (show False from r).elim
 | some u=>exact⟨u,rfl,r⟩
theorem RelO.none_of {o:Option Value} (r:RelO none o):o=none:=by
 cases o with
 | none=>rfl
 | some u=>exact (show False from r).elim
theorem handed_of {v:V}{u:Value} (r:bO v u):PySem.W.handedIn u=true:=by
 cases v with
 | non=>cases (show u=Value.none from r);rfl
 | bl b=>cases (show u=Value.bool b from r);rfl
 | int i=>obtain⟨t,e⟩:=(show ∃ t,u=Value.int i t from r);cases e;rfl
 | str x=>obtain⟨t,e⟩:=(show ∃ t,u=Value.str x t from r);cases e;rfl
 | byt b=>obtain⟨t,e⟩:=(show ∃ t,u=Value.bytes b t from r);cases e;rfl
 | flt b=>obtain⟨t,e⟩:=(show ∃ t,u=Value.float b t from r);cases e;rfl
 | ref a=>cases (show u=Value.ref a from r);rfl
 | ty n=>cases (show u=Value.type n from r);rfl
section
variable {P:Program}{w:World}{H H':Hp}{h h':Heap}{a C dx:Addr}{fs fs':List (Str×V)}
theorem ins_get (hok:HOk P w H h) (e:H a=some (.ins C dx fs)):∃ mA,ObjM h a dx C mA∧(∀ f,RelO (fs.lookup f) (mA f))∧PySem.Within mA (fs.map (·.1))∧fs.length≤1000∧H dx=some (.own a):=by
 obtain⟨d,z,ne,ob,mA,n,r,q⟩:=(show dP P w H h a (.ins C dx fs) from hok a _ e)
 exact⟨mA,⟨ob,n,ne⟩,r,q,z,d⟩
end
structure Cls (K:PySem.W.Frag) (C:Addr):Prop where
 pg:PySem.W.plainGet K C Str.empty=true
 hd:PySem.W.hasDictIn K C=true
 po:PySem.W.plainOver K C=true
 sa:PySem.W.findIn K (.ref C) "__setattr__" = some (some (.builtin "object.__setattr__"))
theorem Cls.get {K:PySem.W.Frag}{C:Addr} (c:Cls K C) (f:Str):PySem.W.plainGet K C f=true:=c.pg
noncomputable def NoAttr (K:PySem.W.Frag) (C:Addr) (f:Str):Prop:=PySem.W.findIn K (.ref C) f=some none
theorem NoAttr.taker {K:PySem.W.Frag}{C:Addr}{f:Str} (n:NoAttr K C f):PySem.W.takerIn K C f=some none:=by
 unfold PySem.W.takerIn
 rw[show PySem.W.findIn K (.ref C) f=some none from n]
 rfl
structure Meth (K:PySem.W.Frag) (C:Addr) (m:Str) (f:Addr):Prop where
 at_:PySem.W.findIn K (.ref C) m=some (some (.ref f))
 fn:PySem.W.isFn K (.ref f)=true
 kp:PySem.W.keepIn K (.ref f)=true
section
variable {X:Cx}{pins:List (Addr×Obj)}{σ:St}{H:Hp}{s:Shared}{a C dx:Addr}{fs:List (Str×V)}{f:Str}{v:V}{A:Around}{E:Value→Shared→Prop}
theorem getattr_ok {b:Bool}{Q:Value→Shared→Prop} (I:Inv X pins σ H s) (e:H a=some (.ins C dx fs)) (c:Cls X.K C) (n:NoAttr X.K C f) (l:fs.lookup f=some v)
  (h:∀ u s',Inv X pins σ H s'→bO v u→Q u s'):wpAny (model X.prog X.w) A (getAttr (.ref a) f b) Q E s:=by
 obtain⟨mA,O,r,_,_,_⟩:=ins_get I.hok e
 obtain⟨u,hu,ru⟩:=RelO.some_of (v:=v) (o:=mA f) (by rw[← l];exact r f)
 exact get_map I.kIn O (c.get f) c.hd n hu (handed_of ru) (h u _ (I.tok _) ru)
theorem getmeth_ok {m:Str}{g:Addr}{pl:Sem Bool}{Q:Value×List Value→Shared→Prop} (I:Inv X pins σ H s) (e:H a=some (.ins C dx fs)) (c:Cls X.K C) (k:Meth X.K C m g) (l:fs.lookup m=none)
  (h:Q (.ref g,[.ref a]) s):wpAny (model X.prog X.w) A (getMethod (.ref a) m pl) Q E s:=by
 obtain⟨mA,O,r,_,_,_⟩:=ins_get I.hok e
 have hn:mA m=none:=RelO.none_of (by rw[← l];exact r m)
 exact get_meth I.kIn O (c.get m) k.at_ k.fn hn h
theorem setattr_ok {y:V}{u:Value}{Q:Unit→Shared→Prop} (I:Inv X pins σ H s) (e:H a=some (.ins C dx fs)) (c:Cls X.K C) (n:NoAttr X.K C f) (hl:fs.length < 1000) (ry:bO y u)
  (h:∀ s',Inv X pins σ (upd H a (.ins C dx (cI f y fs))) s'→Q () s'):wpAny (model X.prog X.w) A (setAttr (.ref a) f u) Q E s:=by
 obtain⟨mA,O,r,wi,_,ho⟩:=ins_get I.hok e
 have hz:(fs.map (·.1)).length≤sizeLine:=by rw[List.length_map,sizeLine_eq];omega
 refine set_map I.kIn O c.sa c.po n.taker c.hd wi hz fun h' O' sb=>h _ ?_
 have hd:∃ o,h'.get? dx=some o:=let ⟨o,_,_,e',_⟩:=O'.ns;⟨o,e'⟩
 refine I.write (x:=a) (e:=dx) (by rw[e];exact True.intro) (.inr ho) (fun b q hb z=>(sb.2 b hb).trans z) hd ?_
 refine⟨by rw[aP O.ne];exact ho,?_,O.ne,O'.obj,_,O'.ns,fun g=>?_,fun g hg=>?_⟩
 ·have:=length_putF f y fs;omega
 ·show RelO ((cI f y fs).lookup g) (if g=f then some u else mA g)
  rw[lookup_putF]
  by_cases q:g=f
  ·rw[if_pos q,if_pos q];exact ry
  ·rw[if_neg q,if_neg q];exact r g
 ·by_cases q:g=f
  ·rw[q];exact (keys_putF f y fs).1
  ·refine (keys_putF f y fs).2 g (wi g fun z=>hg ?_)
   show (if g=f then some u else mA g)=none
   rw[if_neg q];exact z
theorem Inv.made (I:Inv X pins σ H s):Inv X pins σ (upd (upd H s.heap.objs.size (.own (s.heap.objs.size+1))) (s.heap.objs.size+1) (.ins C s.heap.objs.size []))
  { s with heap:=(s.heap.push PySem.W.emptyDict).push (PySem.W.instObj C s.heap.objs.size) }:=by
 have e1:(s.heap.push PySem.W.emptyDict).get? s.heap.objs.size=some PySem.W.emptyDict:=Heap.get?_push_size s.heap rfl
 have e2:((s.heap.push PySem.W.emptyDict).push (PySem.W.instObj C s.heap.objs.size)).get? (s.heap.objs.size+1)=some (PySem.W.instObj C s.heap.objs.size):=by
  have:=Heap.get?_push_size (s.heap.push PySem.W.emptyDict) (o:=PySem.W.instObj C s.heap.objs.size) rfl
  rwa [Heap.size_push] at this
 have e3:(s.heap.push PySem.W.emptyDict).Ns s.heap.objs.size (fun _=>none):=⟨PySem.W.emptyDict,#[],_,e1,rfl,(fun e he=>absurd he (by simp)),fun _=>rfl⟩
 have I1:=I.laid (a:=s.heap.objs.size) (o:=.own (s.heap.objs.size+1)) (h':=s.heap.push PySem.W.emptyDict) (t':=s.toks) (fun b u q=>Heap.get?_push_of_some _ q) (Nat.le_refl _) ⟨_,e1⟩
 refine I1.laid (a:=s.heap.objs.size+1) (o:=.ins C s.heap.objs.size []) (t':=s.toks) (fun b u q=>Heap.get?_push_of_some _ q) (Nat.le_of_eq (Heap.size_push _ _)) ?_
 have ne:s.heap.objs.size≠s.heap.objs.size+1:=Nat.ne_of_lt (Nat.lt_succ_self _)
 refine⟨by rw[aP ne,aD],Nat.zero_le _,ne,e2,fun _=>none,(Heap.Ns1.of_empty e3).at fun o q=>Heap.get?_push_of_some _ q,fun _=>True.intro,fun y hy=>absurd rfl hy⟩
theorem attr_of {prog:Program}{w:World}{env:Env}{e:Expr}{f:Str}{pos:Pos}{s:Shared}{Q:Value→Shared→Prop} (hb:attributeBase e f env (eval e env)=eval e env)
  (h:wpAny (model prog w) A (eval e env) (fun o s₁=>wpAny (model prog w) A (getAttr o f true) Q E s₁) E s):wpAny (model prog w) A (eval (.Attribute e f pos) env) Q E s:=
 Attribute_any_ h (by rw[arm_eval_Attribute,hb])
end
noncomputable def tFld (K:PySem.W.Frag) (ta:TE) (f:Str):TE:=fun σ H Q=>ta σ H fun x H1=>∃ a C dx fs v,x=.ref a∧H1 a=some (.ins C dx fs)∧Cls K C∧NoAttr K C f∧fs.lookup f=some v∧Q v H1
noncomputable def sFld (K:PySem.W.Frag) (ta tv:TE) (f:Str):TS:=fun D σ H=>tv σ H fun y H1=>ta σ H1 fun x H2=>∃ a C dx fs,x=.ref a∧H2 a=some (.ins C dx fs)∧Cls K C∧NoAttr K C f∧fs.length < 1000∧
 D.nx σ (upd H2 a (.ins C dx (cI f y fs)))
section
variable {X:Cx}{o e value:Expr}{f:Str}{pos pos' tpos:Pos}{ta tv:TE}
theorem pe_fld (he:PE X e ta) (hb:attributeBase e f X.env (eval e X.env)=eval e X.env):PE X (.Attribute e f pos) (tFld X.K ta f):=by
 intro pins s σ H Q I h
 refine attr_of hb (d8 (he pins s σ H _ I h) fun u s1 ⟨x,H1,I1,rx,a,C,dx,fs,v,ex,ea,c,n,l,q⟩=>?_)
 subst ex
 obtain rfl:u=Value.ref a:=rx
 exact getattr_ok I1 ea c n l fun u' s2 I2 ru=>⟨v,H1,I2,ru,q⟩
theorem ps_fld (ha:PE X o ta) (hv:PE X value tv) (hs:swapsWith value (some (.Attribute o f pos')) pos.line X.env=pure false):PS X (.Assign [.Attribute o f pos'] value pos) (sFld X.K ta tv f):=by
 intro pins s σ H D I h
 refine plainObj_wpAny_Assign_Attribute (d8 (hv pins s σ H _ I h) fun u s1 ⟨y,H1,I1,ry,q⟩=>d8 (ha pins s1 σ H1 _ I1 q) fun ov s2 ⟨x,H2,I2,rx,a,C,dx,fs,ex,ea,c,n,l,q2⟩=>?_) hs
 subst ex
 obtain rfl:ov=Value.ref a:=rx
 exact setattr_ok I2 ea c n l ry fun s3 I3=>⟨σ,_,I3,q2⟩
end
section
variable {X:Cx}{pins:List (Addr×Obj)}{σ:St}{H:Hp}{s:Shared}{A:Around}{E:Value→Shared→Prop}{Q:Value→Shared→Prop}{c:Value}{b:Bool}
inductive TyOf (K:PySem.W.Frag) (H:Hp):V→Value→Prop where
 | non:TyOf K H .non (.type "NoneType")
 | bl (x:Bool):TyOf K H (.bl x) (.type "bool")
 | int (i:Int):TyOf K H (.int i) (.type "int")
 | str (x:Str):TyOf K H (.str x) (.type "str")
 | flt (x:UInt64):TyOf K H (.flt x) (.type "float")
 | lst {a:Addr}{xs:List V} (e:H a=some (.lst xs)):TyOf K H (.ref a) (.type "list")
 | frz {a:Addr}{o:Obj}{xs:List V} (e:H a=some (.frz o (.lst xs))):TyOf K H (.ref a) (.type "list")
 | tup {a:Addr}{xs:List V} (e:H a=some (.tup xs)):TyOf K H (.ref a) (.type "tuple")
 | dK {a:Addr}{kvs:List (Key×V)} (e:H a=some (.dK kvs)):TyOf K H (.ref a) (.type "dict")
 | dT {a:Addr}{kvs:List (List Key×V)} (e:H a=some (.dT kvs)):TyOf K H (.ref a) (.type "dict")
 | ins {a C dx:Addr}{fs:List (Str×V)} (e:H a=some (.ins C dx fs)) (cl:Cls K C) (ha:PySem.W.findIn K (.ref C) "__class__" = some (some (.builtin "object.__class__")))
   (hn:PySem.W.specialIn K (.builtin "object.__class__") "__get__" = some (some (.builtin "getset_descriptor.__get__"))) (htk:PySem.W.takesIn K (.builtin "object.__class__")=some true)
   (hm:PySem.W.mroIn K C (.type "object")=some true):TyOf K H (.ref a) (.ref C)
theorem isinst_ok {x:V}{u t:Value} (I:Inv X pins σ H s) (rx:bO x u) (ty:TyOf X.K H x t) (e:PySem.W.kitOne X.K t c=some b) (h:∀ tk,Q (.bool b) { s with toks:=tk }) :
  wpAny (model X.prog X.w) A (call (.builtin "isinstance") [u,c]) Q E s:=by
 cases ty with
 | non=>cases (show u=Value.none from rx);exact PySem.W.kia_one PySem.W.kitx_none I.kIn True.intro e (fun z=>nomatch z) h
 | bl y=>cases (show u=Value.bool y from rx);exact PySem.W.kia_one PySem.W.kitx_bool I.kIn True.intro e (fun z=>nomatch z) h
 | int i=>obtain⟨t,q⟩:=(show ∃ t,u=Value.int i t from rx);cases q;exact PySem.W.kia_one PySem.W.kitx_int I.kIn True.intro e (fun z=>nomatch z) h
 | str y=>obtain⟨t,q⟩:=(show ∃ t,u=Value.str y t from rx);cases q;exact PySem.W.kia_one PySem.W.kitx_str I.kIn True.intro e (fun z=>nomatch z) h
 | flt y=>obtain⟨t,q⟩:=(show ∃ t,u=Value.float y t from rx);cases q;exact PySem.W.kia_one PySem.W.kitx_float I.kIn True.intro e (fun z=>nomatch z) h
 | @lst a xs ea=>
  cases (show u=Value.ref a from rx)
  obtain⟨_,_,n,_,h1⟩:=(show dP X.prog X.w H s.heap a (.lst xs) from I.hok a _ ea)
  exact PySem.W.kia_one PySem.W.kitx_list I.kIn ⟨_,h1,rfl⟩ e (fun z=>nomatch z) h
 | @frz a ob xs ea=>
  cases (show u=Value.ref a from rx)
  obtain⟨_,_,_,n,_,h1⟩:=(show dP X.prog X.w H s.heap a (.frz ob (.lst xs)) from I.hok a _ ea)
  exact PySem.W.kia_one PySem.W.kitx_list I.kIn ⟨_,h1,rfl⟩ e (fun z=>nomatch z) h
 | @tup a xs ea=>
  cases (show u=Value.ref a from rx)
  obtain⟨_,_,_,p⟩:=(show dP X.prog X.w H s.heap a (.tup xs) from I.hok a _ ea)
  obtain⟨o,h1,h2,_⟩:=p
  exact PySem.W.kia_one PySem.W.kitx_tuple I.kIn ⟨o,h1,h2⟩ e (fun z=>nomatch z) h
 | @dK a kvs ea=>
  cases (show u=Value.ref a from rx)
  obtain⟨_,_,vs,_,p⟩:=(show dP X.prog X.w H s.heap a (.dK kvs) from I.hok a _ ea)
  obtain⟨o,es,ep,h1,h2,_⟩:=p
  exact PySem.W.kia_one PySem.W.kitx_dict I.kIn ⟨o,h1,h2.1⟩ e (fun z=>nomatch z) h
 | @dT a kvs ea=>
  cases (show u=Value.ref a from rx)
  obtain⟨_,_,xs,_,o,es,ep,h1,h2,_⟩:=(show dP X.prog X.w H s.heap a (.dT kvs) from I.hok a _ ea)
  exact PySem.W.kia_one PySem.W.kitx_dict I.kIn ⟨o,h1,h2.1⟩ e (fun z=>nomatch z) h
 | @ins a C dx fs ea cl ha hn htk hm=>
  cases (show u=Value.ref a from rx)
  obtain⟨mA,O,_⟩:=ins_get I.hok ea
  obtain⟨od,J,_⟩:=O.look
  exact PySem.W.kia_one (PySem.W.kitx_own (cl.get _) cl.hd ha hn htk hm) I.kIn J e (fun z=>nomatch z) h
end
end L2
namespace L2
open PySem PySem.Spec PyProof.Rows
structure Room (k:Nat) (A:Around):Prop where
 hd:A.handled=none
 dp:A.depth+3 * k+5 < recursionLimit
 un:A.units+16 * k+200 < cLine
theorem Room.mono {j k:Nat}{A:Around} (r:Room k A) (h:j≤k):Room j A:=⟨r.hd,by have:=r.dp;omega,by have:=r.un;omega⟩
theorem Room.deeper {k:Nat}{A:Around} (r:Room (k+1) A) (env:Env):Room k (A.deeper env):=
 ⟨r.hd,by have:=r.dp;show A.depth+1+3 * k+5 < _;omega,by have:=r.un;show A.units+3+16 * k+200 < _;omega⟩
theorem make_depth {A:Around}{C:Addr}{us:List Value}{kw:List (Str×Value)}:(A.under (.builtin "type.__call__" ⟨.ref C::us,kw⟩)).depth=A.depth+1:=by
 first | rfl | simp [Around.under,Code.weight,Code.isCreation,Code.isGuard,Code.isCaller,Code.frames,Code.isFrame,guardIds]
theorem make_units {A:Around}{C:Addr}{us:List Value}{kw:List (Str×Value)}:(A.under (.builtin "type.__call__" ⟨.ref C::us,kw⟩)).units=A.units+1:=by
 first | rfl | simp [Around.under,Code.cUnits,Code.frames,Code.isFrame]
theorem Room.make {k:Nat}{A:Around} (r:Room (k+1) A) (C:Addr) (us:List Value) (kw:List (Str×Value)):Room k (A.under (.builtin "type.__call__" ⟨.ref C::us,kw⟩)):=
 ⟨r.hd,by have:=r.dp;rw[make_depth];omega,by have:=r.un;rw[make_units];omega⟩
theorem Room.depth {k:Nat}{A:Around} (r:Room k A):A.depth < recursionLimit:=by have:=r.dp;omega
theorem Room.units {k:Nat}{A:Around} (r:Room k A):A.units+64 < cLine:=by have:=r.un;omega
noncomputable def tNil:TA:=fun _ H Q=>Q [] H
noncomputable def dQ (ta:TE) (tr:TA):TA:=fun σ H Q=>ta σ H fun x H1=>tr σ H1 fun xs H2=>Q (x::xs) H2
section
variable {X:Cx}{e:Expr}{es:List Expr}{te:TE}{t:TA}{pos:Pos}
theorem aE:PA X [] tNil:=fun _ _ _ _ H Q I h=>Calls.spliced_nil ⟨[],H,I,.nil,h⟩
theorem aA (ha:PE X e te) (hr:PA X es t) (hs:starEach (e::es) X.env=(false,eval e X.env)::starEach es X.env:=by rfl):PA X (e::es) (dQ te t):=by
 intro pos pins s σ H Q I h
 rw[hs]
 show wpAny _ _ (spliced ((false,eval e X.env)::backTo pos (starEach es X.env))) _ _ s
 refine Calls.spliced_cons (d8 (ha pins s σ H _ I h) fun u s1 ⟨x,H1,I1,r1,q1⟩=>?_)
 exact d8 (hr pos pins s1 σ H1 _ I1 q1) fun us s2 ⟨xs,H2,I2,r2,q2⟩=>⟨x::xs,H2,I2,.cons r1 r2,q2⟩
noncomputable def tTup (t:TA):TE:=fun σ H Q=>t σ H fun xs H1=>xs.length≤sizeLine∧∀ p,H1 p=none→Q (.ref p) (upd H1 p (.tup xs))
noncomputable def tLst (t:TA):TE:=fun σ H Q=>t σ H fun xs H1=>xs.length≤sizeLine∧∀ p,H1 p=none→Q (.ref p) (upd H1 p (.lst xs))
theorem bV {x1} (h:PA X es t):PE X (.Tuple es x1 pos) (tTup t):=by
 intro pins s σ H Q I hq
 refine wpAny_Tuple_spliced (d8 (h pos pins s σ H _ I hq) fun us s1 ⟨xs,H1,I1,r,z,q⟩=>⟨by rw[← r.length];exact z,?_⟩)
 have hf:H1 s1.heap.objs.size=none:=I1.hok.fresh (Nat.le_refl _)
 refine⟨.ref s1.heap.objs.size,upd H1 s1.heap.objs.size (.tup xs),I1.laid (t':=s1.toks) (fun b u e=>Heap.get?_push_of_some _ e) (Nat.le_refl _) ?_,rfl,q _ hf⟩
 exact⟨z,us,r,⟨_,Heap.get?_push_size _ rfl,rfl,_,rfl⟩⟩
theorem bY (h:PA X es t):PE X (.List es pos) (tLst t):=by
 intro pins s σ H Q I hq
 refine wpAny_List_spliced (d8 (h pos pins s σ H _ I hq) fun us s1 ⟨xs,H1,I1,r,z,q⟩=>⟨by rw[← r.length];exact z,?_⟩)
 have hf:H1 s1.heap.objs.size=none:=I1.hok.fresh (Nat.le_refl _)
 refine⟨.ref s1.heap.objs.size,upd H1 s1.heap.objs.size (.lst xs),I1.laid (t':=s1.toks) (fun b u e=>Heap.get?_push_of_some _ e) (Nat.le_refl _) ?_,rfl,q _ hf⟩
 exact⟨z,us,0,r,Heap.get?_push_size _ rfl⟩
end
noncomputable abbrev Sp:=List V→Hp→VK→XK→Prop
noncomputable abbrev CXT:=List Env→Hp→Shared→XK→Value→Shared→Prop
structure Env0 (P:Program) (w:World) (K:PySem.W.Frag) (mg:Str→Option Value) (base:Heap) (A:Around) (outer:List Env) (s:Shared) (H:Hp):Prop where
 frames:A.frames=some outer
 mod:Mod K mg base
 bs:∀ b o,base.get? b=some o→s.heap.get? b=some o∧H b=none
 bsz:base.objs.size≤s.heap.objs.size
 funs:s.heap.FunFrames base outer
 frf:∀ b∈frs outer,H b=none
 hok:HOk P w H s.heap
 bare:AllBare s.gens
noncomputable def CE (outer:List Env) (P:Program) (w:World) (H:Hp) (s:Shared) (Q:VK) (u:Value) (s':Shared):Prop:=
 ∃ v H',s'.os=s.os∧AllBare s'.gens∧Un (frs outer) [] H H' s.heap s'.heap∧HOk P w H' s'.heap∧bO v u∧Q v H'
noncomputable def CR (CX:CXT) (outer:List Env) (P:Program) (w:World) (H:Hp) (s:Shared) (Q:VK) (E:XK) (r:Result) (s':Shared):Prop:=
 match r with
 | .ok (.ret u)=>CE outer P w H s Q u s'
 | .ok _=>False
 | .error e=>CX outer H s E e s'
structure FnOk (P:Program) (w:World) (K:PySem.W.Frag) (mg:Str→Option Value) (base:Heap) (CX:CXT) (k:Nat) (f:Addr) (fd:FuncData) (ps:List Str) (sp:Sp):Prop where
 len:∀ vs H Q E,sp vs H Q E→vs.length=ps.length
 run:∀ (A:Around) (outer:List Env) (s:Shared) (H:Hp) (args:Args) (us:List Value) (vs:List V) (Q:VK) (E:XK),Room k A→Env0 P w K mg base A outer s H→BindsTo s fd args (ps.zip us)→bP vs us→sp vs H Q E→
  codeAny (model P w) A (.call (.ref f) args) (CR CX outer P w H s Q E) s
theorem FnOk.imp {P:Program}{w:World}{K:PySem.W.Frag}{mg:Str→Option Value}{base:Heap}{CX:CXT}{k:Nat}{f:Addr}{fd:FuncData}{ps:List Str}{sp sp':Sp} (F:FnOk P w K mg base CX k f fd ps sp)
  (h:∀ vs H Q E,sp' vs H Q E→sp vs H Q E):FnOk P w K mg base CX k f fd ps sp':=
 ⟨fun vs H Q E q=>F.len vs H Q E (h _ _ _ _ q),fun A outer s H args us vs Q E hr he hb hv hs=>F.run A outer s H args us vs Q E hr he hb hv (h _ _ _ _ hs)⟩
theorem Env0.make {P:Program}{w:World}{K:PySem.W.Frag}{mg:Str→Option Value}{base:Heap}{A:Around}{outer:List Env}{s:Shared}{H:Hp} (e:Env0 P w K mg base A outer s H) (C:Addr) (us:List Value) (kw:List (Str×Value)) :
  Env0 P w K mg base (A.under (.builtin "type.__call__" ⟨.ref C::us,kw⟩)) outer s H:=⟨by first | exact e.frames | (simpa [Around.under,Code.envs,Code.isFrame,pushEnvs] using e.frames),e.mod,e.bs,e.bsz,e.funs,e.frf,e.hok,e.bare⟩
section
variable {X:Cx}{pins:List (Addr×Obj)}{σ:St}{H:Hp}{s s':Shared}
theorem Inv.env0 (I:Inv X pins σ H s):Env0 X.prog X.w X.K X.mg X.base X.A X.stack s H:=
 ⟨I.ok.frames,I.ok.mod,I.bs,Nat.le_trans I.ok.bsz I.sz,I.stack,I.stkFree,I.hok,I.bare⟩
theorem Inv.after {Q:VK}{u:Value} (I:Inv X pins σ H s) (h:CE X.stack X.prog X.w H s Q u s'):EP X pins σ Q u s':=by
 obtain⟨v,H',os,bare,un,hok,r,q⟩:=h
 obtain⟨hh,g,d,t,os'⟩:=s'
 obtain rfl:os'=s.os:=os
 exact⟨v,H',I.call (h':=hh) (g':=g) (d':=d) (t':=t) (ch:=[]) un hok bare (fun b z=>absurd z (by simp)),r,q⟩
end
noncomputable def tCall (sp:Sp) (dvs:List V) (E:XK) (t:TA):TE:=fun σ H Q=>t σ H fun vs H1=>sp (vs++dvs) H1 Q E
noncomputable def tMeth (C:Addr) (m:Str) (sp:Sp) (dvs:List V) (E:XK) (ta:TE) (t:TA):TE:=fun σ H Q=>ta σ H fun x H1=>∃ a dx fs,x=.ref a∧H1 a=some (.ins C dx fs)∧fs.lookup m=none∧
 t σ H1 fun vs H2=>sp (x::(vs++dvs)) H2 Q E
noncomputable def tMake (C:Addr) (sp:Sp) (dvs:List V) (E:XK) (t:TA):TE:=fun σ H Q=>t σ H fun vs H1=>∀ x dx,H1 x=none→H1 dx=none→dx≠x→
 sp (.ref x::(vs++dvs)) (upd (upd H1 dx (.own x)) x (.ins C dx [])) (fun v H2=>v=.non∧Q (.ref x) H2) E
noncomputable def Binds (K:PySem.W.Frag) (fd:FuncData) (ps:List Str) (ds:List Value):Prop:=
 ∀ (s:Shared) (us:List Value),K.In s.heap→(us++ds).length=ps.length→BindsTo s fd ⟨us,[]⟩ (ps.zip (us++ds))
theorem Binds.all {K:PySem.W.Frag}{fd:FuncData}{ps:List Str} (h:∀ us:List Value,us.length=ps.length→bindArgs fd ⟨us,[]⟩=pure (ps.zip us)):Binds K fd ps []:=fun s us _ hl=>by
 rw[List.append_nil] at hl ⊢
 exact .of_eq (h us hl)
noncomputable def Passes (CX:CXT) (X:Cx) (E:XK):Prop:=∀ (pins:List (Addr×Obj)) (σ:St) (H:Hp) (s:Shared) (e:Value) (s':Shared),Inv X pins σ H s→CX X.stack H s E e s'→X.xe e s'
section
variable {X:Cx}{CX:CXT}{k:Nat}{f C:Addr}{fd:FuncData}{ps:List Str}{sp:Sp}{dvs:List V}{ds:List Value}{E:XK}{x m:Str}{p pos apos:Pos}{e o:Expr}{es:List Expr}{ta:TE}{t:TA}
theorem run_fn {pins:List (Addr×Obj)}{σ:St}{H:Hp}{s:Shared}{Q:VK}{us:List Value}{vs:List V} (F:FnOk X.prog X.w X.K X.mg X.base CX k f fd ps sp) (hr:Room k X.A) (hb:Binds X.K fd ps ds) (hd:bP dvs ds) (hx:Passes CX X E)
  (I:Inv X pins σ H s) (r:bP vs us) (h:sp (vs++dvs) H Q E):wpAny (model X.prog X.w) X.A (call (.ref f) us) (EP X pins σ Q) X.xe s:=by
 have r2:bP (vs++dvs) (us++ds):=r.append hd
 have hl:(us++ds).length=ps.length:=by rw[← r2.length];exact F.len _ _ _ _ h
 refine wpAny_call (codeAny_mono (F.run X.A X.stack s H ⟨us,[]⟩ (us++ds) (vs++dvs) Q E hr I.env0 (hb s us I.kIn hl) r2 h) fun r s' hq=>?_)
 cases r with
 | error e=>exact hx pins σ H s e s' I hq
 | ok fl=>
  cases fl with
  | ret u=>exact I.after hq
  | next=>exact False.elim hq
  | brk=>exact False.elim hq
  | cont=>exact False.elim hq
theorem pe_call (F:FnOk X.prog X.w X.K X.mg X.base CX k f fd ps sp) (hr:Room k X.A) (hg:Gl X x) (hm:X.mg x=some (.ref f)) (hk:PySem.W.keepIn X.K (.ref f)=true) (hb:Binds X.K fd ps ds) (hd:bP dvs ds) (hx:Passes CX X E)
  (ha:PA X (e::es) t) (hdb:(x == ("__debug__" : Str))=false:=by decide) (he:starEach (e::es) X.env=(false,eval e X.env)::starEach es X.env:=by rfl) (hpl:(backTo pos (starEach es X.env)).any (·.1)=false:=by rfl) :
  PE X (.Call (.Name x p) (e::es) [] pos) (tCall sp dvs E t):=by
 intro pins s σ H Q I h
 refine wpAny_Call_Name_kw (ld_glob I hg hm ?_ hdb)
 refine PySem.W.callWith_K (h₀:=X.base) I.ok.mod.kin hk (d8 (ha pos pins s σ H _ I h) fun us s1 ⟨vs,H1,I1,r,q⟩=>⟨I1.kIn,?_⟩) he hpl
 exact run_fn F hr hb hd hx I1 r q
theorem pe_meth {pl:Sem Bool} (he:PE X o ta) (c:Cls X.K C) (hm:Meth X.K C m f) (F:FnOk X.prog X.w X.K X.mg X.base CX k f fd ps sp) (hr:Room k X.A) (hb:Binds X.K fd ps ds) (hd:bP dvs ds) (hx:Passes CX X E) (ha:PA X (e::es) t)
  (hst:starEach (e::es) X.env=(false,eval e X.env)::starEach es X.env:=by rfl) (hpl:(backTo pos (starEach es X.env)).any (·.1)=false:=by rfl)
  (ht:eval (.Call (.Attribute o m apos) (e::es) [] pos) X.env=(do
   let ov ← eval o X.env
   standAt apos.atName
   let (f,first) ← holding [ov] (getMethod ov m pl)
   callWith pos f first (backTo pos (starEach (e::es) X.env)) (backToKw pos (keywordEach [] X.env))):=by rfl) :
  PE X (.Call (.Attribute o m apos) (e::es) [] pos) (tMeth C m sp dvs E ta t):=by
 intro pins s σ H Q I h
 refine PySem.W.methodCall_KW (pl:=pl) (d8 (he pins s σ H _ I h) fun u s1 ⟨x,H1,I1,rx,a,dx,fs,ex,ea,l,q⟩=>?_) ht
 subst ex
 obtain rfl:u=Value.ref a:=rx
 refine getmeth_ok I1 ea c hm l ?_
 refine PySem.W.callWith_K (first:=[.ref a]) (h₀:=X.base) I.ok.mod.kin hm.kp (d8 (ha pos pins s1 σ H1 _ I1 q) fun us s2 ⟨vs,H2,I2,r,q2⟩=>⟨I2.kIn,?_⟩) hst hpl
 exact run_fn (us:=.ref a::us) (vs:=.ref a::vs) F hr hb hd hx I2 (.cons rfl r) q2
theorem eW {pl:Sem Bool} (he:PE X o ta) (c:Cls X.K C) (hm:Meth X.K C m f) (F:FnOk X.prog X.w X.K X.mg X.base CX k f fd ps sp) (hr:Room k X.A) (hb:Binds X.K fd ps ds) (hd:bP dvs ds) (hx:Passes CX X E)
  (ht:eval (.Call (.Attribute o m apos) [] [] pos) X.env=(do
   let ov ← eval o X.env
   standAt apos.atName
   let (f,first) ← holding [ov] (getMethod ov m pl)
   callWith pos f first (backTo pos (starEach [] X.env)) (backToKw pos (keywordEach [] X.env))):=by rfl) :
  PE X (.Call (.Attribute o m apos) [] [] pos) (tMeth C m sp dvs E ta tNil):=by
 intro pins s σ H Q I h
 refine PySem.W.methodCall_KW (pl:=pl) (d8 (he pins s σ H _ I h) fun u s1 ⟨x,H1,I1,rx,a,dx,fs,ex,ea,l,q⟩=>?_) ht
 subst ex
 obtain rfl:u=Value.ref a:=rx
 refine getmeth_ok I1 ea c hm l ?_
 exact PySem.W.callWith_K0 (first:=[.ref a]) I1.kIn hm.kp (run_fn (us:=[.ref a]) (vs:=[.ref a]) F hr hb hd hx I1 (.cons rfl .nil) q)
structure Mk (K:PySem.W.Frag) (C f:Addr):Prop where
 makes:PySem.W.makesIn K C=true
 init:PySem.W.findIn K (.ref C) "__init__" = some (some (.ref f))
 fn:PySem.W.isFn K (.ref f)=true
 kp:PySem.W.keepIn K (.ref C)=true
theorem run_make {pins:List (Addr×Obj)}{σ:St}{H:Hp}{s:Shared}{Q:VK}{us:List Value}{vs:List V} (M:Mk X.K C f) (F:FnOk X.prog X.w X.K X.mg X.base CX k f fd ps sp) (hr:Room (k+1) X.A) (hb:Binds X.K fd ps ds) (hd:bP dvs ds)
  (hx:Passes CX X E) (I:Inv X pins σ H s) (r:bP vs us)
  (h:∀ x dx,H x=none→H dx=none→dx≠x→sp (.ref x::(vs++dvs)) (upd (upd H dx (.own x)) x (.ins C dx [])) (fun v H2=>v=.non∧Q (.ref x) H2) E) :
  wpAny (model X.prog X.w) X.A (call (.ref C) us) (EP X pins σ Q) X.xe s:=by
 have hq:=h (s.heap.objs.size+1) s.heap.objs.size (I.hok.fresh (Nat.le_succ _)) (I.hok.fresh (Nat.le_refl _)) (Nat.ne_of_lt (Nat.lt_succ_self _))
 have I2:=Inv.made (C:=C) I
 have r2:bP (V.ref (s.heap.objs.size+1)::(vs++dvs)) (Value.ref (s.heap.objs.size+1)::(us++ds)):=.cons rfl (r.append hd)
 have hl:(Value.ref (s.heap.objs.size+1)::us++ds).length=ps.length:=by
  have e:=r2.length
  rw[F.len _ _ _ _ hq] at e
  exact e.symm
 refine wpAny_call (make_map (f:=f) I.kIn M.makes M.init (beq_iff_eq.mp M.fn) (codeAny_mono (F.run _ X.stack _ _ ⟨Value.ref (s.heap.objs.size+1)::us,[]⟩ (Value.ref (s.heap.objs.size+1)::(us++ds)) _ _ E (hr.make C us [])
  (I2.env0.make C us []) (hb _ (Value.ref (s.heap.objs.size+1)::us) I2.kIn hl) r2 hq) fun r s' hq'=>?_))
 cases r with
 | error e=>exact hx pins σ _ _ e s' I2 hq'
 | ok fl=>
  cases fl with
  | ret u=>
   obtain⟨v,H',I3,rv,ev,q3⟩:=I2.after hq'
   subst ev
   exact⟨rv,⟨V.ref (s.heap.objs.size+1),H',I3,rfl,q3⟩⟩
  | next=>exact False.elim hq'
  | brk=>exact False.elim hq'
  | cont=>exact False.elim hq'
theorem pe_make (M:Mk X.K C f) (F:FnOk X.prog X.w X.K X.mg X.base CX k f fd ps sp) (hr:Room (k+1) X.A) (hg:Gl X x) (hm:X.mg x=some (.ref C)) (hb:Binds X.K fd ps ds) (hd:bP dvs ds) (hx:Passes CX X E)
  (ha:PA X (e::es) t) (hdb:(x == ("__debug__" : Str))=false:=by decide) (he:starEach (e::es) X.env=(false,eval e X.env)::starEach es X.env:=by rfl) (hpl:(backTo pos (starEach es X.env)).any (·.1)=false:=by rfl) :
  PE X (.Call (.Name x p) (e::es) [] pos) (tMake C sp dvs E t):=by
 intro pins s σ H Q I h
 refine wpAny_Call_Name_kw (ld_glob I hg hm ?_ hdb)
 refine PySem.W.callWith_K (h₀:=X.base) I.ok.mod.kin M.kp (d8 (ha pos pins s σ H _ I h) fun us s1 ⟨vs,H1,I1,r,q⟩=>⟨I1.kIn,?_⟩) he hpl
 exact run_make M F hr hb hd hx I1 r q
end
section
variable {X:Cx}{CX:CXT}{k:Nat}{f C:Addr}{fd:FuncData}{ps ks:List Str}{sp:Sp}{E:XK}{x m:Str}{p pos apos kpos:Pos}{e o:Expr}{es:List Expr}{kws:List Keyword}{te ta:TE}{t tk:TA}{nm:Option Str}
variable {g:List Value→List Value→List Value}{gV:List V→List V→List V}
end
structure FnScope (N P:List Str) (sc:Scope):Prop where
 kind:sc.kind=.function
 co:sc.isCoroutine=false
 gen:sc.isGenerator=false
 nd:N.Nodup
 pre:N.take P.length=P
 par:∀ x∈P,sc.names.lookup x=some .local∨sc.names.lookup x=some .cell
 nofree:∀ y∈sc.names,y.2≠.free
theorem bindL_out {kindOf:Str→Option NameKind}{x:Str}:∀ {binds:List (Str×Value)}{m:Str→Option Value},(∀ v,(x,v)∉binds)→bindL kindOf binds m x=m x
 | [],_,_=>rfl
 | (n,v)::r,m,h=>by
  unfold bindL
  rw[bindL_out fun w hw=>h w (List.mem_cons_of_mem _ hw)]
  split
  ·have:x≠n:=by rintro rfl;exact h v List.mem_cons_self
   simp [this]
  ·rfl
theorem bindC_out {kindOf:Str→Option NameKind}{x:Str}:∀ {binds:List (Str×Value)}{m:Str→Option Value},(∀ v,(x,v)∉binds)→bindC kindOf binds m x=m x
 | [],_,_=>rfl
 | (n,v)::r,m,h=>by
  unfold bindC
  rw[bindC_out fun w hw=>h w (List.mem_cons_of_mem _ hw)]
  split
  ·rfl
  ·have:x≠n:=by rintro rfl;exact h v List.mem_cons_self
   simp [this]
theorem bindL_get {kindOf:Str→Option NameKind}{x:Str}{v:Value}:∀ {P:List Str}{vs:List Value}{i:Nat}{m:Str→Option Value},P.Nodup→P[i]? = some x→vs[i]? = some v→kindOf x=some .local→
  bindL kindOf (P.zip vs) m x=some v
 | [],_,_,_,_,h,_,_=>by simp at h
 | _::_,[],_,_,_,_,h,_=>by simp at h
 | p::P,w::vs,0,m,nd,h1,h2,hk=>by
  simp at h1 h2;subst h1;subst h2
  show bindL kindOf ((p,w)::P.zip vs) m p=_
  unfold bindL
  rw[bindL_out fun v hv=>(List.nodup_cons.mp nd).1 (List.of_mem_zip hv).1,if_pos hk]
  simp
 | p::P,w::vs,i+1,m,nd,h1,h2,hk=>by
  show bindL kindOf ((p,w)::P.zip vs) m x=_
  unfold bindL
  exact bindL_get (i:=i) (List.nodup_cons.mp nd).2 (by simpa using h1) (by simpa using h2) hk
theorem bindC_get {kindOf:Str→Option NameKind}{x:Str}{v:Value}:∀ {P:List Str}{vs:List Value}{i:Nat}{m:Str→Option Value},P.Nodup→P[i]? = some x→vs[i]? = some v→kindOf x≠some .local→
  bindC kindOf (P.zip vs) m x=some v
 | [],_,_,_,_,h,_,_=>by simp at h
 | _::_,[],_,_,_,_,h,_=>by simp at h
 | p::P,w::vs,0,m,nd,h1,h2,hk=>by
  simp at h1 h2;subst h1;subst h2
  show bindC kindOf ((p,w)::P.zip vs) m p=_
  unfold bindC
  rw[bindC_out fun v hv=>(List.nodup_cons.mp nd).1 (List.of_mem_zip hv).1,if_neg hk]
  simp
 | p::P,w::vs,i+1,m,nd,h1,h2,hk=>by
  show bindC kindOf ((p,w)::P.zip vs) m x=_
  unfold bindC
  exact bindC_get (i:=i) (List.nodup_cons.mp nd).2 (by simpa using h1) (by simpa using h2) hk
noncomputable def start (N:List Str) (vs:List V):St:=vs.map some++List.replicate (N.length - vs.length) none
noncomputable def cxOf (CX:CXT) (P:Program) (w:World) (K:PySem.W.Frag) (mg:Str→Option Value) (base:Heap) (N:List Str) (qual:Str) (scope:Scope) (f:Addr) (cd:Value) (A:Around) (outer:List Env) (s:Shared) (H:Hp) (E:XK):Cx where
 prog:=P
 w:=w
 K:=K
 mg:=mg
 base:=base
 A:=A.deeper (envOfC qual scope s.heap.objs.size f cd)
 N:=N
 s₀:=s
 H₀:=H
 env:=envOfC qual scope s.heap.objs.size f cd
 outer:=outer
 stack:=envOfC qual scope s.heap.objs.size f cd::outer
 ex:=[]
 calm:=true
 fn:=fun _=>true
 pn:=[]
 xe:=fun e s'=>wpAny (model P w) (A.deeper (envOfC qual scope s.heap.objs.size f cd)) (leaving (envOfC qual scope s.heap.objs.size f cd) e) (fun _ s''=>CX outer H s E e s'') (fun e' s''=>CX outer H s E e' s'') s'
theorem cell_has {sc:Scope}{n:Nat}{x:Str} (h:sc.names.lookup x=some .cell):∃ c,(cellsFrom n sc.names []).lookup x=some c:=by
 have q:=PySem.W.cellsFrom_some sc.names n [] (.inl h)
 exact Option.isSome_iff_exists.mp q
theorem inv_start {CX:CXT}{P:Program}{w:World}{K:PySem.W.Frag}{mg:Str→Option Value}{base:Heap}{N ps:List Str}{qual:Str}{scope:Scope}{f:Addr}{cd:Value}{A:Around}{outer:List Env}{s s1:Shared}{H:Hp}{E:XK}{us:List Value}{vs:List V}
  (S:FnScope N ps scope) (hd:A.handled=none) (e0:Env0 P w K mg base A outer s H) (hl:vs.length=ps.length) (r:bP vs us)
  (x:InCallC s s.heap.objs.size (bindL (envOfC qual scope s.heap.objs.size f cd).kindOf (ps.zip us) fun _=>none) (cellsFrom (s.heap.objs.size+1) scope.names []) (bindC (envOfC qual scope s.heap.objs.size f cd).kindOf (ps.zip us) fun _=>none) s1) :
  Inv (cxOf CX P w K mg base N qual scope f cd A outer s H E) [] (start N vs) H s1:=by
 have hpl:ps.length≤N.length:=by have:=congrArg List.length S.pre;rw[List.length_take] at this;omega
 obtain⟨h1,tk,rfl,hk⟩:=x.done
 have noA:∀ b:Addr,b∉(cxOf CX P w K mg base N qual scope f cd A outer s H E).ex:=fun b z=>absurd (show b∈([]:List Addr) from z) (by simp)
 refine⟨⟨e0.mod,S.kind,rfl,rfl,Nat.le_refl _,fun y z c h1 h2=>?_,fun y hy=>?_,fun y c _ h=>?_,fun _=>hd,Around.frames_deeper e0.frames,.inr ⟨rfl,rfl⟩,fun b z=>absurd z (noA b),e0.bs,e0.bsz,fun b _ _=>noA b,fun b z=>absurd z (noA b),e0.funs,e0.frf⟩,
  rfl,e0.bare,Un.kept hk,⟨_,x.toInCall.ns,fun i y v h1 h2 h3=>?_⟩,fun y c h=>⟨_,x.cell y c h⟩,e0.hok.fresh (Nat.le_refl _),fun y c h=>?_,fun p hp=>absurd (show p∈([]:List (Addr×Obj)) from hp) (by simp),e0.hok.kept hk,?_⟩
 ·exact name_of_addr x.apart (PySem.mem_of_lookup h1) (PySem.mem_of_lookup h2)
 ·have hy:scope.names.lookup y=some .cell∨scope.names.lookup y=some .free:=hy
  rcases hy with hy | hy
  ·exact cell_has hy
  ·exact absurd rfl (S.nofree _ (PySem.mem_of_lookup hy))
 ·exact Nat.le_of_lt (x.above y c (PySem.mem_of_lookup h))
 ·have hi:i < vs.length:=by
   unfold start at h2
   by_cases hi:i < vs.length
   ·exact hi
   ·rw[List.getElem?_append_right (by simpa using hi)] at h2
    rw[List.getElem?_replicate] at h2
    split at h2 <;> cases h2
  have ha:vs[i]? = some v:=by
   unfold start at h2
   rw[List.getElem?_append_left (by simpa using hi),List.getElem?_map] at h2
   cases e:vs[i]? with
   | none=>rw[e] at h2;cases h2
   | some a=>rw[e] at h2;cases h2;rfl
  obtain⟨u,hu,rv⟩:=r.get ha
  have hp:ps[i]? = some y:=by
   rw[← S.pre,List.getElem?_take_of_lt (by omega)];exact h1
  have ndP:ps.Nodup:=by rw[← S.pre];exact S.nd.sublist (List.take_sublist _ _)
  refine⟨u,rv,?_⟩
  rcases S.par y (List.mem_of_getElem? hp) with k | k
  ·exact .inl ⟨k,bindL_get ndP hp hu k⟩
  ·obtain⟨c,e⟩:=cell_has (n:=s.heap.objs.size+1) k
   refine .inr ⟨.inl k,c,e,?_⟩
   have q:=x.cell y c e
   rw[bindC_get ndP hp hu (by show scope.names.lookup y≠_;rw[k];decide)] at q
   exact q
 ·exact e0.hok.fresh (Nat.le_of_lt (x.above y c (PySem.mem_of_lookup h)))
 ·unfold start
  show _=N.length
  rw[List.length_append,List.length_map,List.length_replicate]
  omega
theorem fn_of {CX:CXT}{P:Program}{w:World}{K:PySem.W.Frag}{mg:Str→Option Value}{base:Heap}{k:Nat}{f:Addr}{name qual:Str}{params:Arguments}{body:List Stmt}{scope:Scope}{dV kV doc pm cdv ct oc:Value}{an od:Option Addr}
  {osl:Array (Option Value)}{N ps:List Str}{sp:Sp} (lk:K.lookup f=some ⟨oc,od,.func (PySem.W.fnOf name qual params body scope dV kV doc pm an cdv ct),osl⟩) (hcd:PySem.W.codeIn K cdv qual=true) (S:FnScope N ps scope)
  (len:∀ vs H Q E,sp vs H Q E→vs.length=ps.length)
  (hbody:∀ (A:Around) (outer:List Env) (s:Shared) (H:Hp) (vs:List V) (Q:VK) (E:XK),Room k (A.deeper (envOfC qual scope s.heap.objs.size f cdv))→sp vs H Q E→
   ∃ t,PSs (cxOf CX P w K mg base N qual scope f cdv A outer s H E) body t∧t { nx:=fun _ H'=>Q .non H',rt:=Q } (start N vs) H) :
  FnOk P w K mg base CX (k+1) f (PySem.W.fnOf name qual params body scope dV kV doc pm an cdv ct) ps sp:=by
 refine⟨len,fun A outer s H args us vs Q E hr e0 hb r hsp=>?_⟩
 have hl:=len _ _ _ _ hsp
 have KX:K.In s.heap:=e0.mod.kin.keeps fun b o e=>(e0.bs b o e).1
 have lim:s.heap.NoLimit:=e0.mod.nolimit.keeps fun b o e=>(e0.bs b o e).1
 have hkind:∀ y∈ps.zip us,scope.names.lookup y.1=some .local∨(scope.names.lookup y.1=some .cell∧((cellsFrom (s.heap.objs.size+1) scope.names []).lookup y.1).isSome=true):=fun ⟨n,v⟩ hy=>by
  rcases S.par n (List.of_mem_zip hy).1 with q | q
  ·exact .inl q
  ·exact .inr ⟨q,PySem.W.cellsFrom_some _ _ _ (.inl q)⟩
 refine codeAny_call_function hr.depth (KX _ _ lk) rfl S.co S.gen rfl (PySem.W.codeRec_of KX hcd) (hb _ _ _ _ ?_)
 refine wpAny_newFunctionEnv_cells S.kind hkind fun env he s1 x=>?_
 subst he
 refine⟨lim.keeps x.toInCall.keep,codeAny_func ?_⟩
 obtain⟨t,ht,hq⟩:=hbody A outer s H vs Q E (hr.deeper _) hsp
 have I:Inv (cxOf CX P w K mg base N qual scope f cdv A outer s H E) [] (start N vs) H s1:=inv_start S hr.hd e0 hl r x
 refine wpAny_mono (ht [] s1 (start N vs) H _ I hq) (fun fl s' hs=>?_) fun e s' hs=>hs
 have fin:∀ {σ':St}{H':Hp}{v:V}{u:Value},Inv (cxOf CX P w K mg base N qual scope f cdv A outer s H E) [] σ' H' s'→bO v u→Q v H'→CE outer P w H s Q u s':=
  fun {σ' H' v u} J rv q=>⟨v,H',J.os,J.bare,J.base,J.hok,rv,q⟩
 cases fl with
 | ret u=>
  obtain⟨v,σ',H',J,rv,q⟩:=hs
  exact fin J rv q
 | next=>
  obtain⟨σ',H',J,q⟩:=hs
  exact fin (v:=V.non) (u:=Value.none) J rfl q
 | brk=>
  obtain⟨_,_,_,q⟩:=hs
  exact False.elim q
 | cont=>
  obtain⟨_,_,_,q⟩:=hs
  exact False.elim q
end L2
namespace L2
open PySem PySem.Spec PyProof.Rows
section
variable {X:Cx}{x:Str}{p pos:Pos}{e:Expr}{es:List Expr}{t:TA}{id T:String}{r:List V→Hp→VK→Prop}
noncomputable def tCB (r:List V→Hp→VK→Prop) (t:TA):TE:=fun σ H Q=>t σ H fun vs H1=>r vs H1 Q
theorem aS (hc:CallR X (.builtin id) r) (hg:Gl X x) (hm:X.mg x=none) (hv:bootBuiltins x=some (.builtin id)) (ha:PA X (e::es) t) (hn:x ≠ "__name__" := by decide) (hdb:(x == ("__debug__" : Str))=false:=by decide)
  (he:starEach (e::es) X.env=(false,eval e X.env)::starEach es X.env:=by rfl) (hpl:(backTo pos (starEach es X.env)).any (·.1)=false:=by rfl):PE X (.Call (.Name x p) (e::es) [] pos) (tCB r t):=by
 intro pins s σ H Q I h
 refine wpAny_Call_Name_kw (ld_blt I hg hm hv ?_ hn hdb)
 exact PyProof.Rows.callWith_builtin1 (d8 (ha pos pins s σ H _ I h) fun us s1 ⟨vs,H1,I1,r1,q1⟩=>hc pins s1 σ H1 vs us Q I1 r1 q1) he hpl
theorem bG (hc:CallR X (.type T) r) (hg:Gl X x) (hm:X.mg x=none) (hv:bootBuiltins x=some (.type T)) (ha:PA X (e::es) t) (hn:x ≠ "__name__" := by decide) (hdb:(x == ("__debug__" : Str))=false:=by decide)
  (he:starEach (e::es) X.env=(false,eval e X.env)::starEach es X.env:=by rfl) (hpl:(backTo pos (starEach es X.env)).any (·.1)=false:=by rfl):PE X (.Call (.Name x p) (e::es) [] pos) (tCB r t):=by
 intro pins s σ H Q I h
 refine wpAny_Call_Name_kw (ld_blt I hg hm hv ?_ hn hdb)
 exact PyProof.Rows.callWith_type1 (d8 (ha pos pins s σ H _ I h) fun us s1 ⟨vs,H1,I1,r1,q1⟩=>hc pins s1 σ H1 vs us Q I1 r1 q1) he hpl
end
end L2
namespace HT
open PySem PyProof.Rows
section
open PySem.SeqAt
open PySem.AutoSeq1 (wpAny_loadPart')
open PySem.MeetsSeq PySem.MeetsSeq2 PySem.MeetsSeq3
end
section
variable {prog:Program}{w:World}{A:Around}{E:Value→Shared→Prop}{s:Shared}
theorem cat_tup {t b:Addr}{vs ws:List Value}{Q:Value→Shared→Prop} (ht:IsTup s.heap t vs.toArray) (hb:IsTup s.heap b ws.toArray) (hv:vs≠[])
  (h1:ws=[]→Q (.ref t) s) (h2:ws≠[]→Q (.ref s.heap.objs.size) { s with heap:=s.heap.push { cls:=.type "tuple",data:=.seq (vs++ws).toArray } })
  (hsz:vs.length+ws.length≤sizeLine):wpAny (model prog w) A (binaryOp .Add (.ref t) (.ref b)) Q E s:=by
 obtain⟨⟨cls,dd,data,sl⟩,ho,hc,n,hd⟩:=id ht
 obtain⟨⟨cls2,dd2,data2,sl2⟩,ho2,hc2,n2,hd2⟩:=id hb
 simp only at hc hd hc2 hd2
 subst hc hd hc2 hd2
 have e:vs.toArray++ws.toArray=(vs++ws).toArray:=by simp
 by_cases hw:ws=[]
 ·exact concat_meets ⟨_,ho,rfl⟩ ⟨_,ho2,rfl⟩ noFill_tuple_add seq_tuple_add PySem.F.slot_tuple_add PySem.F.entry_tuple_add (PySem.F.args_tuple_add_2 _ _)
   (tuple_addW1 t b vs.toArray ws.toArray n n2 dd dd2 sl sl2 (by simpa using hv) (by simp [hw])) ⟨ho,ho2,h1 hw⟩
 ·refine concat_meets ⟨_,ho,rfl⟩ ⟨_,ho2,rfl⟩ noFill_tuple_add seq_tuple_add PySem.F.slot_tuple_add PySem.F.entry_tuple_add (PySem.F.args_tuple_add_2 _ _)
   (tuple_addW2 t b vs.toArray ws.toArray n n2 dd dd2 sl sl2 (by simpa using hv) (by simpa using hw) (by rw[List.size_toArray,List.size_toArray];exact hsz)) ⟨ho,ho2,?_⟩
  rw[e]
  exact h2 hw
noncomputable def sIx (n d:Nat):Option Int→Nat
 | none=>d
 | some v=>if v < 0 then (v+(n:Int)).toNat else min v.toNat n
theorem sIx_none (n d:Nat):sIx n d none=d:=rfl
theorem sIx_nat (n d k:Nat):sIx n d (some (k:Int))=min k n:=by
 show (if (k:Int) < 0 then ((k:Int)+(n:Int)).toNat else min (k:Int).toNat n)=min k n
 rw[if_neg (by omega),Int.toNat_natCast]
theorem sIx_le (n d:Nat) (hd:d≤n) (o:Option Int):sIx n d o≤n:=by
 cases o with
 | none=>exact hd
 | some v=>
  show (if v < 0 then (v+(n:Int)).toNat else min v.toNat n)≤n
  by_cases hv:v < 0
  ·rw[if_pos hv];omega
  ·rw[if_neg hv];exact Nat.min_le_right _ _
theorem clip_eq (v:Int) (n d:Nat):(if v < 0 then max (v+(n:Int)) 0 else min v (n:Int))=((sIx n d (some v):Nat):Int):=by
 show (if v < 0 then max (v+(n:Int)) 0 else min v (n:Int))=(((if v < 0 then (v+(n:Int)).toNat else min v.toNat n):Nat):Int)
 by_cases hv:v < 0
 ·simp only [if_pos hv];omega
 ·simp only [if_neg hv];omega
theorem adjust_gen (lo hi:Option Int) (n:Nat):Builtin.Slice.sliceAdjust lo hi 1 (n:Int)=(((sIx n 0 lo:Nat):Int),((sIx n n hi:Nat):Int)):=by
 have h1:¬ ((1:Int) < 0):=by omega
 unfold Builtin.Slice.sliceAdjust
 simp only [h1,if_false]
 refine Prod.ext ?_ ?_
 ·cases lo with
  | none=>rfl
  | some v=>exact clip_eq v n 0
 ·cases hi with
  | none=>rfl
  | some v=>exact clip_eq v n n
theorem places_gen (i j:Nat):Builtin.Slice.slicePlaces (i:Int) (j:Int) 1=j - i:=by
 unfold Builtin.Slice.slicePlaces
 have h1:(1:Int) > 0:=by omega
 simp only [h1,if_true,Int.ediv_one]
 split <;> omega
theorem slicePart_ {v:Value}{o:Option Int}{Q:Option Int→Shared→Prop} (p:IsPart v o) (h:Q o s):wpAny (model prog w) A (Builtin.Slice.slicePartIndex v) Q E s:=by
 cases p with
 | none=>exact slicePart_none h
 | int i t=>exact slicePart_int h
theorem sliceApplied_gen {sl:Addr}{vl vu:Value}{lo hi:Option Int}{n:Nat}{Q:Int×Int×Nat→Shared→Prop} (hs:s.heap.IsSliceOf sl vl vu .none) (pl:IsPart vl lo) (pu:IsPart vu hi)
  (h:Q (((sIx n 0 lo:Nat):Int),1,sIx n n hi - sIx n 0 lo) s):wpAny (model prog w) A (Builtin.Slice.sliceApplied (.ref sl) (pure (n:Int))) Q E s:=by
 obtain⟨os,hos,hcs,hds⟩:=id hs
 unfold Builtin.Slice.sliceApplied Builtin.Slice.sliceFields
 refine wpAny_bind (wpAny_bind (wpAny_field hos hds (x:=vl) rfl (wpAny_bind (wpAny_field hos hds (x:=vu) rfl (wpAny_bind (wpAny_field hos hds (x:=.none) rfl (wpAny_pure ?_)))))))
 refine wpAny_bind (slicePart_none ?_)
 show wpAny _ _ (if ((1:Int) == 0)=true then _ else _) _ _ s
 rw[if_neg (by decide)]
 refine wpAny_bind (slicePart_ pl (wpAny_bind (slicePart_ pu (wpAny_bind (wpAny_pure ?_)))))
 show wpAny _ _ (match Builtin.Slice.sliceAdjust lo hi 1 (n:Int) with | (lo,hi)=>pure (lo,(1:Int),Builtin.Slice.slicePlaces lo hi 1)) _ _ s
 rw[adjust_gen lo hi n]
 show wpAny _ _ (pure (((sIx n 0 lo:Nat):Int),(1:Int),Builtin.Slice.slicePlaces ((sIx n 0 lo:Nat):Int) ((sIx n n hi:Nat):Int) 1)) _ _ s
 rw[places_gen]
 exact wpAny_pure h
theorem pick_gen (xs:Array Value) (i k:Nat):((List.range k).filterMap fun (m:Nat)=>xs[((i:Int)+(m:Int) * 1).toNat]?).toArray=((xs.toList.drop i).take k).toArray:=by
 have e:(fun (m:Nat)=>xs[((i:Int)+(m:Int) * 1).toNat]?)=fun m=>xs[i+m]?:=by
  funext m
  have:((i:Int)+(m:Int) * 1).toNat=i+m:=by omega
  rw[this]
 rw[e]
 have:=pick_run xs i k
 rw[List.filterMap_map] at this
 have e2:((fun x=>xs[x]?) ∘ fun x=>i+x)=fun m=>xs[i+m]?:=rfl
 rw[e2] at this
 rw[this]
theorem getItem_tuple_cut {t sl:Addr}{items:Array Value}{vl vu:Value}{lo hi:Option Int}{Q:Value→Shared→Prop} (ht:IsTup s.heap t items) (hs:s.heap.IsSliceOf sl vl vu .none) (pl:IsPart vl lo) (pu:IsPart vu hi)
  (hw:¬ (sIx items.size 0 lo=0∧sIx items.size items.size hi=items.size))
  (h:Q (.ref s.heap.objs.size) { s with heap:=s.heap.push { cls:=.type "tuple",data:=.seq ((items.toList.drop (sIx items.size 0 lo)).take (sIx items.size items.size hi - sIx items.size 0 lo)).toArray } })
  (hsz:items.size≤sizeLine):wpAny (model prog w) A (getItem (.ref t) (.ref sl)) Q E s:=by
 have htake:sizeOk (.seq ((items.toList.drop (sIx items.size 0 lo)).take (sIx items.size items.size hi - sIx items.size 0 lo)).toArray):=by
  show ((items.toList.drop (sIx items.size 0 lo)).take (sIx items.size items.size hi - sIx items.size 0 lo)).toArray.size≤sizeLine
  rw[List.size_toArray,List.length_take,List.length_drop,Array.length_toList]
  omega
 have hj:sIx items.size items.size hi≤items.size:=sIx_le _ _ (Nat.le_refl _) hi
 obtain⟨os,hos,hcs,hds⟩:=id hs
 have hTs:s.TypeIs (.ref sl) "slice" := ⟨os,hos,hcs⟩
 unfold getItem
 try with_reducible refine wpAny_holding ?_
 first | refine wpAny_bind (wpAny_pure ?_) | skip
 refine wpAny_bind (wpAny_sequenceKey ht.typeIs (by decide) ?_)
 refine wpAny_bind (wpAny_callSpecial?_slot (name:=Str.ofString "__getitem__") ht.typeIs PyProof.Rows.slot_tuple_getitem
  (wpAny_call_entry PyProof.Rows.slot_tuple_getitem ht.typeIs entry_tuple_getitem ?_ (args_tuple_getitem _ _)))
 show wpAny _ _ (Builtin.Tuple.tupleItemsOf (.ref t) >>= _) _ _ s
 refine wpAny_bind (tupleItemsOf_ ht ?_)
 refine wpAny_bind (wpAny_typeOf hTs ?_)
 rw[if_pos (by decide)]
 refine wpAny_bind (sliceApplied_gen hs pl pu ?_)
 have hno:¬ ((((sIx items.size 0 lo:Nat):Int) == 0 && (1:Int) == 1 && (sIx items.size items.size hi - sIx items.size 0 lo) == items.size)=true):=by
  intro q
  rw[Bool.and_eq_true,Bool.and_eq_true] at q
  have q1:((sIx items.size 0 lo:Nat):Int)=0:=eq_of_beq q.1.1
  have q2:sIx items.size items.size hi - sIx items.size 0 lo=items.size:=eq_of_beq q.2
  exact hw ⟨by omega,by omega⟩
 show wpAny _ _ (if (((sIx items.size 0 lo:Nat):Int) == 0 && (1:Int) == 1 && (sIx items.size items.size hi - sIx items.size 0 lo) == items.size)=true then _ else _) _ _ s
 rw[if_neg hno,pick_gen]
 first
  | exact wpAny_bind (m:=Builtin.Tuple.tupleExact _) (wpAny_newObj_type (wpAny_pure ⟨_,rfl,wpAny_pure h⟩) htake)
  | exact wpAny_bind (m:=Builtin.Tuple.tupleExact _) (wpAny_newObj_type (wpAny_bind (wpAny_pure (wpAny_pure ⟨_,rfl,wpAny_pure h⟩))) htake)
  | exact wpAny_bind (wpAny_bind (m:=Builtin.Tuple.tupleExact _) (wpAny_newObj_type (wpAny_pure (wpAny_pure ⟨_,rfl,wpAny_pure h⟩)) htake))
  | exact wpAny_bind (wpAny_bind (m:=Builtin.Tuple.tupleExact _) (wpAny_newObj_type (wpAny_pure ⟨_,rfl,wpAny_pure h⟩) htake))
end
end HT
namespace L2
open PySem PySem.Spec PyProof.Rows
noncomputable abbrev TO:=St→Hp→(Option Int→Hp→Prop)→Prop
noncomputable def PO (X:Cx) (e:Option Expr) (t:TO):Prop:=
 ∀ (pins:List (Addr×Obj)) (s:Shared) (σ:St) (H:Hp) (Q:Option Int→Hp→Prop),Inv X pins σ H s→t σ H Q→
  wpAny (model X.prog X.w) X.A (evalPart e X.env) (fun u s'=>∃ o H',Inv X pins σ H' s'∧IsPart u o∧Q o H') X.xe s
noncomputable def tNoPart:TO:=fun _ H Q=>Q none H
noncomputable def tPart (t:TE):TO:=fun σ H Q=>t σ H fun x H1=>∃ i,x=.int i∧Q (some i) H1
theorem intsAre_of {ns:List Int}:∀ {us:List Value},bP (ns.map V.int) us→IntsAre us ns:=by
 induction ns with
 | nil=>intro us r;rw[List.map_nil] at r;cases r;exact .nil
 | cons n ns ih=>
  intro us r
  rw[List.map_cons] at r
  cases r with
  | cons r1 r2=>
   obtain⟨t,e⟩:=r1
   subst e
   exact .cons n t (ih r2)
section
variable {X:Cx}{e:Expr}{te:TE}{lo hi:Option Expr}{tl th:TO}{pos p2:Pos}
theorem po_none:PO X none tNoPart:=by
 intro pins s σ H Q I h
 rw[evalPart_none]
 exact wpAny_pure ⟨none,H,I,.none,h⟩
theorem po_some (h:PE X e te):PO X (some e) (tPart te):=by
 intro pins s σ H Q I hw
 rw[evalPart_some]
 refine d8 (h pins s σ H _ I hw) fun u s1 ⟨x,H1,I1,r1,q1⟩=>?_
 obtain⟨i,rfl,q⟩:=q1
 obtain⟨t,rfl⟩:=r1
 exact⟨some i,H1,I1,.int i t,q⟩
noncomputable def SlR (X:Cx) (r:V→Option Int→Option Int→Hp→VK→Prop):Prop:=
 ∀ (pins:List (Addr×Obj)) (s:Shared) (σ:St) (H:Hp) (x:V) (v vl vu:Value) (lo hi:Option Int) (sl:Addr) (Q:VK),Inv X pins σ H s→bO x v→s.heap.IsSliceOf sl vl vu .none→IsPart vl lo→IsPart vu hi→r x lo hi H Q→
  ∃ T id,typeLookup (.type T) "__getitem__" = pure (some (.builtin id))∧s.TypeIs v T∧wpAny (model X.prog X.w) X.A (getItem v (.ref sl)) (EP X pins σ Q) X.xe s
noncomputable def tSl (r:V→Option Int→Option Int→Hp→VK→Prop) (te:TE) (tl th:TO):TE:=fun σ H Q=>te σ H fun x H1=>tl σ H1 fun l H2=>th σ H2 fun u H3=>r x l u H3 Q
theorem pe_slice {r:V→Option Int→Option Int→Hp→VK→Prop} (hr:SlR X r) (he:PE X e te) (hl:PO X lo tl) (hu:PO X hi th):PE X (.Subscript e (.Slice lo hi none p2) pos) (tSl r te tl th):=by
 intro pins s σ H Q I h
 refine Subscript_ (d8 (he pins s σ H _ I h) fun v s1 ⟨x,H1,I1,r1,q1⟩=>?_)
 refine wpAny_Slice (d8 (hl pins s1 σ H1 _ I1 q1) fun vl s2 ⟨l,H2,I2,pl,q2⟩=>d8 (hu pins s2 σ H2 _ I2 q2) fun vu s3 ⟨u,H3,I3,pu,q3⟩=>?_)
 rw[evalPart_none]
 refine wpAny_pure ?_
 have I4:Inv X pins σ H3 { s3 with heap:=s3.heap.push { cls:=.type "slice",data:=.fields #[vl,vu,.none] } }:=I3.kept (t':=s3.toks) fun b ob q=>Heap.get?_push_of_some _ q
 obtain⟨T,id,hT,ht,hg⟩:=hr pins { s3 with heap:=s3.heap.push { cls:=.type "slice",data:=.fields #[vl,vu,.none] } } σ H3 x v vl vu l u s3.heap.objs.size Q I4 r1 (Heap.IsSliceOf.new ..) pl pu q3
 show wpAny (model X.prog X.w) X.A (subscriptTail e (.Slice lo hi none p2) v (.ref s3.heap.objs.size)) (EP X pins σ Q) X.xe { s3 with heap:=s3.heap.push { cls:=.type "slice",data:=.fields #[vl,vu,.none] } }
 exact tail_any (ops:=[.ref s3.heap.objs.size,v]) ht hT hg (by with_unfolding_all rfl)
noncomputable def cutV (xs:List V) (lo hi:Option Int):List V:=(xs.drop (HT.sIx xs.length 0 lo)).take (HT.sIx xs.length xs.length hi - HT.sIx xs.length 0 lo)
theorem cutV_length (xs:List V) (lo hi:Option Int):(cutV xs lo hi).length≤xs.length:=by
 unfold cutV
 rw[List.length_take,List.length_drop]
 omega
noncomputable def rSlT (K:PySem.W.Frag):V→Option Int→Option Int→Hp→VK→Prop:=fun x lo hi H Q=>∃ a xs,x=.ref a∧bT K H a xs∧
 ¬ (HT.sIx xs.length 0 lo=0∧HT.sIx xs.length xs.length hi=xs.length)∧∀ p,H p=none→Q (.ref p) (upd H p (.tup (cutV xs lo hi)))
theorem sl_tup:SlR X (rSlT X.K):=by
 intro pins s σ H x v vl vu lo hi sl Q I rx hs pl pu h
 obtain⟨a,xs,rfl,hx,hw,q⟩:=h
 cases rx
 obtain⟨its,r,ht,hz⟩:=I.tuple hx
 have hlen:its.toArray.size=xs.length:=by rw[List.size_toArray];exact r.length.symm
 refine⟨"tuple",_,PyProof.Rows.slot_tuple_getitem.lookup,ht.typeIs,?_⟩
 refine HT.getItem_tuple_cut ht hs pl pu (by rw[hlen];exact hw) ?_ (by rw[hlen];exact hz)
 rw[hlen]
 refine⟨.ref s.heap.objs.size,_,I.laid (t':=s.toks) (o:=.tup (cutV xs lo hi)) (fun b ob q=>Heap.get?_push_of_some _ q) (Nat.le_refl _) ?_,rfl,q _ (I.hok.fresh (Nat.le_refl _))⟩
 exact⟨Nat.le_trans (cutV_length xs lo hi) hz,_,(r.drop (HT.sIx xs.length 0 lo)).take (HT.sIx xs.length xs.length hi - HT.sIx xs.length 0 lo),IsTup.new _ _⟩
noncomputable def rCatT (K:PySem.W.Frag):R2:=fun x y H Q=>∃ a b xs ys,x=.ref a∧y=.ref b∧bT K H a xs∧bT K H b ys∧xs≠[]∧xs.length+ys.length≤sizeLine∧
 (ys=[]→Q (.ref a) H)∧(ys≠[]→∀ p,H p=none→Q (.ref p) (upd H p (.tup (xs++ys))))
theorem bP.nil_iff {xs:List V}{us:List Value} (r:bP xs us):us=[]↔xs=[]:=by
 cases r with
 | nil=>simp
 | cons _ _=>simp
theorem op_catT:OpR X (binaryOp .Add) (rCatT X.K):=by
 intro pins s σ H x y v u Q I rx ry h
 obtain⟨a,b,xs,ys,rfl,rfl,ha,hb,hx,hz,q1,q2⟩:=h
 cases rx
 cases ry
 obtain⟨its,r1,p1,_⟩:=I.tuple ha
 obtain⟨its2,r2,p2,_⟩:=I.tuple hb
 refine HT.cat_tup p1 p2 (fun z=>hx (r1.nil_iff.mp z)) (fun z=>⟨.ref a,H,I,rfl,q1 (r2.nil_iff.mp z)⟩) (fun z=>?_) (by rw[← r1.length,← r2.length];exact hz)
 refine⟨.ref s.heap.objs.size,_,I.laid (t':=s.toks) (o:=.tup (xs++ys)) (fun b ob q=>Heap.get?_push_of_some _ q) (Nat.le_refl _) ?_,rfl,q2 (fun w=>z (r2.nil_iff.mpr w)) _ (I.hok.fresh (Nat.le_refl _))⟩
 exact⟨by rw[List.length_append];exact hz,_,r1.append r2,IsTup.new _ _⟩
end
end L2
namespace L2
open PySem PySem.Spec PyProof.Rows
noncomputable def ixN (n:Nat) (i:Int):Option Nat:=if 0≤i then (if i < n then some i.toNat else none) else if -(n:Int)≤i then some (i+n).toNat else none
noncomputable def atI {α:Type} (xs:List α) (i:Int):Option α:=(ixN xs.length i).bind fun j=>xs[j]?
theorem ixN_seq {n:Nat}{i:Int}{j:Nat} (h:ixN n i=some j):seqIndex? i n=some j∧j < n∧-(n:Int)≤i∧i < n:=by
 unfold ixN at h
 by_cases h0:0≤i
 ·rw[if_pos h0] at h
  by_cases h1:i < n
  ·rw[if_pos h1] at h
   have e:i.toNat=j:=Option.some.inj h
   exact⟨by rw[seqIndex_of h0 h1,e],by omega,by omega,h1⟩
  ·rw[if_neg h1] at h;cases h
 ·rw[if_neg h0] at h
  by_cases h1 : -(n:Int)≤i
  ·rw[if_pos h1] at h
   have e:(i+n).toNat=j:=Option.some.inj h
   exact⟨by rw[seqIndex_neg (by omega) h1,e],by omega,h1,by omega⟩
  ·rw[if_neg h1] at h;cases h
theorem atI_get {α:Type}{xs:List α}{i:Int}{v:α} (h:atI xs i=some v):∃ j,seqIndex? i xs.length=some j∧xs[j]? = some v∧j < xs.length∧-(xs.length:Int)≤i∧i < xs.length:=by
 unfold atI at h
 cases e:ixN xs.length i with
 | none=>rw[e] at h;cases h
 | some j=>
  rw[e] at h
  obtain⟨h1,h2,h3,h4⟩:=ixN_seq e
  exact⟨j,h1,h,h2,h3,h4⟩
theorem d5 {α:Type}{xs:List α}{j:Nat}{v:α} (h:xs[j]? = some v):atI xs (j:Int)=some v:=by
 have hj:j < xs.length:=(List.getElem?_eq_some_iff.mp h).1
 have e:ixN xs.length (j:Int)=some j:=by
  unfold ixN
  rw[if_pos (by omega),if_pos (by omega)];simp
 unfold atI;rw[e];exact h
theorem eJ {α:Type} (xs:List α) (v:α):atI (xs++[v]) (-1)=some v:=by
 have hl:(xs++[v]).length=xs.length+1:=by simp
 have e:ixN (xs++[v]).length (-1)=some xs.length:=by
  unfold ixN
  rw[hl,if_neg (by decide),if_pos (by omega)]
  congr 1
  omega
 unfold atI
 rw[e]
 show (xs++[v])[xs.length]? = some v
 simp
noncomputable def PlainIx (b:Expr):Prop:=∀ o i,subscripted b false o i=operate [o,i] (getItem o i)
noncomputable def IxR (X:Cx) (r:R2):Prop:=
 ∀ (value slice:Expr) (pins:List (Addr×Obj)) (s:Shared) (σ:St) (H:Hp) (x y:V) (v u:Value) (Q:VK),Inv X pins σ H s→bO x v→bO y u→r x y H Q→
  subscripted slice false v u=operate [v,u] (getItem v u)→wpAny (model X.prog X.w) X.A (subscriptTail value slice v u) (EP X pins σ Q) X.xe s
noncomputable def MtR (X:Cx) (id:String) (r:V→List V→Hp→VK→Prop):Prop:=
 ∀ (pins:List (Addr×Obj)) (s:Shared) (σ:St) (H:Hp) (x:V) (xs:List V) (v:Value) (us:List Value) (Q:VK),Inv X pins σ H s→bO x v→bP xs us→r x xs H Q→
  wpAny (model X.prog X.w) X.A (call (.builtin id) (v::us)) (EP X pins σ Q) X.xe s
section
variable {X:Cx}{a b:Expr}{ta tb:TE}{pos:Pos}
theorem IxR.or {r r':R2} (h:IxR X r) (h':IxR X r'):IxR X (fun x y H Q=>r x y H Q∨r' x y H Q):=by
 intro value slice pins s σ H x y v u Q I rx ry q hs
 rcases q with q | q
 ·exact h value slice pins s σ H x y v u Q I rx ry q hs
 ·exact h' value slice pins s σ H x y v u Q I rx ry q hs
theorem aR {r:R2} (hr:IxR X r) (ha:PE X a ta) (hb:PE X b tb) (hs:PlainIx b):PE X (.Subscript a b pos) (tOp r ta tb):=by
 intro pins s σ H Q I h
 exact Subscript_ (binT ha hb I h fun v u s2 x y H2 I2 rx ry q=>hr a b pins s2 σ H2 x y v u Q I2 rx ry q (hs _ _))
noncomputable def rIxL (K:PySem.W.Frag):R2:=fun x y H Q=>∃ p xs i v,x=.ref p∧y=.int i∧bM K H p xs∧atI xs i=some v∧Q v H
noncomputable def rIxT (K:PySem.W.Frag):R2:=fun x y H Q=>∃ p xs i v,x=.ref p∧y=.int i∧bT K H p xs∧atI xs i=some v∧Q v H
noncomputable def rIxS:R2:=fun x y H Q=>∃ z i c,x=.str z∧y=.int i∧z.length≤sizeLine∧atI z.cps.toList i=some c∧Q (.str ⟨#[c]⟩) H
theorem ix_list:IxR X (rIxL X.K):=by
 intro value slice pins s σ H x y v u Q I rx ry h hs
 obtain⟨p,xs,i,z,rfl,rfl,hq,he,q⟩:=h
 cases rx
 obtain⟨t,rfl⟩:=ry
 obtain⟨its,r,pl,hz⟩:=I.list hq
 obtain⟨j,h1,h2,h3,h4,h5⟩:=atI_get he
 obtain⟨w,ew,rw'⟩:=r.get h2
 have hl:=r.length
 have hn:=line63
 have fin:EP X pins σ Q w s:=⟨z,H,I,rw',q⟩
 by_cases h0:0≤i
 ·have hj:i.toNat=j:=by
   rw[seqIndex_of h0 h5] at h1
   exact Option.some.inj h1
  exact item_listR pl.isList h0 (by omega) (by rw[hj];simpa using ew) fin hs
 ·have hj:(i+(its.toArray.size:Int)).toNat=j:=by
   rw[seqIndex_neg (by omega) h4] at h1
   rw[List.size_toArray,← hl]
   exact Option.some.inj h1
  exact subscriptTail_builtinR (x:=w) pl.isList.typeIs slot_list_getitem.lookup
   (wpAny_getItem_list_neg (Q:=fun r s'=>r=w∧EP X pins σ Q r s') pl.isList (by omega) (by rw[List.size_toArray] <;> omega) (by omega) (by rw[hj];simpa using ew) ⟨rfl,fin⟩) hs
theorem ix_tup:IxR X (rIxT X.K):=by
 intro value slice pins s σ H x y v u Q I rx ry h hs
 obtain⟨p,xs,i,z,rfl,rfl,hq,he,q⟩:=h
 cases rx
 obtain⟨t,rfl⟩:=ry
 obtain⟨its,r,pl,hz⟩:=I.tuple hq
 obtain⟨j,h1,h2,h3,h4,h5⟩:=atI_get he
 obtain⟨w,ew,rw'⟩:=r.get h2
 have hl:=r.length
 have hn:=line63
 have fin:EP X pins σ Q w s:=⟨z,H,I,rw',q⟩
 exact subscriptTail_builtinR (x:=w) pl.typeIs slot_tuple_getitem.lookup
  (getItem_tuple (j:=j) (Q:=fun r s'=>r=w∧EP X pins σ Q r s') pl (by omega) (by omega) (by rw[List.size_toArray,← hl];exact h1) (by simpa using ew) ⟨rfl,fin⟩) hs
theorem ix_str:IxR X rIxS:=by
 intro value slice pins s σ H x y v u Q I rx ry h hs
 obtain⟨z,i,c,rfl,rfl,hz,he,q⟩:=h
 obtain⟨t,rfl⟩:=rx
 obtain⟨t',rfl⟩:=ry
 obtain⟨j,h1,h2,h3,h4,h5⟩:=atI_get he
 have hl:z.cps.toList.length=z.length:=by simp [Str.length]
 rw[hl] at h1 h4 h5
 have hn:=line63
 exact tail_any (typeIs_str s z t) slot_str_getitem.lookup (getItem_str (c:=c) (by
  have e1:decide (i < -(2 ^ 63:Int))=false:=decide_eq_false (by omega)
  have e2:decide (i ≥ 2 ^ 63)=false:=decide_eq_false (by omega)
  rw[e1,e2,Bool.or_false]) (by rw[h1];simpa using h2) ⟨.str ⟨#[c]⟩,H,I.tok _,⟨_,rfl⟩,q⟩) hs
noncomputable def rIx (K:PySem.W.Frag):R2:=fun x y H Q=>rIxL K x y H Q∨rIxT K x y H Q∨rIxS x y H Q
theorem ix_seq:IxR X (rIx X.K):=ix_list.or (ix_tup.or ix_str)
theorem mapSeq_set (its:List Value) (n j:Nat) (u:Value):Obj.mapSeq (·.setIfInBounds j u) { cls:=.type "list",data:=.seq its.toArray n }={ cls:=.type "list",data:=.seq (its.set j u).toArray n }:=by
 simp [Obj.mapSeq]
theorem Inv.lst {pins:List (Addr×Obj)}{σ:St}{H:Hp}{s:Shared}{p:Addr}{xs:List V} (I:Inv X pins σ H s) (h:H p=some (.lst xs)) :
  ∃ (its:List Value) (n:Nat),bP xs its∧s.heap.get? p=some { cls:=.type "list",data:=.seq its.toArray n }∧xs.length≤sizeLine:=by
 obtain⟨z,its,n,r,e⟩:=I.hok p _ h
 exact⟨its,n,r,e,z⟩
theorem Inv.lstUpd {pins:List (Addr×Obj)}{σ:St}{H:Hp}{s:Shared}{p:Addr}{xs ys:List V}{its its':List Value}{n n':Nat}{f:Obj→Obj} (I:Inv X pins σ H s) (h:H p=some (.lst xs))
  (ho:s.heap.get? p=some { cls:=.type "list",data:=.seq its.toArray n }) (hf:f { cls:=.type "list",data:=.seq its.toArray n }={ cls:=.type "list",data:=.seq its'.toArray n' }) (r:bP ys its') (hz:ys.length≤sizeLine) (t:Nat) :
  Inv X pins σ (upd H p (.lst ys)) { s with heap:=s.heap.update p f,toks:=t }:=by
 have e:(s.heap.update p f).get? p=some { cls:=.type "list",data:=.seq its'.toArray n' }:=by
  rw[Heap.get?_update_self f ho (by rw[hf] <;> rfl),hf]
 refine I.write (x:=p) (e:=p) (by rw[h];trivial) (.inl rfl) (fun b u hb q=>(Heap.get?_update_other _ _ (Ne.symm hb)).trans q) ⟨_,e⟩ ?_
 exact⟨hz,its',n',r,e⟩
noncomputable def rSetL:V→V→V→Hp→(Hp→Prop)→Prop:=fun o i v H Q=>∃ p xs k j,o=.ref p∧i=.int k∧H p=some (.lst xs)∧ixN xs.length k=some j∧Q (upd H p (.lst (xs.set j v)))
theorem eV:PSet X rSetL:=by
 intro pins s σ H o i v ov iv u Q I ro ri rv h
 obtain⟨p,xs,k,j,rfl,rfl,hp,hj,q⟩:=h
 cases ro
 obtain⟨t,rfl⟩:=ri
 obtain⟨its,n,r,ho,hz⟩:=I.lst hp
 obtain⟨h1,h2,h3,h4⟩:=ixN_seq hj
 have hl:=r.length
 have hn:=line63
 have I':Inv X pins σ (upd H p (.lst (xs.set j v))) { s with heap:=s.heap.update p (Obj.mapSeq (·.setIfInBounds j u)) }:=
  I.lstUpd hp ho (mapSeq_set its n j u) (r.set rv j) (by rw[List.length_set];exact hz) s.toks
 by_cases h0:0≤k
 ·have hk:k.toNat=j:=by
   rw[seqIndex_of h0 h4] at h1
   exact Option.some.inj h1
  exact PySem.W.ki_setAt ho h0 (by omega) (by rw[List.size_toArray,← hl];exact h4) (by rw[hk];exact⟨_,I',q⟩)
 ·have hk:(k+(its.toArray.size:Int)).toNat=j:=by
   rw[seqIndex_neg (by omega) h3] at h1
   rw[List.size_toArray,← hl]
   exact Option.some.inj h1
  exact PySem.W.ki_setBack ho (by omega) (by rw[List.size_toArray,← hl];exact h3) (by omega) (by rw[hk];exact⟨_,I',q⟩)
noncomputable def flatV:V→Bool
 | .non=>true
 | .bl _=>true
 | .int _=>true
 | .str _=>true
 | _=>false
noncomputable def eqV:V→V→Bool
 | .non,.non=>true
 | .bl a,.bl b=>a == b
 | .bl a,.int b=>(if a then 1 else 0) == b
 | .int a,.bl b=>a == (if b then 1 else 0)
 | .int a,.int b=>a == b
 | .str a,.str b=>a == b
 | _,_=>false
theorem eqAt_V {A:Around}{s:Shared}{y x:V}{u v:Value} (ry:bO y u) (rx:bO x v) (fy:flatV y=true) (fx:flatV x=true):SeqAt.EqAt A s u v (eqV y x):=by
 cases y with
 | non=>
  cases ry
  cases x with
  | non=>cases rx;exact SeqAt.EqAt.same _
  | bl b=>cases rx;exact SeqAt.EqAt.none_bool b
  | int b=>obtain⟨t,rfl⟩:=rx;exact SeqAt.EqAt.none_int b t
  | str b=>obtain⟨t,rfl⟩:=rx;exact SeqAt.EqAt.none_str b t
  | _=>exact absurd (show false=true from fx) Bool.false_ne_true
 | bl a=>
  cases ry
  cases x with
  | non=>cases rx;exact SeqAt.EqAt.bool_none a
  | bl b=>cases rx;exact SeqAt.EqAt.bool_bool a b
  | int b=>obtain⟨t,rfl⟩:=rx;exact SeqAt.EqAt.bool_int a b t
  | str b=>obtain⟨t,rfl⟩:=rx;exact SeqAt.EqAt.bool_str a b t
  | _=>exact absurd (show false=true from fx) Bool.false_ne_true
 | int a=>
  obtain⟨t',rfl⟩:=ry
  cases x with
  | non=>cases rx;exact SeqAt.EqAt.int_none a t'
  | bl b=>cases rx;exact SeqAt.EqAt.int_bool a t' b
  | int b=>obtain⟨t,rfl⟩:=rx;exact SeqAt.EqAt.int_int a t' b t
  | str b=>obtain⟨t,rfl⟩:=rx;exact SeqAt.EqAt.int_str a t' b t
  | _=>exact absurd (show false=true from fx) Bool.false_ne_true
 | str a=>
  obtain⟨t',rfl⟩:=ry
  cases x with
  | non=>cases rx;exact SeqAt.EqAt.str_none a t'
  | bl b=>cases rx;exact SeqAt.EqAt.str_bool a t' b
  | int b=>obtain⟨t,rfl⟩:=rx;exact SeqAt.EqAt.str_int a t' b t
  | str b=>obtain⟨t,rfl⟩:=rx;exact SeqAt.EqAt.str_str a t' b t
  | _=>exact absurd (show false=true from fx) Bool.false_ne_true
 | _=>exact absurd (show false=true from fy) Bool.false_ne_true
noncomputable def eqU (x:V) (u:Value):Bool:=match u with
 | .none=>eqV .non x
 | .bool b=>eqV (.bl b) x
 | .int i _=>eqV (.int i) x
 | .str z _=>eqV (.str z) x
 | _=>false
theorem eqU_of {x y:V}{u:Value} (r:bO y u) (f:flatV y=true):eqU x u=eqV y x:=by
 cases y with
 | non=>cases r;rfl
 | bl b=>cases r;rfl
 | int i=>obtain⟨t,rfl⟩:=r;rfl
 | str z=>obtain⟨t,rfl⟩:=r;rfl
 | _=>exact absurd (show false=true from f) Bool.false_ne_true
theorem any_eqU {x:V}:∀ {xs:List V}{us:List Value},bP xs us→xs.all flatV=true→us.any (eqU x)=xs.any fun y=>eqV y x
 | _,_,.nil,_=>rfl
 | y::xs,u::us,.cons r t,f=>by
  rw[List.all_cons,Bool.and_eq_true] at f
  rw[List.any_cons,List.any_cons,eqU_of r f.1,any_eqU t f.2]
theorem mem_eqAt {A:Around}{s:Shared}{x:V}{v:Value} (rx:bO x v) (fx:flatV x=true):∀ {xs:List V}{us:List Value},bP xs us→xs.all flatV=true→∀ u∈us,SeqAt.EqAt A s u v (eqU x u)
 | _,_,.nil,_=>fun u hu=>by cases hu
 | y::xs,u::us,.cons r t,f=>fun u' hu=>by
  rw[List.all_cons,Bool.and_eq_true] at f
  rcases List.mem_cons.mp hu with rfl | hu
  ·rw[eqU_of r f.1];exact eqAt_V r rx f.1 fx
  ·exact mem_eqAt rx fx t f.2 u' hu
noncomputable def inV (x:V) (xs:List V):Bool:=xs.any fun y=>eqV y x
noncomputable def rIn (K:PySem.W.Frag) (neg:Bool):R2:=fun x y H Q=>∃ p xs,y=.ref p∧(bM K H p xs∨bT K H p xs)∧flatV x=true∧xs.all flatV=true∧Q (.bl (if neg then !inV x xs else inV x xs)) H
theorem op_in_seq:OpR X (compareOp .In) (rIn X.K false):=by
 intro pins s σ H x y v u Q I rx ry h
 obtain⟨p,xs,rfl,hq,fx,fs,q⟩:=h
 cases ry
 rcases hq with hq | hq
 ·obtain⟨its,r,pl,hz⟩:=I.list hq
  refine SeqAt.in_listAt (eqU x) pl.isList (fun w hw=>mem_eqAt rx fx r fs w (by simpa using hw)) ⟨.bl _,H,I,rfl,?_⟩
  rw[show its.toArray.any (eqU x)=its.any (eqU x) by simp,any_eqU r fs]
  exact q
 ·obtain⟨its,r,pl,hz⟩:=I.tuple hq
  refine SeqAt.in_tupleAt (eqU x) pl (fun w hw=>mem_eqAt rx fx r fs w (by simpa using hw)) ⟨.bl _,H,I,rfl,?_⟩
  rw[show its.toArray.any (eqU x)=its.any (eqU x) by simp,any_eqU r fs]
  exact q
theorem call_len_seq:CallR X (.builtin "len") (fun xs H Q=>∃ p ys,xs=[.ref p]∧(bM X.K H p ys∨bT X.K H p ys)∧Q (.int ys.length) H):=by
 intro pins s σ H xs us Q I r h
 obtain⟨p,ys,rfl,hq,q⟩:=h
 obtain⟨u,rfl,rx⟩:=vals1 r
 cases rx
 have hn:=line63
 rcases hq with hq | hq
 ·obtain⟨its,r',pl,hz⟩:=I.list hq
  have hlen:=r'.length
  exact Calls.call_len_list pl.isList (by simp only [List.size_toArray] <;> omega) ⟨.int ys.length,H,I.tok _,⟨s.toks+1,by rw[List.size_toArray,hlen]⟩,q⟩
 ·obtain⟨its,r',pl,hz⟩:=I.tuple hq
  have hlen:=r'.length
  exact len_tuple pl (by simp only [List.size_toArray] <;> omega) ⟨.int ys.length,H,I.tok _,⟨s.toks+1,by rw[List.size_toArray,hlen]⟩,q⟩
theorem call_list_of:CallR X (.type "list") (fun xs H Q=>∃ p ys,xs=[.ref p]∧(bM X.K H p ys∨bT X.K H p ys)∧∀ l,H l=none→Q (.ref l) (upd H l (.lst ys))):=by
 intro pins s σ H xs us Q I r h
 obtain⟨p,ys,rfl,hq,q⟩:=h
 obtain⟨u,rfl,rx⟩:=vals1 r
 cases rx
 have fin:∀ (its:List Value),bP ys its→ys.length≤sizeLine→∀ (h':Heap) (c':Nat),(∀ b o',s.heap.get? b=some o'→h'.get? b=some o')→
   h'.get? s.heap.objs.size=some { cls:=.type "list",dict:=none,data:=.seq its.toArray c',slots:=#[] }→EP X pins σ Q (.ref s.heap.objs.size) { s with heap:=h' }:=fun its r' hz h' c' kp e=>
  ⟨.ref s.heap.objs.size,_,I.laid (t':=s.toks) kp (Nat.le_refl _) (show dP X.prog X.w _ h' _ (.lst ys) from ⟨hz,its,c',r',e⟩),rfl,q _ (I.hok.fresh (Nat.le_refl _))⟩
 rcases hq with hq | hq
 ·obtain⟨its,r',pl,hz⟩:=I.list hq
  have hlen:=r'.length
  obtain⟨o,ho,hc,n,hd⟩:=pl.isList
  exact call_list_seq p (.inl rfl) ho hc hd (fun h' c' kp e=>fin its r' hz h' c' kp e) (by simp only [List.size_toArray] <;> omega)
 ·obtain⟨its,r',pl,hz⟩:=I.tuple hq
  have hlen:=r'.length
  obtain⟨o,ho,hc,n,hd⟩:=pl
  exact call_list_seq p (.inr rfl) ho hc hd (fun h' c' kp e=>fin its r' hz h' c' kp e) (by simp only [List.size_toArray] <;> omega)
theorem call_tuple_of:CallR X (.type "tuple") (fun xs H Q=>∃ p ys,xs=[.ref p]∧((bM X.K H p ys∧∀ l,H l=none→Q (.ref l) (upd H l (.tup ys)))∨(bT X.K H p ys∧Q (.ref p) H))):=by
 intro pins s σ H xs us Q I r h
 obtain⟨p,ys,rfl,h⟩:=h
 obtain⟨u,rfl,rx⟩:=vals1 r
 cases rx
 rcases h with ⟨hq,q⟩ | ⟨hq,q⟩
 ·obtain⟨its,r',pl,hz⟩:=I.list hq
  have hlen:=r'.length
  refine call_tuple_list pl.isList (fun h' kp=>?_) (by simp only [List.size_toArray] <;> omega)
  have I1:Inv X pins σ H { s with heap:=h' }:=I.kept (t':=s.toks) kp
  have I2:Inv X pins σ (upd H h'.objs.size (.tup ys)) { s with heap:=h'.push { cls:=.type "tuple",data:=.seq its.toArray } }:=
   I1.laid (t':=s.toks) (fun b o e=>Heap.get?_push_of_some _ e) (Nat.le_refl _) (show dP X.prog X.w _ _ _ (.tup ys) from ⟨hz,its,r',IsTup.new _ _⟩)
  exact⟨.ref h'.objs.size,_,I2,rfl,q _ (I1.hok.fresh (Nat.le_refl _))⟩
 ·obtain⟨its,r',pl,hz⟩:=I.tuple hq
  exact call_tuple_same pl ⟨.ref p,H,I,rfl,q⟩
noncomputable def tyV (K:PySem.W.Frag) (T:String) (x:V) (H:Hp):Prop:=match x with
 | .str _=>T = "str"
 | .int _=>T = "int"
 | .ref p=>(T = "list" ∧ ∃ xs,bM K H p xs)∨(T = "tuple" ∧ ∃ o,K.lookup p=some o∧o.cls=.type "tuple" ∧ o.dict=none)∨
   (T = "dict" ∧ ((∃ kvs,H p=some (.dK kvs))∨∃ kvs,H p=some (.dT kvs)))∨(T = "set" ∧ ∃ S n,H p=some (.set S n))
 | _=>False
theorem tyV_is {pins:List (Addr×Obj)}{σ:St}{H:Hp}{s:Shared}{T:String}{x:V}{v:Value} (I:Inv X pins σ H s) (r:bO x v) (ty:tyV X.K T x H) :
  s.TypeIs v T∧∀ a,v=.ref a→∃ ob,s.heap.get? a=some ob∧ob.dict=none:=by
 cases x with
 | str z=>
  obtain⟨t,rfl⟩:=r
  cases (show T = "str" from ty)
  exact⟨typeIs_str s z t,fun _ e=>nomatch e⟩
 | int i=>
  obtain⟨t,rfl⟩:=r
  cases (show T = "int" from ty)
  exact⟨typeIs_int s i t,fun _ e=>nomatch e⟩
 | ref p=>
  cases r
  rcases ty with ⟨rfl,xs,hq⟩ | ⟨rfl,o,hk,hc,hd⟩ | ⟨rfl,hk⟩ | ⟨rfl,S,n,hk⟩
  ·obtain⟨its,_,pl,_⟩:=I.list hq
   refine⟨pl.isList.typeIs,fun a e=>?_⟩
   cases e
   obtain⟨o,n,e,c,hd,_⟩:=pl
   exact⟨o,e,hd⟩
  ·refine⟨⟨o,I.kIn p o hk,hc⟩,fun a e=>?_⟩
   cases e
   exact⟨o,I.kIn _ o hk,hd⟩
  ·have z:∃ o,s.heap.get? p=some o∧o.ExactDict:=by
    rcases hk with ⟨kvs,hk⟩ | ⟨kvs,hk⟩
    ·obtain⟨_,_,_,_,o,_,_,e,ex,_⟩:=I.hok p _ hk
     exact⟨o,e,ex⟩
    ·obtain⟨_,_,_,_,o,_,_,e,ex,_⟩:=I.hok p _ hk
     exact⟨o,e,ex⟩
   obtain⟨o,e,ex⟩:=z
   refine⟨⟨o,e,ex.1⟩,fun a e2=>?_⟩
   cases e2
   exact⟨o,e,ex.2.1⟩
  ·obtain⟨o,_,_,_,e,ex,_⟩:=I.hok p _ hk
   refine⟨⟨o,e,ex.1⟩,fun a e2=>?_⟩
   cases e2
   exact⟨o,e,ex.2.1⟩
 | _=>exact False.elim ty
noncomputable def tBM0 (K:PySem.W.Frag) (T:String) (r:V→List V→Hp→VK→Prop) (to:TE):TE:=fun σ H Q=>to σ H fun x H1=>tyV K T x H1∧r x [] H1 Q
noncomputable def tBM (K:PySem.W.Frag) (T:String) (r:V→List V→Hp→VK→Prop) (to:TE) (t:TA):TE:=fun σ H Q=>to σ H fun x H1=>tyV K T x H1∧t σ H1 fun xs H2=>r x xs H2 Q
variable {o e:Expr}{es:List Expr}{to:TE}{t:TA}{name:Str}{apos cpos:Pos}{T id:String}{r:V→List V→Hp→VK→Prop}
theorem pe_bm0 (pa:PlainAttrs T) (slot:Slot T name id) (hty:typeOf (.builtin id)=pure (.type "method_descriptor")) (hm:MtR X id r) (ho:PE X o to)
  (hbase:attributeBase o name X.env (eval o X.env)=eval o X.env:=by rfl) (hline:(apos.endLine == cpos.line)=true:=by rfl):PE X (.Call (.Attribute o name apos) [] [] cpos) (tBM0 X.K T r to):=by
 intro pins s σ H Q I h
 refine wpAny_Call_method0_late hbase hline (d8 (ho pins s σ H _ I h) fun v s1 ⟨x,H1,I1,r1,ty,q1⟩=>?_)
 obtain⟨h1,h2⟩:=tyV_is I1 r1 ty
 exact⟨T,id,pa,slot,hty,h1,h2,Calls.callWith_builtin rfl (PySem.evalArgs_none (hm pins s1 σ H1 x [] v [] Q I1 r1 .nil q1))⟩
theorem pe_bm (pa:PlainAttrs T) (slot:Slot T name id) (hty:typeOf (.builtin id)=pure (.type "method_descriptor")) (hm:MtR X id r) (ho:PE X o to) (ha:PA X (e::es) t)
  (hbase:attributeBase o name X.env (eval o X.env)=eval o X.env:=by rfl)
  (hfew:((backTo cpos (starEach (e::es) X.env)).all (fun x=>!x.1) && (backToKw cpos (keywordEach [] X.env)).all (fun x=>x.1.isSome)
   && decide ((e::es).length+([]:List Keyword).length+(if ([]:List Keyword).isEmpty then 0 else 1) < 30))=true:=by rfl)
  (hline:(apos.endLine == cpos.line)=true:=by rfl) (hs:starEach (e::es) X.env=(false,eval e X.env)::starEach es X.env:=by rfl) (hplain:(backTo cpos (starEach es X.env)).any (·.1)=false:=by rfl) :
  PE X (.Call (.Attribute o name apos) (e::es) [] cpos) (tBM X.K T r to t):=by
 intro pins s σ H Q I h
 refine wpAny_Call_method_late hbase hfew hline rfl (d8 (ho pins s σ H _ I h) fun v s1 ⟨x,H1,I1,r1,ty,q1⟩=>?_)
 obtain⟨h1,h2⟩:=tyV_is I1 r1 ty
 refine⟨T,id,pa,slot,hty,h1,h2,?_⟩
 have hA:=ha cpos pins s1 σ H1 _ I1 q1
 rw[hs] at hA ⊢
 refine Calls.callWith_builtin (by show (false || (backTo cpos (starEach es X.env)).any (·.1))=false;rw[hplain] <;> rfl) (Calls.evalArgs_plain ?_)
 exact d8 hA fun us s2 ⟨vs,H2,I2,r2,q2⟩=>hm pins s2 σ H2 x vs v us Q I2 r1 r2 q2
end
end L2
namespace L2
open PySem PySem.Spec PyProof.Rows
noncomputable def MtM (X:Cx) (id:String) (r:V→List V→Hp→VK→Prop):Prop:=
 ∀ (pins:List (Addr×Obj)) (s:Shared) (σ:St) (H:Hp) (x:V) (xs:List V) (v:Value) (us:List Value) (Q:VK),Inv X pins σ H s→bO x v→bP xs us→r x xs H Q→
  wpAny (model X.prog X.w) X.A (call (.builtin id) (v::us)) (EP X pins σ Q) X.xe s
theorem bP.one {x:V}{us:List Value} (h:bP [x] us):∃ u,us=[u]∧bO x u:=vals1 h
theorem bP.two {x y:V}{us:List Value} (h:bP [x,y] us):∃ u v,us=[u,v]∧bO x u∧bO y v:=vals2 h
theorem bP.zero:∀ {us:List Value},bP [] us→us=[]
 | _,.nil=>rfl
theorem bP.dropLast {xs:List V}{us:List Value} (h:bP xs us):bP xs.dropLast us.dropLast:=by
 induction h with
 | nil=>exact .nil
 | cons r t ih=>
  cases t with
  | nil=>exact .nil
  | cons q t'=>exact .cons r ih
theorem bP.rep {xs:List V}{us:List Value} (h:bP xs us):∀ k:Nat,bP (List.replicate k xs).flatten (List.replicate k us).flatten
 | 0=>.nil
 | k+1=>by
  rw[List.replicate_succ,List.replicate_succ,List.flatten_cons,List.flatten_cons]
  exact bP.append h (bP.rep h k)
theorem erase_last {α:Type} (l:List α):l.eraseIdx (l.length - 1)=l.dropLast:=by
 induction l with
 | nil=>rfl
 | cons a r ih=>
  cases r with
  | nil=>rfl
  | cons b r=>
   have e:(a::b::r).length - 1=((b::r).length - 1)+1:=by
    have h1:(a::b::r).length=r.length+2:=rfl
    have h2:(b::r).length=r.length+1:=rfl
    omega
   rw[e,List.eraseIdx_cons_succ,ih]
   all_goals rfl
theorem foldl_rep (its:List Value):∀ (k:Nat) (acc:List Value),
  List.foldl (fun x1 x2=>x1++x2) acc.toArray (List.replicate k its.toArray)=(acc++(List.replicate k its).flatten).toArray
 | 0,acc=>by simp
 | k+1,acc=>by
  have e:acc.toArray++its.toArray=(acc++its).toArray:=by simp
  have e2:(acc++its)++(List.replicate k its).flatten=acc++(List.replicate (k+1) its).flatten:=by
   rw[List.replicate_succ,List.flatten_cons,List.append_assoc]
  rw[← e2,← foldl_rep its k (acc++its),← e,List.replicate_succ,List.foldl_cons]
section
variable {X:Cx}{pins:List (Addr×Obj)}{σ:St}{H:Hp}{s:Shared}{l b:Addr}{xs ys zs:List V}
theorem Inv.lset {its its':List Value}{n:Nat}{f:Array Value→Array Value}{t':Nat} (I:Inv X pins σ H s) (hH:H l=some (.lst xs))
  (e:s.heap.get? l=some { cls:=.type "list",data:=.seq its.toArray n }) (hf:f its.toArray=its'.toArray) (hv:bP ys its') (hz:ys.length≤sizeLine) :
  Inv X pins σ (upd H l (.lst ys)) { s with heap:=s.heap.update l (Obj.mapSeq f),toks:=t' }:=by
 have q:=PySem.IsL.update e f
 rw[hf] at q
 refine I.write (x:=l) (e:=l) (by rw[hH];exact trivial) (.inl rfl) (fun b' u hb hu=>(Heap.get?_update_other s.heap (Obj.mapSeq f) (Ne.symm hb)).trans hu) ⟨_,q⟩ ?_
 exact⟨hz,its',_,hv,q⟩
theorem Inv.lnew {its:List Value}{t':Nat} (I:Inv X pins σ H s) (hv:bP ys its) (hz:ys.length≤sizeLine) :
  Inv X pins σ (upd H s.heap.objs.size (.lst ys)) { s with heap:=s.heap.push { cls:=.type "list",data:=.seq its.toArray },toks:=t' }:=
 I.laid (fun _ _ q=>Heap.get?_push_of_some _ q) (Nat.le_refl _) ⟨hz,its,0,hv,Heap.get?_push_size _ rfl⟩
theorem Inv.fresh (I:Inv X pins σ H s):H s.heap.objs.size=none:=I.hok.fresh (Nat.le_refl _)
theorem Inv.lstM (I:Inv X pins σ H s) (hH:H l=some (.lst xs)):xs.length≤sizeLine∧∃ (its:List Value) (n:Nat),bP xs its∧xs.length=its.length∧s.heap.get? l=some { cls:=.type "list",data:=.seq its.toArray n }:=by
 obtain⟨z,its,n,r,e⟩:=I.hok l _ hH
 exact⟨z,its,n,r,r.length,e⟩
theorem notLongL {n:Nat} (h:n≤sizeLine):Builtin.List.listTooLong n=false:=by
 unfold Builtin.List.listTooLong
 exact decide_eq_false (by omega)
end
section
variable {X:Cx}
noncomputable def rAppend:V→List V→Hp→VK→Prop:=fun x vs H Q=>∃ l xs y,x=.ref l∧vs=[y]∧H l=some (.lst xs)∧xs.length < sizeLine∧Q .non (upd H l (.lst (xs++[y])))
theorem cD:MtM X "list.append" rAppend:=by
 intro pins s σ H x vs v us Q I rx rv h
 obtain⟨l,xs,y,rfl,rfl,hH,hz,q⟩:=h
 cases rx
 obtain⟨u,rfl,ru⟩:=rv.one
 obtain⟨z,its,n,r,hl,e⟩:=I.lstM hH
 refine call_meets F.slot_list_append ⟨_,e,rfl⟩ F.entry_list_append (F.args_list_append_2 _ _) (PySem.list_append l its.toArray n u (by rw[List.size_toArray];omega)) ⟨e,?_⟩
 refine⟨.non,_,I.lset (its':=its++[u]) hH e (by simp) (r.append (.cons ru .nil)) ?_,rfl,q⟩
 rw[List.length_append,List.length_singleton]
 omega
noncomputable def rExtend:V→List V→Hp→VK→Prop:=fun x vs H Q=>∃ l b xs zs,x=.ref l∧vs=[.ref b]∧H l=some (.lst xs)∧H b=some (.lst zs)∧xs.length+zs.length≤sizeLine∧Q .non (upd H l (.lst (xs++zs)))
theorem mt_extend:MtM X "list.extend" rExtend:=by
 intro pins s σ H x vs v us Q I rx rv h
 obtain⟨l,b,xs,zs,rfl,rfl,hH,hB,hz,q⟩:=h
 cases rx
 obtain⟨u,rfl,ru⟩:=rv.one
 cases ru
 obtain⟨z,its,n,r,hl,e⟩:=I.lstM hH
 obtain⟨z2,its2,n2,r2,hl2,e2⟩:=I.lstM hB
 have hsz:its.toArray.size+its2.toArray.size≤sizeLine:=by rw[List.size_toArray,List.size_toArray];omega
 have hlong:¬ (!its.toArray.isEmpty && Builtin.List.listTooLong (its.toArray.size+its2.toArray.size))=true:=by
  rw[notLongL hsz,Bool.and_false]
  exact Bool.false_ne_true
 refine call_meets F.slot_list_extend ⟨_,e,rfl⟩ F.entry_list_extend (F.args_list_extend_2 _ _)
  (AutoSeq1.list_extend_list_list_0 l its.toArray n b its2.toArray n2 hlong (by rw[List.size_toArray];omega) (by omega)) ⟨e,e2,?_⟩
 refine⟨.non,_,I.lset (its':=its++its2) hH e (by simp) (r.append r2) ?_,rfl,q⟩
 rw[List.length_append]
 omega
noncomputable def rPop:V→List V→Hp→VK→Prop:=fun x vs H Q=>∃ l xs y,x=.ref l∧vs=[]∧H l=some (.lst xs)∧xs[xs.length - 1]? = some y∧Q y (upd H l (.lst xs.dropLast))
theorem mt_pop:MtM X "list.pop" rPop:=by
 intro pins s σ H x vs v us Q I rx rv h
 obtain⟨l,xs,y,rfl,rfl,hH,hy,q⟩:=h
 cases rx
 have hus:=rv.zero
 subst hus
 obtain⟨z,its,n,r,hl,e⟩:=I.lstM hH
 obtain⟨u,hu,ru⟩:=r.get hy
 have hy':its.toArray[its.toArray.size - 1]? = some u:=by
  show its.toArray[its.length - 1]? = some u
  rw[← Array.getElem?_toList,← hl]
  exact hu
 refine call_meets F.slot_list_pop ⟨_,e,rfl⟩ F.entry_list_pop (F.args_list_pop_1 _) (MeetsSeq.list_pop_last l its.toArray n u hy' (by rw[List.size_toArray];omega)) ⟨e,?_⟩
 refine⟨y,_,I.lset (its':=its.dropLast) hH e ?_ r.dropLast ?_,ru,q⟩
 ·show its.toArray.eraseIdxIfInBounds (its.toArray.size - 1)=its.dropLast.toArray
  rw[List.size_toArray,List.eraseIdxIfInBounds_toArray,erase_last]
 ·rw[List.length_dropLast]
  omega
noncomputable def rCat:R2:=fun x y H Q=>∃ l b xs zs,x=.ref l∧y=.ref b∧H l=some (.lst xs)∧H b=some (.lst zs)∧xs.length+zs.length≤sizeLine∧∀ p,H p=none→Q (.ref p) (upd H p (.lst (xs++zs)))
theorem op_cat:OpR X (binaryOp .Add) rCat:=by
 intro pins s σ H x y v u Q I rx ry h
 obtain⟨l,b,xs,zs,rfl,rfl,hH,hB,hz,q⟩:=h
 cases rx
 cases ry
 obtain⟨z,its,n,r,hl,e⟩:=I.lstM hH
 obtain⟨z2,its2,n2,r2,hl2,e2⟩:=I.lstM hB
 refine PySem.P.add_list e e2 ?_ (by rw[List.size_toArray,List.size_toArray];omega)
 have ea:its.toArray++its2.toArray=(its++its2).toArray:=by simp
 rw[ea]
 exact⟨.ref _,_,I.lnew (t':=s.toks) (r.append r2) (by rw[List.length_append];omega),rfl,q _ I.fresh⟩
theorem len_rep {α:Type} (xs:List α) (k:Nat):(List.replicate k xs).flatten.length=k * xs.length:=by
 induction k with
 | zero=>simp
 | succ k ih=>rw[List.replicate_succ,List.flatten_cons,List.length_append,ih,Nat.succ_mul,Nat.add_comm]
end
section
variable {prog:Program}{w:World}{A:Around}{E:Value→Shared→Prop}{s:Shared}
end
section
variable {X:Cx}
end
end L2
namespace L2
open PySem PySem.Spec PyProof.Rows
section
variable {κ:Type} [DecidableEq κ]
noncomputable def valV (kvs:List (κ×V)) (k:κ):Option V:=(kvs.find? fun kv=>decide (kv.1=k)).map (·.2)
noncomputable def putK (kvs:List (κ×V)) (k:κ) (v:V):List (κ×V):=
 if (kvs.any fun kv=>decide (kv.1=k))=true then kvs.map (fun kv=>if kv.1=k then (kv.1,v) else kv) else kvs++[(k,v)]
theorem eD {p:κ×V}{r:List (κ×V)}{k:κ} (e:p.1=k):valV (p::r) k=some p.2:=by simp [valV,List.find?_cons,e]
theorem eE {p:κ×V}{r:List (κ×V)}{k:κ} (e:¬ p.1=k):valV (p::r) k=valV r k:=by simp [valV,List.find?_cons,e]
theorem valV_any (k:κ):∀ kvs:List (κ×V),(kvs.any fun kv=>decide (kv.1=k))=(valV kvs k).isSome
 | []=>rfl
 | p::r=>by
  rw[List.any_cons]
  by_cases e:p.1=k
  ·simp only [eD e,decide_eq_true e,Bool.true_or,Option.isSome_some]
  ·rw[eE e,decide_eq_false e,Bool.false_or];exact valV_any k r
theorem valV_map (k j:κ) (y:V):∀ kvs:List (κ×V),valV (kvs.map fun kv=>if kv.1=k then (kv.1,y) else kv) j=(valV kvs j).map fun x=>if j=k then y else x
 | []=>rfl
 | p::r=>by
  have ih:=valV_map k j y r
  rw[List.map_cons]
  by_cases h:p.1=k
  ·rw[if_pos h]
   by_cases e:p.1=j
   ·rw[eD (p:=(p.1,y)) e,eD e,Option.map_some,if_pos (e.symm.trans h)]
   ·rw[eE (p:=(p.1,y)) e,eE e,ih]
  ·rw[if_neg h]
   by_cases e:p.1=j
   ·rw[eD (p:=p) e,eD e,Option.map_some,if_neg (fun z=>h (e.trans z))]
   ·rw[eE (p:=p) e,eE e,ih]
theorem valV_snoc (k j:κ) (y:V):∀ kvs:List (κ×V),valV kvs k=none→valV (kvs++[(k,y)]) j=if j=k then some y else valV kvs j
 | [],_=>by
  by_cases e:k=j
  ·rw[if_pos e.symm];exact eD (p:=(k,y)) e
  ·rw[if_neg (fun z=>e z.symm)];exact eE (p:=(k,y)) e
 | p::r,hn=>by
  rw[List.cons_append]
  have hk:¬ p.1=k:=fun z=>by rw[eD z] at hn;cases hn
  rw[eE hk] at hn
  have ih:=valV_snoc k j y r hn
  by_cases e:p.1=j
  ·rw[eD e,eD e,if_neg (fun z=>hk (e.trans z))]
  ·rw[eE e,eE e,ih]
theorem valV_put (kvs:List (κ×V)) (k j:κ) (y:V):valV (putK kvs k y) j=if j=k then some y else valV kvs j:=by
 unfold putK
 by_cases a:(kvs.any fun kv=>decide (kv.1=k))=true
 ·rw[if_pos a,valV_map]
  rw[valV_any] at a
  by_cases e:j=k
  ·obtain⟨x,hx⟩:=Option.isSome_iff_exists.mp a
   rw[if_pos e,e,hx,Option.map_some,if_pos rfl]
  ·rw[if_neg e]
   cases valV kvs j with
   | none=>rfl
   | some x=>rw[Option.map_some,if_neg e]
 ·rw[if_neg a]
  refine valV_snoc k j y kvs ?_
  rw[valV_any] at a
  cases q:valV kvs k with
  | none=>rfl
  | some x=>rw[q] at a;exact (a rfl).elim
theorem length_putK (kvs:List (κ×V)) (k:κ) (v:V):(putK kvs k v).length≤kvs.length+1:=by
 unfold putK
 split
 ·rw[List.length_map];omega
 ·rw[List.length_append,List.length_cons,List.length_nil];omega
theorem RelO.isSome_eq {o:Option V}{u:Option Value} (r:RelO o u):o.isSome=u.isSome:=by
 cases o with
 | none=>cases u with
  | none=>rfl
  | some _=>exact (show False from r).elim
 | some _=>cases u with
  | none=>exact (show False from r).elim
  | some _=>rfl
theorem RelO.getD {o:Option V}{u:Option Value}{d:V}{d':Value} (r:RelO o u) (rd:bO d d'):bO (o.getD d) (u.getD d'):=by
 cases o with
 | none=>cases u with
  | none=>exact rd
  | some _=>exact (show False from r).elim
 | some _=>cases u with
  | none=>exact (show False from r).elim
  | some _=>exact r
theorem KV.val {kvs:List (κ×V)}{vs:List (κ×Value)} (r:KV kvs vs) (k:κ):RelO (valV kvs k) (valueAt vs k):=by
 unfold KV at r
 induction r with
 | nil=>exact True.intro
 | @cons p q ps qs h t ih=>
  obtain⟨h1,h2⟩:=h
  by_cases e:p.1=k
  ·have e':q.1=k:=h1.symm.trans e
   have b:valueAt (q::qs) k=some q.2:=by simp [valueAt,List.find?_cons,e']
   rw[eD e,b];exact h2
  ·have e':¬ q.1=k:=fun z=>e (h1.trans z)
   have b:valueAt (q::qs) k=valueAt qs k:=by simp [valueAt,List.find?_cons,e']
   rw[eE e,b];exact ih
theorem KV.any {kvs:List (κ×V)}{vs:List (κ×Value)} (r:KV kvs vs) (k:κ):(kvs.any fun kv=>decide (kv.1=k))=vs.any fun kv=>decide (kv.1=k):=by
 unfold KV at r
 induction r with
 | nil=>rfl
 | cons h t ih=>rw[List.any_cons,List.any_cons,ih,h.1]
theorem KV.repl {kvs:List (κ×V)}{vs:List (κ×Value)} (r:KV kvs vs) (k:κ) {y:V}{u:Value} (ry:bO y u) :
  KV (kvs.map fun kv=>if kv.1=k then (kv.1,y) else kv) (vs.map fun kv=>if kv.1=k then (kv.1,u) else kv):=by
 unfold KV at r ⊢
 induction r with
 | nil=>exact .nil
 | @cons p q ps qs h t ih=>
  rw[List.map_cons,List.map_cons]
  refine .cons ?_ ih
  obtain⟨h1,h2⟩:=h
  by_cases e:p.1=k
  ·rw[if_pos e,if_pos (h1.symm.trans e)];exact⟨h1,ry⟩
  ·rw[if_neg e,if_neg (fun z=>e (h1.trans z))];exact⟨h1,h2⟩
theorem KV.put {kvs:List (κ×V)}{vs:List (κ×Value)} (r:KV kvs vs) (k:κ) {y:V}{u:Value} (ry:bO y u):KV (putK kvs k y) (stored vs k u):=by
 unfold putK stored
 rw[r.any k]
 by_cases e:(vs.any fun kv=>decide (kv.1=k))=true
 ·rw[if_pos e,if_pos e];exact r.repl k ry
 ·rw[if_neg e,if_neg e];exact Paired.snoc r ⟨rfl,ry⟩
theorem KV.length {kvs:List (κ×V)}{vs:List (κ×Value)} (r:KV kvs vs):kvs.length=vs.length:=Paired.length r
end
theorem kV_is {P:Program}{w:World}{k:Key}{u:Value} (r:bO (kV k) u):(dI P w).is k u=true:=by
 cases k with
 | inl i=>obtain⟨t,e⟩:=(show ∃ t,u=Value.int i t from r);subst e;exact mixKind_int P w i t
 | inr z=>cases z with
  | some x=>obtain⟨t,e⟩:=(show ∃ t,u=Value.str x t from r);subst e;exact mixKind_str P w x t
  | none=>obtain rfl:=(show u=Value.none from r);rfl
theorem items_are {P:Program}{w:World}:∀ {ks:List Key}{us:List Value},bP (ks.map kV) us→ItemsAre (dI P w) ks us
 | [],_,r=>by rw[List.map_nil] at r;cases r;exact .nil
 | k::ks,_,r=>by
  rw[List.map_cons] at r
  cases r with
  | cons h t=>exact .cons (kV_is h) (items_are t)
noncomputable abbrev KT (H:Hp):List (List Key×V)→List (List Key×Addr×Value)→Prop:=Paired fun p q=>p.1=q.1∧H q.2.1=some (.tup (p.1.map kV))∧bO p.2 q.2.2
theorem KT.val {H:Hp}{kvs:List (List Key×V)}{xs:List (List Key×Addr×Value)} (r:KT H kvs xs) (k:List Key):RelO (valV kvs k) ((atKey xs k).map (·.2)):=by
 induction r with
 | nil=>exact True.intro
 | @cons p q ps qs h t ih=>
  obtain⟨h1,_,h2⟩:=h
  by_cases e:p.1=k
  ·have e':q.1=k:=h1.symm.trans e
   have b:atKey (q::qs) k=some q.2:=by simp [atKey,List.find?_cons,e']
   rw[eD e,b];exact h2
  ·have e':¬ q.1=k:=fun z=>e (h1.trans z)
   have b:atKey (q::qs) k=atKey qs k:=by simp [atKey,List.find?_cons,e']
   rw[eE e,b];exact ih
theorem KT.repl {H:Hp}{kvs:List (List Key×V)}{xs:List (List Key×Addr×Value)} (r:KT H kvs xs) (k:List Key) {y:V}{u:Value} (ry:bO y u) :
  KT H (kvs.map fun kv=>if kv.1=k then (kv.1,y) else kv) (xs.map (putAt k u)):=by
 induction r with
 | nil=>exact .nil
 | @cons p q ps qs h t ih=>
  rw[List.map_cons,List.map_cons]
  refine .cons ?_ ih
  obtain⟨h1,h2,h3⟩:=h
  unfold putAt
  by_cases e:p.1=k
  ·rw[if_pos e,if_pos (h1.symm.trans e)];exact⟨h1,h2,ry⟩
  ·rw[if_neg e,if_neg (fun z=>e (h1.trans z))];exact⟨h1,h2,h3⟩
theorem KT.put {H:Hp}{kvs:List (List Key×V)}{xs:List (List Key×Addr×Value)} (r:KT H kvs xs) (k:List Key) {b:Addr}{y:V}{u:Value} (hb:H b=some (.tup (k.map kV))) (ry:bO y u) :
  KT H (putK kvs k y) (storedH xs k b u):=by
 have e:(kvs.any fun kv=>decide (kv.1=k))=(atKey xs k).isSome:=by
  rw[valV_any,(r.val k).isSome_eq,Option.isSome_map]
 unfold putK storedH
 rw[e]
 by_cases q:(atKey xs k).isSome=true
 ·rw[if_pos q,if_pos q];exact r.repl k ry
 ·rw[if_neg q,if_neg q];exact Paired.snoc r ⟨rfl,hb,ry⟩
theorem KT.keeps {H H':Hp}{kvs:List (List Key×V)}{xs:List (List Key×Addr×Value)} (r:KT H kvs xs) (ht:∀ b ys,H b=some (.tup ys)→H' b=some (.tup ys)):KT H' kvs xs:=
 Paired.mapP r fun _ _ z=>⟨z.1,ht _ _ z.2.1,z.2.2⟩
section
variable {P:Program}{w:World}{H:Hp}{h:Heap}{a:Addr}
theorem rd_of {u:HO} (ok:HOk P w H h) (e:Rd H a u):dP P w H h a u:=e.ok ok
theorem dk_rd {kvs:List (Key×V)} (ok:HOk P w H h) (e:Rd H a (.dK kvs)):kvs.length≤sizeLine∧(a == sysModules)=false∧∃ vs,KV kvs vs∧h.DictOf (dI P w) a vs:=
 show dP P w H h a (.dK kvs) from rd_of ok e
theorem dk_of {kvs:List (Key×V)} (ok:HOk P w H h) (e:H a=some (.dK kvs)):kvs.length≤sizeLine∧(a == sysModules)=false∧∃ vs,KV kvs vs∧h.DictOf (dI P w) a vs:=dk_rd ok (.inl e)
theorem key_of {ks:List Key} (ok:HOk P w H h) (e:H a=some (.tup (ks.map kV))):(tupleKind (dI P w)).is h ks a:=by
 obtain⟨_,its,r,o,h1,h2,n,h3⟩:=(show dP P w H h a (.tup (ks.map kV)) from ok a _ e)
 exact⟨o,its.toArray,n,h1,h2,h3,by simpa using items_are r⟩
theorem dt_rd {kvs:List (List Key×V)} (ok:HOk P w H h) (e:Rd H a (.dT kvs)):kvs.length≤sizeLine∧(a == sysModules)=false∧
  ∃ xs,KT H kvs xs∧h.DictOfH (tupleKind (dI P w)) a xs:=by
 obtain⟨z,y,xs,r,o,es,ep,h1,h2,h3,h4,h5⟩:=(show dP P w H h a (.dT kvs) from rd_of ok e)
 refine⟨z,y,xs,r,o,es,ep,h1,h2,h3,h4,fun x hx=>?_,h5⟩
 have all:∀ {l:List (List Key×V)}{m:List (List Key×Addr×Value)},KT H l m→∀ x∈m,(tupleKind (dI P w)).is h x.1 x.2.1:=by
  intro l m q
  induction q with
  | nil=>intro x hx;exact nomatch hx
  | @cons p q ps qs hq t ih=>
   intro x hx
   rcases List.mem_cons.mp hx with e | hx
   ·subst e
    exact key_of ok (by rw[← hq.1];exact hq.2.1)
   ·exact ih x hx
 exact all r x hx
theorem dt_of {kvs:List (List Key×V)} (ok:HOk P w H h) (e:H a=some (.dT kvs)):kvs.length≤sizeLine∧(a == sysModules)=false∧
  ∃ xs,KT H kvs xs∧h.DictOfH (tupleKind (dI P w)) a xs:=dt_rd ok (.inl e)
end
noncomputable def DGet (H:Hp) (a:Addr) (y:V) (r:Option V):Prop:=
 (∃ kvs k,Rd H a (.dK kvs)∧y=kV k∧r=valV kvs k)∨∃ kvs k b,Rd H a (.dT kvs)∧y=.ref b∧H b=some (.tup (k.map kV))∧r=valV kvs k
noncomputable def DPut (H:Hp) (a:Addr) (y v:V) (H':Hp):Prop:=
 (∃ kvs k,H a=some (.dK kvs)∧y=kV k∧kvs.length < sizeLine∧H'=upd H a (.dK (putK kvs k v)))∨
 ∃ kvs k b,H a=some (.dT kvs)∧y=.ref b∧H b=some (.tup (k.map kV))∧kvs.length < sizeLine∧H'=upd H a (.dT (putK kvs k v))
theorem DGet.k {H:Hp}{a:Addr}{kvs:List (Key×V)}{k:Key} (e:H a=some (.dK kvs)):DGet H a (kV k) (valV kvs k):=.inl ⟨kvs,k,.inl e,rfl,rfl⟩
theorem DPut.k {H:Hp}{a:Addr}{kvs:List (Key×V)}{k:Key}{v:V} (e:H a=some (.dK kvs)) (hl:kvs.length < sizeLine):DPut H a (kV k) v (upd H a (.dK (putK kvs k v))):=.inl ⟨kvs,k,e,rfl,hl,rfl⟩
section
variable {X:Cx}{pins:List (Addr×Obj)}{σ:St}{H:Hp}{s:Shared}{a:Addr}{y v:V}{u r:Value}{o:Option V}{A:Around}{E:Value→Shared→Prop}
theorem Inv.big (I:Inv X pins σ H s):sysModules < s.heap.objs.size:=by
 have h:mainGlobals < s.heap.objs.size:=(I.mod.glob.keeps I.bk).lt
 exact Nat.lt_trans (by decide) h
theorem d_write {h':Heap}{t':Nat}{ob:HO} (I:Inv X pins σ H s) (mu:Mut (H a)) (hs:Heap.SameBut a s.heap h') (he:∃ q,h'.get? a=some q) (new:dP X.prog X.w (upd H a ob) h' a ob) :
  Inv X pins σ (upd H a ob) { s with heap:=h',toks:=t' }:=
 I.write (x:=a) (e:=a) mu (.inl rfl) (fun b q hb z=>(hs.2 b hb).trans z) he new
theorem dk_new {P:Program}{w:World}{H':Hp}{h':Heap}{kvs:List (Key×V)}{vs:List (Key×Value)} (z:kvs.length≤sizeLine) (hd:(a == sysModules)=false) (rel:KV kvs vs) (dd:h'.DictOf (dI P w) a vs) :
  dP P w H' h' a (.dK kvs):=⟨z,hd,vs,rel,dd⟩
theorem d_setItem {H':Hp}{Q:Unit→Shared→Prop} (hu:A.units+1 < cLine) (I:Inv X pins σ H s) (g:DPut H a y v H') (ry:bO y u) (rv:bO v r) (h:∀ s',Inv X pins σ H' s'→Q () s') :
  wpAny (model X.prog X.w) A (setItem (.ref a) u r) Q E s:=by
 rcases g with ⟨kvs,k,e,ey,l,eH⟩ | ⟨kvs,k,b,e,ey,eb,l,eH⟩
 ·subst ey eH
  obtain⟨z,hd,vs,rel,dd⟩:=dk_of I.hok e
  have hz:vs.length≤sizeLine:=by rw[← rel.length];exact z
  have hl:(putK kvs k v).length≤sizeLine:=by have:=length_putK kvs k v;omega
  refine wpAny_setItem_pairs (hsz:=hz) (kV_is ry) dd fun h' dd' hs=>h _ ?_
  have he:∃ q,h'.get? a=some q:=let ⟨q,_,_,hq,_⟩:=dd';⟨q,hq⟩
  exact d_write I (by rw[e];exact True.intro) hs he (dk_new hl hd (rel.put k rv) dd')
 ·subst ey eH
  cases (show u=Value.ref b from ry)
  obtain⟨z,hd,xs,rel,dd⟩:=dt_of I.hok e
  have hz:xs.length≤sizeLine:=by rw[← Paired.length rel];exact z
  have hl:(putK kvs k v).length≤sizeLine:=by have:=length_putK kvs k v;omega
  refine wpAny_setItem_heap (hsz:=hz) (tupleKind_room_in1 hu) (key_of I.hok eb) dd fun h' dd' hs=>h _ ?_
  obtain⟨q,es,ep,hq,h2,h3,h4,_,h5⟩:=dd'
  refine d_write I (by rw[e];exact True.intro) hs ⟨q,hq⟩ ⟨hl,hd,_,(rel.put k eb rv).keeps fun c ys ec=>?_,q,es,ep,hq,h2,h3,h4,h5⟩
  rw[aP (ne_of ec e (fun z=>nomatch z))]
  exact ec
end
section
variable {X:Cx}{pins:List (Addr×Obj)}{σ:St}{H:Hp}{s:Shared}{a:Addr}{kvs:List (Key×V)}{k:Key}{u:Value}{A:Around}{E:Value→Shared→Prop}
end
noncomputable def sDPut (td ty tv:TE):TS:=fun D σ H=>tv σ H fun v H1=>td σ H1 fun x H2=>ty σ H2 fun y H3=>∃ a H4,x=.ref a∧DPut H3 a y v H4∧D.nx σ H4
section
variable {X:Cx}{o i e value:Expr}{pos pos' tpos:Pos}{td ty tv:TE}
theorem ps_dput (hu:X.A.units+1 < cLine) (ho:PE X o td) (hi:PE X i ty) (hv:PE X value tv) (hs:swapsWith value (some (.Subscript o i pos')) pos.line X.env=pure false) :
  PS X (.Assign [.Subscript o i pos'] value pos) (sDPut td ty tv):=by
 intro pins s σ H D I h
 refine wpAny_Assign_Subscript (d8 (hv pins s σ H _ I h) fun r s1 ⟨v,H1,I1,rv,q1⟩=>d8 (ho pins s1 σ H1 _ I1 q1) fun u s2 ⟨x,H2,I2,rx,q2⟩=>d8 (hi pins s2 σ H2 _ I2 q2) fun iv s3 ⟨y,H3,I3,ry,a,H4,ex,g,q3⟩=>?_) hs
 subst ex
 obtain rfl:u=Value.ref a:=rx
 exact d_setItem hu I3 g ry rv fun s4 I4=>⟨σ,H4,I4,q3⟩
end
theorem dk_empty {P:Program}{w:World}{H:Hp} (h:Heap) (hb:sysModules < h.objs.size):dP P w H (h.push { cls:=.type "dict",data:=.dict #[] }) h.objs.size (.dK []):=
 ⟨Nat.zero_le _,beq_eq_false_iff_ne.mpr (Ne.symm (Nat.ne_of_lt hb)),[],.nil,Heap.DictOf.new h⟩
noncomputable def tDNewK:TE:=fun _ H Q=>∀ p,H p=none→Q (.ref p) (upd H p (.dK []))
section
variable {X:Cx}{pos:Pos}
theorem pe_dnewK:PE X (.Dict [] [] pos) tDNewK:=fun pins s σ H Q I h=>
 wpAny_Dict_empty ⟨.ref s.heap.objs.size,_,I.laid (a:=s.heap.objs.size) (o:=.dK []) (t':=s.toks) (fun _ _ q=>Heap.get?_push_of_some _ q) (Nat.le_refl _) (dk_empty s.heap I.big),rfl,h _ (I.hok.fresh (Nat.le_refl _))⟩
end
structure M2 (X:Cx) (o:Expr) (m:Str) (apos:Pos) (e f:Expr) (cpos:Pos):Prop where
 base:attributeBase o m X.env (eval o X.env)=eval o X.env
 few:((backTo cpos (starEach [e,f] X.env)).all (fun x=>!x.1) && (backToKw cpos (keywordEach [] X.env)).all (fun x=>x.1.isSome)
  && decide (([e,f]:List Expr).length+([]:List Keyword).length+(if ([]:List Keyword).isEmpty then 0 else 1) < 30))=true
 line:(apos.endLine == cpos.line)=true
 trees:backTo cpos (starEach [e,f] X.env)=[(false,eval e X.env),(false,eval f X.env)]
noncomputable def IsD (H:Hp) (a:Addr):Prop:=(∃ kvs,Rd H a (.dK kvs))∨∃ kvs,Rd H a (.dT kvs)
theorem isD_at {X:Cx}{pins:List (Addr×Obj)}{σ:St}{H:Hp}{s:Shared}{a:Addr} (I:Inv X pins σ H s) (d:IsD H a) :
  s.TypeIs (.ref a) "dict" ∧ (∀ b,Value.ref a=.ref b→∃ ob,s.heap.get? b=some ob∧ob.dict=none)∧(a == sysModules)=false:=by
 rcases d with ⟨kvs,e⟩ | ⟨kvs,e⟩
 ·obtain⟨_,hd,vs,_,dd⟩:=dk_rd I.hok e
  refine⟨dd.typeIs,fun b q=>?_,hd⟩
  cases q
  obtain⟨ob,_,_,h1,h2,_⟩:=dd
  exact⟨ob,h1,h2.2.1⟩
 ·obtain⟨_,hd,xs,_,dd⟩:=dt_rd I.hok e
  refine⟨dd.typeIs,fun b q=>?_,hd⟩
  cases q
  obtain⟨ob,_,_,h1,h2,_⟩:=dd
  exact⟨ob,h1,h2.2.1⟩
section
variable {X:Cx}{pins:List (Addr×Obj)}{σ:St}{H:Hp}{s:Shared}{a:Addr}{y d:V}{u r:Value}{o:Option V}{A:Around}{E:Value→Shared→Prop}
theorem d_get2 {Q:Value→Shared→Prop} (hu:A.units+1 < cLine) (I:Inv X pins σ H s) (g:DGet H a y o) (ry:bO y u) (rd:bO d r) (h:∀ w' s',Inv X pins σ H s'→bO (o.getD d) w'→Q w' s') :
  wpAny (model X.prog X.w) A (call (.builtin "dict.get") [.ref a,u,r]) Q E s:=by
 rcases g with ⟨kvs,k,e,ey,l⟩ | ⟨kvs,k,b,e,ey,eb,l⟩
 ·subst ey
  obtain⟨z,hd,vs,rel,dd⟩:=dk_rd I.hok e
  refine call_meetsIn PySem.F.slot_dict_get dd.typeIs PySem.F.entry_dict_get (PySem.F.args_dict_get_3 _ _ _) (meets_dict_get_default (dI X.prog X.w) a (kV_is ry) hd r) ⟨_,dd.mapOf,h _ _ (I.tok _) ?_⟩
  rw[l]
  exact (rel.val k).getD rd
 ·subst ey
  cases (show u=Value.ref b from ry)
  obtain⟨z,hd,xs,rel,dd⟩:=dt_rd I.hok e
  refine call_meetsIn PySem.F.slot_dict_get dd.typeIs PySem.F.entry_dict_get (PySem.F.args_dict_get_3 _ _ _) (meetsH_dict_get_default (tupleKind (dI X.prog X.w)) a b hd r) ⟨tupleKind_room_in1 hu,k,xs,key_of I.hok eb,dd,h _ _ (I.tok _) ?_⟩
  rw[l]
  exact (rel.val k).getD rd
end
noncomputable def tDGet2 (td ty tx:TE):TE:=fun σ H Q=>td σ H fun x H1=>∃ a,x=.ref a∧IsD H1 a∧ty σ H1 fun y H2=>tx σ H2 fun z H3=>∃ o,DGet H3 a y o∧Q (o.getD z) H3
section
variable {X:Cx}{o e f:Expr}{apos cpos:Pos}{td ty tx:TE}
theorem pe_dget2 (hu:X.A.units+1 < cLine) (ho:PE X o td) (he:PE X e ty) (hf:PE X f tx) (m:M2 X o "get" apos e f cpos):PE X (.Call (.Attribute o "get" apos) [e,f] [] cpos) (tDGet2 td ty tx):=by
 intro pins s σ H Q I h
 refine wpAny_Call_method m.base m.few m.line PySem.F.plainAttrs_dict PySem.F.slot_dict_get PySem.F.type_dict_get (d8 (ho pins s σ H _ I h) fun u s1 ⟨x,H1,I1,rx,a,ex,d,q1⟩=>?_)
 subst ex
 obtain rfl:u=Value.ref a:=rx
 obtain⟨t1,t2,_⟩:=isD_at I1 d
 refine⟨t1,t2,?_⟩
 rw[m.trees]
 refine Calls.callWith_builtin rfl (Calls.evalArgs_plain (Calls.spliced_cons (d8 (he pins s1 σ H1 _ I1 q1) fun iv s2 ⟨y,H2,I2,ry,q2⟩=>
  Calls.spliced_cons (d8 (hf pins s2 σ H2 _ I2 q2) fun fv s3 ⟨z,H3,I3,rz,ov,g,q3⟩=>Calls.spliced_nil ?_))))
 exact d_get2 hu I3 g ry rz fun w' s4 I4 rw'=>⟨_,H3,I4,rw',q3⟩
end
section
variable {X:Cx}{pins:List (Addr×Obj)}{σ:St}{H:Hp}{s:Shared}{a:Addr}{kvs:List (Key×V)}{A:Around}{E:Value→Shared→Prop}
end
section
variable {X:Cx}{pins:List (Addr×Obj)}{σ:St}{H:Hp}{s:Shared}{a:Addr}{y:V}{u:Value}{A:Around}{E:Value→Shared→Prop}
end
end L2
namespace Att
open PySem PySem.W PySem.Calls PyProof.Rows
theorem ints_of_wellAll {P:Params}{h:Heap}:∀ (ns:List Int) (vs:List Value),WellAll P h vs (ns.map WData.int)→IntsAre vs ns:=by
 intro ns
 induction ns with
 | nil=>
  intro vs w
  rw[List.map_nil] at w
  cases w
  exact .nil
 | cons n ns ih=>
  intro vs w
  rw[List.map_cons] at w
  cases w with
  | cons a b=>
   cases a
   exact .cons _ _ (ih _ b)
theorem script_of {l:OpenLaw}{n:Nat} (hn:l.most=some n) {P:Params}{h:Heap}{args:List WData}{vals:List Value}
  (hpre:l.row.toRowW.claim.pre args=true) (hwl:WellAll P h vals args) :
  ∃ a vs ns,vals=[Value.ref a]∧args=[WData.list (ns.map WData.int)]∧h.get? a=some { cls:=.type "list",data:=.seq vs.toArray }∧IntsAre vs ns∧ns.length≤n:=by
 have hsh:WShape.hasAll [] args [.list .int]=true:=(pre_splitW hpre).1
 have hc:l.pre.holds [] { args:=args }=true:=(pre_splitW hpre).2
 obtain⟨d,r,rfl,h1,h2⟩:=hasAllW_cons hsh
 obtain rfl:=hasAllW_nil h2
 obtain⟨xs,rfl,h3⟩:=hasW_list h1
 obtain⟨ns,rfl⟩:=items_int h3
 have hlen:ns.length≤n:=by
  unfold OpenLaw.pre at hc
  have h4:(WTm.not (.lt (.lit (.int (n:Int))) (.len (.arg 0)))).holds [] { args:=[.list (ns.map .int)] }=true:=by
   have h4:=(holds_andW hc).1
   rw[hn] at h4
   exact h4
  have h5:=condW_of h4 (w_not (w_lt w_lit (w_len_list (w_arg rfl))))
  rw[List.length_map] at h5
  refine Nat.le_of_not_lt fun q=>?_
  have q':(n:Int) < ((ns.length:Nat):Int):=by omega
  first
   | (rw[decide_eq_true q'] at h5;exact absurd h5 (by decide))
   | (simp at h5;omega)
 cases hwl with
 | cons w1 w2=>
  cases w2
  cases w1 with
  | list ho hall=>exact⟨_,_,ns,rfl,rfl,ho,ints_of_wellAll ns _ hall,hlen⟩
theorem post_true (l:OpenLaw) (args:List WData):l.row.toRowW.claim.post args (.bool true) args=true:=
 postW_of (r:=l.row.toRowW) (X:=(true == true))
  (show WShape.has [] (.bool true) .bool=true by first | rfl | decide | simp [WShape.has,WShape.arms,WShape.armsAll])
  (show (WTm.eq .res (.lit (.bool true))).value [] { args:=args,res:=some (.bool true),after:=args }=some (.bool (true == true)) from w_eq_bool (w_res rfl) w_lit) rfl
theorem attach_call {l:OpenLaw}{n:Nat}{q:Program}{loose:List Str}{XP:(Str→Option Value)→Heap→Prop}{YP:World→Heap→Prop}{d:DefRec}
  (hn:l.most=some n) (hdf:d.params.defaults=[])
  (call:∀ (w:World) (s₀ s₁:Shared) (mg mb:Str→Option Value) (fa:Addr) (o:Obj) (pm cd doc:Value) (a:Addr) (vs:List Value) (ns:List Int),
   Ground q loose [] XP w s₀ mg mb s₁.heap→YP w s₁.heap→
   s₁.heap.get? fa=some o→o.data=.func (docDef d.name d.params d.body d.scope pm cd doc)→s₁.heap.CodeRec cd d.name→mg d.name=some (.ref fa)→
   s₁.heap.get? a=some { cls:=.type "list",data:=.seq vs.toArray }→IntsAre vs ns→ns.length≤n→s₁.gens = #[]→
   codeAny (model l.prog w) callerA (.call (.ref fa) ⟨[.ref a],[]⟩) (fun r s'=>r=.ok (.ret (.bool true))∧OldK s₁.heap s'.heap∧s'.os=s₁.os∧AllBare s'.gens) s₁) :
  WalkO q loose XP YP l.row.toRowW d [] (fun f vs=>PySem.call f vs):=by
 intro w s₀ s₁ mg mb G Y fa o pm cd doc dV kV ho hd hcd hD hmg hg args vals as hpre hlay hrd hwl hlo
 obtain rfl:dV=.none:=Dflts.none hD hdf
 obtain rfl:kV=.none:=Dflts.noKw hD
 obtain⟨a,vs,ns,rfl,rfl,hobj,hints,hlen⟩:=script_of hn hpre hwl
 refine enter_call (codeAny_mono (call w s₀ s₁ mg mb fa o pm cd doc a vs ns G Y ho (fd_plain hd) hcd hmg hobj hints hlen hg) fun r s' hq=>?_)
 obtain⟨rfl,h2,h3,h4⟩:=hq
 exact⟨.inl ⟨.bool true,.bool true,[],rfl,fun _=>rfl,.bool true,post_true l _,fun _=>⟨List.Pairwise.nil,fun _ hm=>(nomatch hm)⟩⟩,h2,h3,h4⟩
section
variable {prog:Program}{w:World}{A:Around}{E:Value→Shared→Prop}{s:Shared}{K:Frag}
end
end Att
namespace L2
open PySem PySem.Spec PyProof.Rows
theorem vals_ints:∀ {vs:List Value}{ns:List Int},IntsAre vs ns→bP (ns.map V.int) vs
 | _,_,.nil=>.nil
 | _,_,.cons n t h=>.cons ⟨t,rfl⟩ (vals_ints h)
noncomputable def Only (H:Hp):Prop:=∀ b,H b=none∨∃ o xs,H b=some (.frz o (.lst xs))
theorem law_call {P:Program}{w:World}{K:PySem.W.Frag}{mg mb:Str→Option Value}{CX:CXT}{k:Nat}{fa a:Addr}{fd:FuncData}{x:Str}{sp:Sp}{s₁:Shared}{vs:List Value}{ns:List Int}
  (KX:K.In s₁.heap) (hns:s₁.heap.Ns mainGlobals mg) (hb:s₁.heap.Ns builtinsNs mb) (hbb:∀ x:Str,x ≠ "__name__" → mb x=bootBuiltins x) (hlim:s₁.heap.NoLimit) (hg:s₁.gens = #[])
  (ha:s₁.heap.get? a=some { cls:=.type "list",data:=.seq vs.toArray }) (hi:IntsAre vs ns) (hl:ns.length≤sizeLine) (hr:Room k callerA)
  (F:∀ base:Heap,K.In base→base.Ns mainGlobals mg→FnOk P w K mg base CX k fa fd [x] sp) (hbind:∀ (s:Shared) (u:Value),BindsTo s fd ⟨[u],[]⟩ [(x,u)])
  (hsp:∀ H:Hp,Only H→bM K H a (ns.map V.int)→sp [.ref a] H (fun v _=>v=.bl true) fun _ _ _=>False)
  (hCX:∀ H e s',CX [] H s₁ (fun _ _ _=>False) e s'→False) :
  codeAny (model P w) callerA (.call (.ref fa) ⟨[.ref a],[]⟩) (fun r s'=>r=.ok (.ret (.bool true))∧OldK s₁.heap s'.heap∧s'.os=s₁.os∧AllBare s'.gens) s₁:=by
 have rv:=vals_ints hi
 have lenV:=hi.length
 have core:∀ H:Hp,Only H→bM K H a (ns.map V.int)→HOk P w H s₁.heap→(∀ b,H b≠none→b=a)→(H a≠none→K.lookup a=none)→
   codeAny (model P w) callerA (.call (.ref fa) ⟨[.ref a],[]⟩) (fun r s'=>r=.ok (.ret (.bool true))∧OldK s₁.heap s'.heap∧s'.os=s₁.os∧AllBare s'.gens) s₁:=by
  intro H hO hS hok hA hK
  have base_of:∀ {b:Addr}{o:Obj},s₁.heap.get? b=some o→H b=none→(hidT s₁.heap H).get? b=some o:=fun e n=>hidT_get e n
  have noA:∀ {b:Addr}{o:Obj}{es:Array DictEntry}{ep:Nat},s₁.heap.get? b=some o→o.data=.dict es ep→H b=none:=fun {b o es ep} e d=>by
   cases q:H b with
   | none=>rfl
   | some u=>
    have e':b=a:=hA b (by rw[q];simp)
    subst e'
    rw[ha] at e;cases e
    have d':Data.seq vs.toArray _=Data.dict es ep:=d
    cases d'
  have nsK:∀ {b:Addr}{m:Str→Option Value},s₁.heap.Ns b m→(hidT s₁.heap H).Ns b m:=fun {b m} ⟨o,es,ep,e,d,r⟩=>⟨o,es,ep,base_of e (noA e d),d,r⟩
  have hKb:K.In (hidT s₁.heap H):=fun b o e=>base_of (KX b o e) (by
   cases q:H b with
   | none=>rfl
   | some u=>
    have e':b=a:=hA b (by rw[q];simp)
    subst e'
    rw[hK (by rw[q];simp)] at e;cases e)
  have hM:Mod K mg (hidT s₁.heap H):=⟨hKb,nsK hns,⟨mb,nsK hb,hbb⟩,let ⟨mc,h1,h2⟩:=hlim;⟨mc,nsK h1,h2⟩⟩
  have e0:Env0 P w K mg (hidT s₁.heap H) callerA [] s₁ H:=⟨rfl,hM,fun b o e=>of_hidT e,Nat.le_of_eq (hidT_size _ _),trivial,fun b hb=>absurd (show b∈([]:List Addr) from hb) (by simp),hok,.of_eq hg⟩
  refine codeAny_mono ((F _ hKb (nsK hns)).run callerA [] s₁ H ⟨[.ref a],[]⟩ [.ref a] [.ref a] _ _ hr e0 (hbind s₁ (.ref a)) (.cons rfl .nil) (hsp H hO hS)) fun r s' h=>?_
  cases r with
  | error e=>exact (hCX H e s' h).elim
  | ok fl=>
   cases fl with
   | next=>exact False.elim h
   | brk=>exact False.elim h
   | cont=>exact False.elim h
   | ret u=>
    obtain⟨v,H',os,bare,un,hok',r',q⟩:=h
    have q':v=.bl true:=q
    subst q'
    obtain rfl:u=Value.bool true:=r'
    refine⟨rfl,OldK.of_keep fun b o e=>?_,os,bare⟩
    cases q:H b with
    | none=>exact un.keep b o e q (by intro z;exact absurd (show b∈([]:List Addr) from z) (by simp)) (by simp)
    | some u=>
     rcases hO b with z | ⟨ob,xs,z⟩
     ·rw[q] at z;cases z
     ·have z2:=un.frzs b ob _ z
      obtain⟨e1,_⟩:=hok b _ z
      obtain⟨e2,_⟩:=hok' b _ z2
      rw[e] at e1;cases e1
      exact e2
 cases hk:K.lookup a with
 | some o=>
  have e:=KX a o hk
  rw[ha] at e
  cases e
  refine core (fun _=>none) (fun _=>.inl rfl) (.inr ⟨_,vs.toArray,_,hk,rfl,rfl,rfl,by rw[List.size_toArray,lenV];exact hl,by simpa using rv⟩) (fun b u z=>by have z':(none:Option HO)=some u:=z;cases z') (fun b z=>absurd rfl z) fun z=>absurd rfl z
 | none=>
  refine core (fun b=>if b=a then some (.frz { cls:=.type "list",data:=.seq vs.toArray } (.lst (ns.map V.int))) else none) (fun b=>?_) (.inl (.inr ⟨{ cls:=.type "list",data:=.seq vs.toArray },if_pos rfl⟩)) (fun b u z=>?_) (fun b z=>?_) fun _=>hk
  ·by_cases hb:b=a
   ·exact .inr ⟨_,_,if_pos hb⟩
   ·exact .inl (if_neg hb)
  ·by_cases hb:b=a
   ·have z':=(if_pos hb).symm.trans z
    cases z'
    subst hb
    exact⟨ha,by rw[List.length_map];exact hl,vs,_,rv,ha⟩
   ·have z':=(if_neg hb).symm.trans z
    cases z'
  ·by_cases hb:b=a
   ·exact hb
   ·exact absurd (if_neg hb) z
end L2
namespace L2
open PySem PySem.Spec PyProof.Rows
theorem walk_of {l:PySem.W.OpenLaw}{n k:Nat}{q:Program}{loose:List Str}{XP:(Str→Option Value)→Heap→Prop}{YP:World→Heap→Prop}{d:DefRec}{K:Params→PySem.W.Frag}{CX:World→CXT}{sp:World→Sp}{x:Str}
  (hn:l.most=some n) (hn2:n≤sizeLine) (hdf:d.params.defaults=[]) (hr:Room k callerA)
  (hY:∀ (w:World) (h:Heap),YP w h→(K w.params).In h)
  (F:∀ (w:World) (mg:Str→Option Value) (fa:Addr) (h:Heap),(K w.params).In h→h.Ns mainGlobals mg→mg d.name=some (.ref fa)→
   ∃ fd:FuncData,(∀ (s:Shared) (u:Value),BindsTo s fd ⟨[u],[]⟩ [(x,u)])∧
    ∀ base:Heap,(K w.params).In base→base.Ns mainGlobals mg→FnOk l.prog w (K w.params) mg base (CX w) k fa fd [x] (sp w))
  (hsp:∀ (w:World) (H:Hp) (a:Addr) (ns:List Int),ns.length≤n→Only H→bM (K w.params) H a (ns.map V.int)→sp w [.ref a] H (fun v _=>v=.bl true) fun _ _ _=>False)
  (hCX:∀ (w:World) (H:Hp) (s:Shared) (e:Value) (s':Shared),CX w [] H s (fun _ _ _=>False) e s'→False) :
  PySem.W.WalkO q loose XP YP l.row.toRowW d [] (fun f vs=>PySem.call f vs):=by
 refine Att.attach_call hn hdf fun w s₀ s₁ mg mb fa o pm cd doc a vs ns G Y ho hd hcd hmg hobj hints hlen hg=>?_
 have KX:=hY w _ Y
 obtain⟨fd,hb,hF⟩:=F w mg fa _ KX G.T.g hmg
 exact law_call KX G.T.g G.T.b G.T.builtins G.T.nolimit hg hobj hints (Nat.le_trans hlen hn2) hr hF hb (fun H hO hS=>hsp w H a ns hlen hO hS) fun H e s'=>hCX w H s₁ e s'
end L2
namespace L2
open PySem PySem.Spec PyProof.Rows
noncomputable def aV (s:Stmt) (j:Nat):Stmt:=match s with
 | .ClassDef _ _ _ body _ _ _ _ _ _ _=>body.getD j (.Pass ⟨0,0,0,0⟩)
 | _=>.Pass ⟨0,0,0,0⟩
noncomputable def aY (s:Stmt):Arguments:=match s with
 | .FunctionDef _ a _ _ _ _ _ _ _ _=>a
 | _=>{ posonlyargs:=[],args:=[],vararg:=none,kwonlyargs:=[],kw_defaults:=[],kwarg:=none,defaults:=[] }
noncomputable def aW (s:Stmt):List Stmt:=match s with
 | .FunctionDef _ _ b _ _ _ _ _ _ _=>b
 | _=>[]
noncomputable def aL (s:Stmt):Scope:=match s with
 | .FunctionDef _ _ _ _ _ _ sc _ _ _=>sc
 | _=>{ kind:=.function,names:=[],isGenerator:=false,isCoroutine:=false }
noncomputable abbrev CX0:CXT:=fun _ _ _ _ _ _=>False
noncomputable abbrev E0:XK:=fun _ _ _=>False
theorem pass0 {X:Cx}:Passes CX0 X E0:=fun _ _ _ _ _ _ _ h=>h.elim
structure Fun (K:PySem.W.Frag) (x qual:Str) (st:Stmt) (f:Addr) (fd:FuncData):Prop where
 ex:∃ (oc:Value) (od:Option Addr) (kV doc pm:Value) (an:Option Addr) (cdv ct:Value) (osl:Array (Option Value)),
  fd=PySem.W.fnOf x qual (aY st) (aW st) (aL st) .none kV doc pm an cdv ct∧K.lookup f=some ⟨oc,od,.func fd,osl⟩∧PySem.W.codeIn K cdv qual=true
 kp:PySem.W.keepIn K (.ref f)=true
section
variable {P:Program}{w:World}{K:PySem.W.Frag}{mg:Str→Option Value}{base:Heap}
theorem Fun.ok {x qual:Str}{st:Stmt}{f:Addr}{fd:FuncData}{N ps:List Str}{k:Nat}{sp:Sp} (F:Fun K x qual st f fd) (S:FnScope N ps (aL st)) (len:∀ vs H Q E,sp vs H Q E→vs.length=ps.length)
  (hbody:∀ (cdv:Value) (A:Around) (outer:List Env) (s:Shared) (H:Hp) (vs:List V) (Q:VK) (E:XK),Room k (A.deeper (envOfC qual (aL st) s.heap.objs.size f cdv))→sp vs H Q E→
   ∃ t,PSs (cxOf CX0 P w K mg base N qual (aL st) f cdv A outer s H E).nox (aW st) t∧t { nx:=fun _ H'=>Q .non H',rt:=Q } (start N vs) H):FnOk P w K mg base CX0 (k+1) f fd ps sp:=by
 obtain⟨oc,od,kV,doc,pm,an,cdv,ct,osl,rfl,lk,hcd⟩:=F.ex
 refine fn_of lk hcd S len fun A outer s H vs Q E hr hsp=>?_
 obtain⟨t,h,q⟩:=hbody cdv A outer s H vs Q E hr hsp
 exact⟨t,h.nox,q⟩
theorem Fun.binds {x qual:Str}{st:Stmt}{f:Addr}{fd:FuncData}{ps:List Str} (F:Fun K x qual st f fd)
  (h:∀ (kV doc pm:Value) (an:Option Addr) (cdv ct:Value) (us:List Value),us.length=ps.length→bindArgs (PySem.W.fnOf x qual (aY st) (aW st) (aL st) .none kV doc pm an cdv ct) ⟨us,[]⟩=pure (ps.zip us)):Binds K fd ps []:=by
 obtain⟨oc,od,kV,doc,pm,an,cdv,ct,osl,rfl,lk,hcd⟩:=F.ex
 exact .all (h kV doc pm an cdv ct)
theorem bJ {x qual:Str}{st:Stmt}{f:Addr}{oc:Value}{od an:Option Addr}{osl:Array (Option Value)}{kV doc pm cdv ct:Value} (l:K.lookup f=some ⟨oc,od,.func (PySem.W.fnOf x qual (aY st) (aW st) (aL st) .none kV doc pm an cdv ct),osl⟩)
  (c:PySem.W.codeIn K cdv qual=true) (k:PySem.W.keepIn K (.ref f)=true):Fun K x qual st f (PySem.W.fnOf x qual (aY st) (aW st) (aL st) .none kV doc pm an cdv ct):=⟨⟨oc,od,kV,doc,pm,an,cdv,ct,osl,rfl,l,c⟩,k⟩
end
theorem hu_of {A:Around}{k:Nat} (hr:Room k A):A.units+1 < cLine:=Nat.lt_of_le_of_lt (Nat.add_le_add_left (by decide:1≤64) _) hr.units
theorem aZ {n:Nat} (h:n≤1000):n < sizeLine:=Nat.lt_of_le_of_lt h (by decide)
section
variable {X:Cx}
theorem pv (i:Nat) {x:Str}{pos:Pos} (hN:X.N[i]? = some x:=by rfl) (hv:Vis X.env.scope x:=by first | exact Or.inl rfl | exact Or.inr (Or.inl rfl) | exact Or.inr (Or.inr rfl)) (hd:(x == ("__debug__" : Str))=false:=by decide)
  (hcd:(x == ("__classdict__" : Str))=false:=by decide):PE X (.Name x pos) (d6 i):=pe_var hN hv hd hcd
end
theorem dU {A B:Prop} (h:B):if false=true then A else B:=by
 rw[if_neg Bool.false_ne_true]
 exact h
theorem eT {A B:Prop} (h:A):if true=true then A else B:=by
 rw[if_pos rfl]
 exact h
theorem eX {c A B:Prop} [Decidable c] (h1:c→A) (h2:¬ c→B):if c then A else B:=by
 by_cases h:c
 ·rw[if_pos h]
  exact h1 h
 ·rw[if_neg h]
  exact h2 h
theorem iteNS {c A B:Prop} [Decidable c] (hc:c) (h:B):if (!decide c)=true then A else B:=by
 rw[decide_eq_true hc]
 exact dU h
noncomputable def aK (H H':Hp):Prop:=∀ b o,H b=some o→H' b=some o
theorem aK.refl (H:Hp):aK H H:=fun _ _ h=>h
theorem aK.trans {H H1 H2:Hp} (a:aK H H1) (b:aK H1 H2):aK H H2:=fun c o h=>b c o (a c o h)
theorem aK.free {H H':Hp} (e:aK H H') {l:Addr} (h:H' l=Option.none):H l=Option.none:=by
 cases q:H l with
 | none=>rfl
 | some o=>
  rw[e l o q] at h
  cases h
theorem aK.seq {K:PySem.W.Frag}{H H':Hp}{a:Addr}{xs:List V} (e:aK H H') (h:bM K H a xs):bM K H' a xs:=by
 rcases h with (h | ⟨o,h⟩) | h
 ·exact .inl (.inl (e _ _ h))
 ·exact .inl (.inr ⟨o,e _ _ h⟩)
 ·exact .inr h
end L2
set_option maxHeartbeats 4000000
namespace L2
open PySem PySem.Spec PyProof.Rows
theorem eP {env:Env} (hk:env.scope.kind=.function):∀ {names:List (Str×NameKind)}{x:Str},names.lookup x=some .free→env.kindOf x=some .cell→
  (names.map fun (n,k)=>if (k == NameKind.free && env.scope.kind == .function && env.kindOf n == some .cell) then (n,NameKind.cell) else (n,k)).lookup x=some .cell
 | [],_,h,_=>by simp at h
 | (n,k)::r,x,h,hc=>by
  have ih:=@eP env hk r x
  show List.lookup x ((if (k == NameKind.free && env.scope.kind == .function && env.kindOf n == some .cell)=true then (n,NameKind.cell) else (n,k))::_)=_
  cases hx:x == n with
  | true=>
   simp only [List.lookup_cons,hx] at h
   cases h
   have e:x=n:=by simpa using hx
   subst e
   rw[if_pos (by rw[hk,hc];decide)]
   simp [List.lookup_cons]
  | false=>
   simp only [List.lookup_cons,hx] at h
   by_cases hq:(k == NameKind.free && env.scope.kind == .function && env.kindOf n == some .cell)=true
   ·rw[if_pos hq];simp only [List.lookup_cons,hx];exact ih h hc
   ·rw[if_neg hq];simp only [List.lookup_cons,hx];exact ih h hc
noncomputable def ClOk (env:Env):List (Str×Addr)→Prop
 | []=>True
 | p::r=>env.cells.lookup p.1=some p.2∧ClOk env r
theorem ClOk.get {env:Env}:∀ {cl:List (Str×Addr)},ClOk env cl→∀ x c,cl.lookup x=some c→env.cells.lookup x=some c
 | [],_,_,_,e=>by simp at e
 | (n,a)::r,h,x,c,e=>by
  cases hx:x == n with
  | true=>
   simp only [List.lookup_cons,hx] at e
   cases e
   have e':x=n:=by simpa using hx
   subst e'
   exact h.1
  | false=>
   simp only [List.lookup_cons,hx] at e
   exact ClOk.get h.2 x c e
noncomputable def FrOk (X:Cx) (scope:Scope) (N':List Str):List (Option Nat)→Nat→Prop
 | [],_=>True
 | none::r,i=>FrOk X scope N' r (i+1)
 | some j::r,i=>(∃ x,N'[i]? = some x∧X.N[j]? = some x∧scope.names.lookup x=some .free∧X.env.kindOf x=some .cell)∧FrOk X scope N' r (i+1)
theorem FrOk.get {X:Cx}{scope:Scope}{N':List Str}:∀ {fr:List (Option Nat)}{k:Nat},FrOk X scope N' fr k→∀ i j,fr[i]? = some (some j)→
  ∃ x,N'[k+i]? = some x∧X.N[j]? = some x∧scope.names.lookup x=some .free∧X.env.kindOf x=some .cell
 | [],_,_,i,j,e=>by simp at e
 | none::r,k,h,0,j,e=>by simp at e
 | some _::r,k,h,0,j,e=>by simp at e;subst e;exact h.1
 | none::r,k,h,i+1,j,e=>by
  have:=FrOk.get (k:=k+1) (show FrOk X scope N' r (k+1) from h) i j (by simpa using e)
  rwa [Nat.add_right_comm] at this
 | some _::r,k,h,i+1,j,e=>by
  have:=FrOk.get (k:=k+1) h.2 i j (by simpa using e)
  rwa [Nat.add_right_comm] at this
structure LcOk (X:Cx) (scope:Scope) (cl:List (Str×Addr)) (N':List Str) (fr:List (Option Nat)):Prop where
 clos:closureFor scope X.env=pure cl
 cls:ClOk X.env cl
 kind:scope.kind=.function
 nocell:(scope.names.all fun p=>p.2 != NameKind.cell)=true
 locs:(scope.names.all fun p=>p.2 != NameKind.local || scope.names.lookup p.1 == some NameKind.local)=true
 frees:(scope.names.all fun p=>p.2 != NameKind.free || (cl.lookup p.1).isSome)=true
 len:fr.length=N'.length
 fr:FrOk X scope N' fr 0
noncomputable def frσ (fr:List (Option Nat)) (σ:St):St:=fr.map fun o=>o.bind fun j=>(σ[j]?).join
noncomputable def cxC (X:Cx) (N':List Str) (scope:Scope) (cl:List (Str×Addr)) (fp:List Addr) (s:Shared) (H:Hp):Cx:=
 { X with N:=N',s₀:=s,H₀:=H,env:=compEnvC scope cl s.heap.objs.size X.env,outer:=X.stack,ex:=fp,fn:=fun _=>false,pn:=[] }
noncomputable def PIf (X:Cx) (ifs:List Expr) (t:TT):Prop:=
 ∀ (pins:List (Addr×Obj)) (s:Shared) (σ:St) (H:Hp) (Q:Bool→Hp→Prop),Inv X pins σ H s→t σ H Q→
  wpAny (model X.prog X.w) X.A (forIn ifs true fun c r=>if r=true then do let ok ← isTrue c X.env (eval c X.env);pure (ForInStep.yield ok) else pure (ForInStep.yield r)) (TP X pins σ Q) X.xe s
noncomputable def tYes:TT:=fun _ H Q=>Q true H
theorem cP {X:Cx}:PIf X [] tYes:=fun _ _ _ H _ I h=>wpAny_tests_nil ⟨H,I,h⟩
theorem pif_one {X:Cx}{c:Expr}{t:TT} (h:PT X c t):PIf X [c] t:=fun pins s σ H Q I hw=>wpAny_tests_one (h pins s σ H Q I hw)
noncomputable def lcRest (J:It) (g:TG) (tc:TT) (te:TE) (fr:List (Option Nat)) (σ:St) (H1:Hp) (Q:Addr→Hp→Prop):Prop:=
 ∀ D,H1 D=none→∃ W:Nat→Nat→List V→St→Hp→Prop,(∃ m,W 0 m [] (frσ fr σ) (upd H1 D (.lst [])))∧
  ∀ i m ys σ' H',W i m ys σ' H'→(J.stop i H'∧Q D H')∨
   (J.go i H'∧∃ N:List V→St→Hp→Prop,(∀ ys' σ'' H'',N ys' σ'' H''→∃ m',m' < m∧W (i+1) m' ys' σ'' H'')∧
    ∀ x H2,J.yld i H' x H2→g x σ' H2 fun σ3 H3=>tc σ3 H3 fun b H4=>
    if b=true then te σ3 H4 fun y H5=>H5 D=some (.lst ys)∧ys.length < sizeLine∧N (ys++[y]) σ3 (upd H5 D (.lst (ys++[y])))
    else N ys σ3 H4)
theorem lc_gen {J:It}{n:Nat}{g:TG}{tc:TT}{te:TE}{fr:List (Option Nat)}{σ:St}{H1:Hp}{Q:Addr→Hp→Prop} (Pv:Addr→Nat→List V→St→Hp→Prop)
  (h0:∀ D,H1 D=none→Pv D 0 [] (frσ fr σ) (upd H1 D (.lst [])))
  (hstop:∀ D ys σ' H',Pv D n ys σ' H'→J.stop n H'∧Q D H')
  (hgo:∀ D i ys σ' H',i < n→Pv D i ys σ' H'→J.go i H'∧∀ x H2,J.yld i H' x H2→g x σ' H2 fun σ3 H3=>tc σ3 H3 fun b H4=>
    if b=true then te σ3 H4 fun y H5=>H5 D=some (.lst ys)∧ys.length < sizeLine∧Pv D (i+1) (ys++[y]) σ3 (upd H5 D (.lst (ys++[y])))
    else Pv D (i+1) ys σ3 H4):lcRest J g tc te fr σ H1 Q:=by
 intro D hD
 refine⟨fun i m ys σ H=>m=n - i∧i≤n∧Pv D i ys σ H,⟨n,by simp,Nat.zero_le _,h0 D hD⟩,?_⟩
 rintro i m ys σ' H' ⟨rfl,hi,p⟩
 by_cases hlt:i < n
 ·obtain⟨go,step⟩:=hgo D i ys σ' H' hlt p
  exact .inr ⟨go,Pv D (i+1),fun ys' σ'' H'' p'=>⟨n - (i+1),by omega,rfl,hlt,p'⟩,step⟩
 ·have e:i=n:=by omega
  subst e
  exact .inl (hstop D ys σ' H' p)
theorem for_gen {J:It}{n:Nat}{g:TG}{tb:TS}{D:Ends}{σ:St}{H:Hp} (Pv:Nat→St→Hp→Prop) (h0:Pv 0 σ H) (hstop:∀ σ H,Pv n σ H→J.stop n H∧D.nx σ H)
  (hgo:∀ i σ H,i < n→Pv i σ H→J.go i H∧∀ x H',J.yld i H x H'→g x σ H' fun σ2 H2=>tb { D with nx:=Pv (i+1),ct:=Pv (i+1),bk:=D.nx } σ2 H2) :
  ∃ W:Nat→Nat→St→Hp→Prop,(∃ m,W 0 m σ H)∧∀ i m σ H,W i m σ H→
   (J.stop i H∧D.nx σ H)∨(J.go i H∧∃ N:St→Hp→Prop,(∀ σ' H',N σ' H'→∃ m',m' < m∧W (i+1) m' σ' H')∧∀ x H',J.yld i H x H'→g x σ H' fun σ2 H2=>tb { D with nx:=N,ct:=N,bk:=D.nx } σ2 H2):=by
 refine⟨fun i m σ H=>m=n - i∧i≤n∧Pv i σ H,⟨n,by simp,Nat.zero_le _,h0⟩,?_⟩
 rintro i m σ H ⟨rfl,hi,p⟩
 by_cases hlt:i < n
 ·obtain⟨go,step⟩:=hgo i σ H hlt p
  exact .inr ⟨go,Pv (i+1),fun σ' H' p'=>⟨n - (i+1),by omega,rfl,hlt,p'⟩,step⟩
 ·have e:i=n:=by omega
  subst e
  exact .inl (hstop σ H p)
noncomputable def tLC (wi:TI) (fr:List (Option Nat)) (g:TG) (tc:TT) (te:TE):TE:=fun σ H Q=>wi σ H fun J H1=>lcRest J g tc te fr σ H1 fun D H'=>Q (.ref D) H'
section
variable {prog:Program}{w:World}{A:Around}{R:Result→Shared→Prop}{s:Shared}
theorem compLoop_any {elt target iter:Expr}{ifs:List Expr}{scope:Scope}{pos:Pos}{it acc:Value}{env:Env} (I:Nat→Shared→Prop)
  (turn:∀ n s,I n s→wpAny (model prog w) A (pyNext it) (fun r s₁=>match r with
   | none=>R (.ok .next) s₁
   | some v=>wpAny (model prog w) A (letOwnedTupleGo target it v) (fun _ s₁'=>wpAny (model prog w) A (assign target env v) (fun _ s₂=>
     wpAny (model prog w) A (forIn ifs true fun c r=>if r=true then do let ok ← isTrue c env (eval c env);pure (ForInStep.yield ok) else pure (ForInStep.yield r)) (fun ok s₃=>
      if ok=true then wpAny (model prog w) A (eval elt env) (fun x s₄=>
       wpAny (model prog w) A (call (.builtin "list.append") [acc,x]) (fun _ s₅=>∃ m,m < n∧I m s₅) (notedBy (model prog w) A env fun e s'=>R (.error e) s') s₄) (notedBy (model prog w) A env fun e s'=>R (.error e) s') s₃
      else ∃ m,m < n∧I m s₃) (notedBy (model prog w) A env fun e s'=>R (.error e) s') s₂) (notedBy (model prog w) A env fun e s'=>R (.error e) s') s₁') (notedBy (model prog w) A env fun e s'=>R (.error e) s') s₁)
    (notedBy (model prog w) A env fun e s'=>R (.error e) s') s)
  (n:Nat) (h:I n s) :
  codeAny (model prog w) A (.compLoop (.ListComp elt [⟨target,iter,ifs,0⟩] scope pos) 0 it acc env) R s:=by
 refine codeAny_loop rfl I (fun n s hI=>?_) n h
 show wpAny _ A ((compTurn (.ListComp elt [⟨target,iter,ifs,0⟩] scope pos) 0 it acc env).onRaise (fun x=>do noteFrame x env;theTreesLotGoes x)) _ _ s
 refine wpAny_noted ?_
 rw[compTurn_list]
 refine wpAny_bind (wpAny_standAt (wpAny_bind (wpAny_mono (turn n s hI) (fun r s₁ h₁=>?_) fun _ _ h'=>h')))
 cases r with
 | none=>exact wpAny_pure h₁
 | some v=>
  refine wpAny_bind (wpAny_mono h₁ (fun _ s₁' h₁'=>?_) fun _ _ h'=>h')
  refine wpAny_bind (wpAny_mono h₁' (fun _ s₂ h₂=>wpAny_bind (wpAny_mono h₂ (fun ok s₃ h₃=>?_) fun _ _ h'=>h')) fun _ _ h'=>h')
  cases ok with
  | false=>exact wpAny_pure ⟨rfl,h₃⟩
  | true=>
   exact wpAny_bind (wpAny_bind (wpAny_mono h₃ (fun x s₄ h₄=>wpAny_bind (wpAny_mono h₄ (fun _ s₅ h₅=>wpAny_pure (wpAny_pure ⟨rfl,h₅⟩)) fun _ _ h'=>h')) fun _ _ h'=>h'))
end
section
variable {X:Cx}
theorem LcOk.invC {scope:Scope}{cl:List (Str×Addr)}{N':List Str}{fr:List (Option Nat)}{pins:List (Addr×Obj)}{σ:St}{H:Hp}{s:Shared}{h1:Heap}{fp:List Addr}{m1:Str→Option Value}{tk:Nat}
  (S:LcOk X scope cl N' fr) (I:Inv X pins σ H s) (hf:∀ b∈fp,FpOk X pins H b) (hfo:∀ b∈fp,b < s.heap.objs.size)
  (k:∀ b o,s.heap.get? b=some o→h1.get? b=some o) (hn:h1.Ns s.heap.objs.size m1):Inv (cxC X N' scope cl fp s H) [] (frσ fr σ) H { s with heap:=h1,toks:=tk }:=by
 have hfree:=S.frees
 have hcell:=S.nocell
 rw[List.all_eq_true] at hfree hcell
 have fresh:H s.heap.objs.size=none:=I.hok.fresh (Nat.le_refl _)
 have clg:=S.cls.get
 refine⟨⟨I.ok.mod,S.kind,I.ok.glob,I.ok.blt,Nat.le_refl _,fun x y c e1 e2=>I.ok.inj x y c (clg x c e1) (clg y c e2),fun x hx=>?_,(fun x c e=>nomatch e),I.ok.hd,I.ok.frames,.inl rfl,fun b hb=>⟨Nat.ne_of_lt (hfo b hb),fun x c e=>(hf b hb).2.2.2.2.1 x c (clg x c e)⟩,
  I.bs,Nat.le_trans I.ok.bsz I.sz,fun b o e hb=>?_,fun b hb hz=>?_,I.stack,I.stkFree⟩,rfl,I.bare,Un.kept k,⟨m1,hn,fun i x v e1 e2 e3=>?_⟩,fun x c e=>?_,fresh,fun x c e=>I.freeC x c (clg x c e),fun p hp=>absurd (show p∈([]:List (Addr×Obj)) from hp) (by simp),I.hok.kept k,?_⟩
 ·
  have hm:∃ k',(x,k')∈scope.names∧k'=NameKind.free:=by
   have hx':(relabel scope X.env).names.lookup x=some .cell∨(relabel scope X.env).names.lookup x=some .free:=hx
   obtain⟨k',e,hk'⟩:∃ k',(relabel scope X.env).names.lookup x=some k'∧(k'=.cell∨k'=.free):=by
    rcases hx' with e | e
    ·exact⟨_,e,.inl rfl⟩
    ·exact⟨_,e,.inr rfl⟩
   have hmem:=PySem.mem_of_lookup e
   obtain⟨⟨n,kn⟩,hp,he⟩:=List.mem_map.mp hmem
   dsimp only at he
   split at he
   ·rename_i hc
    cases he
    have:kn=.free:=by
     simp only [Bool.and_eq_true,beq_iff_eq] at hc
     exact hc.1.1
    exact⟨kn,hp,this⟩
   ·cases he
    rcases hk' with e' | e'
    ·subst e'
     have:=hcell _ hp
     simp at this
    ·exact⟨_,hp,e'⟩
  obtain⟨k',hp,rfl⟩:=hm
  have:=hfree _ hp
  simp only [bne_self_eq_false,Bool.false_or] at this
  exact Option.isSome_iff_exists.mp this
 ·rcases (hf b hb).2.2.2.1 with z | z
  ·exact I.ok.noex b o e z
  ·have:=Heap.lt_size e
   exact absurd (Nat.lt_of_lt_of_le this (Nat.le_trans I.ok.bsz z)) (Nat.lt_irrefl _)
 ·obtain⟨_,f1,f2,_⟩:=hf b hb
  rcases List.mem_cons.mp (I.stkSub b hz) with e | e
  ·exact f1 e
  ·exact f2 e
 ·
  unfold frσ at e2
  rw[List.getElem?_map] at e2
  cases ef:fr[i]? with
  | none=>rw[ef] at e2;cases e2
  | some o=>
   rw[ef] at e2
   cases o with
   | none=>simp at e2
   | some j=>
    have e2':(σ[j]?).join=some v:=by simpa using e2
    obtain⟨x',h1',h2',h3',h4'⟩:=S.fr.get i j ef
    rw[Nat.zero_add] at h1'
    have ex:x'=x:=by
     have:N'[i]? = some x:=e1
     rw[h1'] at this
     exact Option.some.inj this
    subst ex
    have e2'':σ[j]? = some (some v):=by
     cases q:σ[j]? with
     | none=>rw[q] at e2';cases e2'
     | some z=>rw[q] at e2';simp at e2';rw[e2']
    obtain⟨m,hm,hl⟩:=I.loc
    obtain⟨u,r,lk⟩:=hl j x' v h2' e2'' (.inr (.inl h4'))
    refine⟨u,r,?_⟩
    rcases lk with ⟨q,_⟩ | ⟨_,c,hc,z⟩
    ·rw[h4'] at q;cases q
    ·have hcl:∃ c',cl.lookup x'=some c':=by
      have:=hfree _ (PySem.mem_of_lookup h3')
      simp only [bne_self_eq_false,Bool.false_or] at this
      exact Option.isSome_iff_exists.mp this
     obtain⟨c',hc'⟩:=hcl
     have e':=clg x' c' hc'
     rw[hc] at e'
     cases e'
     obtain⟨oc,hoc,hd⟩:=z
     refine .inr ⟨.inl ?_,c,hc',oc,k c oc hoc,hd⟩
     exact eP I.ok.kind h3' h4'
 ·obtain⟨v,oc,hoc,hd⟩:=I.cell x c (clg x c e)
  exact⟨v,oc,k c oc hoc,hd⟩
 ·show (frσ fr σ).length=N'.length
  unfold frσ
  rw[List.length_map,S.len]
theorem Inv.outC {scope:Scope}{cl:List (Str×Addr)}{N':List Str}{pins pins':List (Addr×Obj)}{σ σ':St}{H H':Hp}{s s':Shared}{fp:List Addr} (I:Inv X pins σ H s) (J:Inv (cxC X N' scope cl fp s H) pins' σ' H' s')
  (hf:∀ b∈fp,FpOk X pins H b):Inv X pins σ H' s':=
 I.call' (ch:=fp) J.os J.base J.hok J.bare fun b hb=>by
  obtain⟨_,f1,_,f3,f4,f5⟩:=hf b hb
  exact⟨f3,f1,f4,f5⟩
theorem Inv.letgo {pins:List (Addr×Obj)}{σ:St}{H:Hp}{s:Shared}{C:Addr}{h':Heap} (I:Inv X pins σ H s) (f:FpOk X pins H C) (hsb:Heap.SameBut C s.heap h'):Inv X pins σ H { s with heap:=h' }:=by
 obtain⟨f0,f1,f2,f3,f4,f5⟩:=f
 exact I.turned (t':=s.toks) (it:=C) (h':=h') (fun b o hb e=>(hsb.2 b hb).trans e) f0 f1 f3 f4 f5
theorem lc_block {elt tg iter:Expr}{ifs:List Expr}{scope:Scope}{pos:Pos}{N':List Str}{fr:List (Option Nat)}{cl:List (Str×Addr)}{g:TG}{tc:TT}{te:TE}
  {pins:List (Addr×Obj)}{σ:St}{H:Hp}{s:Shared}{J:It}{fp:List Addr}{it:Addr}{tn:Nat→Heap→Prop}{Q:Addr→Hp→Prop}{RR:Value→Addr→Result→Shared→Prop}{E:Value→Shared→Prop}
  (hx:∀ e s,¬ X.xe e s) (hc:X.calm=true) (S:LcOk X scope cl N' fr)
  (hg:∀ fp s H,PG (cxC X N' scope cl fp s H) tg g) (ht:∀ fp s H,PIf (cxC X N' scope cl fp s H) ifs tc) (he:∀ fp s H,PE (cxC X N' scope cl fp s H) elt te)
  (I:Inv X pins σ H s) (T:Turn X.prog X.w X.K tg J fp it tn) (st:tn 0 s.heap) (hf:∀ b∈fp,FpOk X pins H b) (h:lcRest J g tc te fr σ H Q)
  (hRR:∀ D C H' s' m',Inv X pins σ H' s'→Q D H'→s'.heap.Ns C m'→FpOk X pins H' C→RR (.ref D) C (.ok .next) s') :
  wpAny (model X.prog X.w) X.A (newList []) (fun acc s₃=>wpAny (model X.prog X.w) X.A (newFunctionEnv scope X.env.globals cl [] X.env.qual none .none (some X.env)) (fun cenv s₄=>
   codeAny (model X.prog X.w) X.A (.compStart (.ListComp elt [⟨tg,iter,ifs,0⟩] scope pos) 0 (.ref it) acc { cenv with scope:=relabel scope X.env }) (RR acc cenv.locals) s₄) E s₃) E s:=by
 have hcell:=S.nocell
 rw[List.all_eq_true] at hcell
 refine wpAny_newObj_type (wpAny_newFunctionEnv (fun x hx'=>by simpa using hcell x hx') (by intro y hy;simp at hy) (fun h₁ hns₁ hsb₁=>?_) S.kind)
 dsimp only at hns₁ hsb₁ ⊢
 have fresh:H s.heap.objs.size=none:=I.hok.fresh (Nat.le_refl _)
 have I3:Inv X pins σ (upd H s.heap.objs.size (.lst [])) { s with heap:=s.heap.push { cls:=.type "list",data:=.seq ([]:List Value).toArray },toks:=s.toks }:=I.lnew (ys:=[]) (its:=[]) .nil (Nat.zero_le _)
 have hf3:∀ b∈fp,FpOk X pins (upd H s.heap.objs.size (.lst [])) b:=fun b hb=>by
  obtain⟨o,ho,_⟩:=T.obj _ _ st b hb
  exact⟨by rw[aP (Nat.ne_of_lt (Heap.lt_size ho))];exact (hf b hb).1,(hf b hb).2⟩
 generalize hs3:({ s with heap:=s.heap.push { cls:=.type "list",data:=.seq ([]:List Value).toArray },toks:=s.toks }:Shared)=s3 at I3
 have e3:s3.heap=s.heap.push { cls:=.type "list",dict:=none,data:=.seq ([]:List Value).toArray }:=by rw[← hs3]
 have e3s:({ s with heap:=s.heap.push { cls:=.type "list",dict:=none,data:=.seq ([]:List Value).toArray } }:Shared)=s3:=hs3
 have hsz3:s3.heap.objs.size=s.heap.objs.size+1:=by rw[e3,Heap.size_push]
 have hfo:∀ b∈fp,b < s3.heap.objs.size:=fun b hb=>by
  obtain⟨o,ho,_⟩:=T.obj _ _ st b hb
  rw[hsz3]
  exact Nat.lt_succ_of_lt (Heap.lt_size ho)
 rw[← e3] at hns₁ hsb₁ ⊢
 have old3:∀ b o,s3.heap.get? b=some o→h₁.get? b=some o:=fun b o e=>hsb₁.extBut b o (Nat.ne_of_lt (Heap.lt_size e)) (Heap.get?_push_of_some _ e)
 have old:∀ b o,s.heap.get? b=some o→s3.heap.get? b=some o:=fun b o e=>by rw[e3];exact Heap.get?_push_of_some _ e
 have I4:=S.invC (tk:=s3.toks) I3 hf3 hfo old3 hns₁
 obtain⟨W,⟨m0,w0⟩,turn⟩:=h s.heap.objs.size fresh
 have stat:∀ {H':Hp},(∀ b∈fp,H' b=none)→∀ b∈fp,FpOk (cxC X N' scope cl fp s3 (upd H s.heap.objs.size (.lst []))) [] H' b:=fun hn b hb=>by
  refine⟨hn b hb,Nat.ne_of_lt (hfo b hb),?_,.inl hb,fun x c e=>(hf b hb).2.2.2.2.1 x c (S.cls.get x c e),fun p hp=>absurd (show p∈([]:List (Addr×Obj)) from hp) (by simp)⟩
  intro hz
  obtain⟨_,f1,f2,_⟩:=hf b hb
  rcases List.mem_cons.mp (I.stkSub b hz) with e | e
  ·exact f1 e
  ·exact f2 e
 have loop:∀ s4:Shared,s4={ s3 with heap:=h₁,toks:=s3.toks }→
   codeAny (model X.prog X.w) X.A (.compLoop (.ListComp elt [⟨tg,iter,ifs,0⟩] scope pos) 0 (.ref it) (.ref s.heap.objs.size) (compEnvC scope cl s3.heap.objs.size X.env)) (RR (.ref s.heap.objs.size) s3.heap.objs.size) s4:=by
  intro s4 hs4
  refine compLoop_any (fun n s'=>∃ i ys σ' H',Inv (cxC X N' scope cl fp s3 (upd H s.heap.objs.size (.lst []))) [] σ' H' s'∧tn i s'.heap∧(∀ b∈fp,H' b=none)∧W i n ys σ' H') ?_ m0
   ⟨0,[],frσ fr σ,_,by rw[hs4];exact I4,by rw[hs4];exact T.keep _ _ _ st fun b _ o e=>old3 b o (old b o e),fun b hb=>(hf3 b hb).1,w0⟩
  rintro n s5 ⟨i,ys,σ5,H5,I5,st5,fr5,w5⟩
  rcases turn i n ys σ5 H5 w5 with ⟨stop,qn⟩ | ⟨go,N,hN,step⟩
  ·refine d8 (T.done (cxC X N' scope cl fp s3 (upd H s.heap.objs.size (.lst []))) rfl rfl rfl hc i [] s5 σ5 H5 _ I5 (stat fr5) st5 stop) fun r s6 ⟨hr,I6⟩=>?_
   subst hr
   obtain⟨m',hm',_⟩:=I6.loc
   exact hRR _ _ H5 s6 m' (I3.outC I6 hf3) qn hm' (I3.fpOk (Nat.le_refl _) I6.free)
  ·refine d8 (T.item (cxC X N' scope cl fp s3 (upd H s.heap.objs.size (.lst []))) rfl rfl rfl hc i [] s5 σ5 H5 _ I5 (stat fr5) st5 go) fun r s6 ⟨u,hr,h6⟩=>?_
   subst hr
   refine d8 h6 fun _ s7 ⟨x,H7,I7,r7,y7,st7,fr7⟩=>?_
   have I7':=I7.pinned (stat fr7) (T.obj _ _ st7)
   refine wpAny_mono (hg fp s3 _ _ s7 σ5 H7 x u _ I7' r7 (step x H7 y7)) (fun _ s8 ⟨σ8,H8,I8,q8⟩=>?_) fun e s' z=>(hx e s' z).elim
   refine wpAny_mono (ht fp s3 _ _ s8 σ8 H8 _ I8 q8) (fun ok s9 ⟨H9,I9,q9⟩=>?_) fun e s' z=>(hx e s' z).elim
   have again:∀ {s10:Shared}{H10:Hp}{ys':List V},Inv (cxC X N' scope cl fp s3 (upd H s.heap.objs.size (.lst []))) ([]++pinsAt fp s7.heap) σ8 H10 s10→N ys' σ8 H10→
     ∃ m,m < n∧∃ i ys σ' H',Inv (cxC X N' scope cl fp s3 (upd H s.heap.objs.size (.lst []))) [] σ' H' s10∧tn i s10.heap∧(∀ b∈fp,H' b=none)∧W i m ys σ' H':=fun {s10 H10 ys'} I10 n10=>by
    obtain⟨m',hm,w10⟩:=hN ys' σ8 H10 n10
    refine⟨m',hm,i+1,ys',σ8,H10,I10.unpinned,T.keep _ _ _ st7 fun b hb o e=>(I10.pin (b,o) (List.mem_append_right _ (List.mem_append_right _ (mem_pinsAt hb e)))).1,fun b hb=>?_,w10⟩
    obtain⟨o,e,d⟩:=T.obj _ _ st7 b hb
    exact (I10.pin (b,o) (List.mem_append_right _ (List.mem_append_right _ (mem_pinsAt hb e)))).2.1
   cases ok with
   | false=>
    rw[if_neg Bool.false_ne_true] at q9 ⊢
    exact again I9 q9
   | true=>
    rw[if_pos rfl] at q9 ⊢
    refine wpAny_mono (he fp s3 _ _ s9 σ8 H9 _ I9 q9) (fun y s10 ⟨yv,H10,I10,r10,hD,hlen,q10⟩=>?_) fun e s' z=>(hx e s' z).elim
    refine wpAny_mono (cD (X:=cxC X N' scope cl fp s3 (upd H s.heap.objs.size (.lst []))) _ s10 σ8 H10 (.ref s.heap.objs.size) [yv] (.ref s.heap.objs.size) [y] (fun _ H11=>H11=upd H10 s.heap.objs.size (.lst (ys++[yv]))) I10 rfl (.cons r10 .nil)
     ⟨_,ys,yv,rfl,rfl,hD,hlen,rfl⟩) (fun _ s11 ⟨_,H11,I11,_,e11⟩=>?_) fun e s' z=>(hx e s' z).elim
    subst e11
    exact again I11 q10
 exact codeAny_compStart_list (loop _ (by rw[← e3s];rfl)) (T.self X.A 0 _ _ _ (T.keep _ _ _ st fun b _ o e=>old3 b o (old b o e)) (loop _ (by rw[← e3s];rfl)))
theorem pe_lc {elt tg iter:Expr}{ifs:List Expr}{scope:Scope}{pos:Pos}{N':List Str}{fr:List (Option Nat)}{cl:List (Str×Addr)}{wi:TI}{g:TG}{tc:TT}{te:TE}
  (hx:∀ e s,¬ X.xe e s) (hc:X.calm=true) (S:LcOk X scope cl N' fr) (hi:PI X tg iter wi)
  (hg:∀ fp s H,PG (cxC X N' scope cl fp s H) tg g) (ht:∀ fp s H,PIf (cxC X N' scope cl fp s H) ifs tc) (he:∀ fp s H,PE (cxC X N' scope cl fp s H) elt te)
  (hs:∀ x,foldedSetIterable iter X.env x=pure x:=by intro _;rfl):PE X (.ListComp elt [⟨tg,iter,ifs,0⟩] scope pos) (tLC wi fr g tc te):=by
 intro pins s σ H Q I h
 have hloc:=S.locs
 rw[List.all_eq_true] at hloc
 rw[eval_ListComp]
 refine wpAny_comprehension_free (use:=none) rfl hs S.clos S.kind (fun x hx' hl=>by have:=hloc x hx';rw[hl] at this;simpa using this) (d8 (hi pins s σ H _ I h) fun v s1 h1=>d8 h1 fun itv s2 h2=>?_)
 obtain⟨it,fp,tn,J,H2,e,I2,T,st2,f2,rest⟩:=h2
 subst e
 refine lc_block (RR:=fun acc C=>compPost (model X.prog X.w) X.A X.xe none (EP X pins σ Q) acc C) hx hc S hg ht he I2 T st2 f2 rest ?_
 intro D C H' s' m' I' q hn f
 exact⟨m',hn,fun h' hsb=>⟨.ref D,H',I'.letgo f hsb,rfl,q⟩⟩
theorem ps_set_lc {i:Nat}{y:Str}{py:Pos}{spos:Pos}{elt tg iter:Expr}{ifs:List Expr}{scope:Scope}{pos:Pos}{N':List Str}{fr:List (Option Nat)}{cl:List (Str×Addr)}{wi:TI}{g:TG}{tc:TT}{te:TE}
  (hN:X.N.Nodup) (hy:X.N[i]? = some y) (hk:X.env.scope.names.lookup y=some .local)
  (hx:∀ e s,¬ X.xe e s) (hc:X.calm=true) (S:LcOk X scope cl N' fr) (hi:PI X tg iter wi)
  (hg:∀ fp s H,PG (cxC X N' scope cl fp s H) tg g) (ht:∀ fp s H,PIf (cxC X N' scope cl fp s H) ifs tc) (he:∀ fp s H,PE (cxC X N' scope cl fp s H) elt te)
  (hsw:swapsWith (.ListComp elt [⟨tg,iter,ifs,0⟩] scope pos) (some (.Name y py)) spos.line X.env=pure true:=by rfl)
  (hs:∀ x,foldedSetIterable iter X.env x=pure x:=by intro _;rfl):PS X (.Assign [.Name y py] (.ListComp elt [⟨tg,iter,ifs,0⟩] scope pos) spos) (tAsg (tLC wi fr g tc te) (eZ i)):=by
 intro pins s σ H D I h
 have hloc:=S.locs
 rw[List.all_eq_true] at hloc
 rw[exec_Assign_Name_used _ _ _ _ hsw]
 refine wpAny_bind (wpAny_standAt (wpAny_bind ?_))
 show wpAny _ X.A (do let _ ← comprehension (.ListComp elt [⟨tg,iter,ifs,0⟩] scope pos) scope X.env _ (newList []) false (eval iter X.env) (some (assign (.Name y py) X.env))) _ _ s
 refine wpAny_bind (wpAny_mono (wpAny_comprehension_free (use:=some (assign (.Name y py) X.env)) (Q:=fun _ s'=>SP X pins D .next s') rfl hs S.clos S.kind (fun x hx' hl=>by have:=hloc x hx';rw[hl] at this;simpa using this)
  (d8 (hi pins s σ H _ I h) fun v s1 h1=>d8 h1 fun itv s2 h2=>?_)) (fun _ s' hq=>wpAny_pure (wpAny_pure hq)) fun _ _ e=>e)
 obtain⟨it,fp,tn,J,H2,e,I2,T,st2,f2,rest⟩:=h2
 subst e
 refine lc_block (RR:=fun acc C=>compPost (model X.prog X.w) X.A X.xe (some (assign (.Name y py) X.env)) (fun _ s'=>SP X pins D .next s') acc C) hx hc S hg ht he I2 T st2 f2 rest ?_
 intro Da C H' s' m' I' q hn f
 show wpAny _ X.A (assign (.Name y py) X.env (.ref Da)) _ _ _
 refine wpAny_assign_Name (store_ok2 I' hN hy (.inl hk) (v:=.ref Da) rfl (fun s'' I'' hch=>?_) (.inr hk))
 obtain⟨a,hsb,ha⟩:=hch
 have haC:a≠C:=by
  rcases ha with e | e
  ·rw[e];exact Ne.symm f.2.1
  ·exact f.2.2.2.2.1 _ _ e
 exact⟨m',hn.sameBut hsb (Ne.symm haC),fun h' hs'=>⟨_,H',I''.letgo f hs',q⟩⟩
end
end L2
namespace TwZ
open PySem
open Sem (wp)
noncomputable def dG (h:Heap) (t:Bool) (it a:Addr) (i:Nat):Prop:=if t=true then h.IsTupleIter it a i else h.IsListIter it a i
noncomputable def cC (h:Heap) (t:Bool) (a:Addr) (items:Array Value):Prop:=if t=true then h.IsTuple a items else h.IsList a items
theorem dG.at {h h':Heap}{t:Bool}{it a:Addr}{i:Nat} (x:dG h t it a i) (k:∀ o,h.get? it=some o→h'.get? it=some o):dG h' t it a i:=by
 cases t <;> (obtain⟨o,ho,r⟩:=x;exact⟨o,k o ho,r⟩)
theorem ex {h h':Heap}{b c:Addr}{o:Obj} (hs:Heap.SameBut b h h') (hc:@Ne Nat c b) (e:h.get? c=some o):h'.get? c=some o:=hs.extBut _ _ hc e
theorem dG.ext {h h':Heap}{t:Bool}{it a b:Addr}{i:Nat} (x:dG h t it a i) (hs:Heap.SameBut b h h') (hab:@Ne Nat it b):dG h' t it a i:=x.at fun o e=>hs.extBut _ _ hab e
theorem cC.at {h h':Heap}{t:Bool}{a:Addr}{xs:Array Value} (x:cC h t a xs) (k:∀ o,h.get? a=some o→h'.get? a=some o):cC h' t a xs:=by
 cases t <;> (obtain⟨o,ho,r⟩:=x;exact⟨o,k o ho,r⟩)
theorem cC.ext {h h':Heap}{t:Bool}{a b:Addr}{xs:Array Value} (x:cC h t a xs) (hs:Heap.SameBut b h h') (hab:@Ne Nat a b):cC h' t a xs:=x.at fun o e=>hs.extBut _ _ hab e
theorem cC.lt {h:Heap}{t:Bool}{a:Addr}{xs:Array Value} (x:cC h t a xs):a < h.objs.size:=by
 cases t <;> (obtain⟨o,ho,r⟩:=x;exact Heap.lt_size ho)
theorem dG.obj {h:Heap}{t:Bool}{it a:Addr}{i:Nat} (x:dG h t it a i):∃ o,h.get? it=some o∧∀ v,o.data≠.cell v:=by
 cases t <;> (obtain⟨o,ho,_,d⟩:=x;exact⟨o,ho,fun v z=>by rw[d] at z;cases z⟩)
section
variable {prog:Program}{w:World}{M:Model}{A:Around}{E:Value→Shared→Prop}{s:Shared}
theorem wpAny_alive {a:Addr}{Q:Option Obj→Shared→Prop} (h:Q (s.heap.get? a) s):wpAny M A (loadIfAlive a) Q E s:=fun Γ p _=>by
 unfold loadIfAlive
 rw[Sem.wp_loadIfAlive]
 exact h
theorem nextOf_tuple_item {it l:Addr}{i:Nat}{items}{x:Value}{Q:Value→Shared→Prop} (hit:s.heap.IsTupleIter it l i)
  (hl:s.heap.IsTuple l items) (hx:items[i]? = some x)
  (hQ:∀ h',h'.IsTupleIter it l (i+1)→Heap.SameBut it s.heap h'→Q x { s with heap:=h' }) :
  wpAny (model prog w) A (Builtin.SmallTypes.nextOf (.ref it)) Q E s:=by
 obtain⟨o,ho,hc,hd⟩:=id hit
 obtain⟨ol,hol,_,nl,hdl⟩:=hl
 unfold Builtin.SmallTypes.nextOf
 refine wpAny_bind (wpAny_callSpecial?_slot (name:=Str.ofString "__next__") hit.typeIs F.slot_tuple_iterator_next
  (wpAny_call_entry F.slot_tuple_iterator_next hit.typeIs F.entry_tuple_iterator_next ?_ (F.args_tuple_iterator_next_1 _)))
 show wpAny _ _ (field (.ref it) 0 >>= _) _ _ s
 refine wpAny_bind (wpAny_field ho hd (x:=.ref l) rfl ?_)
 show wpAny _ _ (if (Value.ref l == Value.none)=true then _ else _) _ _ s
 rw[if_neg (show ¬ ((Value.ref l == Value.none)=true) from Bool.false_ne_true)]
 show wpAny _ _ (field (.ref it) 1 >>= _) _ _ s
 refine wpAny_bind (wpAny_field ho hd (x:=.int i 0) rfl ?_)
 show wpAny _ _ (seqItems? (.ref l) >>= _) _ _ s
 refine wpAny_bind (wpAny_seqItems hol hdl ?_)
 simp only [Int.toNat_natCast,hx]
 refine wpAny_bind (wpAny_setField ho hd (by simp) (wpAny_pure ⟨x,rfl,wpAny_pure (hQ _ ?_ (Heap.SameBut.update ..))⟩))
 exact⟨_,Heap.get?_update_self _ ho (Obj.isFreed_of_fields (Obj.data_mapFields hd _)),(Obj.cls_mapFields ..).trans hc,by
  rw[Obj.data_mapFields hd];simp [rawInt]⟩
theorem nextOf_tuple_end {it l:Addr}{i:Nat}{items}{Q:Value→Shared→Prop} (hh:A.handled=none)
  (hit:s.heap.IsTupleIter it l i) (hl:s.heap.IsTuple l items) (hx:items[i]? = none)
  (hE:∀ h' e,Heap.ExtBut it s.heap h'→(∃ o,h'.get? e=some o∧o.cls=.type "StopIteration")→E (.ref e) { s with heap:=h' }) :
  wpAny (model prog w) A (Builtin.SmallTypes.nextOf (.ref it)) Q E s:=by
 obtain⟨o,ho,hc,hd⟩:=id hit
 obtain⟨ol,hol,_,nl,hdl⟩:=hl
 unfold Builtin.SmallTypes.nextOf
 refine wpAny_bind (wpAny_callSpecial?_slot (name:=Str.ofString "__next__") hit.typeIs F.slot_tuple_iterator_next
  (wpAny_call_entry F.slot_tuple_iterator_next hit.typeIs F.entry_tuple_iterator_next ?_ (F.args_tuple_iterator_next_1 _)))
 show wpAny _ _ (field (.ref it) 0 >>= _) _ _ s
 refine wpAny_bind (wpAny_field ho hd (x:=.ref l) rfl ?_)
 show wpAny _ _ (if (Value.ref l == Value.none)=true then _ else _) _ _ s
 rw[if_neg (show ¬ ((Value.ref l == Value.none)=true) from Bool.false_ne_true)]
 show wpAny _ _ (field (.ref it) 1 >>= _) _ _ s
 refine wpAny_bind (wpAny_field ho hd (x:=.int i 0) rfl ?_)
 show wpAny _ _ (seqItems? (.ref l) >>= _) _ _ s
 refine wpAny_bind (wpAny_seqItems hol hdl ?_)
 simp only [Int.toNat_natCast,hx]
 refine wpAny_bind (wpAny_rule (wpAny_bind (wpAny_setField ho hd (by simp) ?_)))
 show wpAny _ _ (newExc (.type "StopIteration") [] >>= _) _ _ _
 refine wpAny_bind ?_
 simp only [newExc,newTuple]
 refine wpAny_bind (wpAny_newObj_type ?_ (by size_fits))
 refine wpAny_bind (m:=firstArgMember _ _) (wpAny_of_eq (a:=Value.none) (by first | rfl | (simp only [firstArgMember];rfl)) ?_)
 refine wpAny_newObj_type ?_ (by size_fits)
 simp only [raiseNew]
 refine wpAny_bind (wpAny_handled ?_)
 first | rw[show A.in1.handled=none from hh] | rw[hh]
 refine wpAny_bind (wpAny_pure (wpAny_throw ?_))
 exact hE _ _ (((Heap.SameBut.update ..).extBut.push _).push _) ⟨_,Heap.get?_push_size _ rfl,rfl⟩
theorem bS {t:Bool}{it l:Addr}{i:Nat}{items}{x:Value}{Q:Value→Shared→Prop} (hit:dG s.heap t it l i)
  (hl:cC s.heap t l items) (hx:items[i]? = some x)
  (hQ:∀ h',dG h' t it l (i+1)→Heap.SameBut it s.heap h'→Q x { s with heap:=h' }) :
  wpAny (model prog w) A (Builtin.SmallTypes.nextOf (.ref it)) Q E s:=by
 cases t with
 | true=>exact nextOf_tuple_item hit hl hx hQ
 | false=>exact wpAny_nextOf_list_item hit hl hx hQ
theorem d7 {t:Bool}{it l:Addr}{i:Nat}{items}{Q:Value→Shared→Prop} (hh:A.handled=none)
  (hit:dG s.heap t it l i) (hl:cC s.heap t l items) (hx:items[i]? = none)
  (hE:∀ h' e,Heap.ExtBut it s.heap h'→(∃ o,h'.get? e=some o∧o.cls=.type "StopIteration")→E (.ref e) { s with heap:=h' }) :
  wpAny (model prog w) A (Builtin.SmallTypes.nextOf (.ref it)) Q E s:=by
 cases t with
 | true=>exact nextOf_tuple_end hh hit hl hx hE
 | false=>exact wpAny_nextOf_list_end hh hit hl hx hE
noncomputable abbrev IsZ (h:Heap) (z TI TO:Addr) (f0:Value) (f1:Bool):Prop:=
 h.get? z=some { cls:=.type "zip",dict:=none,data:=.fields #[f0,.bool f1,.bool false,.ref TI,.ref TO],slots:=#[] }
noncomputable abbrev dC (h:Heap) (T:Addr) (vs:Array Value):Prop:=h.get? T=some { cls:=.type "tuple",data:=.seq vs }
noncomputable def Free0 (f0:Value):Prop:=f0=.none∨∃ a:Int,f0=.int a 0
theorem owned_free {z TI TO:Addr}{f0:Value}{f1:Bool}{Q:Bool→Shared→Prop} (hz:IsZ s.heap z TI TO f0 f1) (hf:Free0 f0) (yes:Q true s)
  (no:∀ h',IsZ h' z TI TO f0 true→Heap.SameBut z s.heap h'→Q false { s with heap:=h' }):wpAny (model prog w) A (Builtin.SmallTypes.ownedTupleIsFree (.ref z)) Q E s:=by
 unfold Builtin.SmallTypes.ownedTupleIsFree
 refine wpAny_bind (wpAny_field hz rfl (x:=f0) rfl ?_)
 rcases hf with rfl | ⟨a,rfl⟩
 ·exact wpAny_pure yes
 ·refine wpAny_bind (wpAny_alive ?_)
  cases h:s.heap.get? a.toNat with
  | none=>exact wpAny_pure yes
  | some o=>
   show wpAny _ _ (field (.ref z) 1 >>= _) _ _ _
   refine wpAny_bind (wpAny_field hz rfl (x:=.bool f1) rfl ?_)
   cases f1 with
   | true=>exact wpAny_pure (no s.heap hz (Heap.SameBut.refl ..))
   | false=>
    show wpAny _ _ (setField (.ref z) 1 (.bool true) >>= _) _ _ _
    refine wpAny_bind (wpAny_setField_rec hz (by simp) fun h₁ hz₁ hs₁=>wpAny_pure (no h₁ hz₁ hs₁))
theorem handOut {z TI TO:Addr}{f0:Value}{f1:Bool}{T:Addr}{Q:Unit→Shared→Prop} (hz:IsZ s.heap z TI TO f0 f1)
  (h:∀ h',IsZ h' z TI TO (rawInt T) false→Heap.SameBut z s.heap h'→Q () { s with heap:=h' }):wpAny (model prog w) A (Builtin.SmallTypes.ownedTupleHandOut (.ref z) (.ref T)) Q E s:=by
 unfold Builtin.SmallTypes.ownedTupleHandOut
 refine wpAny_bind (wpAny_setField_rec hz (by simp) fun h₁ hz₁ hs₁=>?_)
 replace hz₁:IsZ h₁ z TI TO (rawInt T) f1:=hz₁
 refine wpAny_setField_rec hz₁ (by simp) fun h₂ hz₂ hs₂=>?_
 exact h h₂ hz₂ (Heap.SameBut.trans hs₁ hs₂)
theorem seq_set {T:Addr}{vs:Array Value}{x:Value}{k:Nat}{Q:Unit→Shared→Prop} (hT:dC s.heap T vs) (h3:vs.size≤3)
  (h:∀ h',dC h' T (vs.setIfInBounds k x)→Heap.SameBut T s.heap h'→Q () { s with heap:=h' }):wpAny (model prog w) A (updateSeq T (·.setIfInBounds k x)) Q E s:=by
 have hl:vs.size≤sizeLine:=Nat.le_trans h3 (by decide)
 refine wpAny_updateSeq (hz:=hl) (_hz':=by rw[Array.size_setIfInBounds];omega) hT rfl (h _ ?_ (Heap.SameBut.update ..))
 show Heap.get? _ _=_
 rw[Heap.get?_update_self _ hT rfl]
 simp [Obj.mapSeq]
theorem nn {n i j:Nat} (h:i≠j):n+i≠n+j:=fun e=>h (Nat.add_left_cancel e)
theorem n0 {n j:Nat} (h:0 < j):n≠n+j:=fun e=>absurd e (Nat.ne_of_lt (Nat.lt_add_of_pos_right h))
theorem bB {n j:Nat} (h:0 < j):n+j≠n:=Ne.symm (n0 h)
theorem al {a n:Nat} (h:a < n) (j:Nat):a≠n+j:=Nat.ne_of_lt (Nat.lt_of_lt_of_le h (Nat.le_add_right n j))
theorem aN {a n:Nat} (h:a < n):a≠n:=Nat.ne_of_lt h
theorem co {c n m k:Nat} (h:c < n∨n+m < c) (hk:k≤m):c≠n+k:=fun e=>h.elim (fun h=>absurd e (al h k)) fun h=>absurd (Nat.lt_of_le_of_lt (Nat.add_le_add_left hk n) h) (by rw[e];exact Nat.lt_irrefl _)
theorem bC {c n m:Nat} (h:c < n∨n+m < c):c≠n:=co (k:=0) h (Nat.zero_le m)
theorem zip3_next {n a1 a2 a3:Nat}{t1 t2 t3:Bool}{k:Nat}{xs ys zs:Array Value}{x y z c1 c2 c3 f0:Value}{f1:Bool}{Q:Value→Shared→Prop} (hf:Free0 f0)
  (hz:IsZ s.heap (n+5) (n+3) (n+4) f0 f1) (hTI:dC s.heap (n+3) #[.ref n,.ref (n+1),.ref (n+2)]) (hTO:dC s.heap (n+4) #[c1,c2,c3])
  (i1:dG s.heap t1 n a1 k) (i2:dG s.heap t2 (n+1) a2 k) (i3:dG s.heap t3 (n+2) a3 k) (s1:cC s.heap t1 a1 xs) (s2:cC s.heap t2 a2 ys) (s3:cC s.heap t3 a3 zs)
  (l1:a1 < n) (l2:a2 < n) (l3:a3 < n) (hx:xs[k]? = some x) (hy:ys[k]? = some y) (hw:zs[k]? = some z)
  (hQ:∀ (T:Nat) h' f0' f1' d1 d2 d3,s.heap.objs.size≤T→Free0 f0'→IsZ h' (n+5) (n+3) (n+4) f0' f1'→dC h' (n+3) #[.ref n,.ref (n+1),.ref (n+2)]→dC h' (n+4) #[d1,d2,d3]→
   dG h' t1 n a1 (k+1)→dG h' t2 (n+1) a2 (k+1)→dG h' t3 (n+2) a3 (k+1)→dC h' T #[x,y,z]→
   (∀ (c:Nat) o,(c < n∨n+5 < c)→s.heap.get? c=some o→h'.get? c=some o)→Q (.ref T) { s with heap:=h' }) :
  wpAny (model prog w) A (Builtin.«zip.__next__» ⟨[.ref (n+5)],[]⟩) (fun fin s'=>∃ v,fin=.done (.ret v)∧Q v s') E s:=by
 have hzlt:n+5 < s.heap.objs.size:=Heap.lt_size hz
 show wpAny _ _ (field (.ref (n+5)) 2 >>= _) _ _ _
 refine wpAny_bind (wpAny_field hz rfl (x:=.bool false) rfl ?_)
 show wpAny _ _ (field (.ref (n+5)) 3 >>= _) _ _ _
 refine wpAny_bind (wpAny_field hz rfl (x:=.ref (n+3)) rfl ?_)
 refine wpAny_bind (wpAny_seqItems hTI rfl ?_)
 show wpAny _ _ (Builtin.SmallTypes.ownedTupleIsFree (.ref (n+5)) >>= _) _ _ _
 refine wpAny_bind (owned_free hz hf ?_ ?_)
 ·simp only [if_true]
  refine wpAny_bind (wpAny_rule ?_)
  refine wpAny_bind (wpAny_field hz rfl (x:=.ref (n+4)) rfl ?_)
  refine wpAny_bind (wpAny_setField_rec hz (by simp) fun h₁ hz₁ hs₁=>?_)
  replace hz₁:IsZ h₁ (n+5) (n+3) (n+4) .ellipsis f1:=hz₁
  refine wpAny_bind ?_
  simp only [List.zipIdx_cons,List.zipIdx_nil,List.forIn_cons,List.forIn_nil]
  refine wpAny_bind (wpAny_bind (wpAny_onRaise ?_))
  show wpAny _ _ (Builtin.SmallTypes.nextOf (.ref n) >>= _) _ _ _
  refine wpAny_bind (bS (i1.ext hs₁ (by first | exact nn (by decide) | exact n0 (by decide) | exact bB (by decide) | exact al l1 _ | exact al l2 _ | exact al l3 _ | exact aN l1 | exact aN l2 | exact aN l3 | exact co hc (by decide) | exact bC hc | omega)) (s1.ext hs₁ (by first | exact nn (by decide) | exact n0 (by decide) | exact bB (by decide) | exact al l1 _ | exact al l2 _ | exact al l3 _ | exact aN l1 | exact aN l2 | exact aN l3 | exact co hc (by decide) | exact bC hc | omega)) hx fun h₂ i1₂ hs₂=>wpAny_pure ?_)
  have hTO₂:dC h₂ (n+4) #[c1,c2,c3]:=ex hs₂ (by first | exact nn (by decide) | exact n0 (by decide) | exact bB (by decide) | exact al l1 _ | exact al l2 _ | exact al l3 _ | exact aN l1 | exact aN l2 | exact aN l3 | exact co hc (by decide) | exact bC hc | omega) (ex hs₁ (by first | exact nn (by decide) | exact n0 (by decide) | exact bB (by decide) | exact al l1 _ | exact al l2 _ | exact al l3 _ | exact aN l1 | exact aN l2 | exact aN l3 | exact co hc (by decide) | exact bC hc | omega) hTO)
  refine wpAny_bind (wpAny_seqItems hTO₂ rfl ?_)
  refine wpAny_bind (seq_set hTO₂ (by simp) fun h₃ hTO₃ hs₃=>?_)
  replace hTO₃:dC h₃ (n+4) #[x,c2,c3]:=hTO₃
  refine wpAny_bind (wpAny_letGo (wpAny_pure ?_))
  refine wpAny_bind (wpAny_bind (wpAny_onRaise ?_))
  show wpAny _ _ (Builtin.SmallTypes.nextOf (.ref (n+1)) >>= _) _ _ _
  refine wpAny_bind (bS (((i2.ext hs₁ (by first | exact nn (by decide) | exact n0 (by decide) | exact bB (by decide) | exact al l1 _ | exact al l2 _ | exact al l3 _ | exact aN l1 | exact aN l2 | exact aN l3 | exact co hc (by decide) | exact bC hc | omega)).ext hs₂ (by first | exact nn (by decide) | exact n0 (by decide) | exact bB (by decide) | exact al l1 _ | exact al l2 _ | exact al l3 _ | exact aN l1 | exact aN l2 | exact aN l3 | exact co hc (by decide) | exact bC hc | omega)).ext hs₃ (by first | exact nn (by decide) | exact n0 (by decide) | exact bB (by decide) | exact al l1 _ | exact al l2 _ | exact al l3 _ | exact aN l1 | exact aN l2 | exact aN l3 | exact co hc (by decide) | exact bC hc | omega)) (((s2.ext hs₁ (by first | exact nn (by decide) | exact n0 (by decide) | exact bB (by decide) | exact al l1 _ | exact al l2 _ | exact al l3 _ | exact aN l1 | exact aN l2 | exact aN l3 | exact co hc (by decide) | exact bC hc | omega)).ext hs₂ (by first | exact nn (by decide) | exact n0 (by decide) | exact bB (by decide) | exact al l1 _ | exact al l2 _ | exact al l3 _ | exact aN l1 | exact aN l2 | exact aN l3 | exact co hc (by decide) | exact bC hc | omega)).ext hs₃ (by first | exact nn (by decide) | exact n0 (by decide) | exact bB (by decide) | exact al l1 _ | exact al l2 _ | exact al l3 _ | exact aN l1 | exact aN l2 | exact aN l3 | exact co hc (by decide) | exact bC hc | omega)) hy fun h₄ i2₄ hs₄=>wpAny_pure ?_)
  have hTO₄:dC h₄ (n+4) #[x,c2,c3]:=ex hs₄ (by first | exact nn (by decide) | exact n0 (by decide) | exact bB (by decide) | exact al l1 _ | exact al l2 _ | exact al l3 _ | exact aN l1 | exact aN l2 | exact aN l3 | exact co hc (by decide) | exact bC hc | omega) hTO₃
  refine wpAny_bind (wpAny_seqItems hTO₄ rfl ?_)
  refine wpAny_bind (seq_set hTO₄ (by simp) fun h₅ hTO₅ hs₅=>?_)
  replace hTO₅:dC h₅ (n+4) #[x,y,c3]:=hTO₅
  refine wpAny_bind (wpAny_letGo (wpAny_pure ?_))
  refine wpAny_bind (wpAny_bind (wpAny_onRaise ?_))
  show wpAny _ _ (Builtin.SmallTypes.nextOf (.ref (n+2)) >>= _) _ _ _
  refine wpAny_bind (bS (((((i3.ext hs₁ (by first | exact nn (by decide) | exact n0 (by decide) | exact bB (by decide) | exact al l1 _ | exact al l2 _ | exact al l3 _ | exact aN l1 | exact aN l2 | exact aN l3 | exact co hc (by decide) | exact bC hc | omega)).ext hs₂ (by first | exact nn (by decide) | exact n0 (by decide) | exact bB (by decide) | exact al l1 _ | exact al l2 _ | exact al l3 _ | exact aN l1 | exact aN l2 | exact aN l3 | exact co hc (by decide) | exact bC hc | omega)).ext hs₃ (by first | exact nn (by decide) | exact n0 (by decide) | exact bB (by decide) | exact al l1 _ | exact al l2 _ | exact al l3 _ | exact aN l1 | exact aN l2 | exact aN l3 | exact co hc (by decide) | exact bC hc | omega)).ext hs₄ (by first | exact nn (by decide) | exact n0 (by decide) | exact bB (by decide) | exact al l1 _ | exact al l2 _ | exact al l3 _ | exact aN l1 | exact aN l2 | exact aN l3 | exact co hc (by decide) | exact bC hc | omega)).ext hs₅ (by first | exact nn (by decide) | exact n0 (by decide) | exact bB (by decide) | exact al l1 _ | exact al l2 _ | exact al l3 _ | exact aN l1 | exact aN l2 | exact aN l3 | exact co hc (by decide) | exact bC hc | omega))
   (((((s3.ext hs₁ (by first | exact nn (by decide) | exact n0 (by decide) | exact bB (by decide) | exact al l1 _ | exact al l2 _ | exact al l3 _ | exact aN l1 | exact aN l2 | exact aN l3 | exact co hc (by decide) | exact bC hc | omega)).ext hs₂ (by first | exact nn (by decide) | exact n0 (by decide) | exact bB (by decide) | exact al l1 _ | exact al l2 _ | exact al l3 _ | exact aN l1 | exact aN l2 | exact aN l3 | exact co hc (by decide) | exact bC hc | omega)).ext hs₃ (by first | exact nn (by decide) | exact n0 (by decide) | exact bB (by decide) | exact al l1 _ | exact al l2 _ | exact al l3 _ | exact aN l1 | exact aN l2 | exact aN l3 | exact co hc (by decide) | exact bC hc | omega)).ext hs₄ (by first | exact nn (by decide) | exact n0 (by decide) | exact bB (by decide) | exact al l1 _ | exact al l2 _ | exact al l3 _ | exact aN l1 | exact aN l2 | exact aN l3 | exact co hc (by decide) | exact bC hc | omega)).ext hs₅ (by first | exact nn (by decide) | exact n0 (by decide) | exact bB (by decide) | exact al l1 _ | exact al l2 _ | exact al l3 _ | exact aN l1 | exact aN l2 | exact aN l3 | exact co hc (by decide) | exact bC hc | omega)) hw fun h₆ i3₆ hs₆=>wpAny_pure ?_)
  have hTO₆:dC h₆ (n+4) #[x,y,c3]:=ex hs₆ (by first | exact nn (by decide) | exact n0 (by decide) | exact bB (by decide) | exact al l1 _ | exact al l2 _ | exact al l3 _ | exact aN l1 | exact aN l2 | exact aN l3 | exact co hc (by decide) | exact bC hc | omega) hTO₅
  refine wpAny_bind (wpAny_seqItems hTO₆ rfl ?_)
  refine wpAny_bind (seq_set hTO₆ (by simp) fun h₇ hTO₇ hs₇=>?_)
  replace hTO₇:dC h₇ (n+4) #[x,y,z]:=hTO₇
  refine wpAny_bind (wpAny_letGo (wpAny_pure (wpAny_pure ?_)))
  refine wpAny_bind (wpAny_seqItems hTO₇ rfl ?_)
  refine wpAny_bind (wpAny_newTuple ?_)
  have hsz:h₇.objs.size=s.heap.objs.size:=by rw[hs₇.1,hs₆.1,hs₅.1,hs₄.1,hs₃.1,hs₂.1,hs₁.1]
  have keep:∀ (c:Nat) o,(c < n∨n+5 < c)→s.heap.get? c=some o→h₇.get? c=some o:=fun c o hc e=>
   ex hs₇ (by first | exact nn (by decide) | exact n0 (by decide) | exact bB (by decide) | exact al l1 _ | exact al l2 _ | exact al l3 _ | exact aN l1 | exact aN l2 | exact aN l3 | exact co hc (by decide) | exact bC hc | omega) (ex hs₆ (by first | exact nn (by decide) | exact n0 (by decide) | exact bB (by decide) | exact al l1 _ | exact al l2 _ | exact al l3 _ | exact aN l1 | exact aN l2 | exact aN l3 | exact co hc (by decide) | exact bC hc | omega) (ex hs₅ (by first | exact nn (by decide) | exact n0 (by decide) | exact bB (by decide) | exact al l1 _ | exact al l2 _ | exact al l3 _ | exact aN l1 | exact aN l2 | exact aN l3 | exact co hc (by decide) | exact bC hc | omega) (ex hs₄ (by first | exact nn (by decide) | exact n0 (by decide) | exact bB (by decide) | exact al l1 _ | exact al l2 _ | exact al l3 _ | exact aN l1 | exact aN l2 | exact aN l3 | exact co hc (by decide) | exact bC hc | omega) (ex hs₃ (by first | exact nn (by decide) | exact n0 (by decide) | exact bB (by decide) | exact al l1 _ | exact al l2 _ | exact al l3 _ | exact aN l1 | exact aN l2 | exact aN l3 | exact co hc (by decide) | exact bC hc | omega) (ex hs₂ (by first | exact nn (by decide) | exact n0 (by decide) | exact bB (by decide) | exact al l1 _ | exact al l2 _ | exact al l3 _ | exact aN l1 | exact aN l2 | exact aN l3 | exact co hc (by decide) | exact bC hc | omega) (ex hs₁ (by first | exact nn (by decide) | exact n0 (by decide) | exact bB (by decide) | exact al l1 _ | exact al l2 _ | exact al l3 _ | exact aN l1 | exact aN l2 | exact aN l3 | exact co hc (by decide) | exact bC hc | omega) e))))))
  have hz₇:IsZ h₇ (n+5) (n+3) (n+4) .ellipsis f1:=ex hs₇ (by first | exact nn (by decide) | exact n0 (by decide) | exact bB (by decide) | exact al l1 _ | exact al l2 _ | exact al l3 _ | exact aN l1 | exact aN l2 | exact aN l3 | exact co hc (by decide) | exact bC hc | omega) (ex hs₆ (by first | exact nn (by decide) | exact n0 (by decide) | exact bB (by decide) | exact al l1 _ | exact al l2 _ | exact al l3 _ | exact aN l1 | exact aN l2 | exact aN l3 | exact co hc (by decide) | exact bC hc | omega) (ex hs₅ (by first | exact nn (by decide) | exact n0 (by decide) | exact bB (by decide) | exact al l1 _ | exact al l2 _ | exact al l3 _ | exact aN l1 | exact aN l2 | exact aN l3 | exact co hc (by decide) | exact bC hc | omega) (ex hs₄ (by first | exact nn (by decide) | exact n0 (by decide) | exact bB (by decide) | exact al l1 _ | exact al l2 _ | exact al l3 _ | exact aN l1 | exact aN l2 | exact aN l3 | exact co hc (by decide) | exact bC hc | omega) (ex hs₃ (by first | exact nn (by decide) | exact n0 (by decide) | exact bB (by decide) | exact al l1 _ | exact al l2 _ | exact al l3 _ | exact aN l1 | exact aN l2 | exact aN l3 | exact co hc (by decide) | exact bC hc | omega) (ex hs₂ (by first | exact nn (by decide) | exact n0 (by decide) | exact bB (by decide) | exact al l1 _ | exact al l2 _ | exact al l3 _ | exact aN l1 | exact aN l2 | exact aN l3 | exact co hc (by decide) | exact bC hc | omega) hz₁)))))
  have hTI₇:dC h₇ (n+3) #[.ref n,.ref (n+1),.ref (n+2)]:=ex hs₇ (by first | exact nn (by decide) | exact n0 (by decide) | exact bB (by decide) | exact al l1 _ | exact al l2 _ | exact al l3 _ | exact aN l1 | exact aN l2 | exact aN l3 | exact co hc (by decide) | exact bC hc | omega) (ex hs₆ (by first | exact nn (by decide) | exact n0 (by decide) | exact bB (by decide) | exact al l1 _ | exact al l2 _ | exact al l3 _ | exact aN l1 | exact aN l2 | exact aN l3 | exact co hc (by decide) | exact bC hc | omega) (ex hs₅ (by first | exact nn (by decide) | exact n0 (by decide) | exact bB (by decide) | exact al l1 _ | exact al l2 _ | exact al l3 _ | exact aN l1 | exact aN l2 | exact aN l3 | exact co hc (by decide) | exact bC hc | omega) (ex hs₄ (by first | exact nn (by decide) | exact n0 (by decide) | exact bB (by decide) | exact al l1 _ | exact al l2 _ | exact al l3 _ | exact aN l1 | exact aN l2 | exact aN l3 | exact co hc (by decide) | exact bC hc | omega) (ex hs₃ (by first | exact nn (by decide) | exact n0 (by decide) | exact bB (by decide) | exact al l1 _ | exact al l2 _ | exact al l3 _ | exact aN l1 | exact aN l2 | exact aN l3 | exact co hc (by decide) | exact bC hc | omega) (ex hs₂ (by first | exact nn (by decide) | exact n0 (by decide) | exact bB (by decide) | exact al l1 _ | exact al l2 _ | exact al l3 _ | exact aN l1 | exact aN l2 | exact aN l3 | exact co hc (by decide) | exact bC hc | omega) (ex hs₁ (by first | exact nn (by decide) | exact n0 (by decide) | exact bB (by decide) | exact al l1 _ | exact al l2 _ | exact al l3 _ | exact aN l1 | exact aN l2 | exact aN l3 | exact co hc (by decide) | exact bC hc | omega) hTI))))))
  have i1₇:=((((i1₂.ext hs₃ (by first | exact nn (by decide) | exact n0 (by decide) | exact bB (by decide) | exact al l1 _ | exact al l2 _ | exact al l3 _ | exact aN l1 | exact aN l2 | exact aN l3 | exact co hc (by decide) | exact bC hc | omega)).ext hs₄ (by first | exact nn (by decide) | exact n0 (by decide) | exact bB (by decide) | exact al l1 _ | exact al l2 _ | exact al l3 _ | exact aN l1 | exact aN l2 | exact aN l3 | exact co hc (by decide) | exact bC hc | omega)).ext hs₅ (by first | exact nn (by decide) | exact n0 (by decide) | exact bB (by decide) | exact al l1 _ | exact al l2 _ | exact al l3 _ | exact aN l1 | exact aN l2 | exact aN l3 | exact co hc (by decide) | exact bC hc | omega)).ext hs₆ (by first | exact nn (by decide) | exact n0 (by decide) | exact bB (by decide) | exact al l1 _ | exact al l2 _ | exact al l3 _ | exact aN l1 | exact aN l2 | exact aN l3 | exact co hc (by decide) | exact bC hc | omega)).ext hs₇ (by first | exact nn (by decide) | exact n0 (by decide) | exact bB (by decide) | exact al l1 _ | exact al l2 _ | exact al l3 _ | exact aN l1 | exact aN l2 | exact aN l3 | exact co hc (by decide) | exact bC hc | omega)
  have i2₇:=((i2₄.ext hs₅ (by first | exact nn (by decide) | exact n0 (by decide) | exact bB (by decide) | exact al l1 _ | exact al l2 _ | exact al l3 _ | exact aN l1 | exact aN l2 | exact aN l3 | exact co hc (by decide) | exact bC hc | omega)).ext hs₆ (by first | exact nn (by decide) | exact n0 (by decide) | exact bB (by decide) | exact al l1 _ | exact al l2 _ | exact al l3 _ | exact aN l1 | exact aN l2 | exact aN l3 | exact co hc (by decide) | exact bC hc | omega)).ext hs₇ (by first | exact nn (by decide) | exact n0 (by decide) | exact bB (by decide) | exact al l1 _ | exact al l2 _ | exact al l3 _ | exact aN l1 | exact aN l2 | exact aN l3 | exact co hc (by decide) | exact bC hc | omega)
  have i3₇:=i3₆.ext hs₇ (by first | exact nn (by decide) | exact n0 (by decide) | exact bB (by decide) | exact al l1 _ | exact al l2 _ | exact al l3 _ | exact aN l1 | exact aN l2 | exact aN l3 | exact co hc (by decide) | exact bC hc | omega)
  have hzlt₇:n+5 < h₇.objs.size:=by rw[hsz];exact hzlt
  have up:∀ {c o},h₇.get? c=some o→(h₇.push { cls:=.type "tuple",data:=.seq #[x,y,z] }).get? c=some o:=fun e=>Heap.get?_push_of_some _ e
  refine wpAny_bind (handOut (z:=n+5) (TI:=n+3) (TO:=n+4) (f0:=.ellipsis) (f1:=f1) (up hz₇) fun h₈ hz₈ hs₈=>?_)
  have up8:∀ {c:Nat}{o},c≠n+5→h₇.get? c=some o→h₈.get? c=some o:=fun hc e=>ex hs₈ hc (up e)
  refine wpAny_pure ⟨_,rfl,hQ h₇.objs.size h₈ (rawInt h₇.objs.size) false x y z (by rw[hsz];exact Nat.le_refl _) (.inr ⟨_,rfl⟩) hz₈ (up8 (by first | exact nn (by decide) | exact n0 (by decide) | exact bB (by decide) | exact al l1 _ | exact al l2 _ | exact al l3 _ | exact aN l1 | exact aN l2 | exact aN l3 | exact co hc (by decide) | exact bC hc | omega) hTI₇) (up8 (by first | exact nn (by decide) | exact n0 (by decide) | exact bB (by decide) | exact al l1 _ | exact al l2 _ | exact al l3 _ | exact aN l1 | exact aN l2 | exact aN l3 | exact co hc (by decide) | exact bC hc | omega) hTO₇) (i1₇.at fun o e=>up8 (by first | exact nn (by decide) | exact n0 (by decide) | exact bB (by decide) | exact al l1 _ | exact al l2 _ | exact al l3 _ | exact aN l1 | exact aN l2 | exact aN l3 | exact co hc (by decide) | exact bC hc | omega) e) (i2₇.at fun o e=>up8 (by first | exact nn (by decide) | exact n0 (by decide) | exact bB (by decide) | exact al l1 _ | exact al l2 _ | exact al l3 _ | exact aN l1 | exact aN l2 | exact aN l3 | exact co hc (by decide) | exact bC hc | omega) e) (i3₇.at fun o e=>up8 (by first | exact nn (by decide) | exact n0 (by decide) | exact bB (by decide) | exact al l1 _ | exact al l2 _ | exact al l3 _ | exact aN l1 | exact aN l2 | exact aN l3 | exact co hc (by decide) | exact bC hc | omega) e)
   (ex hs₈ (by first | exact nn (by decide) | exact n0 (by decide) | exact bB (by decide) | exact al l1 _ | exact al l2 _ | exact al l3 _ | exact aN l1 | exact aN l2 | exact aN l3 | exact co hc (by decide) | exact bC hc | omega) (Heap.get?_push_size _ rfl)) fun c o hc e=>up8 (by first | exact nn (by decide) | exact n0 (by decide) | exact bB (by decide) | exact al l1 _ | exact al l2 _ | exact al l3 _ | exact aN l1 | exact aN l2 | exact aN l3 | exact co hc (by decide) | exact bC hc | omega) (keep c o hc e)⟩
 ·intro h₁ hz₁ hs₁
  simp only [Bool.false_eq_true,if_false]
  refine wpAny_bind ?_
  rw[← Array.forIn_toList]
  simp only [List.forIn_cons,List.forIn_nil]
  refine wpAny_bind (wpAny_bind (wpAny_holding ?_))
  show wpAny _ _ (Builtin.SmallTypes.nextOf (.ref n) >>= _) _ _ _
  refine wpAny_bind (bS (i1.ext hs₁ (by first | exact nn (by decide) | exact n0 (by decide) | exact bB (by decide) | exact al l1 _ | exact al l2 _ | exact al l3 _ | exact aN l1 | exact aN l2 | exact aN l3 | exact co hc (by decide) | exact bC hc | omega)) (s1.ext hs₁ (by first | exact nn (by decide) | exact n0 (by decide) | exact bB (by decide) | exact al l1 _ | exact al l2 _ | exact al l3 _ | exact aN l1 | exact aN l2 | exact aN l3 | exact co hc (by decide) | exact bC hc | omega)) hx fun h₂ i1₂ hs₂=>wpAny_pure (wpAny_pure ?_))
  refine wpAny_bind (wpAny_bind (wpAny_holding ?_))
  show wpAny _ _ (Builtin.SmallTypes.nextOf (.ref (n+1)) >>= _) _ _ _
  refine wpAny_bind (bS ((i2.ext hs₁ (by first | exact nn (by decide) | exact n0 (by decide) | exact bB (by decide) | exact al l1 _ | exact al l2 _ | exact al l3 _ | exact aN l1 | exact aN l2 | exact aN l3 | exact co hc (by decide) | exact bC hc | omega)).ext hs₂ (by first | exact nn (by decide) | exact n0 (by decide) | exact bB (by decide) | exact al l1 _ | exact al l2 _ | exact al l3 _ | exact aN l1 | exact aN l2 | exact aN l3 | exact co hc (by decide) | exact bC hc | omega)) ((s2.ext hs₁ (by first | exact nn (by decide) | exact n0 (by decide) | exact bB (by decide) | exact al l1 _ | exact al l2 _ | exact al l3 _ | exact aN l1 | exact aN l2 | exact aN l3 | exact co hc (by decide) | exact bC hc | omega)).ext hs₂ (by first | exact nn (by decide) | exact n0 (by decide) | exact bB (by decide) | exact al l1 _ | exact al l2 _ | exact al l3 _ | exact aN l1 | exact aN l2 | exact aN l3 | exact co hc (by decide) | exact bC hc | omega)) hy fun h₃ i2₃ hs₃=>wpAny_pure (wpAny_pure ?_))
  refine wpAny_bind (wpAny_bind (wpAny_holding ?_))
  show wpAny _ _ (Builtin.SmallTypes.nextOf (.ref (n+2)) >>= _) _ _ _
  refine wpAny_bind (bS (((i3.ext hs₁ (by first | exact nn (by decide) | exact n0 (by decide) | exact bB (by decide) | exact al l1 _ | exact al l2 _ | exact al l3 _ | exact aN l1 | exact aN l2 | exact aN l3 | exact co hc (by decide) | exact bC hc | omega)).ext hs₂ (by first | exact nn (by decide) | exact n0 (by decide) | exact bB (by decide) | exact al l1 _ | exact al l2 _ | exact al l3 _ | exact aN l1 | exact aN l2 | exact aN l3 | exact co hc (by decide) | exact bC hc | omega)).ext hs₃ (by first | exact nn (by decide) | exact n0 (by decide) | exact bB (by decide) | exact al l1 _ | exact al l2 _ | exact al l3 _ | exact aN l1 | exact aN l2 | exact aN l3 | exact co hc (by decide) | exact bC hc | omega)) (((s3.ext hs₁ (by first | exact nn (by decide) | exact n0 (by decide) | exact bB (by decide) | exact al l1 _ | exact al l2 _ | exact al l3 _ | exact aN l1 | exact aN l2 | exact aN l3 | exact co hc (by decide) | exact bC hc | omega)).ext hs₂ (by first | exact nn (by decide) | exact n0 (by decide) | exact bB (by decide) | exact al l1 _ | exact al l2 _ | exact al l3 _ | exact aN l1 | exact aN l2 | exact aN l3 | exact co hc (by decide) | exact bC hc | omega)).ext hs₃ (by first | exact nn (by decide) | exact n0 (by decide) | exact bB (by decide) | exact al l1 _ | exact al l2 _ | exact al l3 _ | exact aN l1 | exact aN l2 | exact aN l3 | exact co hc (by decide) | exact bC hc | omega)) hw fun h₄ i3₄ hs₄=>wpAny_pure (wpAny_pure (wpAny_pure ?_)))
  refine wpAny_bind (wpAny_newTuple (hsz:=by show 3≤sizeLine;decide) (wpAny_pure ⟨_,rfl,?_⟩))
  have hsz:h₄.objs.size=s.heap.objs.size:=by rw[hs₄.1,hs₃.1,hs₂.1,hs₁.1]
  have up:∀ {c o},h₄.get? c=some o→(h₄.push { cls:=.type "tuple",data:=.seq #[x,y,z] }).get? c=some o:=fun e=>Heap.get?_push_of_some _ e
  have keep:∀ (c:Nat) o,(c < n∨n+5 < c)→s.heap.get? c=some o→h₄.get? c=some o:=fun c o hc e=>ex hs₄ (by first | exact nn (by decide) | exact n0 (by decide) | exact bB (by decide) | exact al l1 _ | exact al l2 _ | exact al l3 _ | exact aN l1 | exact aN l2 | exact aN l3 | exact co hc (by decide) | exact bC hc | omega) (ex hs₃ (by first | exact nn (by decide) | exact n0 (by decide) | exact bB (by decide) | exact al l1 _ | exact al l2 _ | exact al l3 _ | exact aN l1 | exact aN l2 | exact aN l3 | exact co hc (by decide) | exact bC hc | omega) (ex hs₂ (by first | exact nn (by decide) | exact n0 (by decide) | exact bB (by decide) | exact al l1 _ | exact al l2 _ | exact al l3 _ | exact aN l1 | exact aN l2 | exact aN l3 | exact co hc (by decide) | exact bC hc | omega) (ex hs₁ (by first | exact nn (by decide) | exact n0 (by decide) | exact bB (by decide) | exact al l1 _ | exact al l2 _ | exact al l3 _ | exact aN l1 | exact aN l2 | exact aN l3 | exact co hc (by decide) | exact bC hc | omega) e)))
  refine hQ h₄.objs.size (h₄.push { cls:=.type "tuple",data:=.seq #[x,y,z] }) f0 true c1 c2 c3 (by rw[hsz];exact Nat.le_refl _) hf (up (ex hs₄ (by first | exact nn (by decide) | exact n0 (by decide) | exact bB (by decide) | exact al l1 _ | exact al l2 _ | exact al l3 _ | exact aN l1 | exact aN l2 | exact aN l3 | exact co hc (by decide) | exact bC hc | omega) (ex hs₃ (by first | exact nn (by decide) | exact n0 (by decide) | exact bB (by decide) | exact al l1 _ | exact al l2 _ | exact al l3 _ | exact aN l1 | exact aN l2 | exact aN l3 | exact co hc (by decide) | exact bC hc | omega) (ex hs₂ (by first | exact nn (by decide) | exact n0 (by decide) | exact bB (by decide) | exact al l1 _ | exact al l2 _ | exact al l3 _ | exact aN l1 | exact aN l2 | exact aN l3 | exact co hc (by decide) | exact bC hc | omega) hz₁))))
   (up (ex hs₄ (by first | exact nn (by decide) | exact n0 (by decide) | exact bB (by decide) | exact al l1 _ | exact al l2 _ | exact al l3 _ | exact aN l1 | exact aN l2 | exact aN l3 | exact co hc (by decide) | exact bC hc | omega) (ex hs₃ (by first | exact nn (by decide) | exact n0 (by decide) | exact bB (by decide) | exact al l1 _ | exact al l2 _ | exact al l3 _ | exact aN l1 | exact aN l2 | exact aN l3 | exact co hc (by decide) | exact bC hc | omega) (ex hs₂ (by first | exact nn (by decide) | exact n0 (by decide) | exact bB (by decide) | exact al l1 _ | exact al l2 _ | exact al l3 _ | exact aN l1 | exact aN l2 | exact aN l3 | exact co hc (by decide) | exact bC hc | omega) (ex hs₁ (by first | exact nn (by decide) | exact n0 (by decide) | exact bB (by decide) | exact al l1 _ | exact al l2 _ | exact al l3 _ | exact aN l1 | exact aN l2 | exact aN l3 | exact co hc (by decide) | exact bC hc | omega) hTI))))) (up (ex hs₄ (by first | exact nn (by decide) | exact n0 (by decide) | exact bB (by decide) | exact al l1 _ | exact al l2 _ | exact al l3 _ | exact aN l1 | exact aN l2 | exact aN l3 | exact co hc (by decide) | exact bC hc | omega) (ex hs₃ (by first | exact nn (by decide) | exact n0 (by decide) | exact bB (by decide) | exact al l1 _ | exact al l2 _ | exact al l3 _ | exact aN l1 | exact aN l2 | exact aN l3 | exact co hc (by decide) | exact bC hc | omega) (ex hs₂ (by first | exact nn (by decide) | exact n0 (by decide) | exact bB (by decide) | exact al l1 _ | exact al l2 _ | exact al l3 _ | exact aN l1 | exact aN l2 | exact aN l3 | exact co hc (by decide) | exact bC hc | omega) (ex hs₁ (by first | exact nn (by decide) | exact n0 (by decide) | exact bB (by decide) | exact al l1 _ | exact al l2 _ | exact al l3 _ | exact aN l1 | exact aN l2 | exact aN l3 | exact co hc (by decide) | exact bC hc | omega) hTO)))))
   (((i1₂.ext hs₃ (by first | exact nn (by decide) | exact n0 (by decide) | exact bB (by decide) | exact al l1 _ | exact al l2 _ | exact al l3 _ | exact aN l1 | exact aN l2 | exact aN l3 | exact co hc (by decide) | exact bC hc | omega)).ext hs₄ (by first | exact nn (by decide) | exact n0 (by decide) | exact bB (by decide) | exact al l1 _ | exact al l2 _ | exact al l3 _ | exact aN l1 | exact aN l2 | exact aN l3 | exact co hc (by decide) | exact bC hc | omega)).at fun o e=>up e) ((i2₃.ext hs₄ (by first | exact nn (by decide) | exact n0 (by decide) | exact bB (by decide) | exact al l1 _ | exact al l2 _ | exact al l3 _ | exact aN l1 | exact aN l2 | exact aN l3 | exact co hc (by decide) | exact bC hc | omega)).at fun o e=>up e) (i3₄.at fun o e=>up e) (Heap.get?_push_size _ rfl) fun c o hc e=>up (keep c o hc e)
theorem zip3_end {n a1 a2 a3:Nat}{t1 t2 t3:Bool}{k:Nat}{xs ys zs:Array Value}{c1 c2 c3 f0:Value}{f1:Bool}{Q:Fin→Shared→Prop} (hh:A.handled=none) (hf:Free0 f0)
  (hz:IsZ s.heap (n+5) (n+3) (n+4) f0 f1) (hTI:dC s.heap (n+3) #[.ref n,.ref (n+1),.ref (n+2)]) (hTO:dC s.heap (n+4) #[c1,c2,c3])
  (i1:dG s.heap t1 n a1 k) (i2:dG s.heap t2 (n+1) a2 k) (i3:dG s.heap t3 (n+2) a3 k) (s1:cC s.heap t1 a1 xs) (s2:cC s.heap t2 a2 ys) (s3:cC s.heap t3 a3 zs)
  (l1:a1 < n) (l2:a2 < n) (l3:a3 < n) (hend:xs[k]? = none∨ys[k]? = none∨zs[k]? = none)
  (hE:∀ h' e,(∀ (c:Nat) o,(c < n∨n+5 < c)→s.heap.get? c=some o→h'.get? c=some o)→(∃ o,h'.get? e=some o∧o.cls=.type "StopIteration")→E (.ref e) { s with heap:=h' }) :
  wpAny (model prog w) A (Builtin.«zip.__next__» ⟨[.ref (n+5)],[]⟩) Q E s:=by
 show wpAny _ _ (field (.ref (n+5)) 2 >>= _) _ _ _
 refine wpAny_bind (wpAny_field hz rfl (x:=.bool false) rfl ?_)
 show wpAny _ _ (field (.ref (n+5)) 3 >>= _) _ _ _
 refine wpAny_bind (wpAny_field hz rfl (x:=.ref (n+3)) rfl ?_)
 refine wpAny_bind (wpAny_seqItems hTI rfl ?_)
 show wpAny _ _ (Builtin.SmallTypes.ownedTupleIsFree (.ref (n+5)) >>= _) _ _ _
 refine wpAny_bind (owned_free hz hf ?_ ?_)
 ·simp only [if_true]
  refine wpAny_bind (wpAny_rule ?_)
  refine wpAny_bind (wpAny_field hz rfl (x:=.ref (n+4)) rfl ?_)
  refine wpAny_bind (wpAny_setField_rec hz (by simp) fun h₁ hz₁ hs₁=>?_)
  replace hz₁:IsZ h₁ (n+5) (n+3) (n+4) .ellipsis f1:=hz₁
  refine wpAny_bind ?_
  simp only [List.zipIdx_cons,List.zipIdx_nil,List.forIn_cons,List.forIn_nil]
  have fin:∀ {h₂ h₃:Heap}{e j:Nat}{oe:Obj},IsZ h₂ (n+5) (n+3) (n+4) .ellipsis f1→Heap.ExtBut j h₂ h₃→@Ne Nat (n+5) j→(n≤j∧j≤n+5)→(∀ (c:Nat) o,(c < n∨n+5 < c)→s.heap.get? c=some o→h₂.get? c=some o)→h₃.get? e=some oe→oe.cls=.type "StopIteration" →
    wpAny (model prog w) A (setField (.ref (n+5)) 0 .none) (fun _ s'=>E (.ref e) s') E { s with heap:=h₃ }:=fun {h₂ h₃ e j oe} hz₂ hx hj hr hk hoe hce=>by
   have hz₃:IsZ h₃ (n+5) (n+3) (n+4) .ellipsis f1:=hx _ _ hj hz₂
   have hez:e≠n+5:=fun q=>by subst q;rw[hz₃] at hoe;cases hoe;simp at hce
   refine wpAny_setField_rec hz₃ (by simp) fun h₄ _ hs₄=>hE h₄ e (fun c o hc q=>ex hs₄ (by first | exact nn (by decide) | exact n0 (by decide) | exact bB (by decide) | exact al l1 _ | exact al l2 _ | exact al l3 _ | exact aN l1 | exact aN l2 | exact aN l3 | exact co hc (by decide) | exact bC hc | omega) (hx c o (show @Ne Nat c j by omega) (hk c o hc q))) ⟨oe,hs₄.extBut _ _ hez hoe,hce⟩
  refine wpAny_bind (wpAny_bind (wpAny_onRaise ?_))
  show wpAny _ _ (Builtin.SmallTypes.nextOf (.ref n) >>= _) _ _ _
  cases hx:xs[k]? with
  | none=>
   refine wpAny_bind (d7 hh (i1.ext hs₁ (by first | exact nn (by decide) | exact n0 (by decide) | exact bB (by decide) | exact al l1 _ | exact al l2 _ | exact al l3 _ | exact aN l1 | exact aN l2 | exact aN l3 | exact co hc (by decide) | exact bC hc | omega)) (s1.ext hs₁ (by first | exact nn (by decide) | exact n0 (by decide) | exact bB (by decide) | exact al l1 _ | exact al l2 _ | exact al l3 _ | exact aN l1 | exact aN l2 | exact aN l3 | exact co hc (by decide) | exact bC hc | omega)) hx fun h₂ e hs₂ he=>?_)
   obtain⟨oe,hoe,hce⟩:=he
   exact fin hz₁ hs₂ (by first | exact nn (by decide) | exact n0 (by decide) | exact bB (by decide) | exact al l1 _ | exact al l2 _ | exact al l3 _ | exact aN l1 | exact aN l2 | exact aN l3 | exact co hc (by decide) | exact bC hc | omega) (by first | exact nn (by decide) | exact n0 (by decide) | exact bB (by decide) | exact al l1 _ | exact al l2 _ | exact al l3 _ | exact aN l1 | exact aN l2 | exact aN l3 | exact co hc (by decide) | exact bC hc | omega) (fun c o hc q=>ex hs₁ (by first | exact nn (by decide) | exact n0 (by decide) | exact bB (by decide) | exact al l1 _ | exact al l2 _ | exact al l3 _ | exact aN l1 | exact aN l2 | exact aN l3 | exact co hc (by decide) | exact bC hc | omega) q) hoe hce
  | some x=>
   refine wpAny_bind (bS (i1.ext hs₁ (by first | exact nn (by decide) | exact n0 (by decide) | exact bB (by decide) | exact al l1 _ | exact al l2 _ | exact al l3 _ | exact aN l1 | exact aN l2 | exact aN l3 | exact co hc (by decide) | exact bC hc | omega)) (s1.ext hs₁ (by first | exact nn (by decide) | exact n0 (by decide) | exact bB (by decide) | exact al l1 _ | exact al l2 _ | exact al l3 _ | exact aN l1 | exact aN l2 | exact aN l3 | exact co hc (by decide) | exact bC hc | omega)) hx fun h₂ i1₂ hs₂=>wpAny_pure ?_)
   have hTO₂:dC h₂ (n+4) #[c1,c2,c3]:=ex hs₂ (by first | exact nn (by decide) | exact n0 (by decide) | exact bB (by decide) | exact al l1 _ | exact al l2 _ | exact al l3 _ | exact aN l1 | exact aN l2 | exact aN l3 | exact co hc (by decide) | exact bC hc | omega) (ex hs₁ (by first | exact nn (by decide) | exact n0 (by decide) | exact bB (by decide) | exact al l1 _ | exact al l2 _ | exact al l3 _ | exact aN l1 | exact aN l2 | exact aN l3 | exact co hc (by decide) | exact bC hc | omega) hTO)
   refine wpAny_bind (wpAny_seqItems hTO₂ rfl ?_)
   refine wpAny_bind (seq_set hTO₂ (by simp) fun h₃ hTO₃ hs₃=>?_)
   replace hTO₃:dC h₃ (n+4) #[x,c2,c3]:=hTO₃
   refine wpAny_bind (wpAny_letGo (wpAny_pure ?_))
   have hz₃:IsZ h₃ (n+5) (n+3) (n+4) .ellipsis f1:=ex hs₃ (by first | exact nn (by decide) | exact n0 (by decide) | exact bB (by decide) | exact al l1 _ | exact al l2 _ | exact al l3 _ | exact aN l1 | exact aN l2 | exact aN l3 | exact co hc (by decide) | exact bC hc | omega) (ex hs₂ (by first | exact nn (by decide) | exact n0 (by decide) | exact bB (by decide) | exact al l1 _ | exact al l2 _ | exact al l3 _ | exact aN l1 | exact aN l2 | exact aN l3 | exact co hc (by decide) | exact bC hc | omega) hz₁)
   have k₃:∀ (c:Nat) o,(c < n∨n+5 < c)→s.heap.get? c=some o→h₃.get? c=some o:=fun c o hc e=>ex hs₃ (by first | exact nn (by decide) | exact n0 (by decide) | exact bB (by decide) | exact al l1 _ | exact al l2 _ | exact al l3 _ | exact aN l1 | exact aN l2 | exact aN l3 | exact co hc (by decide) | exact bC hc | omega) (ex hs₂ (by first | exact nn (by decide) | exact n0 (by decide) | exact bB (by decide) | exact al l1 _ | exact al l2 _ | exact al l3 _ | exact aN l1 | exact aN l2 | exact aN l3 | exact co hc (by decide) | exact bC hc | omega) (ex hs₁ (by first | exact nn (by decide) | exact n0 (by decide) | exact bB (by decide) | exact al l1 _ | exact al l2 _ | exact al l3 _ | exact aN l1 | exact aN l2 | exact aN l3 | exact co hc (by decide) | exact bC hc | omega) e))
   refine wpAny_bind (wpAny_bind (wpAny_onRaise ?_))
   show wpAny _ _ (Builtin.SmallTypes.nextOf (.ref (n+1)) >>= _) _ _ _
   cases hy:ys[k]? with
   | none=>
    refine wpAny_bind (d7 hh (((i2.ext hs₁ (by first | exact nn (by decide) | exact n0 (by decide) | exact bB (by decide) | exact al l1 _ | exact al l2 _ | exact al l3 _ | exact aN l1 | exact aN l2 | exact aN l3 | exact co hc (by decide) | exact bC hc | omega)).ext hs₂ (by first | exact nn (by decide) | exact n0 (by decide) | exact bB (by decide) | exact al l1 _ | exact al l2 _ | exact al l3 _ | exact aN l1 | exact aN l2 | exact aN l3 | exact co hc (by decide) | exact bC hc | omega)).ext hs₃ (by first | exact nn (by decide) | exact n0 (by decide) | exact bB (by decide) | exact al l1 _ | exact al l2 _ | exact al l3 _ | exact aN l1 | exact aN l2 | exact aN l3 | exact co hc (by decide) | exact bC hc | omega)) (((s2.ext hs₁ (by first | exact nn (by decide) | exact n0 (by decide) | exact bB (by decide) | exact al l1 _ | exact al l2 _ | exact al l3 _ | exact aN l1 | exact aN l2 | exact aN l3 | exact co hc (by decide) | exact bC hc | omega)).ext hs₂ (by first | exact nn (by decide) | exact n0 (by decide) | exact bB (by decide) | exact al l1 _ | exact al l2 _ | exact al l3 _ | exact aN l1 | exact aN l2 | exact aN l3 | exact co hc (by decide) | exact bC hc | omega)).ext hs₃ (by first | exact nn (by decide) | exact n0 (by decide) | exact bB (by decide) | exact al l1 _ | exact al l2 _ | exact al l3 _ | exact aN l1 | exact aN l2 | exact aN l3 | exact co hc (by decide) | exact bC hc | omega)) hy fun h₄ e hs₄ he=>?_)
    obtain⟨oe,hoe,hce⟩:=he
    exact fin hz₃ hs₄ (by first | exact nn (by decide) | exact n0 (by decide) | exact bB (by decide) | exact al l1 _ | exact al l2 _ | exact al l3 _ | exact aN l1 | exact aN l2 | exact aN l3 | exact co hc (by decide) | exact bC hc | omega) (by first | exact nn (by decide) | exact n0 (by decide) | exact bB (by decide) | exact al l1 _ | exact al l2 _ | exact al l3 _ | exact aN l1 | exact aN l2 | exact aN l3 | exact co hc (by decide) | exact bC hc | omega) k₃ hoe hce
   | some y=>
    have hw:zs[k]? = none:=by rcases hend with h | h | h;rw[hx] at h;cases h;rw[hy] at h;cases h;exact h
    refine wpAny_bind (bS (((i2.ext hs₁ (by first | exact nn (by decide) | exact n0 (by decide) | exact bB (by decide) | exact al l1 _ | exact al l2 _ | exact al l3 _ | exact aN l1 | exact aN l2 | exact aN l3 | exact co hc (by decide) | exact bC hc | omega)).ext hs₂ (by first | exact nn (by decide) | exact n0 (by decide) | exact bB (by decide) | exact al l1 _ | exact al l2 _ | exact al l3 _ | exact aN l1 | exact aN l2 | exact aN l3 | exact co hc (by decide) | exact bC hc | omega)).ext hs₃ (by first | exact nn (by decide) | exact n0 (by decide) | exact bB (by decide) | exact al l1 _ | exact al l2 _ | exact al l3 _ | exact aN l1 | exact aN l2 | exact aN l3 | exact co hc (by decide) | exact bC hc | omega)) (((s2.ext hs₁ (by first | exact nn (by decide) | exact n0 (by decide) | exact bB (by decide) | exact al l1 _ | exact al l2 _ | exact al l3 _ | exact aN l1 | exact aN l2 | exact aN l3 | exact co hc (by decide) | exact bC hc | omega)).ext hs₂ (by first | exact nn (by decide) | exact n0 (by decide) | exact bB (by decide) | exact al l1 _ | exact al l2 _ | exact al l3 _ | exact aN l1 | exact aN l2 | exact aN l3 | exact co hc (by decide) | exact bC hc | omega)).ext hs₃ (by first | exact nn (by decide) | exact n0 (by decide) | exact bB (by decide) | exact al l1 _ | exact al l2 _ | exact al l3 _ | exact aN l1 | exact aN l2 | exact aN l3 | exact co hc (by decide) | exact bC hc | omega)) hy fun h₄ i2₄ hs₄=>wpAny_pure ?_)
    have hTO₄:dC h₄ (n+4) #[x,c2,c3]:=ex hs₄ (by first | exact nn (by decide) | exact n0 (by decide) | exact bB (by decide) | exact al l1 _ | exact al l2 _ | exact al l3 _ | exact aN l1 | exact aN l2 | exact aN l3 | exact co hc (by decide) | exact bC hc | omega) hTO₃
    refine wpAny_bind (wpAny_seqItems hTO₄ rfl ?_)
    refine wpAny_bind (seq_set hTO₄ (by simp) fun h₅ hTO₅ hs₅=>?_)
    refine wpAny_bind (wpAny_letGo (wpAny_pure ?_))
    refine wpAny_bind (wpAny_bind (wpAny_onRaise ?_))
    show wpAny _ _ (Builtin.SmallTypes.nextOf (.ref (n+2)) >>= _) _ _ _
    refine wpAny_bind (d7 hh (((((i3.ext hs₁ (by first | exact nn (by decide) | exact n0 (by decide) | exact bB (by decide) | exact al l1 _ | exact al l2 _ | exact al l3 _ | exact aN l1 | exact aN l2 | exact aN l3 | exact co hc (by decide) | exact bC hc | omega)).ext hs₂ (by first | exact nn (by decide) | exact n0 (by decide) | exact bB (by decide) | exact al l1 _ | exact al l2 _ | exact al l3 _ | exact aN l1 | exact aN l2 | exact aN l3 | exact co hc (by decide) | exact bC hc | omega)).ext hs₃ (by first | exact nn (by decide) | exact n0 (by decide) | exact bB (by decide) | exact al l1 _ | exact al l2 _ | exact al l3 _ | exact aN l1 | exact aN l2 | exact aN l3 | exact co hc (by decide) | exact bC hc | omega)).ext hs₄ (by first | exact nn (by decide) | exact n0 (by decide) | exact bB (by decide) | exact al l1 _ | exact al l2 _ | exact al l3 _ | exact aN l1 | exact aN l2 | exact aN l3 | exact co hc (by decide) | exact bC hc | omega)).ext hs₅ (by first | exact nn (by decide) | exact n0 (by decide) | exact bB (by decide) | exact al l1 _ | exact al l2 _ | exact al l3 _ | exact aN l1 | exact aN l2 | exact aN l3 | exact co hc (by decide) | exact bC hc | omega))
     (((((s3.ext hs₁ (by first | exact nn (by decide) | exact n0 (by decide) | exact bB (by decide) | exact al l1 _ | exact al l2 _ | exact al l3 _ | exact aN l1 | exact aN l2 | exact aN l3 | exact co hc (by decide) | exact bC hc | omega)).ext hs₂ (by first | exact nn (by decide) | exact n0 (by decide) | exact bB (by decide) | exact al l1 _ | exact al l2 _ | exact al l3 _ | exact aN l1 | exact aN l2 | exact aN l3 | exact co hc (by decide) | exact bC hc | omega)).ext hs₃ (by first | exact nn (by decide) | exact n0 (by decide) | exact bB (by decide) | exact al l1 _ | exact al l2 _ | exact al l3 _ | exact aN l1 | exact aN l2 | exact aN l3 | exact co hc (by decide) | exact bC hc | omega)).ext hs₄ (by first | exact nn (by decide) | exact n0 (by decide) | exact bB (by decide) | exact al l1 _ | exact al l2 _ | exact al l3 _ | exact aN l1 | exact aN l2 | exact aN l3 | exact co hc (by decide) | exact bC hc | omega)).ext hs₅ (by first | exact nn (by decide) | exact n0 (by decide) | exact bB (by decide) | exact al l1 _ | exact al l2 _ | exact al l3 _ | exact aN l1 | exact aN l2 | exact aN l3 | exact co hc (by decide) | exact bC hc | omega)) hw fun h₆ e hs₆ he=>?_)
    obtain⟨oe,hoe,hce⟩:=he
    exact fin (ex hs₅ (by first | exact nn (by decide) | exact n0 (by decide) | exact bB (by decide) | exact al l1 _ | exact al l2 _ | exact al l3 _ | exact aN l1 | exact aN l2 | exact aN l3 | exact co hc (by decide) | exact bC hc | omega) (ex hs₄ (by first | exact nn (by decide) | exact n0 (by decide) | exact bB (by decide) | exact al l1 _ | exact al l2 _ | exact al l3 _ | exact aN l1 | exact aN l2 | exact aN l3 | exact co hc (by decide) | exact bC hc | omega) hz₃)) hs₆ (by first | exact nn (by decide) | exact n0 (by decide) | exact bB (by decide) | exact al l1 _ | exact al l2 _ | exact al l3 _ | exact aN l1 | exact aN l2 | exact aN l3 | exact co hc (by decide) | exact bC hc | omega) (by first | exact nn (by decide) | exact n0 (by decide) | exact bB (by decide) | exact al l1 _ | exact al l2 _ | exact al l3 _ | exact aN l1 | exact aN l2 | exact aN l3 | exact co hc (by decide) | exact bC hc | omega) (fun c o hc q=>ex hs₅ (by first | exact nn (by decide) | exact n0 (by decide) | exact bB (by decide) | exact al l1 _ | exact al l2 _ | exact al l3 _ | exact aN l1 | exact aN l2 | exact aN l3 | exact co hc (by decide) | exact bC hc | omega) (ex hs₄ (by first | exact nn (by decide) | exact n0 (by decide) | exact bB (by decide) | exact al l1 _ | exact al l2 _ | exact al l3 _ | exact aN l1 | exact aN l2 | exact aN l3 | exact co hc (by decide) | exact bC hc | omega) (k₃ c o hc q))) hoe hce
 ·intro h₁ hz₁ hs₁
  simp only [Bool.false_eq_true,if_false]
  refine wpAny_bind ?_
  rw[← Array.forIn_toList]
  simp only [List.forIn_cons,List.forIn_nil]
  refine wpAny_bind (wpAny_bind (wpAny_holding ?_))
  show wpAny _ _ (Builtin.SmallTypes.nextOf (.ref n) >>= _) _ _ _
  cases hx:xs[k]? with
  | none=>
   refine wpAny_bind (d7 hh (i1.ext hs₁ (by first | exact nn (by decide) | exact n0 (by decide) | exact bB (by decide) | exact al l1 _ | exact al l2 _ | exact al l3 _ | exact aN l1 | exact aN l2 | exact aN l3 | exact co hc (by decide) | exact bC hc | omega)) (s1.ext hs₁ (by first | exact nn (by decide) | exact n0 (by decide) | exact bB (by decide) | exact al l1 _ | exact al l2 _ | exact al l3 _ | exact aN l1 | exact aN l2 | exact aN l3 | exact co hc (by decide) | exact bC hc | omega)) hx fun h₂ e hs₂ he=>?_)
   exact hE h₂ e (fun c o hc q=>hs₂ c o (show @Ne Nat c n by omega) (ex hs₁ (by first | exact nn (by decide) | exact n0 (by decide) | exact bB (by decide) | exact al l1 _ | exact al l2 _ | exact al l3 _ | exact aN l1 | exact aN l2 | exact aN l3 | exact co hc (by decide) | exact bC hc | omega) q)) he
  | some x=>
   refine wpAny_bind (bS (i1.ext hs₁ (by first | exact nn (by decide) | exact n0 (by decide) | exact bB (by decide) | exact al l1 _ | exact al l2 _ | exact al l3 _ | exact aN l1 | exact aN l2 | exact aN l3 | exact co hc (by decide) | exact bC hc | omega)) (s1.ext hs₁ (by first | exact nn (by decide) | exact n0 (by decide) | exact bB (by decide) | exact al l1 _ | exact al l2 _ | exact al l3 _ | exact aN l1 | exact aN l2 | exact aN l3 | exact co hc (by decide) | exact bC hc | omega)) hx fun h₂ i1₂ hs₂=>wpAny_pure (wpAny_pure ?_))
   refine wpAny_bind (wpAny_bind (wpAny_holding ?_))
   show wpAny _ _ (Builtin.SmallTypes.nextOf (.ref (n+1)) >>= _) _ _ _
   cases hy:ys[k]? with
   | none=>
    refine wpAny_bind (d7 hh ((i2.ext hs₁ (by first | exact nn (by decide) | exact n0 (by decide) | exact bB (by decide) | exact al l1 _ | exact al l2 _ | exact al l3 _ | exact aN l1 | exact aN l2 | exact aN l3 | exact co hc (by decide) | exact bC hc | omega)).ext hs₂ (by first | exact nn (by decide) | exact n0 (by decide) | exact bB (by decide) | exact al l1 _ | exact al l2 _ | exact al l3 _ | exact aN l1 | exact aN l2 | exact aN l3 | exact co hc (by decide) | exact bC hc | omega)) ((s2.ext hs₁ (by first | exact nn (by decide) | exact n0 (by decide) | exact bB (by decide) | exact al l1 _ | exact al l2 _ | exact al l3 _ | exact aN l1 | exact aN l2 | exact aN l3 | exact co hc (by decide) | exact bC hc | omega)).ext hs₂ (by first | exact nn (by decide) | exact n0 (by decide) | exact bB (by decide) | exact al l1 _ | exact al l2 _ | exact al l3 _ | exact aN l1 | exact aN l2 | exact aN l3 | exact co hc (by decide) | exact bC hc | omega)) hy fun h₃ e hs₃ he=>?_)
    exact hE h₃ e (fun c o hc q=>hs₃ c o (show @Ne Nat c (n+1) by omega) (ex hs₂ (by first | exact nn (by decide) | exact n0 (by decide) | exact bB (by decide) | exact al l1 _ | exact al l2 _ | exact al l3 _ | exact aN l1 | exact aN l2 | exact aN l3 | exact co hc (by decide) | exact bC hc | omega) (ex hs₁ (by first | exact nn (by decide) | exact n0 (by decide) | exact bB (by decide) | exact al l1 _ | exact al l2 _ | exact al l3 _ | exact aN l1 | exact aN l2 | exact aN l3 | exact co hc (by decide) | exact bC hc | omega) q))) he
   | some y=>
    have hw:zs[k]? = none:=by rcases hend with h | h | h;rw[hx] at h;cases h;rw[hy] at h;cases h;exact h
    refine wpAny_bind (bS ((i2.ext hs₁ (by first | exact nn (by decide) | exact n0 (by decide) | exact bB (by decide) | exact al l1 _ | exact al l2 _ | exact al l3 _ | exact aN l1 | exact aN l2 | exact aN l3 | exact co hc (by decide) | exact bC hc | omega)).ext hs₂ (by first | exact nn (by decide) | exact n0 (by decide) | exact bB (by decide) | exact al l1 _ | exact al l2 _ | exact al l3 _ | exact aN l1 | exact aN l2 | exact aN l3 | exact co hc (by decide) | exact bC hc | omega)) ((s2.ext hs₁ (by first | exact nn (by decide) | exact n0 (by decide) | exact bB (by decide) | exact al l1 _ | exact al l2 _ | exact al l3 _ | exact aN l1 | exact aN l2 | exact aN l3 | exact co hc (by decide) | exact bC hc | omega)).ext hs₂ (by first | exact nn (by decide) | exact n0 (by decide) | exact bB (by decide) | exact al l1 _ | exact al l2 _ | exact al l3 _ | exact aN l1 | exact aN l2 | exact aN l3 | exact co hc (by decide) | exact bC hc | omega)) hy fun h₃ i2₃ hs₃=>wpAny_pure (wpAny_pure ?_))
    refine wpAny_bind (wpAny_bind (wpAny_holding ?_))
    show wpAny _ _ (Builtin.SmallTypes.nextOf (.ref (n+2)) >>= _) _ _ _
    refine wpAny_bind (d7 hh (((i3.ext hs₁ (by first | exact nn (by decide) | exact n0 (by decide) | exact bB (by decide) | exact al l1 _ | exact al l2 _ | exact al l3 _ | exact aN l1 | exact aN l2 | exact aN l3 | exact co hc (by decide) | exact bC hc | omega)).ext hs₂ (by first | exact nn (by decide) | exact n0 (by decide) | exact bB (by decide) | exact al l1 _ | exact al l2 _ | exact al l3 _ | exact aN l1 | exact aN l2 | exact aN l3 | exact co hc (by decide) | exact bC hc | omega)).ext hs₃ (by first | exact nn (by decide) | exact n0 (by decide) | exact bB (by decide) | exact al l1 _ | exact al l2 _ | exact al l3 _ | exact aN l1 | exact aN l2 | exact aN l3 | exact co hc (by decide) | exact bC hc | omega)) (((s3.ext hs₁ (by first | exact nn (by decide) | exact n0 (by decide) | exact bB (by decide) | exact al l1 _ | exact al l2 _ | exact al l3 _ | exact aN l1 | exact aN l2 | exact aN l3 | exact co hc (by decide) | exact bC hc | omega)).ext hs₂ (by first | exact nn (by decide) | exact n0 (by decide) | exact bB (by decide) | exact al l1 _ | exact al l2 _ | exact al l3 _ | exact aN l1 | exact aN l2 | exact aN l3 | exact co hc (by decide) | exact bC hc | omega)).ext hs₃ (by first | exact nn (by decide) | exact n0 (by decide) | exact bB (by decide) | exact al l1 _ | exact al l2 _ | exact al l3 _ | exact aN l1 | exact aN l2 | exact aN l3 | exact co hc (by decide) | exact bC hc | omega)) hw fun h₄ e hs₄ he=>?_)
    exact hE h₄ e (fun c o hc q=>hs₄ c o (show @Ne Nat c (n+2) by omega) (ex hs₃ (by first | exact nn (by decide) | exact n0 (by decide) | exact bB (by decide) | exact al l1 _ | exact al l2 _ | exact al l3 _ | exact aN l1 | exact aN l2 | exact aN l3 | exact co hc (by decide) | exact bC hc | omega) (ex hs₂ (by first | exact nn (by decide) | exact n0 (by decide) | exact bB (by decide) | exact al l1 _ | exact al l2 _ | exact al l3 _ | exact aN l1 | exact aN l2 | exact aN l3 | exact co hc (by decide) | exact bC hc | omega) (ex hs₁ (by first | exact nn (by decide) | exact n0 (by decide) | exact bB (by decide) | exact al l1 _ | exact al l2 _ | exact al l3 _ | exact aN l1 | exact aN l2 | exact aN l3 | exact co hc (by decide) | exact bC hc | omega) q)))) he
theorem zip2_next {n a1 a2:Nat}{t1 t2:Bool}{k:Nat}{xs ys:Array Value}{x y c1 c2 f0:Value}{f1:Bool}{Q:Value→Shared→Prop} (hf:Free0 f0)
  (hz:IsZ s.heap (n+4) (n+2) (n+3) f0 f1) (hTI:dC s.heap (n+2) #[.ref n,.ref (n+1)]) (hTO:dC s.heap (n+3) #[c1,c2])
  (i1:dG s.heap t1 n a1 k) (i2:dG s.heap t2 (n+1) a2 k) (s1:cC s.heap t1 a1 xs) (s2:cC s.heap t2 a2 ys)
  (l1:a1 < n) (l2:a2 < n) (hx:xs[k]? = some x) (hy:ys[k]? = some y)
  (hQ:∀ (T:Nat) h' f0' f1' d1 d2,s.heap.objs.size≤T→Free0 f0'→IsZ h' (n+4) (n+2) (n+3) f0' f1'→dC h' (n+2) #[.ref n,.ref (n+1)]→dC h' (n+3) #[d1,d2]→
   dG h' t1 n a1 (k+1)→dG h' t2 (n+1) a2 (k+1)→dC h' T #[x,y]→
   (∀ (c:Nat) o,(c < n∨n+4 < c)→s.heap.get? c=some o→h'.get? c=some o)→Q (.ref T) { s with heap:=h' }) :
  wpAny (model prog w) A (Builtin.«zip.__next__» ⟨[.ref (n+4)],[]⟩) (fun fin s'=>∃ v,fin=.done (.ret v)∧Q v s') E s:=by
 have hzlt:n+4 < s.heap.objs.size:=Heap.lt_size hz
 show wpAny _ _ (field (.ref (n+4)) 2 >>= _) _ _ _
 refine wpAny_bind (wpAny_field hz rfl (x:=.bool false) rfl ?_)
 show wpAny _ _ (field (.ref (n+4)) 3 >>= _) _ _ _
 refine wpAny_bind (wpAny_field hz rfl (x:=.ref (n+2)) rfl ?_)
 refine wpAny_bind (wpAny_seqItems hTI rfl ?_)
 show wpAny _ _ (Builtin.SmallTypes.ownedTupleIsFree (.ref (n+4)) >>= _) _ _ _
 refine wpAny_bind (owned_free hz hf ?_ ?_)
 ·simp only [if_true]
  refine wpAny_bind (wpAny_rule ?_)
  refine wpAny_bind (wpAny_field hz rfl (x:=.ref (n+3)) rfl ?_)
  refine wpAny_bind (wpAny_setField_rec hz (by simp) fun h₁ hz₁ hs₁=>?_)
  replace hz₁:IsZ h₁ (n+4) (n+2) (n+3) .ellipsis f1:=hz₁
  refine wpAny_bind ?_
  simp only [List.zipIdx_cons,List.zipIdx_nil,List.forIn_cons,List.forIn_nil]
  refine wpAny_bind (wpAny_bind (wpAny_onRaise ?_))
  show wpAny _ _ (Builtin.SmallTypes.nextOf (.ref n) >>= _) _ _ _
  refine wpAny_bind (bS (i1.ext hs₁ (by first | exact nn (by decide) | exact n0 (by decide) | exact bB (by decide) | exact al l1 _ | exact al l2 _ | exact aN l1 | exact aN l2 | exact co hc (by decide) | exact bC hc | omega)) (s1.ext hs₁ (by first | exact nn (by decide) | exact n0 (by decide) | exact bB (by decide) | exact al l1 _ | exact al l2 _ | exact aN l1 | exact aN l2 | exact co hc (by decide) | exact bC hc | omega)) hx fun h₂ i1₂ hs₂=>wpAny_pure ?_)
  have hTO₂:dC h₂ (n+3) #[c1,c2]:=ex hs₂ (by first | exact nn (by decide) | exact n0 (by decide) | exact bB (by decide) | exact al l1 _ | exact al l2 _ | exact aN l1 | exact aN l2 | exact co hc (by decide) | exact bC hc | omega) (ex hs₁ (by first | exact nn (by decide) | exact n0 (by decide) | exact bB (by decide) | exact al l1 _ | exact al l2 _ | exact aN l1 | exact aN l2 | exact co hc (by decide) | exact bC hc | omega) hTO)
  refine wpAny_bind (wpAny_seqItems hTO₂ rfl ?_)
  refine wpAny_bind (seq_set hTO₂ (by simp) fun h₃ hTO₃ hs₃=>?_)
  replace hTO₃:dC h₃ (n+3) #[x,c2]:=hTO₃
  refine wpAny_bind (wpAny_letGo (wpAny_pure ?_))
  refine wpAny_bind (wpAny_bind (wpAny_onRaise ?_))
  show wpAny _ _ (Builtin.SmallTypes.nextOf (.ref (n+1)) >>= _) _ _ _
  refine wpAny_bind (bS (((i2.ext hs₁ (by first | exact nn (by decide) | exact n0 (by decide) | exact bB (by decide) | exact al l1 _ | exact al l2 _ | exact aN l1 | exact aN l2 | exact co hc (by decide) | exact bC hc | omega)).ext hs₂ (by first | exact nn (by decide) | exact n0 (by decide) | exact bB (by decide) | exact al l1 _ | exact al l2 _ | exact aN l1 | exact aN l2 | exact co hc (by decide) | exact bC hc | omega)).ext hs₃ (by first | exact nn (by decide) | exact n0 (by decide) | exact bB (by decide) | exact al l1 _ | exact al l2 _ | exact aN l1 | exact aN l2 | exact co hc (by decide) | exact bC hc | omega)) (((s2.ext hs₁ (by first | exact nn (by decide) | exact n0 (by decide) | exact bB (by decide) | exact al l1 _ | exact al l2 _ | exact aN l1 | exact aN l2 | exact co hc (by decide) | exact bC hc | omega)).ext hs₂ (by first | exact nn (by decide) | exact n0 (by decide) | exact bB (by decide) | exact al l1 _ | exact al l2 _ | exact aN l1 | exact aN l2 | exact co hc (by decide) | exact bC hc | omega)).ext hs₃ (by first | exact nn (by decide) | exact n0 (by decide) | exact bB (by decide) | exact al l1 _ | exact al l2 _ | exact aN l1 | exact aN l2 | exact co hc (by decide) | exact bC hc | omega)) hy fun h₄ i2₄ hs₄=>wpAny_pure ?_)
  have hTO₄:dC h₄ (n+3) #[x,c2]:=ex hs₄ (by first | exact nn (by decide) | exact n0 (by decide) | exact bB (by decide) | exact al l1 _ | exact al l2 _ | exact aN l1 | exact aN l2 | exact co hc (by decide) | exact bC hc | omega) hTO₃
  refine wpAny_bind (wpAny_seqItems hTO₄ rfl ?_)
  refine wpAny_bind (seq_set hTO₄ (by simp) fun h₇ hTO₇ hs₇=>?_)
  replace hTO₇:dC h₇ (n+3) #[x,y]:=hTO₇
  refine wpAny_bind (wpAny_letGo (wpAny_pure (wpAny_pure ?_)))
  refine wpAny_bind (wpAny_seqItems hTO₇ rfl ?_)
  refine wpAny_bind (wpAny_newTuple ?_)
  have hsz:h₇.objs.size=s.heap.objs.size:=by rw[hs₇.1,hs₄.1,hs₃.1,hs₂.1,hs₁.1]
  have keep:∀ (c:Nat) o,(c < n∨n+4 < c)→s.heap.get? c=some o→h₇.get? c=some o:=fun c o hc e=>
   ex hs₇ (by first | exact nn (by decide) | exact n0 (by decide) | exact bB (by decide) | exact al l1 _ | exact al l2 _ | exact aN l1 | exact aN l2 | exact co hc (by decide) | exact bC hc | omega) (ex hs₄ (by first | exact nn (by decide) | exact n0 (by decide) | exact bB (by decide) | exact al l1 _ | exact al l2 _ | exact aN l1 | exact aN l2 | exact co hc (by decide) | exact bC hc | omega) (ex hs₃ (by first | exact nn (by decide) | exact n0 (by decide) | exact bB (by decide) | exact al l1 _ | exact al l2 _ | exact aN l1 | exact aN l2 | exact co hc (by decide) | exact bC hc | omega) (ex hs₂ (by first | exact nn (by decide) | exact n0 (by decide) | exact bB (by decide) | exact al l1 _ | exact al l2 _ | exact aN l1 | exact aN l2 | exact co hc (by decide) | exact bC hc | omega) (ex hs₁ (by first | exact nn (by decide) | exact n0 (by decide) | exact bB (by decide) | exact al l1 _ | exact al l2 _ | exact aN l1 | exact aN l2 | exact co hc (by decide) | exact bC hc | omega) e))))
  have hz₇:IsZ h₇ (n+4) (n+2) (n+3) .ellipsis f1:=ex hs₇ (by first | exact nn (by decide) | exact n0 (by decide) | exact bB (by decide) | exact al l1 _ | exact al l2 _ | exact aN l1 | exact aN l2 | exact co hc (by decide) | exact bC hc | omega) (ex hs₄ (by first | exact nn (by decide) | exact n0 (by decide) | exact bB (by decide) | exact al l1 _ | exact al l2 _ | exact aN l1 | exact aN l2 | exact co hc (by decide) | exact bC hc | omega) (ex hs₃ (by first | exact nn (by decide) | exact n0 (by decide) | exact bB (by decide) | exact al l1 _ | exact al l2 _ | exact aN l1 | exact aN l2 | exact co hc (by decide) | exact bC hc | omega) (ex hs₂ (by first | exact nn (by decide) | exact n0 (by decide) | exact bB (by decide) | exact al l1 _ | exact al l2 _ | exact aN l1 | exact aN l2 | exact co hc (by decide) | exact bC hc | omega) hz₁)))
  have hTI₇:dC h₇ (n+2) #[.ref n,.ref (n+1)]:=ex hs₇ (by first | exact nn (by decide) | exact n0 (by decide) | exact bB (by decide) | exact al l1 _ | exact al l2 _ | exact aN l1 | exact aN l2 | exact co hc (by decide) | exact bC hc | omega) (ex hs₄ (by first | exact nn (by decide) | exact n0 (by decide) | exact bB (by decide) | exact al l1 _ | exact al l2 _ | exact aN l1 | exact aN l2 | exact co hc (by decide) | exact bC hc | omega) (ex hs₃ (by first | exact nn (by decide) | exact n0 (by decide) | exact bB (by decide) | exact al l1 _ | exact al l2 _ | exact aN l1 | exact aN l2 | exact co hc (by decide) | exact bC hc | omega) (ex hs₂ (by first | exact nn (by decide) | exact n0 (by decide) | exact bB (by decide) | exact al l1 _ | exact al l2 _ | exact aN l1 | exact aN l2 | exact co hc (by decide) | exact bC hc | omega) (ex hs₁ (by first | exact nn (by decide) | exact n0 (by decide) | exact bB (by decide) | exact al l1 _ | exact al l2 _ | exact aN l1 | exact aN l2 | exact co hc (by decide) | exact bC hc | omega) hTI))))
  have i1₇:=((i1₂.ext hs₃ (by first | exact nn (by decide) | exact n0 (by decide) | exact bB (by decide) | exact al l1 _ | exact al l2 _ | exact aN l1 | exact aN l2 | exact co hc (by decide) | exact bC hc | omega)).ext hs₄ (by first | exact nn (by decide) | exact n0 (by decide) | exact bB (by decide) | exact al l1 _ | exact al l2 _ | exact aN l1 | exact aN l2 | exact co hc (by decide) | exact bC hc | omega)).ext hs₇ (by first | exact nn (by decide) | exact n0 (by decide) | exact bB (by decide) | exact al l1 _ | exact al l2 _ | exact aN l1 | exact aN l2 | exact co hc (by decide) | exact bC hc | omega)
  have i2₇:=i2₄.ext hs₇ (by first | exact nn (by decide) | exact n0 (by decide) | exact bB (by decide) | exact al l1 _ | exact al l2 _ | exact aN l1 | exact aN l2 | exact co hc (by decide) | exact bC hc | omega)
  have hzlt₇:n+4 < h₇.objs.size:=by rw[hsz];exact hzlt
  have up:∀ {c o},h₇.get? c=some o→(h₇.push { cls:=.type "tuple",data:=.seq #[x,y] }).get? c=some o:=fun e=>Heap.get?_push_of_some _ e
  refine wpAny_bind (handOut (z:=n+4) (TI:=n+2) (TO:=n+3) (f0:=.ellipsis) (f1:=f1) (up hz₇) fun h₈ hz₈ hs₈=>?_)
  have up8:∀ {c:Nat}{o},c≠n+4→h₇.get? c=some o→h₈.get? c=some o:=fun hc e=>ex hs₈ hc (up e)
  refine wpAny_pure ⟨_,rfl,hQ h₇.objs.size h₈ (rawInt h₇.objs.size) false x y (by rw[hsz];exact Nat.le_refl _) (.inr ⟨_,rfl⟩) hz₈ (up8 (by first | exact nn (by decide) | exact n0 (by decide) | exact bB (by decide) | exact al l1 _ | exact al l2 _ | exact aN l1 | exact aN l2 | exact co hc (by decide) | exact bC hc | omega) hTI₇) (up8 (by first | exact nn (by decide) | exact n0 (by decide) | exact bB (by decide) | exact al l1 _ | exact al l2 _ | exact aN l1 | exact aN l2 | exact co hc (by decide) | exact bC hc | omega) hTO₇) (i1₇.at fun o e=>up8 (by first | exact nn (by decide) | exact n0 (by decide) | exact bB (by decide) | exact al l1 _ | exact al l2 _ | exact aN l1 | exact aN l2 | exact co hc (by decide) | exact bC hc | omega) e) (i2₇.at fun o e=>up8 (by first | exact nn (by decide) | exact n0 (by decide) | exact bB (by decide) | exact al l1 _ | exact al l2 _ | exact aN l1 | exact aN l2 | exact co hc (by decide) | exact bC hc | omega) e)
   (ex hs₈ (by first | exact nn (by decide) | exact n0 (by decide) | exact bB (by decide) | exact al l1 _ | exact al l2 _ | exact aN l1 | exact aN l2 | exact co hc (by decide) | exact bC hc | omega) (Heap.get?_push_size _ rfl)) fun c o hc e=>up8 (by first | exact nn (by decide) | exact n0 (by decide) | exact bB (by decide) | exact al l1 _ | exact al l2 _ | exact aN l1 | exact aN l2 | exact co hc (by decide) | exact bC hc | omega) (keep c o hc e)⟩
 ·intro h₁ hz₁ hs₁
  simp only [Bool.false_eq_true,if_false]
  refine wpAny_bind ?_
  rw[← Array.forIn_toList]
  simp only [List.forIn_cons,List.forIn_nil]
  refine wpAny_bind (wpAny_bind (wpAny_holding ?_))
  show wpAny _ _ (Builtin.SmallTypes.nextOf (.ref n) >>= _) _ _ _
  refine wpAny_bind (bS (i1.ext hs₁ (by first | exact nn (by decide) | exact n0 (by decide) | exact bB (by decide) | exact al l1 _ | exact al l2 _ | exact aN l1 | exact aN l2 | exact co hc (by decide) | exact bC hc | omega)) (s1.ext hs₁ (by first | exact nn (by decide) | exact n0 (by decide) | exact bB (by decide) | exact al l1 _ | exact al l2 _ | exact aN l1 | exact aN l2 | exact co hc (by decide) | exact bC hc | omega)) hx fun h₂ i1₂ hs₂=>wpAny_pure (wpAny_pure ?_))
  refine wpAny_bind (wpAny_bind (wpAny_holding ?_))
  show wpAny _ _ (Builtin.SmallTypes.nextOf (.ref (n+1)) >>= _) _ _ _
  refine wpAny_bind (bS ((i2.ext hs₁ (by first | exact nn (by decide) | exact n0 (by decide) | exact bB (by decide) | exact al l1 _ | exact al l2 _ | exact aN l1 | exact aN l2 | exact co hc (by decide) | exact bC hc | omega)).ext hs₂ (by first | exact nn (by decide) | exact n0 (by decide) | exact bB (by decide) | exact al l1 _ | exact al l2 _ | exact aN l1 | exact aN l2 | exact co hc (by decide) | exact bC hc | omega)) ((s2.ext hs₁ (by first | exact nn (by decide) | exact n0 (by decide) | exact bB (by decide) | exact al l1 _ | exact al l2 _ | exact aN l1 | exact aN l2 | exact co hc (by decide) | exact bC hc | omega)).ext hs₂ (by first | exact nn (by decide) | exact n0 (by decide) | exact bB (by decide) | exact al l1 _ | exact al l2 _ | exact aN l1 | exact aN l2 | exact co hc (by decide) | exact bC hc | omega)) hy fun h₄ i2₄ hs₄=>wpAny_pure (wpAny_pure (wpAny_pure ?_)))
  refine wpAny_bind (wpAny_newTuple (hsz:=by show 2≤sizeLine;decide) (wpAny_pure ⟨_,rfl,?_⟩))
  have hsz:h₄.objs.size=s.heap.objs.size:=by rw[hs₄.1,hs₂.1,hs₁.1]
  have up:∀ {c o},h₄.get? c=some o→(h₄.push { cls:=.type "tuple",data:=.seq #[x,y] }).get? c=some o:=fun e=>Heap.get?_push_of_some _ e
  have keep:∀ (c:Nat) o,(c < n∨n+4 < c)→s.heap.get? c=some o→h₄.get? c=some o:=fun c o hc e=>ex hs₄ (by first | exact nn (by decide) | exact n0 (by decide) | exact bB (by decide) | exact al l1 _ | exact al l2 _ | exact aN l1 | exact aN l2 | exact co hc (by decide) | exact bC hc | omega) (ex hs₂ (by first | exact nn (by decide) | exact n0 (by decide) | exact bB (by decide) | exact al l1 _ | exact al l2 _ | exact aN l1 | exact aN l2 | exact co hc (by decide) | exact bC hc | omega) (ex hs₁ (by first | exact nn (by decide) | exact n0 (by decide) | exact bB (by decide) | exact al l1 _ | exact al l2 _ | exact aN l1 | exact aN l2 | exact co hc (by decide) | exact bC hc | omega) e))
  refine hQ h₄.objs.size (h₄.push { cls:=.type "tuple",data:=.seq #[x,y] }) f0 true c1 c2 (by rw[hsz];exact Nat.le_refl _) hf (up (ex hs₄ (by first | exact nn (by decide) | exact n0 (by decide) | exact bB (by decide) | exact al l1 _ | exact al l2 _ | exact aN l1 | exact aN l2 | exact co hc (by decide) | exact bC hc | omega) (ex hs₂ (by first | exact nn (by decide) | exact n0 (by decide) | exact bB (by decide) | exact al l1 _ | exact al l2 _ | exact aN l1 | exact aN l2 | exact co hc (by decide) | exact bC hc | omega) hz₁)))
   (up (ex hs₄ (by first | exact nn (by decide) | exact n0 (by decide) | exact bB (by decide) | exact al l1 _ | exact al l2 _ | exact aN l1 | exact aN l2 | exact co hc (by decide) | exact bC hc | omega) (ex hs₂ (by first | exact nn (by decide) | exact n0 (by decide) | exact bB (by decide) | exact al l1 _ | exact al l2 _ | exact aN l1 | exact aN l2 | exact co hc (by decide) | exact bC hc | omega) (ex hs₁ (by first | exact nn (by decide) | exact n0 (by decide) | exact bB (by decide) | exact al l1 _ | exact al l2 _ | exact aN l1 | exact aN l2 | exact co hc (by decide) | exact bC hc | omega) hTI)))) (up (ex hs₄ (by first | exact nn (by decide) | exact n0 (by decide) | exact bB (by decide) | exact al l1 _ | exact al l2 _ | exact aN l1 | exact aN l2 | exact co hc (by decide) | exact bC hc | omega) (ex hs₂ (by first | exact nn (by decide) | exact n0 (by decide) | exact bB (by decide) | exact al l1 _ | exact al l2 _ | exact aN l1 | exact aN l2 | exact co hc (by decide) | exact bC hc | omega) (ex hs₁ (by first | exact nn (by decide) | exact n0 (by decide) | exact bB (by decide) | exact al l1 _ | exact al l2 _ | exact aN l1 | exact aN l2 | exact co hc (by decide) | exact bC hc | omega) hTO))))
   ((i1₂.ext hs₄ (by first | exact nn (by decide) | exact n0 (by decide) | exact bB (by decide) | exact al l1 _ | exact al l2 _ | exact aN l1 | exact aN l2 | exact co hc (by decide) | exact bC hc | omega)).at fun o e=>up e) (i2₄.at fun o e=>up e) (Heap.get?_push_size _ rfl) fun c o hc e=>up (keep c o hc e)
theorem zip2_end {n a1 a2:Nat}{t1 t2:Bool}{k:Nat}{xs ys:Array Value}{c1 c2 f0:Value}{f1:Bool}{Q:Fin→Shared→Prop} (hh:A.handled=none) (hf:Free0 f0)
  (hz:IsZ s.heap (n+4) (n+2) (n+3) f0 f1) (hTI:dC s.heap (n+2) #[.ref n,.ref (n+1)]) (hTO:dC s.heap (n+3) #[c1,c2])
  (i1:dG s.heap t1 n a1 k) (i2:dG s.heap t2 (n+1) a2 k) (s1:cC s.heap t1 a1 xs) (s2:cC s.heap t2 a2 ys)
  (l1:a1 < n) (l2:a2 < n) (hend:xs[k]? = none∨ys[k]? = none)
  (hE:∀ h' e,(∀ (c:Nat) o,(c < n∨n+4 < c)→s.heap.get? c=some o→h'.get? c=some o)→(∃ o,h'.get? e=some o∧o.cls=.type "StopIteration")→E (.ref e) { s with heap:=h' }) :
  wpAny (model prog w) A (Builtin.«zip.__next__» ⟨[.ref (n+4)],[]⟩) Q E s:=by
 show wpAny _ _ (field (.ref (n+4)) 2 >>= _) _ _ _
 refine wpAny_bind (wpAny_field hz rfl (x:=.bool false) rfl ?_)
 show wpAny _ _ (field (.ref (n+4)) 3 >>= _) _ _ _
 refine wpAny_bind (wpAny_field hz rfl (x:=.ref (n+2)) rfl ?_)
 refine wpAny_bind (wpAny_seqItems hTI rfl ?_)
 show wpAny _ _ (Builtin.SmallTypes.ownedTupleIsFree (.ref (n+4)) >>= _) _ _ _
 refine wpAny_bind (owned_free hz hf ?_ ?_)
 ·simp only [if_true]
  refine wpAny_bind (wpAny_rule ?_)
  refine wpAny_bind (wpAny_field hz rfl (x:=.ref (n+3)) rfl ?_)
  refine wpAny_bind (wpAny_setField_rec hz (by simp) fun h₁ hz₁ hs₁=>?_)
  replace hz₁:IsZ h₁ (n+4) (n+2) (n+3) .ellipsis f1:=hz₁
  refine wpAny_bind ?_
  simp only [List.zipIdx_cons,List.zipIdx_nil,List.forIn_cons,List.forIn_nil]
  have fin:∀ {h₂ h₃:Heap}{e j:Nat}{oe:Obj},IsZ h₂ (n+4) (n+2) (n+3) .ellipsis f1→Heap.ExtBut j h₂ h₃→@Ne Nat (n+4) j→(n≤j∧j≤n+4)→(∀ (c:Nat) o,(c < n∨n+4 < c)→s.heap.get? c=some o→h₂.get? c=some o)→h₃.get? e=some oe→oe.cls=.type "StopIteration" →
    wpAny (model prog w) A (setField (.ref (n+4)) 0 .none) (fun _ s'=>E (.ref e) s') E { s with heap:=h₃ }:=fun {h₂ h₃ e j oe} hz₂ hx hj hr hk hoe hce=>by
   have hz₃:IsZ h₃ (n+4) (n+2) (n+3) .ellipsis f1:=hx _ _ hj hz₂
   have hez:e≠n+4:=fun q=>by subst q;rw[hz₃] at hoe;cases hoe;simp at hce
   refine wpAny_setField_rec hz₃ (by simp) fun h₄ _ hs₄=>hE h₄ e (fun c o hc q=>ex hs₄ (by first | exact nn (by decide) | exact n0 (by decide) | exact bB (by decide) | exact al l1 _ | exact al l2 _ | exact aN l1 | exact aN l2 | exact co hc (by decide) | exact bC hc | omega) (hx c o (show @Ne Nat c j by omega) (hk c o hc q))) ⟨oe,hs₄.extBut _ _ hez hoe,hce⟩
  refine wpAny_bind (wpAny_bind (wpAny_onRaise ?_))
  show wpAny _ _ (Builtin.SmallTypes.nextOf (.ref n) >>= _) _ _ _
  cases hx:xs[k]? with
  | none=>
   refine wpAny_bind (d7 hh (i1.ext hs₁ (by first | exact nn (by decide) | exact n0 (by decide) | exact bB (by decide) | exact al l1 _ | exact al l2 _ | exact aN l1 | exact aN l2 | exact co hc (by decide) | exact bC hc | omega)) (s1.ext hs₁ (by first | exact nn (by decide) | exact n0 (by decide) | exact bB (by decide) | exact al l1 _ | exact al l2 _ | exact aN l1 | exact aN l2 | exact co hc (by decide) | exact bC hc | omega)) hx fun h₂ e hs₂ he=>?_)
   obtain⟨oe,hoe,hce⟩:=he
   exact fin hz₁ hs₂ (by first | exact nn (by decide) | exact n0 (by decide) | exact bB (by decide) | exact al l1 _ | exact al l2 _ | exact aN l1 | exact aN l2 | exact co hc (by decide) | exact bC hc | omega) (by first | exact nn (by decide) | exact n0 (by decide) | exact bB (by decide) | exact al l1 _ | exact al l2 _ | exact aN l1 | exact aN l2 | exact co hc (by decide) | exact bC hc | omega) (fun c o hc q=>ex hs₁ (by first | exact nn (by decide) | exact n0 (by decide) | exact bB (by decide) | exact al l1 _ | exact al l2 _ | exact aN l1 | exact aN l2 | exact co hc (by decide) | exact bC hc | omega) q) hoe hce
  | some x=>
   have hy:ys[k]? = none:=by rcases hend with h | h;rw[hx] at h;cases h;exact h
   refine wpAny_bind (bS (i1.ext hs₁ (by first | exact nn (by decide) | exact n0 (by decide) | exact bB (by decide) | exact al l1 _ | exact al l2 _ | exact aN l1 | exact aN l2 | exact co hc (by decide) | exact bC hc | omega)) (s1.ext hs₁ (by first | exact nn (by decide) | exact n0 (by decide) | exact bB (by decide) | exact al l1 _ | exact al l2 _ | exact aN l1 | exact aN l2 | exact co hc (by decide) | exact bC hc | omega)) hx fun h₂ i1₂ hs₂=>wpAny_pure ?_)
   have hTO₂:dC h₂ (n+3) #[c1,c2]:=ex hs₂ (by first | exact nn (by decide) | exact n0 (by decide) | exact bB (by decide) | exact al l1 _ | exact al l2 _ | exact aN l1 | exact aN l2 | exact co hc (by decide) | exact bC hc | omega) (ex hs₁ (by first | exact nn (by decide) | exact n0 (by decide) | exact bB (by decide) | exact al l1 _ | exact al l2 _ | exact aN l1 | exact aN l2 | exact co hc (by decide) | exact bC hc | omega) hTO)
   refine wpAny_bind (wpAny_seqItems hTO₂ rfl ?_)
   refine wpAny_bind (seq_set hTO₂ (by simp) fun h₃ hTO₃ hs₃=>?_)
   refine wpAny_bind (wpAny_letGo (wpAny_pure ?_))
   have hz₃:IsZ h₃ (n+4) (n+2) (n+3) .ellipsis f1:=ex hs₃ (by first | exact nn (by decide) | exact n0 (by decide) | exact bB (by decide) | exact al l1 _ | exact al l2 _ | exact aN l1 | exact aN l2 | exact co hc (by decide) | exact bC hc | omega) (ex hs₂ (by first | exact nn (by decide) | exact n0 (by decide) | exact bB (by decide) | exact al l1 _ | exact al l2 _ | exact aN l1 | exact aN l2 | exact co hc (by decide) | exact bC hc | omega) hz₁)
   have k₃:∀ (c:Nat) o,(c < n∨n+4 < c)→s.heap.get? c=some o→h₃.get? c=some o:=fun c o hc e=>ex hs₃ (by first | exact nn (by decide) | exact n0 (by decide) | exact bB (by decide) | exact al l1 _ | exact al l2 _ | exact aN l1 | exact aN l2 | exact co hc (by decide) | exact bC hc | omega) (ex hs₂ (by first | exact nn (by decide) | exact n0 (by decide) | exact bB (by decide) | exact al l1 _ | exact al l2 _ | exact aN l1 | exact aN l2 | exact co hc (by decide) | exact bC hc | omega) (ex hs₁ (by first | exact nn (by decide) | exact n0 (by decide) | exact bB (by decide) | exact al l1 _ | exact al l2 _ | exact aN l1 | exact aN l2 | exact co hc (by decide) | exact bC hc | omega) e))
   refine wpAny_bind (wpAny_bind (wpAny_onRaise ?_))
   show wpAny _ _ (Builtin.SmallTypes.nextOf (.ref (n+1)) >>= _) _ _ _
   refine wpAny_bind (d7 hh (((i2.ext hs₁ (by first | exact nn (by decide) | exact n0 (by decide) | exact bB (by decide) | exact al l1 _ | exact al l2 _ | exact aN l1 | exact aN l2 | exact co hc (by decide) | exact bC hc | omega)).ext hs₂ (by first | exact nn (by decide) | exact n0 (by decide) | exact bB (by decide) | exact al l1 _ | exact al l2 _ | exact aN l1 | exact aN l2 | exact co hc (by decide) | exact bC hc | omega)).ext hs₃ (by first | exact nn (by decide) | exact n0 (by decide) | exact bB (by decide) | exact al l1 _ | exact al l2 _ | exact aN l1 | exact aN l2 | exact co hc (by decide) | exact bC hc | omega)) (((s2.ext hs₁ (by first | exact nn (by decide) | exact n0 (by decide) | exact bB (by decide) | exact al l1 _ | exact al l2 _ | exact aN l1 | exact aN l2 | exact co hc (by decide) | exact bC hc | omega)).ext hs₂ (by first | exact nn (by decide) | exact n0 (by decide) | exact bB (by decide) | exact al l1 _ | exact al l2 _ | exact aN l1 | exact aN l2 | exact co hc (by decide) | exact bC hc | omega)).ext hs₃ (by first | exact nn (by decide) | exact n0 (by decide) | exact bB (by decide) | exact al l1 _ | exact al l2 _ | exact aN l1 | exact aN l2 | exact co hc (by decide) | exact bC hc | omega)) hy fun h₄ e hs₄ he=>?_)
   obtain⟨oe,hoe,hce⟩:=he
   exact fin hz₃ hs₄ (by first | exact nn (by decide) | exact n0 (by decide) | exact bB (by decide) | exact al l1 _ | exact al l2 _ | exact aN l1 | exact aN l2 | exact co hc (by decide) | exact bC hc | omega) (by first | exact nn (by decide) | exact n0 (by decide) | exact bB (by decide) | exact al l1 _ | exact al l2 _ | exact aN l1 | exact aN l2 | exact co hc (by decide) | exact bC hc | omega) k₃ hoe hce
 ·intro h₁ hz₁ hs₁
  simp only [Bool.false_eq_true,if_false]
  refine wpAny_bind ?_
  rw[← Array.forIn_toList]
  simp only [List.forIn_cons,List.forIn_nil]
  refine wpAny_bind (wpAny_bind (wpAny_holding ?_))
  show wpAny _ _ (Builtin.SmallTypes.nextOf (.ref n) >>= _) _ _ _
  cases hx:xs[k]? with
  | none=>
   refine wpAny_bind (d7 hh (i1.ext hs₁ (by first | exact nn (by decide) | exact n0 (by decide) | exact bB (by decide) | exact al l1 _ | exact al l2 _ | exact aN l1 | exact aN l2 | exact co hc (by decide) | exact bC hc | omega)) (s1.ext hs₁ (by first | exact nn (by decide) | exact n0 (by decide) | exact bB (by decide) | exact al l1 _ | exact al l2 _ | exact aN l1 | exact aN l2 | exact co hc (by decide) | exact bC hc | omega)) hx fun h₂ e hs₂ he=>?_)
   exact hE h₂ e (fun c o hc q=>hs₂ c o (show @Ne Nat c n by omega) (ex hs₁ (by first | exact nn (by decide) | exact n0 (by decide) | exact bB (by decide) | exact al l1 _ | exact al l2 _ | exact aN l1 | exact aN l2 | exact co hc (by decide) | exact bC hc | omega) q)) he
  | some x=>
   have hy:ys[k]? = none:=by rcases hend with h | h;rw[hx] at h;cases h;exact h
   refine wpAny_bind (bS (i1.ext hs₁ (by first | exact nn (by decide) | exact n0 (by decide) | exact bB (by decide) | exact al l1 _ | exact al l2 _ | exact aN l1 | exact aN l2 | exact co hc (by decide) | exact bC hc | omega)) (s1.ext hs₁ (by first | exact nn (by decide) | exact n0 (by decide) | exact bB (by decide) | exact al l1 _ | exact al l2 _ | exact aN l1 | exact aN l2 | exact co hc (by decide) | exact bC hc | omega)) hx fun h₂ i1₂ hs₂=>wpAny_pure (wpAny_pure ?_))
   refine wpAny_bind (wpAny_bind (wpAny_holding ?_))
   show wpAny _ _ (Builtin.SmallTypes.nextOf (.ref (n+1)) >>= _) _ _ _
   refine wpAny_bind (d7 hh ((i2.ext hs₁ (by first | exact nn (by decide) | exact n0 (by decide) | exact bB (by decide) | exact al l1 _ | exact al l2 _ | exact aN l1 | exact aN l2 | exact co hc (by decide) | exact bC hc | omega)).ext hs₂ (by first | exact nn (by decide) | exact n0 (by decide) | exact bB (by decide) | exact al l1 _ | exact al l2 _ | exact aN l1 | exact aN l2 | exact co hc (by decide) | exact bC hc | omega)) ((s2.ext hs₁ (by first | exact nn (by decide) | exact n0 (by decide) | exact bB (by decide) | exact al l1 _ | exact al l2 _ | exact aN l1 | exact aN l2 | exact co hc (by decide) | exact bC hc | omega)).ext hs₂ (by first | exact nn (by decide) | exact n0 (by decide) | exact bB (by decide) | exact al l1 _ | exact al l2 _ | exact aN l1 | exact aN l2 | exact co hc (by decide) | exact bC hc | omega)) hy fun h₃ e hs₃ he=>?_)
   exact hE h₃ e (fun c o hc q=>hs₃ c o (show @Ne Nat c (n+1) by omega) (ex hs₂ (by first | exact nn (by decide) | exact n0 (by decide) | exact bB (by decide) | exact al l1 _ | exact al l2 _ | exact aN l1 | exact aN l2 | exact co hc (by decide) | exact bC hc | omega) (ex hs₁ (by first | exact nn (by decide) | exact n0 (by decide) | exact bB (by decide) | exact al l1 _ | exact al l2 _ | exact aN l1 | exact aN l2 | exact co hc (by decide) | exact bC hc | omega) q))) he
theorem pyNext_zip {z TI TO:Addr}{f0:Value}{f1:Bool}{Q:Option Value→Shared→Prop} (hz:IsZ s.heap z TI TO f0 f1)
  (h:wpAny (model prog w) A.in1 (Builtin.«zip.__next__» ⟨[.ref z],[]⟩) (fun fin s'=>∃ v,fin=.done (.ret v)∧Q (some v) s') (fun e s'=>(∃ a o,e=.ref a∧s'.heap.get? a=some o∧o.cls=.type "StopIteration")∧Q none s') s) :
  wpAny (model prog w) A (pyNext (.ref z)) Q E s:=by
 have hT:s.TypeIs (.ref z) "zip" := ⟨_,hz,rfl⟩
 unfold pyNext
 refine wpAny_bind (wpAny_attempt (wpAny_callSpecial?_slot (name:=Str.ofString "__next__") hT F.slot_zip_next
  (wpAny_call_entry F.slot_zip_next hT F.entry_zip_next (wpAny_mono h (fun fin s' h'=>?_) fun e s' h'=>?_) (F.args_zip_next_1 _))))
 ·obtain⟨v,rfl,q⟩:=h'
  exact⟨v,rfl,wpAny_pure q⟩
 ·obtain⟨⟨a,o,rfl,ho,hc⟩,q⟩:=h'
  exact wpAny_bind (wpAny_isInstance (T := "StopIteration") (b:=true) ⟨o,ho,hc⟩ isSubtype_stop (wpAny_pure q))
theorem letGo_zip {tg:Expr}{z TI TO T:Addr}{f0:Value}{f1:Bool}{Q:Unit→Shared→Prop} (hf:Free0 f0) (hz:IsZ s.heap z TI TO f0 f1)
  (hQ:∀ h' f0',Free0 f0'→IsZ h' z TI TO f0' f1→Heap.SameBut z s.heap h'→Q () { s with heap:=h' }):wpAny (model prog w) A (letOwnedTupleGo tg (.ref z) (.ref T)) Q E s:=by
 have same:Q () s:=hQ s.heap f0 hf hz (Heap.SameBut.refl ..)
 have core:wpAny (model prog w) A (do
   let o ← load z
   match o.cls,o.data with
   | .type n,.fields vs=>
    if ["enumerate","zip","dict_itemiterator","dict_reverseitemiterator","odict_iterator","itertools.zip_longest","itertools.pairwise"].contains n && vs[0]? == some (rawInt T) then
     rule "for.unpacks-the-owned-tuple"
     updateField z 0 .none
   | _,_=>pure ()) Q E s:=by
  refine wpAny_bind (wpAny_load hz ?_)
  show wpAny _ _ (if (["enumerate","zip","dict_itemiterator","dict_reverseitemiterator","odict_iterator","itertools.zip_longest","itertools.pairwise"].contains "zip" &&
   (#[f0,.bool f1,.bool false,.ref TI,.ref TO]:Array Value)[0]? == some (rawInt T))=true then _ else _) Q E s
  split
  ·refine wpAny_bind (wpAny_rule ?_)
   show wpAny _ _ (setField (.ref z) 0 .none) Q E s
   exact wpAny_setField_rec hz (by simp) fun h' hz' hs'=>hQ h' .none (.inl rfl) hz' hs'
  ·exact wpAny_pure same
 unfold letOwnedTupleGo
 cases tg <;> first
  | exact wpAny_pure same
  | exact core
theorem pyIter_zip {z TI TO:Addr}{f0:Value}{f1:Bool}{Q:Value→Shared→Prop} (hz:IsZ s.heap z TI TO f0 f1) (h:Q (.ref z) s):wpAny (model prog w) A (pyIter (.ref z)) Q E s:=by
 have hT:s.TypeIs (.ref z) "zip" := ⟨_,hz,rfl⟩
 refine wpAny_pyIter_slot hT F.slot_zip_iter (wpAny_call_entry F.slot_zip_iter hT F.entry_zip_iter ?_ (F.args_zip_iter_1 _))
 show wpAny _ _ (ret (.ref z)) _ _ s
 exact wpAny_pure ⟨_,rfl,"zip",_,hT,F.slot_zip_next.lookup,h⟩
noncomputable def itObj (t:Bool) (a:Addr):Obj:={ cls:=.type (if t=true then "tuple_iterator" else "list_iterator"),data:=.fields #[.ref a,.int 0 0] }
theorem eF {t:Bool}{a:Addr}{items:Array Value}{Q:Value→Shared→Prop} (hs:cC s.heap t a items) (hQ:Q (.ref s.heap.objs.size) { s with heap:=s.heap.push (itObj t a) }) :
  wpAny (model prog w) A (pyIter (.ref a)) Q E s:=by
 cases t with
 | true=>exact wpAny_pyIter_tuple hs hQ
 | false=>exact wpAny_pyIter_list hs hQ
theorem itObj_is {h:Heap}{t:Bool}{a it:Addr} (e:h.get? it=some (itObj t a)):dG h t it a 0:=by
 cases t <;> exact⟨_,e,rfl,rfl⟩
noncomputable abbrev zA (h:Heap) (t:Bool) (a:Addr):Heap:=h.push (itObj t a)
noncomputable abbrev zTup (h:Heap) (vs:List Value):Heap:=h.push { cls:=.type "tuple",data:=.seq vs.toArray }
noncomputable abbrev z2B (h:Heap) (t1 t2:Bool) (l1 l2:Addr):Heap:=zTup (zA (zA h t1 l1) t2 l2) [.ref h.objs.size,.ref (zA h t1 l1).objs.size]
noncomputable abbrev z2H (h:Heap) (t1 t2:Bool) (l1 l2:Addr):Heap:=zTup (z2B h t1 t2 l1 l2) [.none,.none]
noncomputable abbrev z2E (h:Heap) (t1 t2:Bool) (l1 l2:Addr):Heap:=(z2H h t1 t2 l1 l2).push { cls:=.type "zip",data:=.fields #[.none,.bool false,.bool false,.ref (zA (zA h t1 l1) t2 l2).objs.size,.ref (z2B h t1 t2 l1 l2).objs.size] }
noncomputable abbrev z3B (h:Heap) (t1 t2 t3:Bool) (l1 l2 l3:Addr):Heap:=zTup (zA (zA (zA h t1 l1) t2 l2) t3 l3) [.ref h.objs.size,.ref (zA h t1 l1).objs.size,.ref (zA (zA h t1 l1) t2 l2).objs.size]
noncomputable abbrev z3H (h:Heap) (t1 t2 t3:Bool) (l1 l2 l3:Addr):Heap:=zTup (z3B h t1 t2 t3 l1 l2 l3) [.none,.none,.none]
noncomputable abbrev z3E (h:Heap) (t1 t2 t3:Bool) (l1 l2 l3:Addr):Heap:=(z3H h t1 t2 t3 l1 l2 l3).push { cls:=.type "zip",data:=.fields #[.none,.bool false,.bool false,.ref (zA (zA (zA h t1 l1) t2 l2) t3 l3).objs.size,.ref (z3B h t1 t2 t3 l1 l2 l3).objs.size] }
theorem meets_zip2 (t1 t2:Bool) (l1 l2:Addr) (xs ys:Array Value) :
  Meets (Builtin.«zip.__new__» ⟨[.type "zip",.ref l1,.ref l2],[]⟩) (fun _ R s=>cC s.heap t1 l1 xs∧cC s.heap t2 l2 ys∧
   R (.ok (.ret (.ref (z2H s.heap t1 t2 l1 l2).objs.size))) { s with heap:=z2E s.heap t1 t2 l1 l2 }):=
 .of_wp fun prog w A R s h=>by
  obtain⟨hp,g,d,tk,os⟩:=s;obtain⟨hl1,hl2,h⟩:=h
  have hsub:=sub_zip
  have hL1:cC (Shared.heap ⟨hp,g,d,tk,os⟩) t1 l1 xs:=hl1
  have hL2:cC (Shared.heap ⟨hp.push (itObj t1 l1),g,d,tk,os⟩) t2 l2 ys:=hl2.at fun o e=>Heap.get?_push_of_some _ e
  wp_walk using eF hL1,eF hL2
  exact⟨_,rfl,h⟩
theorem meets_zip3 (t1 t2 t3:Bool) (l1 l2 l3:Addr) (xs ys zs:Array Value) :
  Meets (Builtin.«zip.__new__» ⟨[.type "zip",.ref l1,.ref l2,.ref l3],[]⟩) (fun _ R s=>cC s.heap t1 l1 xs∧cC s.heap t2 l2 ys∧cC s.heap t3 l3 zs∧
   R (.ok (.ret (.ref (z3H s.heap t1 t2 t3 l1 l2 l3).objs.size))) { s with heap:=z3E s.heap t1 t2 t3 l1 l2 l3 }):=
 .of_wp fun prog w A R s h=>by
  obtain⟨hp,g,d,tk,os⟩:=s;obtain⟨hl1,hl2,hl3,h⟩:=h
  have hsub:=sub_zip
  have hL1:cC (Shared.heap ⟨hp,g,d,tk,os⟩) t1 l1 xs:=hl1
  have hL2:cC (Shared.heap ⟨hp.push (itObj t1 l1),g,d,tk,os⟩) t2 l2 ys:=hl2.at fun o e=>Heap.get?_push_of_some _ e
  have hL3:cC (Shared.heap ⟨(hp.push (itObj t1 l1)).push (itObj t2 l2),g,d,tk,os⟩) t3 l3 zs:=hl3.at fun o e=>Heap.get?_push_of_some _ (Heap.get?_push_of_some _ e)
  wp_walk using eF hL1,eF hL2,eF hL3
  exact⟨_,rfl,h⟩
theorem typeCall_zip_3 (a b c:Value):checkTypeCall "zip" ⟨[a,b,c],[]⟩=pure ():=by kernel_rfl
theorem newCall_zip_3 (a b c:Value):checkBuiltinCall "zip.__new__" ⟨[.type "zip",a,b,c],[]⟩=pure ():=by kernel_rfl
theorem args_object_init_4 (a b c d:Value):argsOk "object.__init__" ⟨[a,b,c,d],[]⟩:=by
 unfold argsOk;rw[signature?_of (id := "object.__init__") (n:=['_','_','t','i','n','i','_','_']) (o:=['t','c','e','j','b','o']) (by kernel_rfl) F.owner_object];kernel_rfl
theorem call_zip2 {t1 t2:Bool}{l1 l2:Addr}{xs ys:Array Value}{Q:Value→Shared→Prop} (hl1:cC s.heap t1 l1 xs) (hl2:cC s.heap t2 l2 ys)
  (h:∀ h',IsZ h' (s.heap.objs.size+4) (s.heap.objs.size+2) (s.heap.objs.size+3) .none false→dC h' (s.heap.objs.size+2) #[.ref s.heap.objs.size,.ref (s.heap.objs.size+1)]→
   dC h' (s.heap.objs.size+3) #[.none,.none]→dG h' t1 s.heap.objs.size l1 0→dG h' t2 (s.heap.objs.size+1) l2 0→
   (∀ c o,s.heap.get? c=some o→h'.get? c=some o)→Q (.ref (s.heap.objs.size+4)) { s with heap:=h' }):wpAny (model prog w) A (call (.type "zip") [.ref l1,.ref l2]) Q E s:=by
 refine callType_new F.called_zip (by decide) (F.typeCall_zip_2 _ _) (F.newCall_zip_2 _ _) (fun obj=>F.args_object_init_3 obj _ _) F.entry_zip_new (meets_zip2 t1 t2 l1 l2 xs ys) ⟨hl1,hl2,?_⟩
 generalize s.heap=h0 at *
 have z1:(zA h0 t1 l1).objs.size=h0.objs.size+1:=Heap.size_push ..
 have z2:(zA (zA h0 t1 l1) t2 l2).objs.size=h0.objs.size+2:=by rw[Heap.size_push,z1]
 have z3:(z2B h0 t1 t2 l1 l2).objs.size=h0.objs.size+3:=by rw[Heap.size_push,z2]
 have z4:(z2H h0 t1 t2 l1 l2).objs.size=h0.objs.size+4:=by rw[Heap.size_push,z3]
 have g5:(z2E h0 t1 t2 l1 l2).get? (z2H h0 t1 t2 l1 l2).objs.size=some _:=Heap.get?_push_size _ rfl
 have g4:(z2E h0 t1 t2 l1 l2).get? (z2B h0 t1 t2 l1 l2).objs.size=some _:=Heap.get?_push_of_some _ (Heap.get?_push_size _ rfl)
 have g3:(z2E h0 t1 t2 l1 l2).get? (zA (zA h0 t1 l1) t2 l2).objs.size=some _:=Heap.get?_push_of_some _ (Heap.get?_push_of_some _ (Heap.get?_push_size _ rfl))
 have g2:(z2E h0 t1 t2 l1 l2).get? (zA h0 t1 l1).objs.size=some _:=Heap.get?_push_of_some _ (Heap.get?_push_of_some _ (Heap.get?_push_of_some _ (Heap.get?_push_size _ rfl)))
 have g1:(z2E h0 t1 t2 l1 l2).get? h0.objs.size=some _:=Heap.get?_push_of_some _ (Heap.get?_push_of_some _ (Heap.get?_push_of_some _ (Heap.get?_push_of_some _ (Heap.get?_push_size _ rfl))))
 show _∧_
 rw[z2,z3,z4] at g5
 rw[z1,z2] at g3
 rw[z3] at g4
 rw[z1] at g2
 rw[z4]
 exact⟨⟨_,g5,rfl⟩,h _ g5 g3 g4 (itObj_is g1) (itObj_is g2) fun c o x=>Heap.get?_push_of_some _ (Heap.get?_push_of_some _ (Heap.get?_push_of_some _ (Heap.get?_push_of_some _ (Heap.get?_push_of_some _ x))))⟩
theorem call_zip3 {t1 t2 t3:Bool}{l1 l2 l3:Addr}{xs ys zs:Array Value}{Q:Value→Shared→Prop} (hl1:cC s.heap t1 l1 xs) (hl2:cC s.heap t2 l2 ys) (hl3:cC s.heap t3 l3 zs)
  (h:∀ h',IsZ h' (s.heap.objs.size+5) (s.heap.objs.size+3) (s.heap.objs.size+4) .none false→dC h' (s.heap.objs.size+3) #[.ref s.heap.objs.size,.ref (s.heap.objs.size+1),.ref (s.heap.objs.size+2)]→
   dC h' (s.heap.objs.size+4) #[.none,.none,.none]→dG h' t1 s.heap.objs.size l1 0→dG h' t2 (s.heap.objs.size+1) l2 0→dG h' t3 (s.heap.objs.size+2) l3 0→
   (∀ c o,s.heap.get? c=some o→h'.get? c=some o)→Q (.ref (s.heap.objs.size+5)) { s with heap:=h' }):wpAny (model prog w) A (call (.type "zip") [.ref l1,.ref l2,.ref l3]) Q E s:=by
 refine callType_new F.called_zip (by decide) (typeCall_zip_3 _ _ _) (newCall_zip_3 _ _ _) (fun obj=>args_object_init_4 obj _ _ _) F.entry_zip_new (meets_zip3 t1 t2 t3 l1 l2 l3 xs ys zs) ⟨hl1,hl2,hl3,?_⟩
 generalize s.heap=h0 at *
 have z1:(zA h0 t1 l1).objs.size=h0.objs.size+1:=Heap.size_push ..
 have z2:(zA (zA h0 t1 l1) t2 l2).objs.size=h0.objs.size+2:=by rw[Heap.size_push,z1]
 have z2':(zA (zA (zA h0 t1 l1) t2 l2) t3 l3).objs.size=h0.objs.size+3:=by rw[Heap.size_push,z2]
 have z3:(z3B h0 t1 t2 t3 l1 l2 l3).objs.size=h0.objs.size+4:=by rw[Heap.size_push,z2']
 have z4:(z3H h0 t1 t2 t3 l1 l2 l3).objs.size=h0.objs.size+5:=by rw[Heap.size_push,z3]
 have g5:(z3E h0 t1 t2 t3 l1 l2 l3).get? (z3H h0 t1 t2 t3 l1 l2 l3).objs.size=some _:=Heap.get?_push_size _ rfl
 have g4:(z3E h0 t1 t2 t3 l1 l2 l3).get? (z3B h0 t1 t2 t3 l1 l2 l3).objs.size=some _:=Heap.get?_push_of_some _ (Heap.get?_push_size _ rfl)
 have g3:(z3E h0 t1 t2 t3 l1 l2 l3).get? (zA (zA (zA h0 t1 l1) t2 l2) t3 l3).objs.size=some _:=Heap.get?_push_of_some _ (Heap.get?_push_of_some _ (Heap.get?_push_size _ rfl))
 have g2':(z3E h0 t1 t2 t3 l1 l2 l3).get? (zA (zA h0 t1 l1) t2 l2).objs.size=some _:=Heap.get?_push_of_some _ (Heap.get?_push_of_some _ (Heap.get?_push_of_some _ (Heap.get?_push_size _ rfl)))
 have g2:(z3E h0 t1 t2 t3 l1 l2 l3).get? (zA h0 t1 l1).objs.size=some _:=Heap.get?_push_of_some _ (Heap.get?_push_of_some _ (Heap.get?_push_of_some _ (Heap.get?_push_of_some _ (Heap.get?_push_size _ rfl))))
 have g1:(z3E h0 t1 t2 t3 l1 l2 l3).get? h0.objs.size=some _:=Heap.get?_push_of_some _ (Heap.get?_push_of_some _ (Heap.get?_push_of_some _ (Heap.get?_push_of_some _ (Heap.get?_push_of_some _ (Heap.get?_push_size _ rfl)))))
 show _∧_
 rw[z2',z3,z4] at g5
 rw[z1,z2,z2'] at g3
 rw[z3] at g4
 rw[z2] at g2'
 rw[z1] at g2
 rw[z4]
 exact⟨⟨_,g5,rfl⟩,h _ g5 g3 g4 (itObj_is g1) (itObj_is g2) (itObj_is g2') fun c o x=>Heap.get?_push_of_some _ (Heap.get?_push_of_some _ (Heap.get?_push_of_some _ (Heap.get?_push_of_some _ (Heap.get?_push_of_some _ (Heap.get?_push_of_some _ x)))))⟩
end
end TwZ
namespace TwZ
open PySem
open Sem (wp)
open AutoSeq1 (wpAny_loadPart')
section
variable {prog:Program}{w:World}{M:Model}{A:Around}{E:Value→Shared→Prop}{s:Shared}
noncomputable abbrev IsEn (h:Heap) (e it:Addr) (f0:Value) (f1:Bool) (i:Int) (old:Value):Prop:=
 h.get? e=some { cls:=.type "enumerate",dict:=none,data:=.fields #[f0,.bool f1,.ref it,rawInt i,.none,old],slots:=#[] }
theorem ownedE_free {e it:Addr}{f0:Value}{f1:Bool}{i:Int}{old:Value}{Q:Bool→Shared→Prop} (hz:IsEn s.heap e it f0 f1 i old) (hf:Free0 f0) (yes:Q true s)
  (no:∀ h',IsEn h' e it f0 true i old→Heap.SameBut e s.heap h'→Q false { s with heap:=h' }):wpAny (model prog w) A (Builtin.SmallTypes.ownedTupleIsFree (.ref e)) Q E s:=by
 unfold Builtin.SmallTypes.ownedTupleIsFree
 refine wpAny_bind (wpAny_field hz rfl (x:=f0) rfl ?_)
 rcases hf with rfl | ⟨a,rfl⟩
 ·exact wpAny_pure yes
 ·refine wpAny_bind (wpAny_alive ?_)
  cases h:s.heap.get? a.toNat with
  | none=>exact wpAny_pure yes
  | some o=>
   show wpAny _ _ (field (.ref e) 1 >>= _) _ _ _
   refine wpAny_bind (wpAny_field hz rfl (x:=.bool f1) rfl ?_)
   cases f1 with
   | true=>exact wpAny_pure (no s.heap hz (Heap.SameBut.refl ..))
   | false=>
    show wpAny _ _ (setField (.ref e) 1 (.bool true) >>= _) _ _ _
    refine wpAny_bind (wpAny_setField_rec hz (by simp) fun h₁ hz₁ hs₁=>wpAny_pure (no h₁ hz₁ hs₁))
theorem handOutE {e it:Addr}{f0:Value}{f1:Bool}{i:Int}{old:Value}{T:Addr}{Q:Unit→Shared→Prop} (hz:IsEn s.heap e it f0 f1 i old)
  (h:∀ h',IsEn h' e it (rawInt T) false i old→Heap.SameBut e s.heap h'→Q () { s with heap:=h' }):wpAny (model prog w) A (Builtin.SmallTypes.ownedTupleHandOut (.ref e) (.ref T)) Q E s:=by
 unfold Builtin.SmallTypes.ownedTupleHandOut
 refine wpAny_bind (wpAny_setField_rec hz (by simp) fun h₁ hz₁ hs₁=>?_)
 replace hz₁:IsEn h₁ e it (rawInt T) f1 i old:=hz₁
 refine wpAny_setField_rec hz₁ (by simp) fun h₂ hz₂ hs₂=>?_
 exact h h₂ hz₂ (Heap.SameBut.trans hs₁ hs₂)
theorem enum_next {n a:Nat}{t:Bool}{k:Nat}{xs:Array Value}{x old f0:Value}{f1:Bool}{Q:Value→Shared→Prop} (hf:Free0 f0)
  (he:IsEn s.heap (n+1) n f0 f1 k old) (i1:dG s.heap t n a k) (s1:cC s.heap t a xs) (l1:a < n) (hx:xs[k]? = some x)
  (hQ:∀ (T:Nat) h' f0' f1' old',s.heap.objs.size≤T→Free0 f0'→IsEn h' (n+1) n f0' f1' ((k:Int)+1) old'→dG h' t n a (k+1)→dC h' T #[.int k s.toks,x]→
   (∀ (c:Nat) o,(c < n∨n+1 < c)→s.heap.get? c=some o→h'.get? c=some o)→Q (.ref T) { s with heap:=h',toks:=s.toks+1 }) :
  wpAny (model prog w) A (Builtin.«enumerate.__next__» ⟨[.ref (n+1)],[]⟩) (fun fin s'=>∃ v,fin=.done (.ret v)∧Q v s') E s:=by
 obtain⟨hp,g,d,tk,os⟩:=s
 have helt:n+1 < hp.objs.size:=Heap.lt_size he
 show wpAny _ _ (field (.ref (n+1)) 2 >>= _) _ _ _
 refine wpAny_bind (wpAny_field he rfl (x:=.ref n) rfl ?_)
 refine wpAny_bind (bS i1 s1 hx fun h₁ i1₁ hs₁=>?_)
 replace hs₁:Heap.SameBut n hp h₁:=hs₁
 have he₁:IsEn h₁ (n+1) n f0 f1 k old:=ex hs₁ (by omega) he
 show wpAny _ _ (field (.ref (n+1)) 3 >>= _) _ _ ⟨h₁,g,d,tk,os⟩
 refine wpAny_bind (wpAny_field he₁ rfl (x:=rawInt k) rfl ?_)
 show wpAny _ _ (field (.ref (n+1)) 4 >>= _) _ _ ⟨h₁,g,d,tk,os⟩
 refine wpAny_bind (wpAny_field he₁ rfl (x:=.none) rfl ?_)
 show wpAny _ _ (mkInt k >>= _) _ _ ⟨h₁,g,d,tk,os⟩
 refine wpAny_bind (wpAny_mkInt ?_)
 show wpAny _ _ (setField (.ref (n+1)) 3 (rawInt ((k:Int)+1)) >>= _) _ _ ⟨h₁,g,d,tk+1,os⟩
 refine wpAny_bind (wpAny_setField_rec he₁ (by simp) fun h₂ he₂ hs₂=>?_)
 replace hs₂:Heap.SameBut (n+1) h₁ h₂:=hs₂
 replace he₂:IsEn h₂ (n+1) n f0 f1 ((k:Int)+1) old:=he₂
 show wpAny _ _ (setField (.ref (n+1)) 4 .none >>= _) _ _ ⟨h₂,g,d,tk+1,os⟩
 refine wpAny_bind (wpAny_setField_rec he₂ (by simp) fun h₃ he₃ hs₃=>?_)
 replace hs₃:Heap.SameBut (n+1) h₂ h₃:=hs₃
 replace he₃:IsEn h₃ (n+1) n f0 f1 ((k:Int)+1) old:=he₃
 show wpAny _ _ (newTuple [.int k tk,x] >>= _) _ _ ⟨h₃,g,d,tk+1,os⟩
 refine wpAny_bind (wpAny_newTuple ?_)
 have he₄:IsEn (h₃.push { cls:=.type "tuple",data:=.seq #[.int k tk,x] }) (n+1) n f0 f1 ((k:Int)+1) old:=Heap.get?_push_of_some _ he₃
 have hsz:h₃.objs.size=hp.objs.size:=by rw[hs₃.1,hs₂.1,hs₁.1]
 have ht₄:dC (h₃.push { cls:=.type "tuple",data:=.seq #[.int k tk,x] }) h₃.objs.size #[.int k tk,x]:=Heap.get?_push_size _ rfl
 have k₄:∀ (c:Nat) o,(c < n∨n+1 < c)→hp.get? c=some o→(h₃.push { cls:=.type "tuple",data:=.seq #[.int k tk,x] }).get? c=some o:=fun c o hc e=>
  Heap.get?_push_of_some _ (ex hs₃ (by omega) (ex hs₂ (by omega) (ex hs₁ (by omega) e)))
 have i1₄:dG (h₃.push { cls:=.type "tuple",data:=.seq #[.int k tk,x] }) t n a (k+1):=((i1₁.ext hs₂ (by omega)).ext hs₃ (by omega)).at fun o e=>Heap.get?_push_of_some _ e
 have hlt₃:n+1 < h₃.objs.size:=by rw[hsz];exact helt
 generalize hh₄:h₃.push { cls:=.type "tuple",data:=.seq #[.int k tk,x] }=h₄ at he₄ ht₄ k₄ i1₄
 have hTle:hp.objs.size≤h₃.objs.size:=Nat.le_of_eq hsz.symm
 show wpAny _ _ (Builtin.SmallTypes.ownedTupleIsFree (.ref (n+1)) >>= _) _ _ ⟨h₄,g,d,tk+1,os⟩
 refine wpAny_bind (ownedE_free he₄ hf ?_ ?_)
 ·simp only [if_true]
  refine wpAny_bind (wpAny_rule ?_)
  refine wpAny_bind (wpAny_field he₄ rfl (x:=old) rfl ?_)
  refine wpAny_bind (wpAny_setField_rec he₄ (by simp) fun h₅ he₅ hs₅=>?_)
  replace hs₅:Heap.SameBut (n+1) h₄ h₅:=hs₅
  replace he₅:IsEn h₅ (n+1) n f0 f1 ((k:Int)+1) x:=he₅
  refine wpAny_bind (handOutE (s:=⟨h₅,g,d,tk+1,os⟩) he₅ fun h₆ he₆ hs₆=>?_)
  replace hs₆:Heap.SameBut (n+1) h₅ h₆:=hs₆
  refine wpAny_bind (wpAny_letGo (wpAny_pure ⟨_,rfl,?_⟩))
  exact hQ h₃.objs.size h₆ _ _ _ hTle (.inr ⟨_,rfl⟩) he₆ ((i1₄.ext hs₅ (by omega)).ext hs₆ (by omega)) (ex hs₆ (by omega) (ex hs₅ (by omega) ht₄)) fun c o hc e=>ex hs₆ (by omega) (ex hs₅ (by omega) (k₄ c o hc e))
 ·intro h₅ he₅ hs₅
  replace hs₅:Heap.SameBut (n+1) h₄ h₅:=hs₅
  simp only [Bool.false_eq_true,if_false]
  refine wpAny_pure ⟨_,rfl,?_⟩
  exact hQ h₃.objs.size h₅ _ _ _ hTle hf he₅ (i1₄.ext hs₅ (by omega)) (ex hs₅ (by omega) ht₄) fun c o hc e=>ex hs₅ (by omega) (k₄ c o hc e)
theorem enum_end {n a:Nat}{t:Bool}{k:Nat}{xs:Array Value}{old f0:Value}{f1:Bool}{Q:Fin→Shared→Prop} (hh:A.handled=none)
  (he:IsEn s.heap (n+1) n f0 f1 k old) (i1:dG s.heap t n a k) (s1:cC s.heap t a xs) (hx:xs[k]? = none)
  (hE:∀ h' e,(∀ (c:Nat) o,(c < n∨n+1 < c)→s.heap.get? c=some o→h'.get? c=some o)→(∃ o,h'.get? e=some o∧o.cls=.type "StopIteration")→E (.ref e) { s with heap:=h' }) :
  wpAny (model prog w) A (Builtin.«enumerate.__next__» ⟨[.ref (n+1)],[]⟩) Q E s:=by
 show wpAny _ _ (field (.ref (n+1)) 2 >>= _) _ _ _
 refine wpAny_bind (wpAny_field he rfl (x:=.ref n) rfl ?_)
 refine wpAny_bind (d7 hh i1 s1 hx fun h' e hk he'=>hE h' e (fun c o hc q=>hk c o (show @Ne Nat c n by omega) q) he')
theorem pyNext_enum {e it:Addr}{f0:Value}{f1:Bool}{i:Int}{old:Value}{Q:Option Value→Shared→Prop} (he:IsEn s.heap e it f0 f1 i old)
  (h:wpAny (model prog w) A.in1 (Builtin.«enumerate.__next__» ⟨[.ref e],[]⟩) (fun fin s'=>∃ v,fin=.done (.ret v)∧Q (some v) s') (fun e s'=>(∃ a o,e=.ref a∧s'.heap.get? a=some o∧o.cls=.type "StopIteration")∧Q none s') s) :
  wpAny (model prog w) A (pyNext (.ref e)) Q E s:=by
 have hT:s.TypeIs (.ref e) "enumerate" := ⟨_,he,rfl⟩
 unfold pyNext
 refine wpAny_bind (wpAny_attempt (wpAny_callSpecial?_slot (name:=Str.ofString "__next__") hT F.slot_enumerate_next
  (wpAny_call_entry F.slot_enumerate_next hT F.entry_enumerate_next (wpAny_mono h (fun fin s' h'=>?_) fun e s' h'=>?_) (F.args_enumerate_next_1 _))))
 ·obtain⟨v,rfl,q⟩:=h'
  exact⟨v,rfl,wpAny_pure q⟩
 ·obtain⟨⟨a,o,rfl,ho,hc⟩,q⟩:=h'
  exact wpAny_bind (wpAny_isInstance (T := "StopIteration") (b:=true) ⟨o,ho,hc⟩ isSubtype_stop (wpAny_pure q))
theorem letGo_enum {tg:Expr}{e it T:Addr}{f0:Value}{f1:Bool}{i:Int}{old:Value}{Q:Unit→Shared→Prop} (hf:Free0 f0) (hz:IsEn s.heap e it f0 f1 i old)
  (hQ:∀ h' f0',Free0 f0'→IsEn h' e it f0' f1 i old→Heap.SameBut e s.heap h'→Q () { s with heap:=h' }):wpAny (model prog w) A (letOwnedTupleGo tg (.ref e) (.ref T)) Q E s:=by
 have same:Q () s:=hQ s.heap f0 hf hz (Heap.SameBut.refl ..)
 have core:wpAny (model prog w) A (do
   let o ← load e
   match o.cls,o.data with
   | .type n,.fields vs=>
    if ["enumerate","zip","dict_itemiterator","dict_reverseitemiterator","odict_iterator","itertools.zip_longest","itertools.pairwise"].contains n && vs[0]? == some (rawInt T) then
     rule "for.unpacks-the-owned-tuple"
     updateField e 0 .none
   | _,_=>pure ()) Q E s:=by
  refine wpAny_bind (wpAny_load hz ?_)
  show wpAny _ _ (if (["enumerate","zip","dict_itemiterator","dict_reverseitemiterator","odict_iterator","itertools.zip_longest","itertools.pairwise"].contains "enumerate" &&
   (#[f0,.bool f1,.ref it,rawInt i,.none,old]:Array Value)[0]? == some (rawInt T))=true then _ else _) Q E s
  split
  ·refine wpAny_bind (wpAny_rule ?_)
   show wpAny _ _ (setField (.ref e) 0 .none) Q E s
   exact wpAny_setField_rec hz (by simp) fun h' hz' hs'=>hQ h' .none (.inl rfl) hz' hs'
  ·exact wpAny_pure same
 unfold letOwnedTupleGo
 cases tg <;> first
  | exact wpAny_pure same
  | exact core
theorem pyIter_enum {e it:Addr}{f0:Value}{f1:Bool}{i:Int}{old:Value}{Q:Value→Shared→Prop} (he:IsEn s.heap e it f0 f1 i old) (h:Q (.ref e) s):wpAny (model prog w) A (pyIter (.ref e)) Q E s:=by
 have hT:s.TypeIs (.ref e) "enumerate" := ⟨_,he,rfl⟩
 refine wpAny_pyIter_slot hT F.slot_enumerate_iter (wpAny_call_entry F.slot_enumerate_iter hT F.entry_enumerate_iter ?_ (F.args_enumerate_iter_1 _))
 show wpAny _ _ (ret (.ref e)) _ _ s
 exact wpAny_pure ⟨_,rfl,"enumerate",_,hT,F.slot_enumerate_next.lookup,h⟩
theorem meets_enum (t:Bool) (l:Addr) (xs:Array Value) :
  Meets (Builtin.«enumerate.__new__» ⟨[.type "enumerate",.ref l],[]⟩) (fun _ R s=>cC s.heap t l xs∧
   R (.ok (.ret (.ref (zA s.heap t l).objs.size))) { s with heap:=(zA s.heap t l).push { cls:=.type "enumerate",data:=.fields #[.none,.bool false,.ref s.heap.objs.size,rawInt 0,.none,.none] } }):=
 .of_wp fun prog w A R s h=>by
  obtain⟨hp,g,d,tk,os⟩:=s;obtain⟨hl,h⟩:=h
  have hsub:=sub_enumerate
  have hL:cC (Shared.heap ⟨hp,g,d,tk,os⟩) t l xs:=hl
  wp_walk
  refine wpAny_stack_any fun st=>wpAny_pure ?_
  split
  ·rename_i c _ _ _ _ _
   cases (c == Value.type "enumerate")
   ·wp_walk using eF hL
    exact⟨_,rfl,h⟩
   ·wp_walk using eF hL
    exact⟨_,rfl,h⟩
  ·wp_walk using eF hL
   exact⟨_,rfl,h⟩
theorem call_enum {t:Bool}{l:Addr}{xs:Array Value}{Q:Value→Shared→Prop} (hL:cC s.heap t l xs)
  (h:∀ h',IsEn h' (s.heap.objs.size+1) s.heap.objs.size .none false 0 .none→dG h' t s.heap.objs.size l 0→(∀ b o,s.heap.get? b=some o→h'.get? b=some o)→Q (.ref (s.heap.objs.size+1)) { s with heap:=h' }) :
  wpAny (model prog w) A (call (.type "enumerate") [.ref l]) Q E s:=by
 refine callType_new F.called_enumerate (by decide) (F.typeCall_enumerate_1 _) (F.newCall_enumerate_1 _) (fun obj=>F.args_object_init_2 obj _) F.entry_enumerate_new (meets_enum t l xs) ⟨hL,?_⟩
 have hz:(zA s.heap t l).objs.size=s.heap.objs.size+1:=Heap.size_push ..
 show _∧_
 rw[hz]
 have he:IsEn ((zA s.heap t l).push { cls:=.type "enumerate",data:=.fields #[.none,.bool false,.ref s.heap.objs.size,rawInt 0,.none,.none] }) (s.heap.objs.size+1) s.heap.objs.size .none false 0 .none:=by
  have:=Heap.get?_push_size (zA s.heap t l) (o:={ cls:=.type "enumerate",data:=.fields #[.none,.bool false,.ref s.heap.objs.size,rawInt 0,.none,.none] }) rfl
  rw[hz] at this;exact this
 exact⟨⟨_,he,rfl⟩,h _ he (itObj_is (Heap.get?_push_of_some _ (Heap.get?_push_size _ rfl))) fun b o x=>Heap.get?_push_of_some _ (Heap.get?_push_of_some _ x)⟩
end
end TwZ
namespace L2
open PySem PySem.Spec PyProof.Rows TwZ
noncomputable def SqB (K:PySem.W.Frag) (H:Hp) (t:Bool) (a:Addr) (xs:List V):Prop:=if t=true then bT K H a xs else bM K H a xs
section
variable {X:Cx}{pins:List (Addr×Obj)}{σ:St}{H:Hp}{s:Shared}
theorem Inv.src {t:Bool}{a:Addr}{xs:List V} (I:Inv X pins σ H s) (h:SqB X.K H t a xs):∃ its:List Value,bP xs its∧cC s.heap t a its.toArray∧xs.length≤sizeLine:=by
 cases t with
 | true=>
  obtain⟨its,r,p,z⟩:=I.tuple h
  exact⟨its,r,(show s.heap.IsTuple a its.toArray from p),z⟩
 | false=>
  obtain⟨its,r,p,z⟩:=I.list h
  exact⟨its,r,p.isList,z⟩
theorem Inv.src_inj {t:Bool}{a:Addr}{xs ys:List V} (I:Inv X pins σ H s) (h:SqB X.K H t a xs) (h':SqB X.K H t a ys):xs=ys:=by
 cases t with
 | true=>exact I.tuple_inj h h'
 | false=>exact I.list_inj h h'
theorem Inv.turnedT {fp:List Addr}{h':Heap}{t':Nat}{T:Addr}{xs:List V}{its:List Value} (I:Inv X pins σ H s) (hf:∀ b∈fp,FpOk X pins H b) (k:∀ b o,b∉fp→s.heap.get? b=some o→h'.get? b=some o)
  (hT:s.heap.objs.size≤T) (hv:bP xs its) (hz:xs.length≤sizeLine) (ht:IsTup h' T its.toArray):Inv X pins σ (upd H T (.tup xs)) { s with heap:=h',toks:=t' }:=by
 have hn:H T=none:=I.hok.fresh hT
 have nT:∀ b u,H b=some u→b≠T:=fun b u e=>aQ e hn
 have nfp:∀ b u,H b=some u→b∉fp:=fun b u e hb=>by rw[(hf b hb).1] at e;cases e
 have nTh:∀ b o,s.heap.get? b=some o→b≠T:=fun b o e z=>by rw[z] at e;exact absurd (Nat.lt_of_lt_of_le (Heap.lt_size e) hT) (Nat.lt_irrefl _)
 refine I.step (g':=s.gens) (d':=s.drawn) (ch:=fp) (fun b hb=>?_) (fun b o _ _ hc e _=>k b o hc e) (fun b o _ _ hc e _=>⟨o.slots,k b o hc e⟩) (fun b o hc e n=>by rw[aP (nTh b o e)];exact n)
  (fun b o hc e=>⟨o,k b o hc e⟩) (fun b ys e=>by rw[aP (nT b _ e)];exact e) (fun b o u e=>by rw[aP (nT b _ e)];exact e) (fun b ps e=>⟨#[],by rw[aP (nT b _ e),e];simp⟩) (fun m hm=>?_) (fun b u e=>?_) I.bare
 ·obtain⟨_,f1,_,f3,f4,f5⟩:=hf b hb
  exact⟨f3,f1,f4,f5⟩
 ·obtain⟨o,es,ep,ho,r⟩:=hm
  exact⟨o,es,ep,k _ o (fun hb=>(hf _ hb).2.1 rfl) ho,r⟩
 ·by_cases hb:b=T
  ·subst hb
   rw[aD] at e
   cases e
   exact⟨hz,its,hv,ht⟩
  ·rw[aP hb] at e
   refine (I.hok b u e).stay (fun c v hc q=>k c v ?_ q) (fun c q=>by rw[aP (nT c _ q)];exact q) fun c ys q=>by rw[aP (nT c _ q)];exact q
   rcases hc with z | z
   ·rw[z];exact nfp b u e
   ·exact nfp c _ z
theorem Inv.turnedL {fp:List Addr}{h':Heap}{t':Nat} (I:Inv X pins σ H s) (hf:∀ b∈fp,FpOk X pins H b) (k:∀ b o,b∉fp→s.heap.get? b=some o→h'.get? b=some o):Inv X pins σ H { s with heap:=h',toks:=t' }:=by
 have nfp:∀ b u,H b=some u→b∉fp:=fun b u e hb=>by rw[(hf b hb).1] at e;cases e
 refine I.step (g':=s.gens) (d':=s.drawn) (ch:=fp) (fun b hb=>?_) (fun b o _ _ hc e _=>k b o hc e) (fun b o _ _ hc e _=>⟨o.slots,k b o hc e⟩) (fun b o hc e n=>n)
  (fun b o hc e=>⟨o,k b o hc e⟩) (fun b ys e=>e) (fun b o u e=>e) (fun b ps e=>⟨#[],by rw[e];simp⟩) (fun m hm=>?_) (fun b u e=>?_) I.bare
 ·obtain⟨_,f1,_,f3,f4,f5⟩:=hf b hb
  exact⟨f3,f1,f4,f5⟩
 ·obtain⟨o,es,ep,ho,r⟩:=hm
  exact⟨o,es,ep,k _ o (fun hb=>(hf _ hb).2.1 rfl) ho,r⟩
 ·refine (I.hok b u e).stay (fun c v hc q=>k c v ?_ q) (fun c q=>q) fun c ys q=>q
  rcases hc with z | z
  ·rw[z];exact nfp b u e
  ·exact nfp c _ z
end
noncomputable def Itz3 (K:PySem.W.Frag) (t1 t2 t3:Bool) (a1 a2 a3:Addr):It:=
 ⟨fun i H=>∃ xs ys zs x y z,SqB K H t1 a1 xs∧SqB K H t2 a2 ys∧SqB K H t3 a3 zs∧xs[i]? = some x∧ys[i]? = some y∧zs[i]? = some z,
  fun i H v H'=>∃ T x y z,H T=none∧v=.ref T∧(∀ xs,SqB K H t1 a1 xs→xs[i]? = some x)∧(∀ xs,SqB K H t2 a2 xs→xs[i]? = some y)∧(∀ xs,SqB K H t3 a3 xs→xs[i]? = some z)∧H'=upd H T (.tup [x,y,z]),
  fun i H=>∃ xs ys zs,SqB K H t1 a1 xs∧SqB K H t2 a2 ys∧SqB K H t3 a3 zs∧(xs.length≤i∨ys.length≤i∨zs.length≤i)⟩
noncomputable def tnz3 (n a1 a2 a3:Nat) (t1 t2 t3:Bool) (i:Nat) (h:Heap):Prop:=
 ∃ f0 f1 c1 c2 c3,Free0 f0∧IsZ h (n+5) (n+3) (n+4) f0 f1∧dC h (n+3) #[.ref n,.ref (n+1),.ref (n+2)]∧dC h (n+4) #[c1,c2,c3]∧
  dG h t1 n a1 i∧dG h t2 (n+1) a2 i∧dG h t3 (n+2) a3 i∧a1 < n∧a2 < n∧a3 < n
noncomputable def fpz (n:Nat) (m:Nat):List Addr:=(List.range m).map fun k=>(n+k:Nat)
theorem dJ {n m:Nat}{b:Addr}:b∈fpz n m↔∃ k,k < m∧b=n+k:=by
 unfold fpz
 rw[List.mem_map]
 constructor
 ·rintro⟨k,hk,e⟩;exact⟨k,List.mem_range.mp hk,e.symm⟩
 ·rintro⟨k,hk,e⟩;exact⟨k,List.mem_range.mpr hk,e.symm⟩
theorem not_fpz {n m:Nat}{b:Nat} (h:(b:Addr)∉fpz n m) (hm:0 < m):b < n∨n+(m - 1) < b:=by
 by_cases h1:b < n
 ·exact .inl h1
 ·by_cases h2:n+(m - 1) < b
  ·exact .inr h2
  ·exact absurd (dJ.mpr ⟨b - n,by omega,by show (b:Nat)=n+(b - n);omega⟩) h
theorem turn_zip3 {P:Program}{w:World}{K:PySem.W.Frag}{tg:Expr} (n a1 a2 a3:Nat) (t1 t2 t3:Bool):Turn P w K tg (Itz3 K t1 t2 t3 a1 a2 a3) (fpz n 6) (n+5) (tnz3 n a1 a2 a3 t1 t2 t3) where
 mem:=dJ.mpr ⟨5,by decide,rfl⟩
 obj:=fun i h st b hb=>by
  obtain⟨f0,f1,c1,c2,c3,hf,hz,hTI,hTO,i1,i2,i3,_⟩:=st
  obtain⟨k,hk,rfl⟩:=dJ.mp hb
  have hk':k=0∨k=1∨k=2∨k=3∨k=4∨k=5:=by omega
  rcases hk' with rfl | rfl | rfl | rfl | rfl | rfl
  ·exact i1.obj
  ·exact i2.obj
  ·exact i3.obj
  ·exact⟨_,hTI,fun v z=>by cases z⟩
  ·exact⟨_,hTO,fun v z=>by cases z⟩
  ·exact⟨_,hz,fun v z=>by cases z⟩
 keep:=fun i h h' st k=>by
  obtain⟨f0,f1,c1,c2,c3,hf,hz,hTI,hTO,i1,i2,i3,l⟩:=st
  have m:∀ j,j < 6→((n+j:Nat):Addr)∈fpz n 6:=fun j hj=>dJ.mpr ⟨j,hj,rfl⟩
  exact⟨f0,f1,c1,c2,c3,hf,k _ (m 5 (by decide)) _ hz,k _ (m 3 (by decide)) _ hTI,k _ (m 4 (by decide)) _ hTO,i1.at fun o e=>k _ (m 0 (by decide)) _ e,i2.at fun o e=>k _ (m 1 (by decide)) _ e,i3.at fun o e=>k _ (m 2 (by decide)) _ e,l⟩
 item:=by
  intro X hP hw hK hc i pins s σ H E I hf st hg
  subst hP hw hK
  obtain⟨f0,f1,c1,c2,c3,f,hz,hTI,hTO,i1,i2,i3,l1,l2,l3⟩:=st
  obtain⟨xs,ys,zs,x,y,z,q1,q2,q3,hx,hy,hw⟩:=hg
  obtain⟨us,r1,p1,_⟩:=I.src q1
  obtain⟨vs,r2,p2,_⟩:=I.src q2
  obtain⟨ws,r3,p3,_⟩:=I.src q3
  obtain⟨u,hu,ru⟩:=r1.get hx
  obtain⟨v,hv,rv⟩:=r2.get hy
  obtain⟨w',hw',rw'⟩:=r3.get hw
  refine pyNext_zip hz (zip3_next f hz hTI hTO i1 i2 i3 p1 p2 p3 l1 l2 l3 (by simpa using hu) (by simpa using hv) (by simpa using hw') fun T h' f0' f1' d1 d2 d3 hT f' hz' hTI' hTO' i1' i2' i3' hTp hk=>?_)
  refine⟨_,rfl,letGo_zip (s:={ s with heap:=h' }) f' hz' fun h'' f0'' f'' hz'' hs=>?_⟩
  replace hs:Heap.SameBut (n+5) h' h'':=hs
  have hTn:n+5 < T:=Nat.lt_of_lt_of_le (Heap.lt_size hz) hT
  have hTp':dC h'' T #[u,v,w']:=ex hs (by omega) hTp
  have IT:Inv X pins σ (upd H T (.tup [x,y,z])) { s with heap:=h'',toks:=s.toks }:=I.turnedT (fp:=fpz n 6) hf (fun b o hb e=>ex (c:=b) hs (by have:=not_fpz (b:=b) hb (by decide);have:n+(6 - 1)=n+5:=rfl;omega) (hk b o (not_fpz (b:=b) hb (by decide)) e)) hT (its:=[u,v,w']) (.cons ru (.cons rv (.cons rw' .nil))) (by show 3≤sizeLine;decide) ⟨_,hTp',rfl,_,rfl⟩
  refine⟨.ref T,upd H T (.tup [x,y,z]),IT,rfl,
   ⟨T,x,y,z,I.hok.fresh hT,rfl,fun as q=>by rw[I.src_inj q q1];exact hx,fun as q=>by rw[I.src_inj q q2];exact hy,fun as q=>by rw[I.src_inj q q3];exact hw,rfl⟩,
   ⟨f0'',f1',d1,d2,d3,f'',hz'',ex hs (by omega) hTI',ex hs (by omega) hTO',i1'.ext hs (by omega),i2'.ext hs (by omega),i3'.ext hs (by omega),l1,l2,l3⟩,fun b hb=>?_⟩
  ·obtain⟨j,hj,rfl⟩:=dJ.mp hb
   rw[aP (show ((n+j:Nat):Addr)≠T from (show @Ne Nat (n+j) T by omega))]
   exact (hf _ hb).1
 done:=by
  intro X hP hw hK hc i pins s σ H E I hf st hg
  subst hP hw hK
  obtain⟨f0,f1,c1,c2,c3,f,hz,hTI,hTO,i1,i2,i3,l1,l2,l3⟩:=st
  obtain⟨xs,ys,zs,q1,q2,q3,hend⟩:=hg
  obtain⟨us,r1,p1,_⟩:=I.src q1
  obtain⟨vs,r2,p2,_⟩:=I.src q2
  obtain⟨ws,r3,p3,_⟩:=I.src q3
  have e1:=r1.length
  have e2:=r2.length
  have e3:=r3.length
  refine pyNext_zip hz (zip3_end (I.ok.hd hc) f hz hTI hTO i1 i2 i3 p1 p2 p3 l1 l2 l3 (by
   rcases hend with h | h | h
   ·exact .inl (by simp;omega)
   ·exact .inr (.inl (by simp;omega))
   ·exact .inr (.inr (by simp;omega))) fun h' e hk he=>?_)
  obtain⟨o,ho,hcl⟩:=he
  exact⟨⟨e,o,rfl,ho,hcl⟩,rfl,I.turnedL (t':=s.toks) hf fun b o hb q=>hk b o (not_fpz (b:=b) hb (by decide)) q⟩
 self:=fun _ _ _ _ _ st h=>by
  obtain⟨f0,f1,c1,c2,c3,f,hz,_⟩:=st
  exact pyIter_zip hz h
noncomputable def Itz2 (K:PySem.W.Frag) (t1 t2:Bool) (a1 a2:Addr):It:=
 ⟨fun i H=>∃ xs ys x y,SqB K H t1 a1 xs∧SqB K H t2 a2 ys∧xs[i]? = some x∧ys[i]? = some y,
  fun i H v H'=>∃ T x y,H T=none∧v=.ref T∧(∀ xs,SqB K H t1 a1 xs→xs[i]? = some x)∧(∀ xs,SqB K H t2 a2 xs→xs[i]? = some y)∧H'=upd H T (.tup [x,y]),
  fun i H=>∃ xs ys,SqB K H t1 a1 xs∧SqB K H t2 a2 ys∧(xs.length≤i∨ys.length≤i)⟩
noncomputable def tnz2 (n a1 a2:Nat) (t1 t2:Bool) (i:Nat) (h:Heap):Prop:=
 ∃ f0 f1 c1 c2,Free0 f0∧IsZ h (n+4) (n+2) (n+3) f0 f1∧dC h (n+2) #[.ref n,.ref (n+1)]∧dC h (n+3) #[c1,c2]∧dG h t1 n a1 i∧dG h t2 (n+1) a2 i∧a1 < n∧a2 < n
theorem turn_zip2 {P:Program}{w:World}{K:PySem.W.Frag}{tg:Expr} (n a1 a2:Nat) (t1 t2:Bool):Turn P w K tg (Itz2 K t1 t2 a1 a2) (fpz n 5) (n+4) (tnz2 n a1 a2 t1 t2) where
 mem:=dJ.mpr ⟨4,by decide,rfl⟩
 obj:=fun i h st b hb=>by
  obtain⟨f0,f1,c1,c2,hf,hz,hTI,hTO,i1,i2,_⟩:=st
  obtain⟨k,hk,rfl⟩:=dJ.mp hb
  have hk':k=0∨k=1∨k=2∨k=3∨k=4:=by omega
  rcases hk' with rfl | rfl | rfl | rfl | rfl
  ·exact i1.obj
  ·exact i2.obj
  ·exact⟨_,hTI,fun v z=>by cases z⟩
  ·exact⟨_,hTO,fun v z=>by cases z⟩
  ·exact⟨_,hz,fun v z=>by cases z⟩
 keep:=fun i h h' st k=>by
  obtain⟨f0,f1,c1,c2,hf,hz,hTI,hTO,i1,i2,l⟩:=st
  have m:∀ j,j < 5→((n+j:Nat):Addr)∈fpz n 5:=fun j hj=>dJ.mpr ⟨j,hj,rfl⟩
  exact⟨f0,f1,c1,c2,hf,k _ (m 4 (by decide)) _ hz,k _ (m 2 (by decide)) _ hTI,k _ (m 3 (by decide)) _ hTO,i1.at fun o e=>k _ (m 0 (by decide)) _ e,i2.at fun o e=>k _ (m 1 (by decide)) _ e,l⟩
 item:=by
  intro X hP hw hK hc i pins s σ H E I hf st hg
  subst hP hw hK
  obtain⟨f0,f1,c1,c2,f,hz,hTI,hTO,i1,i2,l1,l2⟩:=st
  obtain⟨xs,ys,x,y,q1,q2,hx,hy⟩:=hg
  obtain⟨us,r1,p1,_⟩:=I.src q1
  obtain⟨vs,r2,p2,_⟩:=I.src q2
  obtain⟨u,hu,ru⟩:=r1.get hx
  obtain⟨v,hv,rv⟩:=r2.get hy
  refine pyNext_zip hz (zip2_next f hz hTI hTO i1 i2 p1 p2 l1 l2 (by simpa using hu) (by simpa using hv) fun T h' f0' f1' d1 d2 hT f' hz' hTI' hTO' i1' i2' hTp hk=>?_)
  refine⟨_,rfl,letGo_zip (s:={ s with heap:=h' }) f' hz' fun h'' f0'' f'' hz'' hs=>?_⟩
  replace hs:Heap.SameBut (n+4) h' h'':=hs
  have hTn:n+4 < T:=Nat.lt_of_lt_of_le (Heap.lt_size hz) hT
  have hTp':dC h'' T #[u,v]:=ex hs (by omega) hTp
  have IT:Inv X pins σ (upd H T (.tup [x,y])) { s with heap:=h'',toks:=s.toks }:=I.turnedT (fp:=fpz n 5) hf (fun b o hb e=>ex (c:=b) hs (by have:=not_fpz (b:=b) hb (by decide);have:n+(5 - 1)=n+4:=rfl;omega) (hk b o (not_fpz (b:=b) hb (by decide)) e)) hT (its:=[u,v]) (.cons ru (.cons rv .nil)) (by show 2≤sizeLine;decide) ⟨_,hTp',rfl,_,rfl⟩
  refine⟨.ref T,upd H T (.tup [x,y]),IT,rfl,
   ⟨T,x,y,I.hok.fresh hT,rfl,fun as q=>by rw[I.src_inj q q1];exact hx,fun as q=>by rw[I.src_inj q q2];exact hy,rfl⟩,
   ⟨f0'',f1',d1,d2,f'',hz'',ex hs (by omega) hTI',ex hs (by omega) hTO',i1'.ext hs (by omega),i2'.ext hs (by omega),l1,l2⟩,fun b hb=>?_⟩
  ·obtain⟨j,hj,rfl⟩:=dJ.mp hb
   rw[aP (show ((n+j:Nat):Addr)≠T from (show @Ne Nat (n+j) T by omega))]
   exact (hf _ hb).1
 done:=by
  intro X hP hw hK hc i pins s σ H E I hf st hg
  subst hP hw hK
  obtain⟨f0,f1,c1,c2,f,hz,hTI,hTO,i1,i2,l1,l2⟩:=st
  obtain⟨xs,ys,q1,q2,hend⟩:=hg
  obtain⟨us,r1,p1,_⟩:=I.src q1
  obtain⟨vs,r2,p2,_⟩:=I.src q2
  have e1:=r1.length
  have e2:=r2.length
  refine pyNext_zip hz (zip2_end (I.ok.hd hc) f hz hTI hTO i1 i2 p1 p2 l1 l2 (by
   rcases hend with h | h
   ·exact .inl (by simp;omega)
   ·exact .inr (by simp;omega)) fun h' e hk he=>?_)
  obtain⟨o,ho,hcl⟩:=he
  exact⟨⟨e,o,rfl,ho,hcl⟩,rfl,I.turnedL (t':=s.toks) hf fun b o hb q=>hk b o (not_fpz (b:=b) hb (by decide)) q⟩
 self:=fun _ _ _ _ _ st h=>by
  obtain⟨f0,f1,c1,c2,f,hz,_⟩:=st
  exact pyIter_zip hz h
noncomputable def Ite (K:PySem.W.Frag) (t:Bool) (a:Addr):It:=
 ⟨fun i H=>∃ xs x,SqB K H t a xs∧xs[i]? = some x,
  fun i H v H'=>∃ T x,H T=none∧v=.ref T∧(∀ xs,SqB K H t a xs→xs[i]? = some x)∧H'=upd H T (.tup [.int i,x]),
  fun i H=>∃ xs,SqB K H t a xs∧xs.length≤i⟩
noncomputable def tne (n a:Nat) (t:Bool) (i:Nat) (h:Heap):Prop:=∃ f0 f1 old,Free0 f0∧IsEn h (n+1) n f0 f1 i old∧dG h t n a i∧a < n
theorem turn_enum {P:Program}{w:World}{K:PySem.W.Frag}{tg:Expr} (n a:Nat) (t:Bool):Turn P w K tg (Ite K t a) (fpz n 2) (n+1) (tne n a t) where
 mem:=dJ.mpr ⟨1,by decide,rfl⟩
 obj:=fun i h st b hb=>by
  obtain⟨f0,f1,old,hf,he,i1,_⟩:=st
  obtain⟨k,hk,rfl⟩:=dJ.mp hb
  have hk':k=0∨k=1:=by omega
  rcases hk' with rfl | rfl
  ·exact i1.obj
  ·exact⟨_,he,fun v z=>by cases z⟩
 keep:=fun i h h' st k=>by
  obtain⟨f0,f1,old,hf,he,i1,l⟩:=st
  have m:∀ j,j < 2→((n+j:Nat):Addr)∈fpz n 2:=fun j hj=>dJ.mpr ⟨j,hj,rfl⟩
  exact⟨f0,f1,old,hf,k _ (m 1 (by decide)) _ he,i1.at fun o e=>k _ (m 0 (by decide)) _ e,l⟩
 item:=by
  intro X hP hw hK hc i pins s σ H E I hf st hg
  subst hP hw hK
  obtain⟨f0,f1,old,f,he,i1,l1⟩:=st
  obtain⟨xs,x,q1,hx⟩:=hg
  obtain⟨us,r1,p1,_⟩:=I.src q1
  obtain⟨u,hu,ru⟩:=r1.get hx
  refine pyNext_enum he (enum_next f he i1 p1 l1 (by simpa using hu) fun T h' f0' f1' old' hT f' he' i1' hTp hk=>?_)
  refine⟨_,rfl,letGo_enum (s:={ s with heap:=h',toks:=s.toks+1 }) f' he' fun h'' f0'' f'' he'' hs=>?_⟩
  replace hs:Heap.SameBut (n+1) h' h'':=hs
  have hTn:n+1 < T:=Nat.lt_of_lt_of_le (Heap.lt_size he) hT
  have hTp':dC h'' T #[.int i s.toks,u]:=ex hs (by omega) hTp
  have IT:Inv X pins σ (upd H T (.tup [.int i,x])) { s with heap:=h'',toks:=s.toks+1 }:=I.turnedT (fp:=fpz n 2) hf (fun b o hb e=>ex (c:=b) hs (by have:=not_fpz (b:=b) hb (by decide);have:n+(2 - 1)=n+1:=rfl;omega) (hk b o (not_fpz (b:=b) hb (by decide)) e)) hT (its:=[.int i s.toks,u]) (.cons ⟨_,rfl⟩ (.cons ru .nil)) (by show 2≤sizeLine;decide) ⟨_,hTp',rfl,_,rfl⟩
  have he2:IsEn h'' (n+1) n f0'' f1' ((i+1:Nat):Int) old':=by
   have:((i+1:Nat):Int)=(i:Int)+1:=by push_cast;rfl
   rw[this];exact he''
  refine⟨.ref T,upd H T (.tup [.int i,x]),IT,rfl,⟨T,x,I.hok.fresh hT,rfl,fun as q=>by rw[I.src_inj q q1];exact hx,rfl⟩,⟨f0'',f1',old',f'',he2,i1'.ext hs (by omega),l1⟩,fun b hb=>?_⟩
  ·obtain⟨j,hj,rfl⟩:=dJ.mp hb
   rw[aP (show ((n+j:Nat):Addr)≠T from (show @Ne Nat (n+j) T by omega))]
   exact (hf _ hb).1
 done:=by
  intro X hP hw hK hc i pins s σ H E I hf st hg
  subst hP hw hK
  obtain⟨f0,f1,old,f,he,i1,l1⟩:=st
  obtain⟨xs,q1,hend⟩:=hg
  obtain⟨us,r1,p1,_⟩:=I.src q1
  have e1:=r1.length
  refine pyNext_enum he (enum_end (I.ok.hd hc) he i1 p1 (by simp;omega) fun h' e hk he=>?_)
  obtain⟨o,ho,hcl⟩:=he
  exact⟨⟨e,o,rfl,ho,hcl⟩,rfl,I.turnedL (t':=s.toks) hf fun b o hb q=>hk b o (not_fpz (b:=b) hb (by decide)) q⟩
 self:=fun _ _ _ _ _ st h=>by
  obtain⟨f0,f1,old,f,he,_⟩:=st
  exact pyIter_enum he h
section
variable {X:Cx}{tg:Expr}
theorem boot_zip:bootBuiltins "zip" = some (.type "zip"):=by decide +kernel
theorem boot_enum:bootBuiltins "enumerate" = some (.type "enumerate"):=by decide +kernel
noncomputable def iZip2 (K:PySem.W.Frag) (ta:TA):TI:=fun σ H R=>ta σ H fun vs H1=>∃ t1 t2 a1 a2,vs=[.ref a1,.ref a2]∧(∃ xs,SqB K H1 t1 a1 xs)∧(∃ xs,SqB K H1 t2 a2 xs)∧R (Itz2 K t1 t2 a1 a2) H1
noncomputable def iZip3 (K:PySem.W.Frag) (ta:TA):TI:=fun σ H R=>ta σ H fun vs H1=>∃ t1 t2 t3 a1 a2 a3,vs=[.ref a1,.ref a2,.ref a3]∧(∃ xs,SqB K H1 t1 a1 xs)∧(∃ xs,SqB K H1 t2 a2 xs)∧(∃ xs,SqB K H1 t3 a3 xs)∧R (Itz3 K t1 t2 t3 a1 a2 a3) H1
noncomputable def iEnum (K:PySem.W.Frag) (ta:TA):TI:=fun σ H R=>ta σ H fun vs H1=>∃ t a,vs=[.ref a]∧(∃ xs,SqB K H1 t a xs)∧R (Ite K t a) H1
theorem pi_enum {a:Expr}{ta:TA}{p pos:Pos} (hg:Gl X "enumerate") (hm:X.mg "enumerate" = none) (ha:PA X [a] ta) (hs:starEach [a] X.env=[(false,eval a X.env)]:=by rfl):PI X tg (.Call (.Name "enumerate" p) [a] [] pos) (iEnum X.K ta):=by
 intro pins s σ H R I h
 refine Call_ (ld_blt I hg hm boot_enum (PyProof.Rows.callWith_type1 (d8 (ha pos pins s σ H _ I h) fun us s1 ⟨vs,H1,I1,r1,q1⟩=>?_) hs rfl))
 obtain⟨t,a1,e,⟨xs,hq⟩,q⟩:=q1
 subst e
 cases r1 with
 | cons r rr=>
  cases rr
  cases r
  obtain⟨its,rv,p,hz⟩:=I1.src hq
  refine call_enum p fun h' he i1 hk=>?_
  refine pyIter_enum (s:={ s1 with heap:=h' }) he ?_
  refine⟨_,fpz s1.heap.objs.size 2,tne s1.heap.objs.size a1 t,_,H1,rfl,I1.kept (t':=s1.toks) hk,turn_enum _ _ _,⟨.none,false,.none,.inl rfl,he,i1,p.lt⟩,fun b hb=>?_,q⟩
  obtain⟨k,_,rfl⟩:=dJ.mp hb
  exact I1.fpOk (Nat.le_add_right _ _) (I1.hok.fresh (Nat.le_add_right _ _))
theorem pi_zip2 {a b:Expr}{ta:TA}{p pos:Pos} (hg:Gl X "zip") (hm:X.mg "zip" = none) (ha:PA X [a,b] ta) (hs:starEach [a,b] X.env=[(false,eval a X.env),(false,eval b X.env)]:=by rfl) (hs2:starEach [b] X.env=[(false,eval b X.env)]:=by rfl) :
  PI X tg (.Call (.Name "zip" p) [a,b] [] pos) (iZip2 X.K ta):=by
 intro pins s σ H R I h
 refine Call_ (ld_blt I hg hm boot_zip (PyProof.Rows.callWith_type1 (d8 (ha pos pins s σ H _ I h) fun us s1 ⟨vs,H1,I1,r1,q1⟩=>?_) (by rw[hs,hs2]) (by rw[hs2];rfl)))
 obtain⟨t1,t2,a1,a2,e,⟨xs,hq1⟩,⟨ys,hq2⟩,q⟩:=q1
 subst e
 cases r1 with
 | cons r rr=>
  cases rr with
  | cons r' rr=>
   cases rr
   cases r
   cases r'
   obtain⟨its,rv,p1,hz⟩:=I1.src hq1
   obtain⟨its2,rv2,p2,hz2⟩:=I1.src hq2
   refine call_zip2 p1 p2 fun h' hz' hTI hTO i1 i2 hk=>?_
   refine pyIter_zip (s:={ s1 with heap:=h' }) hz' ?_
   refine⟨_,fpz s1.heap.objs.size 5,tnz2 s1.heap.objs.size a1 a2 t1 t2,_,H1,rfl,I1.kept (t':=s1.toks) hk,turn_zip2 _ _ _ _ _,⟨.none,false,_,_,.inl rfl,hz',hTI,hTO,i1,i2,p1.lt,p2.lt⟩,fun b hb=>?_,q⟩
   obtain⟨k,_,rfl⟩:=dJ.mp hb
   exact I1.fpOk (Nat.le_add_right _ _) (I1.hok.fresh (Nat.le_add_right _ _))
theorem pi_zip3 {a b c:Expr}{ta:TA}{p pos:Pos} (hg:Gl X "zip") (hm:X.mg "zip" = none) (ha:PA X [a,b,c] ta) (hs:starEach [a,b,c] X.env=[(false,eval a X.env),(false,eval b X.env),(false,eval c X.env)]:=by rfl)
  (hs2:starEach [b,c] X.env=[(false,eval b X.env),(false,eval c X.env)]:=by rfl) :
  PI X tg (.Call (.Name "zip" p) [a,b,c] [] pos) (iZip3 X.K ta):=by
 intro pins s σ H R I h
 refine Call_ (ld_blt I hg hm boot_zip (PyProof.Rows.callWith_type1 (d8 (ha pos pins s σ H _ I h) fun us s1 ⟨vs,H1,I1,r1,q1⟩=>?_) (by rw[hs,hs2]) (by rw[hs2];rfl)))
 obtain⟨t1,t2,t3,a1,a2,a3,e,⟨xs,hq1⟩,⟨ys,hq2⟩,⟨zs,hq3⟩,q⟩:=q1
 subst e
 cases r1 with
 | cons r rr=>
  cases rr with
  | cons r' rr=>
   cases rr with
   | cons r'' rr=>
    cases rr
    cases r
    cases r'
    cases r''
    obtain⟨its,rv,p1,hz⟩:=I1.src hq1
    obtain⟨its2,rv2,p2,hz2⟩:=I1.src hq2
    obtain⟨its3,rv3,p3,hz3⟩:=I1.src hq3
    refine call_zip3 p1 p2 p3 fun h' hz' hTI hTO i1 i2 i3 hk=>?_
    refine pyIter_zip (s:={ s1 with heap:=h' }) hz' ?_
    refine⟨_,fpz s1.heap.objs.size 6,tnz3 s1.heap.objs.size a1 a2 a3 t1 t2 t3,_,H1,rfl,I1.kept (t':=s1.toks) hk,turn_zip3 _ _ _ _ _ _ _,⟨.none,false,_,_,_,.inl rfl,hz',hTI,hTO,i1,i2,i3,p1.lt,p2.lt,p3.lt⟩,fun b hb=>?_,q⟩
    obtain⟨k,_,rfl⟩:=dJ.mp hb
    exact I1.fpOk (Nat.le_add_right _ _) (I1.hok.fresh (Nat.le_add_right _ _))
end
end L2
namespace L2
open PySem PySem.Spec PyProof.Rows TwZ
section
variable {prog:Program}{w:World}{A:Around}{E:Value→Shared→Prop}{s:Shared}{l:Addr}{xs:Array (Int×Tok)}
theorem sum_intTup {Q:Value→Shared→Prop} (hh:A.handled=none) (hl:s.heap.IsTuple l (intItems xs))
  (h:∀ h' tk t',(∀ b o,s.heap.get? b=some o→h'.get? b=some o)→Q (.int (preSum (numAt xs) xs.size) t') { s with heap:=h',toks:=tk }) :
  wpAny (model prog w) A (call (.builtin "sum") [.ref l]) Q E s:=by
 have hlt:l < s.heap.objs.size:=by obtain⟨_,e,_⟩:=hl;exact Heap.lt_size e
 refine call_sum_walkG (wpAny_pyIter_tuple hl ?_)
 refine⟨_,_,_,_,_,_,numAt xs,rfl,Walks.tuple (A:=A.in1) hh _ l (Nat.ne_of_lt hlt) (intItems xs),⟨⟨_,Heap.get?_push_size _ rfl,rfl,rfl⟩,hl.push _⟩,fun b hb=>?_,(fun _ _=>intItems_at),fun h' tk t' hk=>?_⟩
 ·show b < (s.heap.push _).objs.size
  rw[Heap.size_push]
  rcases List.mem_cons.mp hb with rfl | hb
  ·exact Nat.lt_succ_self _
  ·rcases List.mem_cons.mp hb with rfl | hb
   ·exact Nat.lt_succ_of_lt hlt
   ·cases hb
 ·have:=h h' tk t' (fun b o e=>hk b o (fun hm=>by rw[List.mem_singleton.mp hm] at e;exact Nat.lt_irrefl _ (Heap.lt_size e)) (Heap.get?_push_of_some _ e))
  simpa [intItems] using this
theorem sum_intSrc {t:Bool}{vs:List Value}{ns:List Int}{Q:Value→Shared→Prop} (hh:A.handled=none) (hl:cC s.heap t l vs.toArray) (hi:IntsAre vs ns)
  (h:∀ h' tk t',(∀ b o,s.heap.get? b=some o→h'.get? b=some o)→Q (.int ns.sum t') { s with heap:=h',toks:=tk }) :
  wpAny (model prog w) A (call (.builtin "sum") [.ref l]) Q E s:=by
 obtain⟨xs,hx⟩:=hi.allInts.items
 have hn:numsOf vs.toArray.toList=ns:=by rw[show vs.toArray.toList=vs from rfl,hi.numsOf]
 rw[hx] at hl hn
 rw[nums_intItems] at hn
 have e:preSum (numAt xs) xs.size=ns.sum:=by rw[preSum_eq,List.take_of_length_le (by simp),hn]
 cases t with
 | true=>exact sum_intTup hh hl fun h' tk t' hk=>by rw[e];exact h h' tk t' hk
 | false=>exact sum_intListG hh hl fun h' tk t' hk=>by rw[e];exact h h' tk t' hk
theorem all_src {t:Bool}{vs:List Value}{bs:List Bool}{Q:Value→Shared→Prop} (hh:A.handled=none) (hl:cC s.heap t l vs.toArray) (hb:bP (bs.map V.bl) vs)
  (h:∀ h' tk,(∀ b o,s.heap.get? b=some o→h'.get? b=some o)→Q (.bool (bs.all id)) { s with heap:=h',toks:=tk }):wpAny (model prog w) A (call (.builtin "all") [.ref l]) Q E s:=by
 have hlt:l < s.heap.objs.size:=hl.lt
 have hlen:=hb.length
 rw[List.length_map] at hlen
 have key:∀ (P:Nat→Value→Prop),(∀ i v,P i v→vs[i]? = some v)→TruthOf prog w A.in1 P (fun i=>(bs[i]?).getD true):=fun P hP i v s' Q' E' hp hQ=>by
  have hv:=hP i v hp
  have hi:i < vs.length:=(List.getElem?_eq_some_iff.mp hv).1
  have hb':(bs.map V.bl)[i]? = some (V.bl bs[i]):=by simp [show i < bs.length by omega]
  obtain⟨u,hu,ru⟩:=hb.get hb'
  rw[hv] at hu
  cases hu
  cases ru
  have e:(bs[i]?).getD true=bs[i]:=by simp [show i < bs.length by omega]
  have hQ2:Q' ((bs[i]?).getD true) s':=hQ
  rw[e] at hQ2
  exact wpAny_truthy_bool hQ2
 have rng:((List.range vs.toArray.size).all fun i=>(bs[i]?).getD true)=bs.all id:=by
  rw[List.size_toArray,← hlen,Bool.eq_iff_iff,List.all_eq_true,List.all_eq_true]
  constructor
  ·intro hq b hb'
   obtain⟨i,hi,rfl⟩:=List.getElem_of_mem hb'
   have:=hq i (List.mem_range.mpr hi)
   simpa [hi] using this
  ·intro hq i hi
   have hi':=List.mem_range.mp hi
   have:=hq bs[i] (List.getElem_mem hi')
   simpa [hi'] using this
 have kept:∀ {h':Heap}{o:Obj},(∀ b x,b∉[s.heap.objs.size]→(s.heap.push o).get? b=some x→h'.get? b=some x)→∀ b x,s.heap.get? b=some x→h'.get? b=some x:=fun hk b x e=>
  hk b x (fun hm=>by rw[List.mem_singleton.mp hm] at e;exact Nat.lt_irrefl _ (Heap.lt_size e)) (Heap.get?_push_of_some _ e)
 cases t with
 | true=>
  refine call_all_walk (wpAny_pyIter_tuple hl ?_)
  refine⟨s.heap.objs.size,[s.heap.objs.size,l],[s.heap.objs.size],vs.toArray.size,_,_,fun i=>(bs[i]?).getD true,rfl,Walks.tuple (A:=A.in1) hh _ l (Nat.ne_of_lt hlt) vs.toArray,
   ⟨⟨_,Heap.get?_push_size _ rfl,rfl,rfl⟩,Heap.IsTuple.push hl _⟩,key _ (fun i v hp=>by simpa using hp),fun h' tk hk=>?_⟩
  rw[rng]
  exact h h' tk (kept hk)
 | false=>
  refine call_all_walk (wpAny_pyIter_list hl ?_)
  refine⟨s.heap.objs.size,[s.heap.objs.size,l],[s.heap.objs.size],vs.toArray.size,_,_,fun i=>(bs[i]?).getD true,rfl,Walks.list (A:=A.in1) hh _ l (Nat.ne_of_lt hlt) vs.toArray,
   ⟨⟨_,Heap.get?_push_size _ rfl,rfl,rfl⟩,Heap.IsList.push hl _⟩,key _ (fun i v hp=>by simpa using hp),fun h' tk hk=>?_⟩
  rw[rng]
  exact h h' tk (kept hk)
end
section
variable {X:Cx}
noncomputable def rSum (K:PySem.W.Frag):List V→Hp→VK→Prop:=fun xs H Q=>∃ (t:Bool) (p:Addr) (ns:List Int),xs=[.ref p]∧SqB K H t p (ns.map V.int)∧Q (.int ns.sum) H
theorem call_sumB (hc:X.calm=true):CallR X (.builtin "sum") (rSum X.K):=by
 intro pins s σ H xs us Q I r h
 obtain⟨t,p,ns,rfl,hq,q⟩:=h
 obtain⟨u,rfl,ru⟩:=r.one
 cases ru
 obtain⟨its,rv,p1,hz⟩:=I.src hq
 refine sum_intSrc (I.ok.hd hc) p1 (intsAre_of rv) fun h' tk t' hk=>⟨.int ns.sum,H,I.kept hk,⟨t',rfl⟩,q⟩
noncomputable def rAll (K:PySem.W.Frag):List V→Hp→VK→Prop:=fun xs H Q=>∃ (t:Bool) (p:Addr) (bs:List Bool),xs=[.ref p]∧SqB K H t p (bs.map V.bl)∧Q (.bl (bs.all id)) H
theorem call_allB (hc:X.calm=true):CallR X (.builtin "all") (rAll X.K):=by
 intro pins s σ H xs us Q I r h
 obtain⟨t,p,bs,rfl,hq,q⟩:=h
 obtain⟨u,rfl,ru⟩:=r.one
 cases ru
 obtain⟨its,rv,p1,hz⟩:=I.src hq
 refine all_src (I.ok.hd hc) p1 rv fun h' tk hk=>⟨.bl (bs.all id),H,I.kept hk,rfl,q⟩
noncomputable def TyS (K:PySem.W.Frag) (H:Hp) (x:V) (t:Value):Prop:=TyOf K H x t∨∃ a ys,x=.ref a∧bT K H a ys∧t=.type "tuple"
noncomputable def rIsi (K:PySem.W.Frag):List V→Hp→VK→Prop:=fun xs H Q=>∃ x T t b,xs=[x,.ty T]∧TyS K H x t∧PySem.W.kitOne K t (.type T)=some b∧Q (.bl b) H
theorem call_isi:CallR X (.builtin "isinstance") (rIsi X.K):=by
 intro pins s σ H xs us Q I r h
 obtain⟨x,T,t,b,rfl,ty,e,q⟩:=h
 obtain⟨u,v,rfl,ru,rv⟩:=r.two
 cases rv
 rcases ty with ty | ⟨a,ys,rfl,hq,rfl⟩
 ·exact isinst_ok I ru ty e fun tk=>⟨.bl b,H,I.tok tk,rfl,q⟩
 ·cases (show u=Value.ref a from ru)
  obtain⟨its,rv',⟨o,h1,h2,_⟩,_⟩:=I.tuple hq
  exact PySem.W.kia_one PySem.W.kitx_tuple I.kIn ⟨o,h1,h2⟩ e (fun z=>nomatch z) fun tk=>⟨.bl b,H,I.tok tk,rfl,q⟩
end
theorem noFill_tuple_mul:fillsNumberSlot (.type "tuple") "mul" = pure false:=
 PySem.fillsNumberSlot_seq (id := "tuple.__mul__") (r:=some (.builtin "tuple.__rmul__")) F.slot_tuple_mul.lookup (by decide +kernel) F.slot_tuple_rmul.lookup (by decide +kernel)
theorem repeat_tuple:seqRepeat? (.type "tuple")=pure (some (.builtin "tuple.__mul__")):=by
 unfold seqRepeat?
 rw[PySem.seqSlot_of (T := "tuple") (name := "__mul__") (id := "tuple.__mul__") F.slot_tuple_mul.lookup (by decide +kernel),PySem.seqSlot_of (T := "tuple") (name := "__rmul__") (id := "tuple.__rmul__") F.slot_tuple_rmul.lookup (by decide +kernel)]
 rfl
theorem int_rmul_tuple (a:Int) (t:Tok) (l:Addr) (items:Array Value) (n:Nat) (dd:Option Addr) (sl:Array (Option Value)) :
  Meets (Builtin.«int.__rmul__» ⟨[.int a t,.ref l],[]⟩) (fun _ R s=>s.heap.get? l=some { cls:=.type "tuple",dict:=dd,data:=.seq items n,slots:=sl }∧R (.ok (.ret Value.notImplemented)) s):=
 .of_wp fun prog w A R s h=>by obtain⟨hp,g,d,tk,os⟩:=s;obtain⟨hl,h⟩:=h;wp_walk;exact⟨_,rfl,h⟩
theorem tuple_mul_one (l:Addr) (items:Array Value) (n:Nat) (u:Tok) (dd:Option Addr) (sl:Array (Option Value)) :
  Meets (Builtin.«tuple.__mul__» ⟨[.ref l,.int 1 u],[]⟩) (fun _ R s=>s.heap.get? l=some { cls:=.type "tuple",dict:=dd,data:=.seq items n,slots:=sl }∧R (.ok (.ret (.ref l))) s):=
 .of_wp fun prog w A R s h=>by
  obtain⟨hp,g,d,tk,os⟩:=s;obtain⟨hl,h⟩:=h
  have c1:(items.isEmpty || (1:Int) == 1)=true:=by simp
  wp_walk
  exact⟨_,rfl,h⟩
theorem tuple_mul_many (l:Addr) (items:Array Value) (n:Nat) (x:Int) (u:Tok) (dd:Option Addr) (sl:Array (Option Value)) (c0:¬ (decide (x < -(2 ^ 63)) || decide (x ≥ 2 ^ 63))=true) (c1:¬ (items.isEmpty || x == 1)=true)
  (c2:¬ (decide (x≤0) || items.isEmpty)=true) (c3:¬ (items.size:Int) * x > (2 ^ 63 - 1) / 8) (c4:¬ Builtin.Tuple.tupleTooMany ((items.size:Int) * x)=true) (hsz:(List.foldl (fun x1 x2=>x1++x2) #[] (List.replicate x.toNat items)).size≤sizeLine) :
  Meets (Builtin.«tuple.__mul__» ⟨[.ref l,.int x u],[]⟩) (fun _ R s=>s.heap.get? l=some { cls:=.type "tuple",dict:=dd,data:=.seq items n,slots:=sl }∧
   R (.ok (.ret (.ref s.heap.objs.size))) { s with heap:=s.heap.push { cls:=.type "tuple",data:=.seq (List.foldl (fun x1 x2=>x1++x2) #[] (List.replicate x.toNat items)) } }):=
 .of_wp fun prog w A R s h=>by
  obtain⟨hp,g,d,tk,os⟩:=s;obtain⟨hl,h⟩:=h
  wp_walk
  rw[if_neg c0]
  wp_walk
  all_goals (try rw[if_neg c1])
  wp_walk
  all_goals (try rw[if_neg c2])
  wp_walk
  all_goals (try rw[if_neg c3])
  wp_walk
  all_goals (try rw[if_neg c4])
  wp_walk
  exact⟨_,rfl,h⟩
theorem aK.tup {K:PySem.W.Frag}{H H':Hp}{a:Addr}{xs:List V} (e:aK H H') (h:bT K H a xs):bT K H' a xs:=by
 rcases h with (h | ⟨o,h⟩) | h
 ·exact .inl (.inl (e _ _ h))
 ·exact .inl (.inr ⟨o,e _ _ h⟩)
 ·exact .inr h
theorem aK.new {H:Hp}{p:Addr}{o:HO} (h:H p=none):aK H (upd H p o):=fun b u e=>by rw[aP (aQ e h)];exact e
section
variable {X:Cx}
noncomputable def rRepT (K:PySem.W.Frag):R2:=fun x y H Q=>∃ (l:Addr) (k:Int) (xs:List V),x=.ref l∧y=.int k∧bT K H l xs∧1≤k∧k < 1000000∧xs≠[]∧xs.length≤10∧
 ∀ p H',aK H H'→bT K H' p (List.replicate k.toNat xs).flatten→Q (.ref p) H'
theorem op_repT:OpR X (binaryOp .Mult) (rRepT X.K):=by
 intro pins s σ H x y v u Q I rx ry h
 obtain⟨l,k,xs,rfl,rfl,hq,h1,h2,hne,hl10,q⟩:=h
 cases rx
 obtain⟨t,rfl⟩:=ry
 obtain⟨its,r,ht,z⟩:=I.tuple hq
 have hlen:=r.length
 obtain⟨⟨cls,dd,data,sl⟩,e,hc,n,hd⟩:=id ht
 simp only at hc hd
 subst hc hd
 refine wpAny_binaryOp_repeat_ref (T := "tuple") (U := "int") (by decide) ⟨_,e,rfl⟩ (fun s'=>typeIs_int s' k t) noFill_tuple_mul F.fills_int_mul F.slot_int_rmul repeat_tuple F.slot_int_index.lookup
  (call_meets F.slot_int_rmul (typeIs_int s k t) F.entry_int_rmul (F.args_int_rmul_2 _ _) (int_rmul_tuple k t l its.toArray n dd sl) ⟨e,rfl,⟨_,e,rfl⟩,?_⟩)
 by_cases hk:k=1
 ·subst hk
  refine call_meets F.slot_tuple_mul ⟨_,e,rfl⟩ F.entry_tuple_mul (F.args_tuple_mul_2 _ _) (tuple_mul_one l its.toArray n t dd sl) ⟨e,?_⟩
  refine⟨.ref l,H,I,rfl,q l H (aK.refl H) ?_⟩
  have e1:(List.replicate (1:Int).toNat xs).flatten=xs:=by simp
  rw[e1];exact hq
 ·have hne':its≠[]:=fun z=>by rw[z] at hlen;exact hne (List.eq_nil_of_length_eq_zero hlen)
  have f0:List.foldl (fun x1 x2=>x1++x2) #[] (List.replicate k.toNat its.toArray)=(List.replicate k.toNat its).flatten.toArray:=by
   have:=foldl_rep its k.toNat []
   rw[List.nil_append] at this
   exact this
  have hemp:its.toArray.isEmpty=false:=by cases its with
   | nil=>exact absurd rfl hne'
   | cons a r=>rfl
  have hszN:k.toNat * its.length≤sizeLine:=by
   have a1:its.length≤10:=by omega
   have a2:k.toNat≤1000000:=by omega
   have:=Nat.mul_le_mul a2 a1
   rw[sizeLine_eq];omega
  have hprod:((its.toArray.size:Nat):Int) * k≤16777216:=by
   have a1:((its.toArray.size:Nat):Int)≤10:=by rw[List.size_toArray];omega
   have:=Int.mul_le_mul a1 (show k≤1000000 by omega) (by omega) (by omega)
   omega
  refine call_meets F.slot_tuple_mul ⟨_,e,rfl⟩ F.entry_tuple_mul (F.args_tuple_mul_2 _ _) (tuple_mul_many l its.toArray n k t dd sl (by simp;omega) (by rw[hemp];simp;exact hk) (by rw[hemp];simp;omega) (by omega) (by
    unfold Builtin.Tuple.tupleTooMany
    rw[decide_eq_true_iff]
    rw[sizeLine_eq]
    omega) (by rw[f0,List.size_toArray,len_rep];exact hszN)) ⟨e,?_⟩
  have I1:=I.laid (a:=s.heap.objs.size) (o:=.tup (List.replicate k.toNat xs).flatten) (h':=s.heap.push { cls:=.type "tuple",data:=.seq (List.foldl (fun x1 x2=>x1++x2) #[] (List.replicate k.toNat its.toArray)) }) (t':=s.toks)
   (fun _ _ q=>Heap.get?_push_of_some _ q) (Nat.le_refl _) ⟨by rw[len_rep,hlen];exact hszN,(List.replicate k.toNat its).flatten,r.rep k.toNat,⟨_,Heap.get?_push_size _ rfl,rfl,0,by simp only [f0]⟩⟩
  exact⟨.ref _,_,I1,rfl,q _ _ (aK.new I.fresh) (bT.of aD)⟩
end
open MeetsSeq in
theorem tuple_neAt (l b:Addr) (items items2:Array Value) (n n2:Nat) (dd dd2:Option Addr) (sl sl2:Array (Option Value)) (hsz:items.size=items2.size) :
  Meets (Builtin.«tuple.__ne__» ⟨[.ref l,.ref b],[]⟩)
   (fun A R s=>s.heap.get? l=some { cls:=.type "tuple",dict:=dd,data:=.seq items n,slots:=sl }∧s.heap.get? b=some { cls:=.type "tuple",dict:=dd2,data:=.seq items2 n2,slots:=sl2 }∧
    (∀ j (h1:j < items.size) (h2:j < items2.size),SeqAt.EqAt A.in1 s items[j] items2[j] true)∧
    R (.ok (.ret (.bool false))) s):=
 .of_wp fun prog w A R s h=>by
  obtain⟨hp,g,d,tk,os⟩:=s;obtain⟨hl,hb,he,h⟩:=h
  have f2:=AutoSeq1.sub_tuple_tuple
  have hZ:(items.toList.zip items2.toList).length=min items.size items2.size:=by simp
  wp_walk using AutoSeq1.wpAny_loadPart' hl,AutoSeq1.wpAny_loadPart' hb,wpAny_forIn_list _ (fun rest b s'=>b.1=none∧s'=⟨hp,g,d,tk,os⟩∧∃ i,rest=(items.toList.zip items2.toList).drop i) _
  case turn=>
   rintro⟨y,x⟩ rest b s' ⟨hb',rfl,i,hz⟩
   have hlt:i < (items.toList.zip items2.toList).length:=by
    rcases Nat.lt_or_ge i (items.toList.zip items2.toList).length with h' | h'
    ·exact h'
    ·rw[List.drop_of_length_le h'] at hz;cases hz
   have hm:i < min items.size items2.size:=hZ ▸ hlt
   have h1:i < items.size:=Nat.lt_of_lt_of_le hm (Nat.min_le_left _ _)
   have h2:i < items2.size:=Nat.lt_of_lt_of_le hm (Nat.min_le_right _ _)
   rw[List.drop_eq_getElem_cons hlt] at hz
   injection hz with hyx hrest
   have hy:y=items[i]:=by have:=congrArg Prod.fst hyx;simpa using this
   have hx:x=items2[i]:=by have:=congrArg Prod.snd hyx;simpa using this
   subst hy hx
   refine wpAny_bind (he i h1 h2 prog w _ _ ?_)
   wp_walk
   exact⟨rfl,rfl,i+1,hrest⟩
  case fin=>
   rintro⟨b1,b2⟩ s' ⟨hb',rfl,i,hz⟩
   simp only at hb'
   subst hb'
   wp_walk
   exact⟨_,rfl,by simpa [Builtin.Tuple.tupleCompareSizes,hsz] using h⟩
  case h=>
   exact⟨rfl,rfl,0,rfl⟩
inductive D where
 | non | bl (b:Bool) | int (i:Int) | str (x:Str) | tup (ds:List D)
mutual
noncomputable def Is (K:PySem.W.Frag) (H:Hp):D→V→Prop
 | .non,v=>v=.non
 | .bl b,v=>v=.bl b
 | .int i,v=>v=.int i
 | .str x,v=>v=.str x
 | .tup ds,v=>∃ a xs,v=.ref a∧bT K H a xs∧IsL K H ds xs
noncomputable def IsL (K:PySem.W.Frag) (H:Hp):List D→List V→Prop
 | [],xs=>xs=[]
 | d::ds,xs=>∃ x r,xs=x::r∧Is K H d x∧IsL K H ds r
end
noncomputable def bL (K:PySem.W.Frag) (H H':Hp):Prop:=∀ a xs,bT K H a xs→bT K H' a xs
theorem bL.refl {K:PySem.W.Frag} (H:Hp):bL K H H:=fun _ _ h=>h
theorem bL.trans {K:PySem.W.Frag}{H H1 H2:Hp} (a:bL K H H1) (b:bL K H1 H2):bL K H H2:=fun c xs h=>b c xs (a c xs h)
theorem aK.ts {K:PySem.W.Frag}{H H':Hp} (e:aK H H'):bL K H H':=fun _ _ h=>e.tup h
mutual
theorem Is.mono {K:PySem.W.Frag}{H H':Hp} (t:bL K H H'):∀ (d:D) (v:V),Is K H d v→Is K H' d v
 | .non,_,h=>h
 | .bl _,_,h=>h
 | .int _,_,h=>h
 | .str _,_,h=>h
 | .tup ds,v,h=>by
  rw[Is] at h ⊢
  obtain⟨a,xs,e,q,l⟩:=h
  exact⟨a,xs,e,t a xs q,IsL.mono t ds xs l⟩
theorem IsL.mono {K:PySem.W.Frag}{H H':Hp} (t:bL K H H'):∀ (ds:List D) (xs:List V),IsL K H ds xs→IsL K H' ds xs
 | [],xs,h=>h
 | d::ds,xs,h=>by
  rw[IsL] at h ⊢
  obtain⟨x,r,e,hx,hr⟩:=h
  exact⟨x,r,e,Is.mono t d x hx,IsL.mono t ds r hr⟩
end
theorem IsL.length {K:PySem.W.Frag}{H:Hp}:∀ {ds:List D}{xs:List V},IsL K H ds xs→xs.length=ds.length
 | [],xs,h=>by rw[IsL] at h;subst h;rfl
 | d::ds,xs,h=>by
  rw[IsL] at h
  obtain⟨x,r,rfl,_,hr⟩:=h
  rw[List.length_cons,List.length_cons,IsL.length hr]
theorem IsL.get {K:PySem.W.Frag}{H:Hp}:∀ {ds:List D}{xs:List V}{i:Nat}{d:D},IsL K H ds xs→ds[i]? = some d→∃ x,xs[i]? = some x∧Is K H d x
 | [],_,_,_,_,e=>by simp at e
 | d::ds,xs,0,d',h,e=>by
  rw[IsL] at h
  obtain⟨x,r,rfl,hx,hr⟩:=h
  simp at e
  subst e
  exact⟨x,rfl,hx⟩
 | d::ds,xs,i+1,d',h,e=>by
  rw[IsL] at h
  obtain⟨x,r,rfl,hx,hr⟩:=h
  obtain⟨y,h1,h2⟩:=IsL.get hr (i:=i) (by simpa using e)
  exact⟨y,by simpa using h1,h2⟩
theorem IsL.get' {K:PySem.W.Frag}{H:Hp}{ds:List D}{xs:List V}{i:Nat}{x:V} (h:IsL K H ds xs) (e:xs[i]? = some x):∃ d,ds[i]? = some d∧Is K H d x:=by
 have hl:=h.length
 have hi:i < ds.length:=by rw[← hl];exact (List.getElem?_eq_some_iff.mp e).1
 obtain⟨y,h1,h2⟩:=h.get (i:=i) (d:=ds[i]) (by simp [hi])
 rw[e] at h1
 cases h1
 exact⟨ds[i],by simp [hi],h2⟩
theorem IsL.snoc {K:PySem.W.Frag}{H:Hp}{d:D}{x:V} (hd:Is K H d x):∀ {ds:List D}{xs:List V},IsL K H ds xs→IsL K H (ds++[d]) (xs++[x])
 | [],xs,h=>by
  rw[IsL] at h
  subst h
  show IsL K H [d] [x]
  rw[IsL]
  exact⟨x,[],rfl,hd,by rw[IsL]⟩
 | d'::ds,xs,h=>by
  rw[IsL] at h
  obtain⟨y,r,rfl,hy,hr⟩:=h
  show IsL K H (d'::(ds++[d])) (y::(r++[x]))
  rw[IsL]
  exact⟨y,r++[x],rfl,hy,IsL.snoc hd hr⟩
theorem IsL.ints {K:PySem.W.Frag}{H:Hp}:∀ {ns:List Int}{xs:List V},IsL K H (ns.map D.int) xs→xs=ns.map V.int
 | [],xs,h=>by rw[List.map_nil,IsL] at h;exact h
 | n::ns,xs,h=>by
  rw[List.map_cons,IsL] at h
  obtain⟨x,r,rfl,hx,hr⟩:=h
  rw[Is] at hx
  rw[hx,IsL.ints hr,List.map_cons]
theorem IsL.of_ints {K:PySem.W.Frag}{H:Hp}:∀ (ns:List Int),IsL K H (ns.map D.int) (ns.map V.int)
 | []=>by rw[List.map_nil,List.map_nil,IsL]
 | n::ns=>by
  rw[List.map_cons,List.map_cons,IsL]
  exact⟨_,_,rfl,by rw[Is],IsL.of_ints ns⟩
theorem IsL.bools {K:PySem.W.Frag}{H:Hp}:∀ {ns:List Bool}{xs:List V},IsL K H (ns.map D.bl) xs→xs=ns.map V.bl
 | [],xs,h=>by rw[List.map_nil,IsL] at h;exact h
 | n::ns,xs,h=>by
  rw[List.map_cons,IsL] at h
  obtain⟨x,r,rfl,hx,hr⟩:=h
  rw[Is] at hx
  rw[hx,IsL.bools hr,List.map_cons]
theorem IsL.of_bools {K:PySem.W.Frag}{H:Hp}:∀ (ns:List Bool),IsL K H (ns.map D.bl) (ns.map V.bl)
 | []=>by rw[List.map_nil,List.map_nil,IsL]
 | n::ns=>by
  rw[List.map_cons,List.map_cons,IsL]
  exact⟨_,_,rfl,by rw[Is],IsL.of_bools ns⟩
mutual
noncomputable def D.depth:D→Nat
 | .tup ds=>bX ds+1
 | _=>0
noncomputable def bX:List D→Nat
 | []=>0
 | d::ds=>max d.depth (bX ds)
end
section
variable {X:Cx}{pins:List (Addr×Obj)}{σ:St}{H:Hp}{s:Shared}
mutual
theorem Is.eqAt (I:Inv X pins σ H s):∀ (d:D) (A:Around) (x y:V) (u v:Value),A.units+d.depth < cLine→Is X.K H d x→Is X.K H d y→bO x u→bO y v→SeqAt.EqAt A s u v true
 | .non,A,x,y,u,v,_,hx,hy,rx,ry=>by
  rw[Is] at hx hy;subst hx hy;cases rx;cases ry;exact SeqAt.EqAt.same _
 | .bl b,A,x,y,u,v,_,hx,hy,rx,ry=>by
  rw[Is] at hx hy;subst hx hy;cases rx;cases ry;exact SeqAt.EqAt.same _
 | .int i,A,x,y,u,v,_,hx,hy,rx,ry=>by
  rw[Is] at hx hy;subst hx hy;obtain⟨t,rfl⟩:=rx;obtain⟨t',rfl⟩:=ry
  have:=SeqAt.EqAt.int_int (A:=A) (s:=s) i t i t'
  simpa using this
 | .str z,A,x,y,u,v,_,hx,hy,rx,ry=>by
  rw[Is] at hx hy;subst hx hy;obtain⟨t,rfl⟩:=rx;obtain⟨t',rfl⟩:=ry
  have:=SeqAt.EqAt.str_str (A:=A) (s:=s) z t z t'
  simpa using this
 | .tup ds,A,x,y,u,v,hu,hx,hy,rx,ry=>by
  rw[Is] at hx hy
  obtain⟨a,xs,rfl,q1,l1⟩:=hx
  obtain⟨b,ys,rfl,q2,l2⟩:=hy
  cases rx
  cases ry
  by_cases hab:a=b
  ·subst hab;exact SeqAt.EqAt.same _
  ·obtain⟨us,r1,p1,_⟩:=I.tuple q1
   obtain⟨vs,r2,p2,_⟩:=I.tuple q2
   have hdep:D.depth (.tup ds)=bX ds+1:=by rw[D.depth]
   rw[hdep] at hu
   have e1:=r1.length
   have e2:=r2.length
   have e3:=l1.length
   have e4:=l2.length
   have hu2:A.in1.units+bX ds < cLine:=by
    have:A.in1.units≤A.units+1:=by show A.units+1≤A.units+1;exact Nat.le_refl _
    omega
   have all:=IsL.eqAt I ds A.in1 xs ys us vs hu2 l1 l2 r1 r2
   have hsz:us.toArray.size=vs.toArray.size:=by simp;omega
   have:=SeqAt.RcAt.tuples (A:=A) (s:=s) (e:=fun _=>true) (show s.heap.IsTuple a us.toArray from p1) (show s.heap.IsTuple b vs.toArray from p2) (by omega) fun j h1 h2=>all j us.toArray[j] vs.toArray[j] (by simp) (by simp)
   have e5:((List.range (min us.toArray.size vs.toArray.size)).all (fun _=>true) && us.toArray.size == vs.toArray.size)=true:=by
    rw[hsz];simp
   rw[e5] at this
   exact SeqAt.EqAt.of_refs hab this
theorem IsL.eqAt (I:Inv X pins σ H s):∀ (ds:List D) (A:Around) (xs ys:List V) (us vs:List Value),A.units+bX ds < cLine→IsL X.K H ds xs→IsL X.K H ds ys→bP xs us→bP ys vs→∀ (j:Nat) (u v:Value),us[j]? = some u→vs[j]? = some v→SeqAt.EqAt A s u v true
 | [],A,xs,ys,us,vs,_,hx,hy,rx,ry,j,u,v,eu,ev=>by
  rw[IsL] at hx
  subst hx
  cases rx
  simp at eu
 | d::ds,A,xs,ys,us,vs,hu,hx,hy,rx,ry,j,u,v,eu,ev=>by
  rw[IsL] at hx hy
  obtain⟨x,xr,rfl,hx,hxr⟩:=hx
  obtain⟨y,yr,rfl,hy,hyr⟩:=hy
  have hd:bX (d::ds)=max d.depth (bX ds):=by rw[bX]
  rw[hd] at hu
  cases rx with
  | cons rx rxr=>
   cases ry with
   | cons ry ryr=>
    cases j with
    | zero=>
     simp at eu ev
     subst eu ev
     exact Is.eqAt I d A x y _ _ (by omega) hx hy rx ry
    | succ j=>exact IsL.eqAt I ds A xr yr _ _ (by omega) hxr hyr rxr ryr j u v (by simpa using eu) (by simpa using ev)
end
end
section
variable {X:Cx}
noncomputable def rNeSame (K:PySem.W.Frag):R2:=fun x y H Q=>∃ ds,ds.length≤1000∧bX ds≤20∧Is K H (.tup ds) x∧Is K H (.tup ds) y∧Q (.bl false) H
theorem op_neSame (hu:X.A.units+64 < cLine):OpR X (compareOp .NotEq) (rNeSame X.K):=by
 intro pins s σ H x y v u Q I rx ry h
 obtain⟨ds,hl,hdep,hx,hy,q⟩:=h
 rw[Is] at hx hy
 obtain⟨a,xs,rfl,q1,l1⟩:=hx
 obtain⟨b,ys,rfl,q2,l2⟩:=hy
 cases rx
 cases ry
 obtain⟨us,r1,p1,_⟩:=I.tuple q1
 obtain⟨vs,r2,p2,_⟩:=I.tuple q2
 have e1:=r1.length
 have e2:=r2.length
 have e3:=l1.length
 have e4:=l2.length
 obtain⟨⟨cls,dd,data,sl⟩,ho,hc,n,hd⟩:=id p1
 obtain⟨⟨cls2,dd2,data2,sl2⟩,ho2,hc2,n2,hd2⟩:=id p2
 simp only at hc hd hc2 hd2
 subst hc hd hc2 hd2
 have hin:∀ A:Around,A.in1.units=A.units+1:=fun A=>rfl
 refine richCompare_meets_room (op:=.NotEq) ⟨_,ho,rfl⟩ ⟨_,ho2,rfl⟩ F.slot_tuple_ne F.entry_tuple_ne (F.args_tuple_ne_2 _ _) (tuple_neAt a b us.toArray vs.toArray n n2 dd dd2 sl sl2 (by simp;omega))
  ⟨ho,ho2,fun j h1 h2=>IsL.eqAt I ds _ xs ys us vs (by rw[hin];omega) l1 l2 r1 r2 j _ _ (by simp) (by simp),show Value.bool false≠Value.notImplemented∧EP X pins σ Q (.bool false) s from ⟨(fun x=>nomatch x),.bl false,H,I,rfl,q⟩⟩ (by omega)
noncomputable def rIndex:V→List V→Hp→VK→Prop:=fun x vs H Q=>∃ (l:Addr) (xs:List V) (y:V) (j:Nat),x=.ref l∧vs=[y]∧H l=some (.lst xs)∧flatV y=true∧xs.all flatV=true∧j < xs.length∧(∀ z,xs[j]? = some z→eqV z y=true)∧(∀ i z,i < j→xs[i]? = some z→eqV z y=false)∧Q (.int j) H
theorem mt_index:MtM X "list.index" rIndex:=by
 intro pins s σ H x vs v us Q I rx rv h
 obtain⟨l,xs,y,j,rfl,rfl,hH,fy,fx,hj,h1,h2,q⟩:=h
 cases rx
 obtain⟨u,rfl,ru⟩:=rv.one
 obtain⟨z,its,n,r,hl,e⟩:=I.lstM hH
 have key:∀ i (hi:i < its.length),∃ x,xs[i]? = some x∧bO x its[i]∧flatV x=true:=fun i hi=>by
  have hx:xs[i]? = some xs[i]:=by simp [show i < xs.length by omega]
  obtain⟨w',h1,h2⟩:=r.get hx
  have:its[i]? = some its[i]:=by simp [hi]
  rw[this] at h1
  cases h1
  exact⟨_,hx,h2,(List.all_eq_true.mp fx) _ (List.getElem_mem _)⟩
 refine call_meets F.slot_list_index ⟨_,e,rfl⟩ F.entry_list_index (F.args_list_index_2 _ _)
  (SeqAt.list_indexAt l its.toArray n none #[] u (eqU y) j (by rw[List.size_toArray];omega) (by rw[sizeLine_eq] at z;omega) ?_ ?_) ⟨e,fun w' hw=>?_,⟨.int j,H,I.tok _,⟨_,rfl⟩,q⟩⟩
 ·obtain⟨x,hx,rx,fx'⟩:=key j (by omega)
  have:=eqU_of (x:=y) rx fx'
  show eqU y its[j]=true
  rw[this]
  exact h1 x hx
 ·intro i hi hlt
  have hi':i < its.length:=by simpa using hi
  obtain⟨x,hx,rx,fx'⟩:=key i hi'
  have:=eqU_of (x:=y) rx fx'
  show eqU y its[i]=false
  rw[this]
  exact h2 i x hlt hx
 ·exact mem_eqAt ru fy r fx w' (by simpa using hw)
end
end L2
namespace L2
open PySem PySem.Spec PyProof.Rows TwZ
structure Callee (P:Program) (w:World) (K:PySem.W.Frag) (mg:Str→Option Value) (base:Heap) (x:Str) (ps:List Str) (k:Nat) (sp:Sp) (f:Addr) (fd:FuncData):Prop where
 ok:FnOk P w K mg base CX0 k f fd ps sp
 mg:mg x=some (.ref f)
 kp:PySem.W.keepIn K (.ref f)=true
 bd:Binds K fd ps []
theorem cQ {X:Cx}{x:Str}{ps:List Str}{k n:Nat}{sp:Sp}{f:Addr}{fd:FuncData}{e:Expr}{es:List Expr}{t:TA}{p pos:Pos} (G:Callee X.prog X.w X.K X.mg X.base x ps k sp f fd) (hr:Room n X.A) (ha:PA X (e::es) t) (hg:Gl X x:=by rfl) (hle:k≤n:=by decide)
  (hdb:(x == ("__debug__" : Str))=false:=by decide) (he:starEach (e::es) X.env=(false,eval e X.env)::starEach es X.env:=by rfl) (hpl:(backTo pos (starEach es X.env)).any (·.1)=false:=by rfl) :
  PE X (.Call (.Name x p) (e::es) [] pos) (tCall sp [] E0 t):=pe_call G.ok (hr.mono hle) hg G.mg G.kp G.bd .nil pass0 ha hdb he hpl
theorem fA:bootBuiltins "isinstance" = some (.builtin "isinstance"):=by decide +kernel
noncomputable def cY (t:Addr) (H H':Hp):Prop:=∀ b o,b≠t→H b=some o→H' b=some o
theorem cY.refl {t:Addr} (H:Hp):cY t H H:=fun _ _ _ h=>h
theorem cY.trans {t:Addr}{H H1 H2:Hp} (a:cY t H H1) (b:cY t H1 H2):cY t H H2:=fun c o hc h=>b c o hc (a c o hc h)
theorem aK.but {t:Addr}{H H':Hp} (a:aK H H'):cY t H H':=fun b o _ h=>a b o h
theorem cY.upd {t:Addr}{H:Hp}{o:HO}:cY t H (upd H t o):=fun b u hb h=>by rw[aP hb];exact h
theorem cY.ts {K:PySem.W.Frag}{t:Addr}{H H':Hp} (a:cY t H H') (hm:Mut (H t)):bL K H H':=by
 intro b xs h
 have ne:∀ {o:HO},H b=some o→¬ Mut (some o)→b≠t:=fun e n z=>by rw[← z,e] at hm;exact n hm
 rcases h with (h | ⟨o,h⟩) | h
 ·exact .inl (.inl (a _ _ (ne h (fun z=>z)) h))
 ·exact .inl (.inr ⟨o,a _ _ (ne h (fun z=>z)) h⟩)
 ·exact .inr h
theorem cY.free {t l:Addr}{H H':Hp} (a:cY t H H') (hl:l≠t) (h:H' l=none):H l=none:=by
 cases q:H l with
 | none=>rfl
 | some o=>rw[a l o hl q] at h;cases h
noncomputable def rGetL (K:PySem.W.Frag):V→V→Hp→VK→Prop:=fun o i H Q=>∃ (p:Addr) (xs:List V) (k:Int) (v:V),o=.ref p∧i=.int k∧bM K H p xs∧0≤k∧k < 2 ^ 63∧xs[k.toNat]? = some v∧Q v H
theorem get_list {X:Cx}:PGet X (rGetL X.K):=by
 intro pins s σ H o i ov iv Q I ro ri h
 obtain⟨p,xs,k,v,rfl,rfl,hq,h0,h1,hx,q⟩:=h
 cases ro
 obtain⟨t,rfl⟩:=ri
 obtain⟨its,r,pl,hz⟩:=I.list hq
 obtain⟨w',ew,rw'⟩:=r.get hx
 exact wpAny_getItem_list pl.isList h0 h1 (by simpa using ew) ⟨v,H,I,rw',q⟩
theorem ixN_nat {n:Nat}{k:Int} (h0:0≤k) (h1:k < n):ixN n k=some k.toNat:=by
 unfold ixN
 rw[if_pos h0,if_pos h1]
theorem atI_int {α:Type}{xs:List α}{k:Int}{v:α} (h0:0≤k) (h:xs[k.toNat]? = some v):atI xs k=some v:=by
 obtain⟨j,rfl⟩:=Int.eq_ofNat_of_zero_le h0
 exact d5 (by simpa using h)
theorem Is.tupOf {K:PySem.W.Frag}{H:Hp}{ds:List D}{a:Addr}{xs:List V} (q:bT K H a xs) (l:IsL K H ds xs):Is K H (.tup ds) (.ref a):=by
 rw[Is];exact⟨a,xs,rfl,q,l⟩
theorem Is.un {K:PySem.W.Frag}{H:Hp}{ds:List D}{v:V} (h:Is K H (.tup ds) v):∃ a xs,v=.ref a∧bT K H a xs∧IsL K H ds xs:=by
 rw[Is] at h;exact h
theorem IsL.un {K:PySem.W.Frag}{H:Hp}{d:D}{ds:List D}{xs:List V} (h:IsL K H (d::ds) xs):∃ x r,xs=x::r∧Is K H d x∧IsL K H ds r:=by
 rw[IsL] at h;exact h
theorem IsL.un0 {K:PySem.W.Frag}{H:Hp}{xs:List V} (h:IsL K H [] xs):xs=[]:=by
 rw[IsL] at h;exact h
theorem IsL.cons {K:PySem.W.Frag}{H:Hp}{d:D}{ds:List D}{x:V}{xs:List V} (hd:Is K H d x) (h:IsL K H ds xs):IsL K H (d::ds) (x::xs):=by
 rw[IsL];exact⟨x,xs,rfl,hd,h⟩
theorem IsL.nil {K:PySem.W.Frag}{H:Hp}:IsL K H [] []:=by rw[IsL]
theorem Is.i {K:PySem.W.Frag}{H:Hp} (i:Int):Is K H (.int i) (.int i):=by rw[Is]
theorem Is.b {K:PySem.W.Frag}{H:Hp} (i:Bool):Is K H (.bl i) (.bl i):=by rw[Is]
theorem Is.s {K:PySem.W.Frag}{H:Hp} (i:Str):Is K H (.str i) (.str i):=by rw[Is]
theorem Is.n {K:PySem.W.Frag}{H:Hp}:Is K H .non .non:=by rw[Is]
theorem Is.ui {K:PySem.W.Frag}{H:Hp}{i:Int}{v:V} (h:Is K H (.int i) v):v=.int i:=by rw[Is] at h;exact h
theorem Is.ub {K:PySem.W.Frag}{H:Hp}{i:Bool}{v:V} (h:Is K H (.bl i) v):v=.bl i:=by rw[Is] at h;exact h
theorem Is.us {K:PySem.W.Frag}{H:Hp}{i:Str}{v:V} (h:Is K H (.str i) v):v=.str i:=by rw[Is] at h;exact h
theorem Is.u0 {K:PySem.W.Frag}{H:Hp}{v:V} (h:Is K H .non v):v=.non:=by rw[Is] at h;exact h
end L2
namespace Tw
open PySem L2
structure Vs where
 size:Int
 brim:Int
 outs:List (Option Int×Int)
 holds:Bool
 spill:Option Int
 acts:List (Str×Int)
noncomputable abbrev Spt:=Int×Int×Bool
structure Net where
 vs:List Vs
 sps:List Spt
noncomputable def tgD:Option Int→D
 | none=>.non
 | some i=>.int i
noncomputable def tgV:Option Int→V
 | none=>.non
 | some i=>.int i
noncomputable def outD (o:Option Int×Int):D:=.tup [tgD o.1,.int o.2]
noncomputable def actD (a:Str×Int):D:=.tup [.str a.1,.int a.2]
noncomputable def vsD (v:Vs):D:=.tup [.int v.size,.int v.brim,.tup (v.outs.map outD),.bl v.holds,tgD v.spill,.tup (v.acts.map actD)]
noncomputable def spD (s:Spt):D:=.tup [.int s.1,.int s.2.1,.bl s.2.2]
noncomputable def netD (n:Net):D:=.tup [.tup (n.vs.map vsD),.tup (n.sps.map spD)]
noncomputable def stD (held coming:List Int) (doors:List Bool):D:=.tup [.tup (held.map D.int),.tup (coming.map D.int),.tup (doors.map D.bl)]
theorem Is.tg {K:PySem.W.Frag}{H:Hp}{t:Option Int}{v:V} (h:Is K H (tgD t) v):v=tgV t:=by
 cases t with
 | none=>exact h.u0
 | some i=>exact h.ui
theorem Is.tgOf {K:PySem.W.Frag}{H:Hp} (t:Option Int):Is K H (tgD t) (tgV t):=by
 cases t with
 | none=>exact Is.n
 | some i=>exact Is.i i
structure OutOk (n:Nat) (o:Option Int×Int):Prop where
 tg:∀ t,o.1=some t→0≤t∧t < n
 lo:1≤o.2
 hi:o.2≤60
structure ActOk (m:Nat) (a:Str×Int):Prop where
 word:a.1 = "open" ∨ a.1 = "shut" ∨ a.1 = "turn"
 lo:0≤a.2
 hi:a.2 < m
structure VOk (n m:Nat) (v:Vs):Prop where
 size:1≤v.size
 ne:v.outs≠[]
 o3:v.outs.length≤3
 outs:∀ o∈v.outs,OutOk n o
 spill:∀ t,v.spill=some t→0≤t∧t < n
 a3:v.acts.length≤3
 acts:∀ a∈v.acts,ActOk m a
structure NetOk (net:Net):Prop where
 lo:1≤net.vs.length
 hi:net.vs.length≤12
 sp:net.sps.length≤12
 vs:∀ v∈net.vs,VOk net.vs.length net.sps.length v
 sps:∀ s∈net.sps,0≤s.1∧s.1 < net.vs.length
noncomputable def whole (outs:List (Option Int×Int)):Int:=(outs.map (·.2)).sum
theorem whole_pos {n:Nat}:∀ {outs:List (Option Int×Int)},outs≠[]→(∀ o∈outs,OutOk n o)→1≤whole outs
 | [],h,_=>absurd rfl h
 | o::r,_,h=>by
  have h1:=(h o List.mem_cons_self).lo
  have h2:0≤whole r:=by
   clear h1
   have:∀ (r:List (Option Int×Int)),(∀ o∈r,OutOk n o)→0≤whole r:=by
    intro r
    induction r with
    | nil=>intro _;exact Int.le_refl _
    | cons o r ih=>
     intro h
     have h1:=(h o List.mem_cons_self).lo
     have h2:=ih fun o ho=>h o (List.mem_cons_of_mem _ ho)
     show 0≤o.2+whole r
     omega
   exact this r fun o ho=>h o (List.mem_cons_of_mem _ ho)
  show 1≤o.2+whole r
  omega
theorem whole_le {n:Nat}:∀ {outs:List (Option Int×Int)},(∀ o∈outs,OutOk n o)→whole outs≤60 * outs.length
 | [],_=>Int.le_refl _
 | o::r,h=>by
  have h1:=(h o List.mem_cons_self).hi
  have h2:=whole_le fun o ho=>h o (List.mem_cons_of_mem _ ho)
  show o.2+whole r≤_
  rw[List.length_cons]
  omega
noncomputable def dF (k:Option Int):List (Option Int×Int)→Int
 | []=>0
 | g::r=>(if g.1=k then g.2 else 0)+dF k r
theorem sumFor_append (k:Option Int):∀ (a b:List (Option Int×Int)),dF k (a++b)=dF k a+dF k b
 | [],b=>by simp [dF]
 | g::r,b=>by
  show (if g.1=k then g.2 else 0)+dF k (r++b)=(if g.1=k then g.2 else 0)+dF k r+dF k b
  rw[sumFor_append k r b];omega
noncomputable def cA (v:Vs) (has:Int):Int:=min has v.brim
noncomputable def vTips (v:Vs) (has:Int):Bool:=decide (v.size≤cA v has)
noncomputable def shared (v:Vs) (here:Int):List (Option Int×Int):=v.outs.map fun o=>(o.1,here / whole v.outs * o.2)
noncomputable def vGoes (v:Vs) (has:Int):List (Option Int×Int):=
 (v.spill,has - cA v has)::(if vTips v has=true then shared v (cA v has)++(if v.holds=true then [] else [(none,cA v has % whole v.outs)]) else [])
noncomputable def vStay (v:Vs) (has:Int):Int:=if vTips v has=true then (if v.holds=true then cA v has % whole v.outs else 0) else cA v has
theorem vGoes_len {n m:Nat}{v:Vs} (ok:VOk n m v) (has:Int):(vGoes v has).length≤5:=by
 unfold vGoes shared
 have:=ok.o3
 split
 ·split <;> simp <;> omega
 ·simp
noncomputable def fill1 (has:List Int) (s:Spt) (d:Bool):List Int:=if d=true then has.set s.1.toNat (has.getD s.1.toNat 0+s.2.1) else has
noncomputable def eB:List Int→List Spt→List Bool→List Int
 | has,s::ss,d::ds=>eB (fill1 has s d) ss ds
 | has,_,_=>has
noncomputable def add3:List Int→List Int→List Int→List Int
 | a::as,b::bs,c::cs=>(a+b+c)::add3 as bs cs
 | _,_,_=>[]
noncomputable def aU (net:Net) (held coming poured:List Int) (doors:List Bool):List Int:=eB (add3 held coming poured) net.sps doors
noncomputable def cT:List Vs→List Int→List (Option Int×Int)
 | v::vs,h::hs=>vGoes v h++cT vs hs
 | _,_=>[]
noncomputable def dR:List Vs→List Int→List Int
 | v::vs,h::hs=>vStay v h::dR vs hs
 | _,_=>[]
noncomputable def bQ:Nat→List Vs→List Int→List Nat
 | i,v::vs,h::hs=>if vTips v h=true then i::bQ (i+1) vs hs else bQ (i+1) vs hs
 | _,_,_=>[]
noncomputable def act1 (doors:List Bool) (a:Str×Int):List Bool:=doors.set a.2.toNat (if a.1 = "open" then true else if a.1 = "turn" then !(doors.getD a.2.toNat false) else false)
noncomputable def eM (doors:List Bool) (as:List (Str×Int)):List Bool:=as.foldl act1 doors
noncomputable def cX (vs:List Vs) (doors:List Bool) (tip:List Nat):List Bool:=tip.foldl (fun ds i=>match vs[i]? with | some v=>eM ds v.acts | none=>ds) doors
noncomputable def eI (n:Nat) (goes:List (Option Int×Int)):List Int:=(List.range n).map fun (k:Nat)=>dF (some (k:Int)) goes
structure Tick where
 held:List Int
 coming:List Int
 doors:List Bool
 tip:List Nat
 ground:Int
noncomputable def tickOf (net:Net) (held coming poured:List Int) (doors:List Bool):Tick:=
 let hs:=aU net held coming poured doors
 ⟨dR net.vs hs,eI net.vs.length (cT net.vs hs),cX net.vs doors (bQ 0 net.vs hs),bQ 0 net.vs hs,dF none (cT net.vs hs)⟩
noncomputable def tickD (t:Tick):D:=.tup [stD t.held t.coming t.doors,.tup (t.tip.map fun (i:Nat)=>D.int (i:Int)),.int t.ground]
end Tw
namespace Tw
open PySem L2
noncomputable def top (i:Nat):Stmt:=PySem.Challenge.pw_tipwell_k38_whole_two_books.main.body.getD i (.Pass ⟨0,0,0,0⟩)
structure Txt (mg:Str→Option Value):Prop where
 b_len:mg "len" = none
 b_sum:mg "sum" = none
 b_all:mg "all" = none
 b_max:mg "max" = none
 b_min:mg "min" = none
 b_int:mg "int" = none
 b_tuple:mg "tuple" = none
 b_list:mg "list" = none
 b_bool:mg "bool" = none
 b_range:mg "range" = none
 b_zip:mg "zip" = none
 b_enumerate:mg "enumerate" = none
 b_isinstance:mg "isinstance" = none
 b_divmod:mg "divmod" = none
 b_set:mg "set" = none
 b_sorted:mg "sorted" = none
noncomputable def keyO:Option Int→Key
 | none=>.inr none
 | some i=>.inl i
theorem keyO_V (k:Option Int):kV (keyO k)=tgV k:=by cases k <;> rfl
theorem keyO_inj {a b:Option Int} (h:keyO a=keyO b):a=b:=by
 cases a <;> cases b <;> simp_all [keyO]
noncomputable def DictG (H:Hp) (d:Addr) (gs:List (Option Int×Int)):Prop:=
 ∃ kvs:List (Key×V),H d=some (.dK kvs)∧kvs.length≤gs.length∧∀ k:Option Int,(valV kvs (keyO k)).getD (.int 0)=.int (dF k gs)
theorem DictG.mut {H:Hp}{d:Addr}{gs:List (Option Int×Int)} (h:DictG H d gs):Mut (H d):=by
 obtain⟨kvs,e,_⟩:=h;rw[e];exact trivial
section
variable {P:Program}{w:World}{K:PySem.W.Frag}{mg:Str→Option Value}{base:Heap}
noncomputable def spSend:Sp:=fun vs H Q _=>∃ (d:Addr) (t:Option Int) (a:Int) (gs:List (Option Int×Int)),vs=[.ref d,tgV t,.int a]∧DictG H d gs∧gs.length≤1000∧
 ∀ H',cY d H H'→DictG H' d (gs++[(t,a)])→Q .non H'
theorem sc_send:FnScope ["sent","target","amount"] ["sent","target","amount"] (aL (top 13)):=⟨rfl,rfl,rfl,by decide +kernel,rfl,by decide +kernel,by decide +kernel⟩
theorem ok_send {f:Addr}{fd:FuncData} (F:Fun K "send" "send" (top 13) f fd) (T:Txt mg):FnOk P w K mg base CX0 1 f fd ["sent","target","amount"] spSend:=by
 refine F.ok sc_send (fun vs H Q E h=>?_) (fun cdv A outer s H vs Q E hr h=>?_)
 ·obtain⟨d,t,a,gs,rfl,_⟩:=h;rfl
 ·obtain⟨d,t,a,gs,rfl,⟨kvs,hd,hl,hv⟩,hg,k⟩:=h
  have sc:=sc_send
  have hu:=hu_of hr
  refine⟨_,(aO (ps_dput hu (pv 0) (pv 1) (b0 cO (pe_dget2 hu (pv 0) (pv 1) aG ⟨rfl,rfl,rfl,rfl⟩) (pv 2)) rfl)),?_⟩
  have hget:=DGet.k (k:=keyO t) hd
  rw[keyO_V] at hget
  have hput:=DPut.k (k:=keyO t) (v:=V.int (dF t gs+a)) hd (aZ (by omega))
  rw[keyO_V] at hput
  refine⟨_,rfl,d,rfl,.inl ⟨kvs,.inl hd⟩,_,rfl,valV kvs (keyO t),hget,_,rfl,_,_,hv t,rfl,_,rfl,_,rfl,d,_,rfl,hput,?_⟩
  refine k _ cY.upd ⟨_,aD,?_,fun k'=>?_⟩
  ·have:=length_putK kvs (keyO t) (V.int (dF t gs+a))
   rw[List.length_append];simp;omega
  ·rw[valV_put,sumFor_append]
   by_cases e:k'=t
   ·subst e
    rw[if_pos rfl]
    show V.int _=V.int _
    simp [dF]
   ·rw[if_neg (fun z=>e (keyO_inj z)),hv k']
    have:¬ t=k':=fun z=>e z.symm
    simp [dF,this]
end
end Tw
namespace L2
open PySem PySem.Spec PyProof.Rows TwZ
section
variable {K:PySem.W.Frag}{g:TG}{tc:TT}{te:TE}{fr:List (Option Nat)}{σ:St}{H1:Hp}{Q:Addr→Hp→Prop}
theorem lc_tup {a:Addr}{xs:List V} (Pv:Addr→Nat→List V→St→Hp→Prop) (hq:∀ D i ys σ H,Pv D i ys σ H→bT K H a xs)
  (h0:∀ D,H1 D=none→Pv D 0 [] (frσ fr σ) (upd H1 D (.lst []))) (hstop:∀ D ys σ' H',Pv D xs.length ys σ' H'→Q D H')
  (hgo:∀ D i x ys σ' H',xs[i]? = some x→Pv D i ys σ' H'→g x σ' H' fun σ3 H3=>tc σ3 H3 fun b H4=>
    if b=true then te σ3 H4 fun y H5=>H5 D=some (.lst ys)∧ys.length < sizeLine∧Pv D (i+1) (ys++[y]) σ3 (upd H5 D (.lst (ys++[y])))
    else Pv D (i+1) ys σ3 H4):lcRest (Itt K a) g tc te fr σ H1 Q:=by
 refine lc_gen (n:=xs.length) Pv h0 (fun D ys σ' H' p=>⟨⟨xs,hq D _ ys σ' H' p,Nat.le_refl _⟩,hstop D ys σ' H' p⟩) fun D i ys σ' H' hi p=>⟨⟨xs,xs[i],hq D _ ys σ' H' p,by simp [hi]⟩,fun x H2 y=>?_⟩
 obtain⟨e,y⟩:=y
 subst e
 exact hgo D i x ys σ' _ (y xs (hq D _ ys σ' _ p)) p
theorem lc_list {a:Addr}{xs:List V} (Pv:Addr→Nat→List V→St→Hp→Prop) (hq:∀ D i ys σ H,Pv D i ys σ H→bM K H a xs)
  (h0:∀ D,H1 D=none→Pv D 0 [] (frσ fr σ) (upd H1 D (.lst []))) (hstop:∀ D ys σ' H',Pv D xs.length ys σ' H'→Q D H')
  (hgo:∀ D i x ys σ' H',xs[i]? = some x→Pv D i ys σ' H'→g x σ' H' fun σ3 H3=>tc σ3 H3 fun b H4=>
    if b=true then te σ3 H4 fun y H5=>H5 D=some (.lst ys)∧ys.length < sizeLine∧Pv D (i+1) (ys++[y]) σ3 (upd H5 D (.lst (ys++[y])))
    else Pv D (i+1) ys σ3 H4):lcRest (Itl K a) g tc te fr σ H1 Q:=by
 refine lc_gen (n:=xs.length) Pv h0 (fun D ys σ' H' p=>⟨⟨xs,hq D _ ys σ' H' p,Nat.le_refl _⟩,hstop D ys σ' H' p⟩) fun D i ys σ' H' hi p=>⟨⟨xs,xs[i],hq D _ ys σ' H' p,by simp [hi]⟩,fun x H2 y=>?_⟩
 obtain⟨e,y⟩:=y
 subst e
 exact hgo D i x ys σ' _ (y xs (hq D _ ys σ' _ p)) p
theorem lc_range {n:Nat} (Pv:Addr→Nat→List V→St→Hp→Prop)
  (h0:∀ D,H1 D=none→Pv D 0 [] (frσ fr σ) (upd H1 D (.lst []))) (hstop:∀ D ys σ' H',Pv D n ys σ' H'→Q D H')
  (hgo:∀ D i ys σ' H',i < n→Pv D i ys σ' H'→g (.int (i:Int)) σ' H' fun σ3 H3=>tc σ3 H3 fun b H4=>
    if b=true then te σ3 H4 fun y H5=>H5 D=some (.lst ys)∧ys.length < sizeLine∧Pv D (i+1) (ys++[y]) σ3 (upd H5 D (.lst (ys++[y])))
    else Pv D (i+1) ys σ3 H4):lcRest (Itr 0 n) g tc te fr σ H1 Q:=by
 refine lc_gen (n:=n) Pv h0 (fun D ys σ' H' p=>⟨Nat.le_refl _,hstop D ys σ' H' p⟩) fun D i ys σ' H' hi p=>⟨hi,fun x H2 y=>?_⟩
 obtain⟨e,y⟩:=y
 subst e y
 rw[Int.zero_add]
 exact hgo D i ys σ' _ hi p
theorem lc_zip3 {t1 t2 t3:Bool}{a1 a2 a3:Addr}{xs ys zs:List V}{n:Nat} (h1:xs.length=n) (h2:ys.length=n) (h3:zs.length=n) (Pv:Addr→Nat→List V→St→Hp→Prop)
  (hq:∀ D i r σ H,Pv D i r σ H→SqB K H t1 a1 xs∧SqB K H t2 a2 ys∧SqB K H t3 a3 zs)
  (h0:∀ D,H1 D=none→Pv D 0 [] (frσ fr σ) (upd H1 D (.lst []))) (hstop:∀ D r σ' H',Pv D n r σ' H'→Q D H')
  (hgo:∀ D i x y z r σ' H' T,xs[i]? = some x→ys[i]? = some y→zs[i]? = some z→Pv D i r σ' H'→H' T=none→g (.ref T) σ' (upd H' T (.tup [x,y,z])) fun σ3 H3=>tc σ3 H3 fun b H4=>
    if b=true then te σ3 H4 fun y H5=>H5 D=some (.lst r)∧r.length < sizeLine∧Pv D (i+1) (r++[y]) σ3 (upd H5 D (.lst (r++[y])))
    else Pv D (i+1) r σ3 H4):lcRest (Itz3 K t1 t2 t3 a1 a2 a3) g tc te fr σ H1 Q:=by
 refine lc_gen (n:=n) Pv h0 (fun D r σ' H' p=>?_) fun D i r σ' H' hi p=>?_
 ·obtain⟨q1,q2,q3⟩:=hq D _ r σ' H' p
  exact⟨⟨xs,ys,zs,q1,q2,q3,.inl (by omega)⟩,hstop D r σ' H' p⟩
 ·obtain⟨q1,q2,q3⟩:=hq D _ r σ' H' p
  refine⟨⟨xs,ys,zs,xs[i]'(by omega),ys[i]'(by omega),zs[i]'(by omega),q1,q2,q3,by simp,by simp,by simp⟩,?_⟩
  rintro v H2 ⟨T,x,y,z,hT,rfl,e1,e2,e3,rfl⟩
  exact hgo D i x y z r σ' H' T (e1 xs q1) (e2 ys q2) (e3 zs q3) p hT
end
section
variable {K:PySem.W.Frag}{g:TG}{tb:TS}{D:Ends}{σ:St}{H:Hp}
noncomputable abbrev ForRest (J:It) (g:TG) (tb:TS) (D:Ends) (σ:St) (H:Hp):Prop:=
 ∃ W:Nat→Nat→St→Hp→Prop,(∃ m,W 0 m σ H)∧∀ i m σ H,W i m σ H→
   (J.stop i H∧D.nx σ H)∨(J.go i H∧∃ N:St→Hp→Prop,(∀ σ' H',N σ' H'→∃ m',m' < m∧W (i+1) m' σ' H')∧∀ x H',J.yld i H x H'→g x σ H' fun σ2 H2=>tb { D with nx:=N,ct:=N,bk:=D.nx } σ2 H2)
theorem for_zip2 {t1 t2:Bool}{a1 a2:Addr}{xs ys:List V}{n:Nat} (h1:xs.length=n) (h2:ys.length=n) (Pv:Nat→St→Hp→Prop) (hq:∀ i σ H,Pv i σ H→SqB K H t1 a1 xs∧SqB K H t2 a2 ys)
  (h0:Pv 0 σ H) (hstop:∀ σ H,Pv n σ H→D.nx σ H)
  (hgo:∀ i x y σ H T,xs[i]? = some x→ys[i]? = some y→Pv i σ H→H T=none→g (.ref T) σ (upd H T (.tup [x,y])) fun σ2 H2=>tb { D with nx:=Pv (i+1),ct:=Pv (i+1),bk:=D.nx } σ2 H2):ForRest (Itz2 K t1 t2 a1 a2) g tb D σ H:=by
 refine for_gen (n:=n) Pv h0 (fun σ H p=>?_) fun i σ H hi p=>?_
 ·obtain⟨q1,q2⟩:=hq _ σ H p
  exact⟨⟨xs,ys,q1,q2,.inl (by omega)⟩,hstop σ H p⟩
 ·obtain⟨q1,q2⟩:=hq _ σ H p
  refine⟨⟨xs,ys,xs[i]'(by omega),ys[i]'(by omega),q1,q2,by simp,by simp⟩,?_⟩
  rintro v H2 ⟨T,x,y,hT,rfl,e1,e2,rfl⟩
  exact hgo i x y σ H T (e1 xs q1) (e2 ys q2) p hT
theorem for_enum {t:Bool}{a:Addr}{xs:List V} (Pv:Nat→St→Hp→Prop) (hq:∀ i σ H,Pv i σ H→SqB K H t a xs)
  (h0:Pv 0 σ H) (hstop:∀ σ H,Pv xs.length σ H→D.nx σ H)
  (hgo:∀ i x σ H T,xs[i]? = some x→Pv i σ H→H T=none→g (.ref T) σ (upd H T (.tup [.int (i:Int),x])) fun σ2 H2=>tb { D with nx:=Pv (i+1),ct:=Pv (i+1),bk:=D.nx } σ2 H2):ForRest (Ite K t a) g tb D σ H:=by
 refine for_gen (n:=xs.length) Pv h0 (fun σ H p=>?_) fun i σ H hi p=>?_
 ·exact⟨⟨xs,hq _ σ H p,Nat.le_refl _⟩,hstop σ H p⟩
 ·refine⟨⟨xs,xs[i],hq _ σ H p,by simp [hi]⟩,?_⟩
  rintro v H2 ⟨T,x,hT,rfl,e1,rfl⟩
  exact hgo i x σ H T (e1 xs (hq _ σ H p)) p hT
end
theorem yes_of {σ:St}{H:Hp}{A B:Hp→Prop} (h:A H):tYes σ H fun b H4=>if b=true then A H4 else B H4:=by
 show if true=true then A H else B H
 rw[if_pos rfl];exact h
theorem cS {i:Nat}{v:V}{σ:St}{H:Hp}{A B:St→Hp→Prop} (h:A (σ.set i (some v)) H):eZ i v σ H fun σ3 H3=>tYes σ3 H3 fun b H4=>if b=true then A σ3 H4 else B σ3 H4:=yes_of (σ:=σ.set i (some v)) (A:=A (σ.set i (some v))) (B:=B (σ.set i (some v))) h
theorem aK.put {H H':Hp}{p:Addr}{o:HO} (a:aK H H') (h:H p=none):aK H (upd H' p o):=fun b u e=>by rw[aP (aQ e h)];exact a b u e
theorem bL.put {K:PySem.W.Frag}{H H':Hp}{p:Addr}{o:HO} (a:bL K H H') (h:H' p=none∨Mut (H' p)):bL K H (upd H' p o):=a.trans (by
 rcases h with h | h
 ·exact (aK.new h).ts
 ·exact cY.ts cY.upd h)
noncomputable def CDivB (i j:Int):Prop:=0 < j∧j < 2 ^ 200
theorem op_fdivB {X:Cx}:OpR X (binaryOp .FloorDiv) (rI CDivB fun i j=>.int (i / j)):=opI fun i j _ _ _ _ _ hc q=>by
 have h1:(0:Int) < j:=hc.1
 have h2:j < 2 ^ 200:=hc.2
 refine floordiv_int (by omega) (by rw[Int.fdiv_eq_ediv_of_nonneg i (by omega)];exact q) (.inl (PyProof.noPylong_of_log2 ?_))
 have h0:j.natAbs≠0:=by omega
 have h3:j.natAbs < 2 ^ 200:=by omega
 have:=(Nat.log2_lt h0).mpr h3
 omega
theorem bt_int:bootBuiltins "int" = some (.type "int"):=by decide +kernel
theorem cJ:bootBuiltins "tuple" = some (.type "tuple"):=by decide +kernel
theorem bt_list:bootBuiltins "list" = some (.type "list"):=by decide +kernel
theorem bt_bool:bootBuiltins "bool" = some (.type "bool"):=by decide +kernel
section
variable {X:Cx}{K:PySem.W.Frag}{tg:Expr}{pos:Pos}
theorem bF {es:List Expr}{k:Nat}{t:TGs}{n:Nat} (hK:X.K=K) (hc:X.calm=true) (h:PGs X es t)
  (hn:(assignEach es X.env).length=n:=by rfl) (hst:(assignEach es X.env).findIdx? (·.1)=none:=by rfl):PG X (.Tuple es k pos) (gTup K n t):=by
 subst hK;exact pg_tup hc h hn hst
theorem aM (hK:X.K=K):IxR X (rIx K):=by subst hK;exact ix_seq
noncomputable def rLen (K:PySem.W.Frag):List V→Hp→VK→Prop:=fun xs H Q=>∃ p ys,xs=[.ref p]∧(bM K H p ys∨bT K H p ys)∧Q (.int ys.length) H
theorem bK (hK:X.K=K):CallR X (.builtin "len") (rLen K):=by subst hK;exact call_len_seq
theorem dX (hK:X.K=K) (hc:X.calm=true):CallR X (.builtin "sum") (rSum K):=by subst hK;exact call_sumB hc
theorem call_allK (hK:X.K=K) (hc:X.calm=true):CallR X (.builtin "all") (rAll K):=by subst hK;exact call_allB hc
theorem eK (hK:X.K=K):CallR X (.builtin "isinstance") (rIsi K):=by subst hK;exact call_isi
noncomputable def rTupOf (K:PySem.W.Frag):List V→Hp→VK→Prop:=fun xs H Q=>∃ p ys,xs=[.ref p]∧((bM K H p ys∧∀ l,H l=none→Q (.ref l) (upd H l (.tup ys)))∨(bT K H p ys∧Q (.ref p) H))
theorem cH (hK:X.K=K):CallR X (.type "tuple") (rTupOf K):=by subst hK;exact call_tuple_of
noncomputable def rLstOf (K:PySem.W.Frag):List V→Hp→VK→Prop:=fun xs H Q=>∃ p ys,xs=[.ref p]∧(bM K H p ys∨bT K H p ys)∧∀ l,H l=none→Q (.ref l) (upd H l (.lst ys))
theorem call_lstK (hK:X.K=K):CallR X (.type "list") (rLstOf K):=by subst hK;exact call_list_of
theorem pi_listK {l:Expr}{tl:TE} (hK:X.K=K) (hl:PE X l tl):PI X tg l (iList K tl):=by subst hK;exact pi_list hl
theorem dD {l:Expr}{tl:TE} (hK:X.K=K) (hl:PE X l tl):PI X tg l (iTup K tl):=by subst hK;exact pi_tup hl
theorem pi_enumK {a:Expr}{ta:TA}{p:Pos} (hK:X.K=K) (hg:Gl X "enumerate") (hm:X.mg "enumerate" = none) (ha:PA X [a] ta) (hs:starEach [a] X.env=[(false,eval a X.env)]:=by rfl):PI X tg (.Call (.Name "enumerate" p) [a] [] pos) (iEnum K ta):=by
 subst hK;exact pi_enum hg hm ha hs
theorem pi_zip2K {a b:Expr}{ta:TA}{p:Pos} (hK:X.K=K) (hg:Gl X "zip") (hm:X.mg "zip" = none) (ha:PA X [a,b] ta) (hs:starEach [a,b] X.env=[(false,eval a X.env),(false,eval b X.env)]:=by rfl) (hs2:starEach [b] X.env=[(false,eval b X.env)]:=by rfl) :
  PI X tg (.Call (.Name "zip" p) [a,b] [] pos) (iZip2 K ta):=by subst hK;exact pi_zip2 hg hm ha hs hs2
theorem pi_zip3K {a b c:Expr}{ta:TA}{p:Pos} (hK:X.K=K) (hg:Gl X "zip") (hm:X.mg "zip" = none) (ha:PA X [a,b,c] ta) (hs:starEach [a,b,c] X.env=[(false,eval a X.env),(false,eval b X.env),(false,eval c X.env)]:=by rfl)
  (hs2:starEach [b,c] X.env=[(false,eval b X.env),(false,eval c X.env)]:=by rfl):PI X tg (.Call (.Name "zip" p) [a,b,c] [] pos) (iZip3 K ta):=by subst hK;exact pi_zip3 hg hm ha hs hs2
theorem op_repTK (hK:X.K=K):OpR X (binaryOp .Mult) (rRepT K):=by subst hK;exact op_repT
theorem op_neSameK (hK:X.K=K) (hu:X.A.units+64 < cLine):OpR X (compareOp .NotEq) (rNeSame K):=by subst hK;exact op_neSame hu
theorem get_listK (hK:X.K=K):PGet X (rGetL K):=by subst hK;exact get_list
theorem dY {o e:Expr}{es:List Expr}{to:TE}{t:TA}{name:Str}{apos cpos:Pos}{T id:String}{r:V→List V→Hp→VK→Prop} (hK:X.K=K)
  (pa:PlainAttrs T) (slot:Slot T name id) (hty:typeOf (.builtin id)=pure (.type "method_descriptor")) (hm:MtR X id r) (ho:PE X o to) (ha:PA X (e::es) t)
  (hbase:attributeBase o name X.env (eval o X.env)=eval o X.env:=by rfl)
  (hfew:((backTo cpos (starEach (e::es) X.env)).all (fun x=>!x.1) && (backToKw cpos (keywordEach [] X.env)).all (fun x=>x.1.isSome)
   && decide ((e::es).length+([]:List Keyword).length+(if ([]:List Keyword).isEmpty then 0 else 1) < 30))=true:=by rfl)
  (hline:(apos.endLine == cpos.line)=true:=by rfl) (hs:starEach (e::es) X.env=(false,eval e X.env)::starEach es X.env:=by rfl) (hplain:(backTo cpos (starEach es X.env)).any (·.1)=false:=by rfl) :
  PE X (.Call (.Attribute o name apos) (e::es) [] cpos) (tBM K T r to t):=by subst hK;exact pe_bm pa slot hty hm ho ha hbase hfew hline hs hplain
end
end L2
namespace Tw
open PySem L2
section
variable {P:Program}{w:World}{K:PySem.W.Frag}{mg:Str→Option Value}{base:Heap}
theorem bA {α:Type}{xs:List α}{i:Nat}{x:α} (h:xs[i]? = some x):xs.take (i+1)=xs.take i++[x]:=by
 rw[List.take_succ,h];rfl
theorem outs_at {H:Hp}{outs:List (Option Int×Int)}{xs:List V}{i:Nat}{x:V} (l:IsL K H (outs.map outD) xs) (h:xs[i]? = some x) :
  ∃ o,outs[i]? = some o∧∃ a,x=.ref a∧bT K H a [tgV o.1,.int o.2]:=by
 obtain⟨d,hd,hx⟩:=l.get' h
 rw[List.getElem?_map] at hd
 cases e:outs[i]? with
 | none=>rw[e] at hd;cases hd
 | some o=>
  rw[e] at hd
  cases hd
  refine⟨o,rfl,?_⟩
  obtain⟨a,ys,rfl,q,l⟩:=(show Is K H (.tup [tgD o.1,.int o.2]) x from hx).un
  obtain⟨y,r,rfl,hy,l⟩:=l.un
  obtain⟨z,r,rfl,hz,l⟩:=l.un
  have:=l.un0
  subst this
  rw[Is.tg hy,hz.ui] at q
  exact⟨a,rfl,q⟩
noncomputable def spShare (K:PySem.W.Frag):Sp:=fun vs H Q _=>∃ (o d:Addr) (has:Int) (outs gs:List (Option Int×Int)) (n:Nat),vs=[.ref o,.int has,.ref d]∧Is K H (.tup (outs.map outD)) (.ref o)∧DictG H d gs∧gs.length+3≤1000∧
 outs≠[]∧outs.length≤3∧(∀ x∈outs,OutOk n x)∧∀ H',cY d H H'→DictG H' d (gs++outs.map fun x=>(x.1,has / whole outs * x.2))→Q (.int (has % whole outs)) H'
theorem sc_share_out:FnScope ["outs","has","sent","whole","times","target","parts"] ["outs","has","sent"] (aL (top 12)):=⟨rfl,rfl,rfl,by decide +kernel,rfl,by decide +kernel,by decide +kernel⟩
theorem ok_share_out {f fS:Addr}{fd fdS:FuncData} (F:Fun K "share_out" "share_out" (top 12) f fd) (T:Txt mg) (G_send:Callee P w K mg base "send" ["sent","target","amount"] 1 spSend fS fdS):FnOk P w K mg base CX0 2 f fd ["outs","has","sent"] (spShare K):=by
 refine F.ok sc_share_out (fun vs H Q E h=>?_) (fun cdv A outer s H vs Q E hr h=>?_)
 ·obtain⟨o,d,has,outs,gs,n,rfl,_⟩:=h;rfl
 ·obtain⟨o,d,has,outs,gs,n,rfl,ho,hd,hg,hne,h3,hok,k⟩:=h
  have sc:=sc_share_out
  refine⟨_,(aF (bE (i:=3) sc.nd rfl (Or.inl rfl) (aS (dX (K:=K) rfl rfl) rfl T.b_sum PyProof.Rows.boot_sum (aA (pe_lc (fun _ _ h=>h) rfl (LcOk.mk (N':=["target","parts"]) (fr:=[none,none]) rfl trivial rfl rfl rfl rfl rfl trivial) (dD (K:=K) rfl (pv 0)) (fun _ _ _=>(bF (K:=K) (n:=2) rfl rfl (aH (aJ (i:=0) (show (["target","parts"]:List Str).Nodup by decide +kernel) rfl (Or.inl rfl) (Or.inr rfl)) (aH (aJ (i:=1) (show (["target","parts"]:List Str).Nodup by decide +kernel) rfl (Or.inl rfl) (Or.inr rfl)) bD)))) (fun _ _ _=>cP) (fun _ _ _=>(pv 1))) aE)))
   (aF (bE (i:=4) sc.nd rfl (Or.inl rfl) (b0 op_fdiv (pv 1) (aS (call_max2 rfl) rfl T.b_max PyProof.Rows.boot_max (aA aG (aA (pv 3) aE)))))
   (aF (dB PassesOwn.never rfl (dD (K:=K) rfl (pv 0)) (bF (K:=K) (n:=2) rfl rfl (aH (aJ (i:=5) sc.nd rfl (Or.inl rfl)) (aH (aJ (i:=6) sc.nd rfl (Or.inl rfl)) bD))) (aO (bZ (cQ G_send hr (aA (pv 2) (aA (pv 5) (aA (b0 op_mul (pv 6) (pv 4)) aE)))))))
   (aO (aX (b0 dN (pv 1) (b0 op_mul (pv 3) (pv 4)))))))),?_⟩
  have hw1:=whole_pos hne hok
  have hw2:=whole_le hok
  obtain⟨o',xs,e,hq,hl⟩:=ho.un
  cases e
  have hxl:xs.length=outs.length:=by rw[hl.length,List.length_map]
  refine⟨_,rfl,o,rfl,⟨_,hq⟩,lc_tup (K:=K) (a:=o) (xs:=xs) (fun D i ys σ' H'=>H D=none∧aK H H'∧H' D=some (.lst ys)∧ys=(outs.take i).map (fun x=>V.int x.2)∧∃ x y,σ'=[x,y])
   (fun D i ys σ' H' p=>p.2.1.tup hq) (fun D hD=>⟨hD,aK.new hD,aD,by simp,none,none,rfl⟩) ?_ ?_⟩
  rotate_left
  ·rintro D i x ys σ' H' hx ⟨hD,sm,hDl,rfl,v1,v2,rfl⟩
   obtain⟨ot,hot,a,rfl,qa⟩:=outs_at hl hx
   have hil:=(List.getElem?_eq_some_iff.mp hot).1
   refine⟨a,_,rfl,sm.tup qa,rfl,_,_,rfl,_,_,rfl,rfl,?_⟩
   refine yes_of ⟨_,rfl,hDl,aZ (by simp;omega),hD,sm.put hD,aD,?_,_,_,rfl⟩
   rw[bA hot];simp
  ·rintro D ys σ' H1 ⟨hD,sm,hDl,rfl,_⟩
   rw[hxl,List.take_length] at hDl
   refine⟨false,D,outs.map (·.2),rfl,bM.of (by rw[List.map_map];exact hDl),?_⟩
   refine⟨_,rfl,_,rfl,_,_,rfl,_,_,rfl,rfl,?_,?_⟩
   ·show 0 < (if whole outs > 1 then whole outs else 1)∧(if whole outs > 1 then whole outs else 1) < 1073741824
    split <;> omega
   have hm:(if whole outs > 1 then whole outs else 1)=whole outs:=by split <;> omega
   show tSeq _ _ _ [some (V.ref o),some (V.int has),some (V.ref d),some (V.int (whole outs)),some (V.int (has / (if whole outs > 1 then whole outs else 1))),none,none] _
   rw[hm]
   have hd1:DictG H1 d gs:=by obtain⟨kvs,e,r⟩:=hd;exact⟨kvs,sm _ _ e,r⟩
   have tsH:bL K H H1:=sm.ts
   refine⟨_,rfl,o,rfl,⟨_,sm.tup hq⟩,for_tup (K:=K) (a:=o) (xs:=xs) (fun i σ' H'=>cY d H1 H'∧DictG H' d (gs++(outs.take i).map fun x=>(x.1,has / whole outs * x.2))∧
    ∃ x y,σ'=[some (V.ref o),some (V.int has),some (V.ref d),some (V.int (whole outs)),some (V.int (has / whole outs)),x,y]) ⟨cY.refl _,by simpa using hd1,none,none,rfl⟩
    (fun i σ' H' _ p=>(p.1.ts hd1.mut) _ _ (sm.tup hq)) ?_ ?_⟩
   ·rintro i x σ' H2 hx ⟨bt,dg,v1,v2,rfl⟩
    obtain⟨ot,hot,a,rfl,qa⟩:=outs_at hl hx
    have hil:=(List.getElem?_eq_some_iff.mp hot).1
    have hom:=hok ot (List.mem_of_getElem? hot)
    refine⟨a,_,rfl,(bt.ts hd1.mut) _ _ (sm.tup qa),rfl,_,_,rfl,_,_,rfl,rfl,?_⟩
    refine⟨_,rfl,_,rfl,_,rfl,_,rfl,_,_,rfl,rfl,.inl ⟨by have:=hom.lo;omega,by have:=hom.hi;omega⟩,d,ot.1,ot.2 * (has / whole outs),_,rfl,dg,by simp;omega,fun H' bt' dg'=>?_⟩
    refine⟨bt.trans bt',?_,_,_,rfl⟩
    rw[bA hot,List.map_append,← List.append_assoc]
    rw[Int.mul_comm] at dg'
    exact dg'
   ·rintro σ' H2 ⟨bt,dg,v1,v2,rfl⟩
    rw[hxl,List.take_length] at dg
    refine⟨_,rfl,_,rfl,_,rfl,_,_,rfl,rfl,.inl ⟨by omega,by omega⟩,_,_,rfl,rfl,?_⟩
    have e:has - whole outs * (has / whole outs)=has % whole outs:=by
     have:=Int.emod_add_mul_ediv has (whole outs);omega
    show Q (V.int (has - whole outs * (has / whole outs))) H2
    rw[e]
    exact k H2 (sm.but.trans bt) dg
theorem vs_un {H:Hp}{v:Vs}{x:V} (h:Is K H (vsD v) x):∃ (a:Addr) (o c:V),x=.ref a∧bT K H a [.int v.size,.int v.brim,o,.bl v.holds,tgV v.spill,c]∧Is K H (.tup (v.outs.map outD)) o∧Is K H (.tup (v.acts.map actD)) c:=by
 obtain⟨a,xs,rfl,q,l⟩:=(show Is K H (.tup [.int v.size,.int v.brim,.tup (v.outs.map outD),.bl v.holds,tgD v.spill,.tup (v.acts.map actD)]) x from h).un
 obtain⟨x1,r,rfl,h1,l⟩:=l.un
 obtain⟨x2,r,rfl,h2,l⟩:=l.un
 obtain⟨x3,r,rfl,h3,l⟩:=l.un
 obtain⟨x4,r,rfl,h4,l⟩:=l.un
 obtain⟨x5,r,rfl,h5,l⟩:=l.un
 obtain⟨x6,r,rfl,h6,l⟩:=l.un
 have:=l.un0
 subst this
 rw[h1.ui,h2.ui,h4.ub,Is.tg h5] at q
 exact⟨a,x3,x6,rfl,q,h3,h6⟩
noncomputable def spSettle (K:PySem.W.Frag):Sp:=fun vs H Q _=>∃ (x:V) (d:Addr) (has:Int) (v:Vs) (gs:List (Option Int×Int)) (n m:Nat),vs=[x,.int has,.ref d]∧Is K H (vsD v) x∧DictG H d gs∧gs.length+5≤1000∧VOk n m v∧
 ∀ p H',cY d H H'→DictG H' d (gs++vGoes v has)→bT K H' p [.int (vStay v has),.bl (vTips v has)]→Q (.ref p) H'
theorem sc_settle:FnScope ["vessel","has","sent","size","brim","outs","holds","spill","acts","over","left"] ["vessel","has","sent"] (aL (top 11)):=⟨rfl,rfl,rfl,by decide +kernel,rfl,by decide +kernel,by decide +kernel⟩
theorem ok_settle {f fS fO:Addr}{fd fdS fdO:FuncData} (F:Fun K "settle" "settle" (top 11) f fd) (T:Txt mg) (G_send:Callee P w K mg base "send" ["sent","target","amount"] 1 spSend fS fdS)
  (G_share_out:Callee P w K mg base "share_out" ["outs","has","sent"] 2 (spShare K) fO fdO):FnOk P w K mg base CX0 3 f fd ["vessel","has","sent"] (spSettle K):=by
 refine F.ok sc_settle (fun vs H Q E h=>?_) (fun cdv A outer s H vs Q E hr h=>?_)
 ·obtain⟨x,d,has,v,gs,n,m,rfl,_⟩:=h;rfl
 ·obtain⟨x,d,has,v,gs,n,m,rfl,hx,hd,hg,ok,k⟩:=h
  have sc:=sc_settle
  refine⟨_,(aF (cB (pv 0) (bF (K:=K) (n:=6) rfl rfl (aH (aJ (i:=3) sc.nd rfl (Or.inl rfl)) (aH (aJ (i:=4) sc.nd rfl (Or.inl rfl)) (aH (aJ (i:=5) sc.nd rfl (Or.inl rfl)) (aH (aJ (i:=6) sc.nd rfl (Or.inl rfl)) (aH (aJ (i:=7) sc.nd rfl (Or.inl rfl)) (aH (aJ (i:=8) sc.nd rfl (Or.inl rfl)) bD))))))))
   (aF (bE (i:=9) sc.nd rfl (Or.inl rfl) (aS (call_max2 rfl) rfl T.b_max PyProof.Rows.boot_max (aA aG (aA (b0 dN (pv 1) (pv 4)) aE))))
   (aF (bZ (cQ G_send hr (aA (pv 2) (aA (pv 7) (aA (pv 9) aE)))))
   (aF (ps_aug (i:=1) sc.nd rfl (Or.inl rfl) (pv 9) ip_sub)
   (aF (cF (bU op_lt (pv 1) (pv 3) (bW _)) (aO (aX (bV (aA (pv 1) (aA eL aE))))) bH)
   (aF (bE (i:=10) sc.nd rfl (Or.inl rfl) (cQ G_share_out hr (aA (pv 5) (aA (pv 1) (aA (pv 2) aE)))))
   (aF (cF (cU (pv 6)) (aO (aX (bV (aA (pv 10) (aA eL aE))))) bH)
   (aF (bZ (cQ G_send hr (aA (pv 2) (aA eO (aA (pv 10) aE)))))
   (aO (aX (bV (aA aG (aA eL aE))))))))))))),?_⟩
  obtain⟨a,o,c,rfl,q,ho,hc⟩:=vs_un hx
  refine⟨_,rfl,a,_,rfl,q,rfl,_,_,rfl,_,_,rfl,_,_,rfl,_,_,rfl,_,_,rfl,_,_,rfl,rfl,?_⟩
  refine⟨_,rfl,_,rfl,_,_,rfl,rfl,_,_,rfl,?_⟩
  have eo:(if has - v.brim > 0 then has - v.brim else 0)=has - cA v has:=by unfold cA;split <;> omega
  show tSeq _ _ _ [some (V.ref a),some (V.int has),some (V.ref d),some (V.int v.size),some (V.int v.brim),some o,some (V.bl v.holds),some (tgV v.spill),some c,some (V.int (if has - v.brim > 0 then has - v.brim else 0)),none] _
  rw[eo]
  refine⟨_,rfl,_,rfl,_,rfl,d,v.spill,has - cA v has,gs,rfl,hd,by omega,fun H1 b1 d1=>?_⟩
  have ts1:bL K H H1:=b1.ts hd.mut
  refine⟨_,rfl,_,rfl,_,_,rfl,rfl,?_⟩
  have eh:has - (has - cA v has)=cA v has:=by omega
  show tSeq _ _ _ [some (V.ref a),some (V.int (has - (has - cA v has))),some (V.ref d),some (V.int v.size),some (V.int v.brim),some o,some (V.bl v.holds),some (tgV v.spill),some c,some (V.int (has - cA v has)),none] _
  rw[eh]
  refine⟨_,rfl,_,rfl,_,_,rfl,rfl,_,rfl,?_⟩
  refine eX (fun hlt=>?_) (fun hge=>?_)
  ·have hlt':cA v has < v.size:=of_decide_eq_true hlt
   have ht:vTips v has=false:=decide_eq_false (by omega)
   refine⟨_,rfl,(show 2≤sizeLine by decide),fun p hp=>?_⟩
   refine k p _ (b1.trans (aK.new hp).but) ?_ ?_
   ·have:vGoes v has=[(v.spill,has - cA v has)]:=by unfold vGoes;rw[ht];rfl
    rw[this]
    obtain⟨kvs,e,r⟩:=d1
    exact⟨kvs,aK.new hp _ _ e,r⟩
   ·have:vStay v has=cA v has:=by unfold vStay;rw[ht];rfl
    rw[this,ht]
    exact bT.of aD
  ·have hge':v.size≤cA v has:=by simpa using hge
   have ht:vTips v has=true:=decide_eq_true hge'
   obtain⟨oa,os,rfl,_,_⟩:=ho.un
   refine⟨_,rfl,_,rfl,_,rfl,oa,d,cA v has,v.outs,_,n,rfl,Is.mono ts1 _ _ ho,d1,by simp;omega,ok.ne,ok.o3,ok.outs,fun H2 b2 d2=>?_⟩
   refine⟨_,rfl,_,rfl,?_⟩
   cases hh:v.holds with
   | true=>
    refine eT ?_
    refine⟨_,rfl,(show 2≤sizeLine by decide),fun p hp=>?_⟩
    refine k p _ (b1.trans (b2.trans (aK.new hp).but)) ?_ ?_
    ·have:gs++vGoes v has=(gs++[(v.spill,has - cA v has)])++v.outs.map fun x=>(x.1,cA v has / whole v.outs * x.2):=by
      unfold vGoes shared;rw[ht,hh];simp
     rw[this]
     obtain⟨kvs,e,r⟩:=d2
     exact⟨kvs,aK.new hp _ _ e,r⟩
    ·have:vStay v has=cA v has % whole v.outs:=by unfold vStay;rw[ht,hh];rfl
     rw[this,ht]
     exact bT.of aD
   | false=>
    refine dU ?_
    refine⟨_,rfl,_,rfl,d,none,cA v has % whole v.outs,_,rfl,d2,by simp;have:=ok.o3;omega,fun H3 b3 d3=>?_⟩
    refine⟨(show 2≤sizeLine by decide),fun p hp=>?_⟩
    refine k p _ (b1.trans (b2.trans (b3.trans (aK.new hp).but))) ?_ ?_
    ·have:gs++vGoes v has=((gs++[(v.spill,has - cA v has)])++v.outs.map fun x=>(x.1,cA v has / whole v.outs * x.2))++[(none,cA v has % whole v.outs)]:=by
      unfold vGoes shared;rw[ht,hh];simp
     rw[this]
     obtain⟨kvs,e,r⟩:=d3
     exact⟨kvs,aK.new hp _ _ e,r⟩
    ·have:vStay v has=0:=by unfold vStay;rw[ht,hh];rfl
     rw[this,ht]
     exact bT.of aD
end
end Tw
namespace Tw
open PySem L2
section
variable {P:Program}{w:World}{K:PySem.W.Frag}{mg:Str→Option Value}{base:Heap}
theorem acts_at {H:Hp}{acts:List (Str×Int)}{xs:List V}{i:Nat}{x:V} (l:IsL K H (acts.map actD) xs) (h:xs[i]? = some x) :
  ∃ o,acts[i]? = some o∧∃ a,x=.ref a∧bT K H a [.str o.1,.int o.2]:=by
 obtain⟨d,hd,hx⟩:=l.get' h
 rw[List.getElem?_map] at hd
 cases e:acts[i]? with
 | none=>rw[e] at hd;cases hd
 | some o=>
  rw[e] at hd
  cases hd
  refine⟨o,rfl,?_⟩
  obtain⟨a,ys,rfl,q,l⟩:=(show Is K H (.tup [.str o.1,.int o.2]) x from hx).un
  obtain⟨y,r,rfl,hy,l⟩:=l.un
  obtain⟨z,r,rfl,hz,l⟩:=l.un
  have:=l.un0
  subst this
  rw[hy.us,hz.ui] at q
  exact⟨a,rfl,q⟩
theorem act1_len (ds:List Bool) (a:Str×Int):(act1 ds a).length=ds.length:=by unfold act1;simp
theorem actsL_len:∀ (as:List (Str×Int)) (ds:List Bool),(eM ds as).length=ds.length
 | [],ds=>rfl
 | a::as,ds=>by
  show (eM (act1 ds a) as).length=_
  rw[actsL_len as,act1_len]
theorem doorsL_len (vs:List Vs):∀ (tip:List Nat) (ds:List Bool),(cX vs ds tip).length=ds.length
 | [],ds=>rfl
 | i::r,ds=>by
  show (cX vs (match vs[i]? with | some v=>eM ds v.acts | none=>ds) r).length=_
  rw[doorsL_len vs r]
  cases vs[i]? with
  | none=>rfl
  | some v=>exact actsL_len _ _
theorem actsL_snoc (ds:List Bool) (as:List (Str×Int)) (a:Str×Int):eM ds (as++[a])=act1 (eM ds as) a:=by
 unfold eM;rw[List.foldl_append];rfl
theorem doorsL_snoc (vs:List Vs) (ds:List Bool) (tip:List Nat) (i:Nat) (v:Vs) (h:vs[i]? = some v):cX vs ds (tip++[i])=eM (cX vs ds tip) v.acts:=by
 unfold cX;rw[List.foldl_append]
 show (match vs[i]? with | some v=>_ | none=>_)=_
 rw[h]
noncomputable def spDoors (K:PySem.W.Frag):Sp:=fun args H Q _=>∃ (x y:V) (t:Addr) (vs:List Vs) (doors:List Bool) (tip:List Nat) (n:Nat),args=[x,y,.ref t]∧Is K H (.tup (vs.map vsD)) x∧Is K H (.tup (doors.map D.bl)) y∧
 bM K H t (tip.map fun (i:Nat)=>V.int (i:Int))∧(∀ i∈tip,i < vs.length)∧(∀ v∈vs,VOk n doors.length v)∧doors.length≤12∧
 ∀ p H',aK H H'→Is K H' (.tup ((cX vs doors tip).map D.bl)) p→Q p H'
theorem sc_doors_behind:FnScope ["vessels","doors","tipped","behind","number","size","brim","outs","holds","spill","acts","word","spout"] ["vessels","doors","tipped"] (aL (top 14)):=⟨rfl,rfl,rfl,by decide +kernel,rfl,by decide +kernel,by decide +kernel⟩
theorem ok_doors_behind {f:Addr}{fd:FuncData} (F:Fun K "doors_behind" "doors_behind" (top 14) f fd) (T:Txt mg):FnOk P w K mg base CX0 1 f fd ["vessels","doors","tipped"] (spDoors K):=by
 refine F.ok sc_doors_behind (fun vs H Q E h=>?_) (fun cdv A outer s H vs Q E hr h=>?_)
 ·obtain⟨x,y,t,vs,doors,tip,n,rfl,_⟩:=h;rfl
 ·obtain⟨x,y,t,vs,doors,tip,n,rfl,hx,hy,ht,htip,hok,hm,k⟩:=h
  have sc:=sc_doors_behind
  refine⟨_,(aF (bE (i:=3) sc.nd rfl (Or.inl rfl) (bG (call_lstK (K:=K) rfl) rfl T.b_list bt_list (aA (pv 1) aE)))
   (aF (dB PassesOwn.never rfl (pi_listK (K:=K) rfl (pv 2)) (aJ (i:=4) sc.nd rfl (Or.inl rfl)) (aF (cB (aR (aM (K:=K) rfl) (pv 0) (pv 4) (fun _ _=>rfl)) (bF (K:=K) (n:=6) rfl rfl (aH (aJ (i:=5) sc.nd rfl (Or.inl rfl)) (aH (aJ (i:=6) sc.nd rfl (Or.inl rfl)) (aH (aJ (i:=7) sc.nd rfl (Or.inl rfl)) (aH (aJ (i:=8) sc.nd rfl (Or.inl rfl)) (aH (aJ (i:=9) sc.nd rfl (Or.inl rfl)) (aH (aJ (i:=10) sc.nd rfl (Or.inl rfl)) bD))))))))
   (aO (dB PassesOwn.never rfl (dD (K:=K) rfl (pv 10)) (bF (K:=K) (n:=2) rfl rfl (aH (aJ (i:=11) sc.nd rfl (Or.inl rfl)) (aH (aJ (i:=12) sc.nd rfl (Or.inl rfl)) bD))) (aO (cB (pe_or (pe_cmpR op_eq (pv 11) dM (bW _)) (eS (dZ (pe_cmpR op_eq (pv 11) dM (bW _)) (eS (pe_not (aR (aM (K:=K) rfl) (pv 3) (pv 12) (fun _ _=>rfl))))))) (pg_sub (pv 3) (pv 12) eV)))))))
   (aO (aX (bG (cH (K:=K) rfl) rfl T.b_tuple cJ (aA (pv 3) aE)))))),?_⟩
  obtain⟨ax,xs,rfl,qx,lx⟩:=hx.un
  obtain⟨ay,ys,rfl,qy,ly⟩:=hy.un
  have ey:=ly.bools
  subst ey
  have exl:xs.length=vs.length:=by rw[lx.length,List.length_map]
  refine⟨_,rfl,ay,_,rfl,.inr qy,fun b hb=>?_⟩
  have nb:∀ {c:Addr}{o:HO},H c=some o→c≠b:=fun e=>aQ e hb
  refine⟨_,rfl,t,rfl,⟨_,(aK.new hb).seq ht⟩,for_list (K:=K) (a:=t) (xs:=tip.map fun (i:Nat)=>V.int (i:Int))
   (fun i σ' H'=>aK H H'∧H' b=some (.lst ((cX vs doors (tip.take i)).map V.bl))∧∃ v4 v5 v6 v7 v8 v9 v10 v11 v12,σ'=[some (.ref ax),some (.ref ay),some (.ref t),some (.ref b),v4,v5,v6,v7,v8,v9,v10,v11,v12])
   ⟨aK.new hb,aD,none,none,none,none,none,none,none,none,none,rfl⟩ (fun i σ' H' _ p=>p.1.seq ht) ?_ ?_⟩
  ·rintro i x σ' H1 hi ⟨sm,hbl,v4,v5,v6,v7,v8,v9,v10,v11,v12,rfl⟩
   rw[List.getElem?_map] at hi
   obtain⟨j,hj,rfl⟩:=Option.map_eq_some_iff.mp hi
   have hjv:=htip j (List.mem_of_getElem? hj)
   have hv:vs[j]? = some vs[j]:=by simp [hjv]
   have hvok:=hok vs[j] (List.getElem_mem hjv)
   obtain⟨xv,hxv,ixv⟩:=lx.get (i:=j) (d:=vsD vs[j]) (by rw[List.getElem?_map,hv];rfl)
   obtain⟨va,o,c,rfl,qv,ho,hc⟩:=vs_un ixv
   refine⟨_,rfl,_,rfl,.inr (.inl ⟨ax,xs,j,_,rfl,rfl,sm.tup qx,d5 hxv,va,_,rfl,sm.tup qv,rfl,_,_,rfl,_,_,rfl,_,_,rfl,_,_,rfl,_,_,rfl,_,_,rfl,rfl,?_⟩)⟩
   obtain⟨ca,cs,rfl,qc,lc⟩:=hc.un
   have ecs:cs.length=vs[j].acts.length:=by rw[lc.length,List.length_map]
   refine⟨_,rfl,ca,rfl,⟨_,sm.tup qc⟩,for_tup (K:=K) (a:=ca) (xs:=cs)
    (fun l σ' H'=>aK H H'∧H' b=some (.lst ((eM (cX vs doors (tip.take i)) (vs[j].acts.take l)).map V.bl))∧
     ∃ u11 u12,σ'=[some (.ref ax),some (.ref ay),some (.ref t),some (.ref b),some (.int (j:Int)),some (.int vs[j].size),some (.int vs[j].brim),some o,some (.bl vs[j].holds),some (tgV vs[j].spill),some (.ref ca),u11,u12])
    ⟨sm,hbl,v11,v12,rfl⟩ (fun l σ' H' _ p=>p.1.tup qc) ?_ ?_⟩
   ·rintro l x σ' H2 hl ⟨sm2,hb2,u11,u12,rfl⟩
    obtain⟨at',hat,aa,rfl,qa⟩:=acts_at lc hl
    have aok:=hvok.acts at' (List.mem_of_getElem? hat)
    refine⟨aa,_,rfl,sm2.tup qa,rfl,_,_,rfl,_,_,rfl,rfl,?_⟩
    have hdl:(eM (cX vs doors (tip.take i)) (vs[j].acts.take l)).length=doors.length:=by rw[actsL_len,doorsL_len]
    have hsp:at'.2.toNat < (eM (cX vs doors (tip.take i)) (vs[j].acts.take l)).length:=by rw[hdl];have:=aok.lo;have:=aok.hi;omega
    have fin:∀ c:Bool,c=(if at'.1 = "open" then true else if at'.1 = "turn" then !((eM (cX vs doors (tip.take i)) (vs[j].acts.take l)).getD at'.2.toNat false) else false)→
      aK H (upd H2 b (.lst (((eM (cX vs doors (tip.take i)) (vs[j].acts.take l)).map V.bl).set at'.2.toNat (.bl c))))∧
      upd H2 b (.lst (((eM (cX vs doors (tip.take i)) (vs[j].acts.take l)).map V.bl).set at'.2.toNat (.bl c))) b=some (.lst ((eM (cX vs doors (tip.take i)) (vs[j].acts.take (l+1))).map V.bl)):=fun c hc=>by
     refine⟨sm2.put hb,?_⟩
     rw[aD,bA hat,actsL_snoc,act1,← hc,List.map_set]
    have set:∀ c:Bool,c=(if at'.1 = "open" then true else if at'.1 = "turn" then !((eM (cX vs doors (tip.take i)) (vs[j].acts.take l)).getD at'.2.toNat false) else false)→
      gSub (d6 3) (d6 12) rSetL (.bl c) [some (.ref ax),some (.ref ay),some (.ref t),some (.ref b),some (.int (j:Int)),some (.int vs[j].size),some (.int vs[j].brim),some o,some (.bl vs[j].holds),some (tgV vs[j].spill),some (.ref ca),some (.str at'.1),some (.int at'.2)] H2
       fun σ' H'=>aK H H'∧H' b=some (.lst ((eM (cX vs doors (tip.take i)) (vs[j].acts.take (l+1))).map V.bl))∧
        ∃ u11 u12,σ'=[some (.ref ax),some (.ref ay),some (.ref t),some (.ref b),some (.int (j:Int)),some (.int vs[j].size),some (.int vs[j].brim),some o,some (.bl vs[j].holds),some (tgV vs[j].spill),some (.ref ca),u11,u12]:=fun c hc=>by
     obtain⟨f1,f2⟩:=fin c hc
     refine⟨_,rfl,_,rfl,b,_,at'.2,at'.2.toNat,rfl,rfl,hb2,ixN_nat aok.lo (by rw[List.length_map];omega),f1,f2,_,_,rfl⟩
    refine⟨_,rfl,rfl,_,rfl,?_⟩
    refine eX (fun h1=>?_) (fun h1=>?_)
    ·have e1:at'.1 = "open" := by have:=of_decide_eq_true h1;injection this
     exact set true (by rw[if_pos e1])
    ·have e1:¬ at'.1 = "open" := fun z=>h1 (decide_eq_true (by rw[z]))
     refine⟨_,rfl,rfl,_,rfl,?_⟩
     refine eX (fun h2=>?_) (fun h2=>?_)
     ·have e2:at'.1 = "turn" := by have:=of_decide_eq_true h2;injection this
      have hg:((eM (cX vs doors (tip.take i)) (vs[j].acts.take l)).map V.bl)[at'.2.toNat]? = some (.bl ((eM (cX vs doors (tip.take i)) (vs[j].acts.take l)).getD at'.2.toNat false)):=by
       rw[List.getElem?_map,List.getD_eq_getElem?_getD];simp [hsp]
      refine⟨_,rfl,_,rfl,.inl ⟨b,_,at'.2,_,rfl,rfl,bM.of hb2,atI_int aok.lo hg,_,rfl,?_⟩⟩
      exact set _ (by rw[if_neg e1,if_pos e2])
     ·have e2:¬ at'.1 = "turn" := fun z=>h2 (decide_eq_true (by rw[z]))
      exact set false (by rw[if_neg e1,if_neg e2])
   ·rintro σ' H2 ⟨sm2,hb2,u11,u12,rfl⟩
    rw[ecs,List.take_length] at hb2
    refine⟨sm2,?_,_,_,_,_,_,_,_,_,_,rfl⟩
    rw[bA hj,doorsL_snoc vs doors _ j vs[j] hv]
    exact hb2
  ·rintro σ' H1 ⟨sm,hbl,v4,v5,v6,v7,v8,v9,v10,v11,v12,rfl⟩
   rw[List.length_map,List.take_length] at hbl
   refine⟨_,rfl,b,_,rfl,.inl ⟨bM.of hbl,fun l hl=>?_⟩⟩
   exact k _ _ (sm.trans (aK.new hl)) (Is.tupOf (bT.of aD) (IsL.of_bools _))
end
end Tw
namespace Tw
open PySem L2
theorem add3_len:∀ {a b c:List Int}{n:Nat},a.length=n→b.length=n→c.length=n→(add3 a b c).length=n
 | [],b,c,n,h,_,_=>by simp at h;subst h;rfl
 | x::a,[],c,n,h1,h2,_=>by simp at h1 h2;omega
 | x::a,y::b,[],n,h1,_,h3=>by simp at h1 h3;omega
 | x::a,y::b,z::c,n,h1,h2,h3=>by
  simp at h1 h2 h3
  show (add3 a b c).length+1=n
  rw[add3_len (n:=n - 1) (by omega) (by omega) (by omega)];omega
theorem add3_get:∀ {a b c:List Int}{i:Nat}{x y z:Int},a[i]? = some x→b[i]? = some y→c[i]? = some z→(add3 a b c)[i]? = some (x+y+z)
 | [],_,_,i,_,_,_,h,_,_=>by simp at h
 | _::_,[],_,i,_,_,_,_,h,_=>by simp at h
 | _::_,_::_,[],i,_,_,_,_,_,h=>by simp at h
 | a::as,b::bs,c::cs,0,x,y,z,h1,h2,h3=>by simp at h1 h2 h3;subst h1 h2 h3;rfl
 | a::as,b::bs,c::cs,i+1,x,y,z,h1,h2,h3=>by
  show (add3 as bs cs)[i]? = _
  exact add3_get (by simpa using h1) (by simpa using h2) (by simpa using h3)
theorem fill1_len (has:List Int) (s:Spt) (d:Bool):(fill1 has s d).length=has.length:=by unfold fill1;split <;> simp
theorem fillL_len:∀ (ss:List Spt) (ds:List Bool) (has:List Int),(eB has ss ds).length=has.length
 | [],ds,has=>by cases ds <;> rfl
 | s::ss,[],has=>rfl
 | s::ss,d::ds,has=>by show (eB (fill1 has s d) ss ds).length=_;rw[fillL_len ss ds,fill1_len]
theorem fillL_snoc:∀ (ss:List Spt) (ds:List Bool) (i:Nat) (has:List Int) (s:Spt) (d:Bool),ss[i]? = some s→ds[i]? = some d→eB has (ss.take (i+1)) (ds.take (i+1))=fill1 (eB has (ss.take i) (ds.take i)) s d
 | [],_,i,_,_,_,h,_=>by simp at h
 | _::_,[],i,_,_,_,_,h=>by simp at h
 | a::ss,b::ds,0,has,s,d,h1,h2=>by simp at h1 h2;subst h1 h2;simp [eB]
 | a::ss,b::ds,i+1,has,s,d,h1,h2=>by
  simp only [List.take_succ_cons,eB]
  exact fillL_snoc ss ds i _ s d (by simpa using h1) (by simpa using h2)
theorem goesL_snoc:∀ (vs:List Vs) (hs:List Int) (i:Nat) (v:Vs) (h:Int),vs[i]? = some v→hs[i]? = some h→cT (vs.take (i+1)) (hs.take (i+1))=cT (vs.take i) (hs.take i)++vGoes v h
 | [],_,i,_,_,h,_=>by simp at h
 | _::_,[],i,_,_,_,h=>by simp at h
 | a::vs,b::hs,0,v,h,h1,h2=>by simp at h1 h2;subst h1 h2;simp [cT]
 | a::vs,b::hs,i+1,v,h,h1,h2=>by
  simp only [List.take_succ_cons,cT,List.append_assoc]
  rw[goesL_snoc vs hs i v h (by simpa using h1) (by simpa using h2)]
theorem staysL_snoc:∀ (vs:List Vs) (hs:List Int) (i:Nat) (v:Vs) (h:Int),vs[i]? = some v→hs[i]? = some h→dR (vs.take (i+1)) (hs.take (i+1))=dR (vs.take i) (hs.take i)++[vStay v h]
 | [],_,i,_,_,h,_=>by simp at h
 | _::_,[],i,_,_,_,h=>by simp at h
 | a::vs,b::hs,0,v,h,h1,h2=>by simp at h1 h2;subst h1 h2;simp [dR]
 | a::vs,b::hs,i+1,v,h,h1,h2=>by
  simp only [List.take_succ_cons,dR,List.cons_append]
  rw[staysL_snoc vs hs i v h (by simpa using h1) (by simpa using h2)]
theorem tipsL_snoc:∀ (vs:List Vs) (hs:List Int) (i j:Nat) (v:Vs) (h:Int),vs[i]? = some v→hs[i]? = some h→bQ j (vs.take (i+1)) (hs.take (i+1))=bQ j (vs.take i) (hs.take i)++(if vTips v h=true then [j+i] else [])
 | [],_,i,_,_,_,h,_=>by simp at h
 | _::_,[],i,_,_,_,_,h=>by simp at h
 | a::vs,b::hs,0,j,v,h,h1,h2=>by
  simp at h1 h2;subst h1 h2
  simp only [List.take_succ_cons,List.take_zero,bQ,Nat.add_zero,List.nil_append]
 | a::vs,b::hs,i+1,j,v,h,h1,h2=>by
  simp only [List.take_succ_cons,bQ]
  rw[tipsL_snoc vs hs i (j+1) v h (by simpa using h1) (by simpa using h2)]
  have e:j+1+i=j+(i+1):=by omega
  rw[e]
  split <;> simp
theorem tipsL_lt:∀ (vs:List Vs) (hs:List Int) (j k:Nat),k∈bQ j vs hs→j≤k∧k < j+vs.length
 | [],_,_,k,h=>by simp [bQ] at h
 | _::_,[],_,k,h=>by simp [bQ] at h
 | a::vs,b::hs,j,k,h=>by
  simp only [bQ] at h
  have ih:=tipsL_lt vs hs (j+1) k
  simp only [List.length_cons]
  split at h
  ·rcases List.mem_cons.mp h with rfl | h
   ·omega
   ·have:=ih h;omega
  ·have:=ih h;omega
theorem tipsL_len:∀ (vs:List Vs) (hs:List Int) (j:Nat),(bQ j vs hs).length≤vs.length
 | [],_,_=>by simp [bQ]
 | _::_,[],_=>by simp [bQ]
 | a::vs,b::hs,j=>by
  simp only [bQ,List.length_cons]
  have:=tipsL_len vs hs (j+1)
  split
  ·rw[List.length_cons];omega
  ·omega
theorem goesL_len {n m:Nat}:∀ (vs:List Vs) (hs:List Int),(∀ v∈vs,VOk n m v)→(cT vs hs).length≤5 * vs.length
 | [],_,_=>by simp [cT]
 | _::_,[],_=>by simp [cT]
 | a::vs,b::hs,h=>by
  simp only [cT,List.length_append,List.length_cons]
  have h1:=vGoes_len (h a List.mem_cons_self) b
  have h2:=goesL_len vs hs fun v hv=>h v (List.mem_cons_of_mem _ hv)
  omega
section
variable {P:Program}{w:World}{K:PySem.W.Frag}{mg:Str→Option Value}{base:Heap}
theorem sps_at {H:Hp}{sps:List Spt}{xs:List V}{i:Nat}{x:V} (l:IsL K H (sps.map spD) xs) (h:xs[i]? = some x) :
  ∃ s,sps[i]? = some s∧∃ a,x=.ref a∧bT K H a [.int s.1,.int s.2.1,.bl s.2.2]:=by
 obtain⟨d,hd,hx⟩:=l.get' h
 rw[List.getElem?_map] at hd
 cases e:sps[i]? with
 | none=>rw[e] at hd;cases hd
 | some o=>
  rw[e] at hd
  cases hd
  refine⟨o,rfl,?_⟩
  obtain⟨a,ys,rfl,q,l⟩:=(show Is K H (.tup [.int o.1,.int o.2.1,.bl o.2.2]) x from hx).un
  obtain⟨y,r,rfl,hy,l⟩:=l.un
  obtain⟨z,r,rfl,hz,l⟩:=l.un
  obtain⟨z2,r,rfl,hz2,l⟩:=l.un
  have:=l.un0
  subst this
  rw[hy.ui,hz.ui,hz2.ub] at q
  exact⟨a,rfl,q⟩
theorem st_un {H:Hp}{held coming:List Int}{doors:List Bool}{y:V} (h:Is K H (stD held coming doors) y):∃ (a b c d:Addr),y=.ref a∧bT K H a [.ref b,.ref c,.ref d]∧bT K H b (held.map V.int)∧bT K H c (coming.map V.int)∧bT K H d (doors.map V.bl):=by
 obtain⟨a,xs,rfl,q,l⟩:=(show Is K H (.tup [.tup (held.map D.int),.tup (coming.map D.int),.tup (doors.map D.bl)]) y from h).un
 obtain⟨x1,r,rfl,h1,l⟩:=l.un
 obtain⟨x2,r,rfl,h2,l⟩:=l.un
 obtain⟨x3,r,rfl,h3,l⟩:=l.un
 have:=l.un0
 subst this
 obtain⟨b,ys,rfl,q1,l1⟩:=h1.un
 obtain⟨c,zs,rfl,q2,l2⟩:=h2.un
 obtain⟨d,us,rfl,q3,l3⟩:=h3.un
 rw[l1.ints] at q1
 rw[l2.ints] at q2
 rw[l3.bools] at q3
 exact⟨a,b,c,d,rfl,q,q1,q2,q3⟩
theorem st_of {H:Hp}{held coming:List Int}{doors:List Bool}{a b c d:Addr} (q:bT K H a [.ref b,.ref c,.ref d]) (q1:bT K H b (held.map V.int)) (q2:bT K H c (coming.map V.int)) (q3:bT K H d (doors.map V.bl)):Is K H (stD held coming doors) (.ref a):=
 Is.tupOf q (.cons (Is.tupOf q1 (IsL.of_ints _)) (.cons (Is.tupOf q2 (IsL.of_ints _)) (.cons (Is.tupOf q3 (IsL.of_bools _)) .nil)))
noncomputable def spFilled (K:PySem.W.Frag):Sp:=fun args H Q _=>∃ (x y:V) (z:Addr) (sps:List Spt) (held coming poured:List Int) (doors:List Bool) (n:Nat),args=[x,y,.ref z]∧Is K H (.tup (sps.map spD)) x∧Is K H (stD held coming doors) y∧bT K H z (poured.map V.int)∧
 held.length=n∧coming.length=n∧poured.length=n∧doors.length=sps.length∧n≤12∧(∀ s∈sps,0≤s.1∧s.1 < n)∧
 ∀ p H',aK H H'→H p=none→H' p=some (.lst ((eB (add3 held coming poured) sps doors).map V.int))→Q (.ref p) H'
theorem sc_filled:FnScope ["spouts","state","poured","held","coming","doors","has","target","flow","first_door","door"] ["spouts","state","poured"] (aL (top 10)):=⟨rfl,rfl,rfl,by decide +kernel,rfl,by decide +kernel,by decide +kernel⟩
theorem ok_filled {f:Addr}{fd:FuncData} (F:Fun K "filled" "filled" (top 10) f fd) (T:Txt mg):FnOk P w K mg base CX0 1 f fd ["spouts","state","poured"] (spFilled K):=by
 refine F.ok sc_filled (fun vs H Q E h=>?_) (fun cdv A outer s H vs Q E hr h=>?_)
 ·obtain⟨x,y,z,sps,held,coming,poured,doors,n,rfl,_⟩:=h;rfl
 ·obtain⟨x,y,z,sps,held,coming,poured,doors,n,rfl,hx,hy,qz,l1,l2,l3,l4,hn,hsp,k⟩:=h
  have sc:=sc_filled
  refine⟨_,(aF (cB (pv 1) (bF (K:=K) (n:=3) rfl rfl (aH (aJ (i:=3) sc.nd rfl (Or.inl rfl)) (aH (aJ (i:=4) sc.nd rfl (Or.inl rfl)) (aH (aJ (i:=5) sc.nd rfl (Or.inl rfl)) bD)))))
   (aF (ps_set_lc (i:=6) sc.nd rfl rfl (fun _ _ h=>h) rfl (LcOk.mk (N':=["amounts"]) (fr:=[none]) rfl trivial rfl rfl rfl rfl rfl trivial) (pi_zip3K (K:=K) rfl rfl T.b_zip (aA (pv 3) (aA (pv 4) (aA (pv 2) aE)))) (fun _ _ _=>(aJ (i:=0) (show (["amounts"]:List Str).Nodup by decide +kernel) rfl (Or.inl rfl) (Or.inr rfl))) (fun _ _ _=>cP) (fun _ _ _=>(aS (dX (K:=K) rfl rfl) rfl T.b_sum PyProof.Rows.boot_sum (aA (pv 0) aE))))
   (aF (dB PassesOwn.never rfl (pi_zip2K (K:=K) rfl rfl T.b_zip (aA (pv 0) (aA (pv 5) aE))) (bF (K:=K) (n:=2) rfl rfl (aH (bF (K:=K) (n:=3) rfl rfl (aH (aJ (i:=7) sc.nd rfl (Or.inl rfl)) (aH (aJ (i:=8) sc.nd rfl (Or.inl rfl)) (aH (aJ (i:=9) sc.nd rfl (Or.inl rfl)) bD)))) (aH (aJ (i:=10) sc.nd rfl (Or.inl rfl)) bD))) (aO (cF (cU (pv 10)) (aO (ps_augS (pv 6) (pv 7) (get_listK (K:=K) rfl) (pv 8) ip_add eV)) bH)))
   (aO (aX (pv 6)))))),?_⟩
  obtain⟨ax,xs,rfl,qx,lx⟩:=hx.un
  obtain⟨ay,a1,a2,a3,rfl,qy,q1,q2,q3⟩:=st_un hy
  have exl:xs.length=sps.length:=by rw[lx.length,List.length_map]
  refine⟨_,rfl,ay,_,rfl,qy,rfl,_,_,rfl,_,_,rfl,_,_,rfl,rfl,?_⟩
  have la:=add3_len l1 l2 l3
  refine⟨_,rfl,_,rfl,_,rfl,true,true,true,a1,a2,z,rfl,⟨_,q1⟩,⟨_,q2⟩,⟨_,qz⟩,lc_zip3 (K:=K) (xs:=held.map V.int) (ys:=coming.map V.int) (zs:=poured.map V.int) (n:=n) (by simpa using l1) (by simpa using l2) (by simpa using l3)
   (fun D i r σ' H'=>H D=none∧aK H H'∧H' D=some (.lst r)∧r=((add3 held coming poured).take i).map V.int∧∃ v,σ'=[v])
   (fun D i r σ' H' p=>⟨p.2.1.tup q1,p.2.1.tup q2,p.2.1.tup qz⟩) (fun D hD=>⟨hD,aK.new hD,aD,by simp,none,rfl⟩) ?_ ?_⟩
  rotate_left
  ·rintro D i x0 y0 z0 r σ' H' Tt hx0 hy0 hz0 ⟨hD,sm,hDl,rfl,v,rfl⟩ hT
   rw[List.getElem?_map] at hx0 hy0 hz0
   obtain⟨x,hx,rfl⟩:=Option.map_eq_some_iff.mp hx0
   obtain⟨y,hy,rfl⟩:=Option.map_eq_some_iff.mp hy0
   obtain⟨z',hz,rfl⟩:=Option.map_eq_some_iff.mp hz0
   have hi:=add3_get hx hy hz
   have hil:=(List.getElem?_eq_some_iff.mp hi).1
   have nT:D≠Tt:=aQ hDl hT
   refine cS ?_
   refine⟨_,rfl,true,Tt,[x,y,z'],rfl,bT.of aD,by rw[aP nT];exact hDl,aZ (by simp;omega),hD,?_,aD,?_,_,rfl⟩
   ·intro b o e
    rw[aP (aQ e hD)]
    exact aK.new hT b o (sm b o e)
   ·rw[bA hi,List.map_append]
    have:[x,y,z'].sum=x+y+z':=by simp;omega
    rw[this];rfl
  ·rintro D r σ' H1 ⟨hD,sm,hDl,rfl,_⟩
   rw[← la,List.take_length] at hDl
   refine⟨_,rfl,_,rfl,true,true,ax,a3,rfl,⟨_,sm.tup qx⟩,⟨_,sm.tup q3⟩,for_zip2 (K:=K) (xs:=xs) (ys:=doors.map V.bl) (n:=sps.length) exl (by rw[List.length_map,l4])
    (fun i σ' H'=>aK H H'∧H' D=some (.lst ((eB (add3 held coming poured) (sps.take i) (doors.take i)).map V.int))∧
     ∃ v7 v8 v9 v10,σ'=[some (.ref ax),some (.ref ay),some (.ref z),some (.ref a1),some (.ref a2),some (.ref a3),some (.ref D),v7,v8,v9,v10])
    (fun i σ' H' p=>⟨p.1.tup qx,p.1.tup q3⟩) ⟨sm,by cases sps <;> exact hDl,none,none,none,none,rfl⟩ ?_ ?_⟩
   ·rintro σ' H2 ⟨sm2,h2,v7,v8,v9,v10,rfl⟩
    rw[← l4,List.take_length] at h2
    rw[l4,List.take_length] at h2
    refine⟨_,rfl,?_⟩
    exact k D H2 sm2 hD h2
   ·rintro i x y σ' H2 Tt hx hy ⟨sm2,h2,v7,v8,v9,v10,rfl⟩ hT
    obtain⟨sp,hsi,sa,rfl,qs⟩:=sps_at lx hx
    rw[List.getElem?_map] at hy
    obtain⟨dr,hdi,rfl⟩:=Option.map_eq_some_iff.mp hy
    have nT:D≠Tt:=aQ h2 hT
    have sm3:aK H (upd H2 Tt (.tup [.ref sa,.bl dr])):=fun b o e=>aK.new hT b o (sm2 b o e)
    have h3:upd H2 Tt (.tup [.ref sa,.bl dr]) D=some (.lst ((eB (add3 held coming poured) (sps.take i) (doors.take i)).map V.int)):=by rw[aP nT];exact h2
    refine⟨Tt,_,rfl,bT.of aD,rfl,_,_,rfl,⟨sa,_,rfl,sm3.tup qs,rfl,_,_,rfl,_,_,rfl,_,_,rfl,rfl,_,_,rfl,rfl,?_⟩⟩
    refine⟨_,rfl,_,rfl,?_⟩
    have snoc:=fillL_snoc sps doors i (add3 held coming poured) sp dr hsi hdi
    cases dr with
    | false=>
     refine dU ?_
     refine⟨sm3,?_,_,_,_,_,rfl⟩
     rw[snoc];exact h3
    | true=>
     refine eT ?_
     have hs:=hsp sp (List.mem_of_getElem? hsi)
     have hlen:(eB (add3 held coming poured) (sps.take i) (doors.take i)).length=n:=by rw[fillL_len,la]
     have hlt:sp.1.toNat < (eB (add3 held coming poured) (sps.take i) (doors.take i)).length:=by rw[hlen];omega
     have hg:((eB (add3 held coming poured) (sps.take i) (doors.take i)).map V.int)[sp.1.toNat]? = some (.int ((eB (add3 held coming poured) (sps.take i) (doors.take i)).getD sp.1.toNat 0)):=by
      rw[List.getElem?_map,List.getD_eq_getElem?_getD];simp [hlt]
     refine⟨_,rfl,_,rfl,D,_,sp.1,_,rfl,rfl,bM.of h3,hs.1,by omega,hg,_,rfl,_,_,rfl,rfl,D,_,sp.1,sp.1.toNat,rfl,rfl,h3,ixN_nat hs.1 (by rw[List.length_map,hlen];omega),?_⟩
     refine⟨sm3.put hD,?_,_,_,_,_,rfl⟩
     rw[aD,snoc,fill1,if_pos rfl,List.map_set]
end
end Tw
namespace Tw
open PySem L2
theorem staysL_len:∀ (vs:List Vs) (hs:List Int),vs.length=hs.length→(dR vs hs).length=vs.length
 | [],_,_=>by simp [dR]
 | _::_,[],h=>by simp at h
 | a::vs,b::hs,h=>by simp only [dR,List.length_cons];rw[staysL_len vs hs (by simpa using h)]
section
variable {P:Program}{w:World}{K:PySem.W.Frag}{mg:Str→Option Value}{base:Heap}
theorem net_un {H:Hp}{net:Net}{x:V} (h:Is K H (netD net) x):∃ (a b c:Addr) (xs ys:List V),x=.ref a∧bT K H a [.ref b,.ref c]∧bT K H b xs∧IsL K H (net.vs.map vsD) xs∧bT K H c ys∧IsL K H (net.sps.map spD) ys:=by
 obtain⟨a,zs,rfl,q,l⟩:=(show Is K H (.tup [.tup (net.vs.map vsD),.tup (net.sps.map spD)]) x from h).un
 obtain⟨x1,r,rfl,h1,l⟩:=l.un
 obtain⟨x2,r,rfl,h2,l⟩:=l.un
 have:=l.un0
 subst this
 obtain⟨b,xs,rfl,q1,l1⟩:=h1.un
 obtain⟨c,ys,rfl,q2,l2⟩:=h2.un
 exact⟨a,b,c,xs,ys,rfl,q,q1,l1,q2,l2⟩
structure StOk (net:Net) (held coming:List Int) (doors:List Bool):Prop where
 h:held.length=net.vs.length
 c:coming.length=net.vs.length
 d:doors.length=net.sps.length
noncomputable def spTick (K:PySem.W.Frag):Sp:=fun args H Q _=>∃ (x y:V) (z:Addr) (net:Net) (held coming poured:List Int) (doors:List Bool),args=[x,y,.ref z]∧Is K H (netD net) x∧Is K H (stD held coming doors) y∧bT K H z (poured.map V.int)∧
 NetOk net∧StOk net held coming doors∧poured.length=net.vs.length∧∀ (p:Addr) (ys:List V) H',aK H H'→H' p=some (.tup ys)→Is K H' (tickD (tickOf net held coming poured doors)) (.ref p)→Q (.ref p) H'
theorem sc_tick_behind:FnScope ["net","state","poured","vessels","spouts","held","tipped","sent","number","has","left","tips","coming","doors"] ["net","state","poured"] (aL (top 8)):=⟨rfl,rfl,rfl,by decide +kernel,rfl,by decide +kernel,by decide +kernel⟩
theorem ok_tick_behind {f fF fS fD:Addr}{fd fdF fdS fdD:FuncData} (F:Fun K "tick_behind" "tick_behind" (top 8) f fd) (T:Txt mg) (G_filled:Callee P w K mg base "filled" ["spouts","state","poured"] 1 (spFilled K) fF fdF)
  (G_settle:Callee P w K mg base "settle" ["vessel","has","sent"] 3 (spSettle K) fS fdS) (G_doors_behind:Callee P w K mg base "doors_behind" ["vessels","doors","tipped"] 1 (spDoors K) fD fdD):FnOk P w K mg base CX0 4 f fd ["net","state","poured"] (spTick K):=by
 refine F.ok sc_tick_behind (fun vs H Q E h=>?_) (fun cdv A outer s H vs Q E hr h=>?_)
 ·obtain⟨x,y,z,net,held,coming,poured,doors,rfl,_⟩:=h;rfl
 ·obtain⟨x,y,z,net,held,coming,poured,doors,rfl,hx,hy,qz,nok,sok,lp,k⟩:=h
  have sc:=sc_tick_behind
  have hu:=hu_of hr
  refine⟨_,(aF (cB (pv 0) (bF (K:=K) (n:=2) rfl rfl (aH (aJ (i:=3) sc.nd rfl (Or.inl rfl)) (aH (aJ (i:=4) sc.nd rfl (Or.inl rfl)) bD))))
   (aF (cB (bV (aA (bY aE) (aA (bY aE) (aA pe_dnewK aE)))) (bF (K:=K) (n:=3) rfl rfl (aH (aJ (i:=5) sc.nd rfl (Or.inl rfl)) (aH (aJ (i:=6) sc.nd rfl (Or.inl rfl)) (aH (aJ (i:=7) sc.nd rfl (Or.inr rfl)) bD)))))
   (aF (dB PassesOwn.never rfl (pi_enumK (K:=K) rfl rfl T.b_enumerate (aA (cQ G_filled hr (aA (pv 4) (aA (pv 1) (aA (pv 2) aE)))) aE)) (bF (K:=K) (n:=2) rfl rfl (aH (aJ (i:=8) sc.nd rfl (Or.inl rfl)) (aH (aJ (i:=9) sc.nd rfl (Or.inl rfl)) bD))) (aF (cB (cQ G_settle hr (aA (aR (aM (K:=K) rfl) (pv 3) (pv 8) (fun _ _=>rfl)) (aA (pv 9) (aA (pv 7) aE)))) (bF (K:=K) (n:=2) rfl rfl (aH (aJ (i:=10) sc.nd rfl (Or.inl rfl)) (aH (aJ (i:=11) sc.nd rfl (Or.inl rfl)) bD))))
   (aF (bZ (dY (K:=K) rfl PySem.F.plainAttrs_list PySem.F.slot_list_append PySem.F.type_list_append cD (pv 5) (aA (pv 10) aE)))
   (aO (cF (cU (pv 11)) (aO (bZ (dY (K:=K) rfl PySem.F.plainAttrs_list PySem.F.slot_list_append PySem.F.type_list_append cD (pv 6) (aA (pv 8) aE)))) bH)))))
   (aF (ps_set_lc (i:=12) sc.nd rfl rfl (fun _ _ h=>h) rfl (LcOk.mk (N':=["number","sent"]) (fr:=[none,some 7]) rfl ⟨rfl,trivial⟩ rfl rfl rfl rfl rfl ⟨⟨_,rfl,rfl,rfl,rfl⟩,trivial⟩) (cG rfl T.b_range (aA (aS (bK (K:=K) rfl) rfl T.b_len PySem.boot_len (aA (pv 3) aE)) aE)) (fun _ _ _=>(aJ (i:=0) (show (["number","sent"]:List Str).Nodup by decide +kernel) rfl (Or.inl rfl) (Or.inr rfl))) (fun _ _ _=>cP) (fun _ _ _=>(pe_dget2 hu (pv 1) (pv 0) aG ⟨rfl,rfl,rfl,rfl⟩)))
   (aF (bE (i:=13) sc.nd rfl (Or.inl rfl) (cQ G_doors_behind hr (aA (pv 3) (aA (aR (aM (K:=K) rfl) (pv 1) aG (fun _ _=>rfl)) (aA (pv 6) aE)))))
   (aO (aX (bV (aA (bV (aA (bG (cH (K:=K) rfl) rfl T.b_tuple cJ (aA (pv 5) aE)) (aA (bG (cH (K:=K) rfl) rfl T.b_tuple cJ (aA (pv 12) aE)) (aA (pv 13) aE)))) (aA (bG (cH (K:=K) rfl) rfl T.b_tuple cJ (aA (pv 6) aE)) (aA (pe_dget2 hu (pv 7) eO aG ⟨rfl,rfl,rfl,rfl⟩) aE))))))))))),?_⟩
  obtain⟨ax,av,as,xs,ys,rfl,qx,qv,lv,qs,ls⟩:=net_un hx
  obtain⟨ay,b1,b2,b3,rfl,qy,q1,q2,q3⟩:=st_un hy
  have exl:xs.length=net.vs.length:=by rw[lv.length,List.length_map]
  refine⟨_,rfl,ax,_,rfl,qx,rfl,_,_,rfl,_,_,rfl,rfl,?_⟩
  refine⟨Nat.zero_le _,fun hl hhl=>⟨Nat.zero_le _,fun tl htl=>fun sd hsd=>⟨(show 3≤sizeLine by decide),fun tp htp=>⟨tp,_,rfl,bT.of aD,rfl,_,_,rfl,_,_,rfl,_,_,rfl,rfl,?_⟩⟩⟩⟩
  have n1:hl≠tl:=aQ (show upd H hl (.lst []) hl=_ from aD) htl
  have fh:H hl=none:=hhl
  have ft:H tl=none:=aK.free (aK.new hhl) htl
  have fs:H sd=none:=aK.free ((aK.new hhl).trans (aK.new htl)) hsd
  have n2:hl≠sd:=aQ (by rw[aP n1];exact aD) hsd
  have n3:tl≠sd:=aQ (show upd (upd H hl (.lst [])) tl (.lst []) tl=_ from aD) hsd
  have sm0:aK H (upd (upd (upd (upd H hl (.lst [])) tl (.lst [])) sd (.dK [])) tp (.tup [.ref hl,.ref tl,.ref sd])):=(((aK.new hhl).trans (aK.new htl)).trans (aK.new hsd)).trans (aK.new htp)
  have g1:upd (upd (upd (upd H hl (.lst [])) tl (.lst [])) sd (.dK [])) tp (.tup [.ref hl,.ref tl,.ref sd]) hl=some (.lst []):=aK.new htp _ _ (by rw[aP n2,aP n1];exact aD)
  have g2:upd (upd (upd (upd H hl (.lst [])) tl (.lst [])) sd (.dK [])) tp (.tup [.ref hl,.ref tl,.ref sd]) tl=some (.lst []):=aK.new htp _ _ (by rw[aP n3];exact aD)
  have g3:upd (upd (upd (upd H hl (.lst [])) tl (.lst [])) sd (.dK [])) tp (.tup [.ref hl,.ref tl,.ref sd]) sd=some (.dK []):=aK.new htp _ _ aD
  generalize upd (upd (upd (upd H hl (.lst [])) tl (.lst [])) sd (.dK [])) tp (.tup [.ref hl,.ref tl,.ref sd])=H0 at sm0 g1 g2 g3 ⊢
  refine⟨_,rfl,_,rfl,_,rfl,.ref as,.ref ay,z,net.sps,held,coming,poured,doors,net.vs.length,rfl,Is.tupOf (sm0.tup qs) (IsL.mono sm0.ts _ _ ls),Is.mono sm0.ts _ _ hy,sm0.tup qz,sok.h,sok.c,lp,sok.d,nok.hi,nok.sps,fun ha H1 sm1 fha hha=>?_⟩
  have hsl:(aU net held coming poured doors).length=net.vs.length:=by
   unfold aU;rw[fillL_len,add3_len sok.h sok.c lp]
  have g1':=sm1 _ _ g1
  have g2':=sm1 _ _ g2
  have g3':=sm1 _ _ g3
  have na1:hl≠ha:=aQ g1 fha
  have na2:tl≠ha:=aQ g2 fha
  have na3:sd≠ha:=aQ g3 fha
  have fa:H ha=none:=sm0.free fha
  refine⟨false,ha,rfl,⟨_,bM.of hha⟩,for_enum (K:=K) (t:=false) (a:=ha) (xs:=(aU net held coming poured doors).map V.int)
   (fun i σ' H'=>aK H H'∧H' ha=some (.lst ((aU net held coming poured doors).map V.int))∧H' hl=some (.lst ((dR (net.vs.take i) ((aU net held coming poured doors).take i)).map V.int))∧
    H' tl=some (.lst ((bQ 0 (net.vs.take i) ((aU net held coming poured doors).take i)).map fun (j:Nat)=>V.int (j:Int)))∧DictG H' sd (cT (net.vs.take i) ((aU net held coming poured doors).take i))∧
    ∃ v8 v9 v10 v11,σ'=[some (.ref ax),some (.ref ay),some (.ref z),some (.ref av),some (.ref as),some (.ref hl),some (.ref tl),some (.ref sd),v8,v9,v10,v11,none,none])
   (fun i σ' H' p=>bM.of p.2.1) ⟨sm0.trans sm1,hha,by simpa [dR] using g1',by simpa [bQ] using g2',⟨[],g3',by simp,fun k=>rfl⟩,none,none,none,none,rfl⟩ ?_ ?_⟩
  rotate_left
  ·rintro i x0 σ' H2 Tt hx0 ⟨sm2,p1,p2,p3,p4,v8,v9,v10,v11,rfl⟩ hT
   rw[List.getElem?_map] at hx0
   obtain⟨hi,hhi,rfl⟩:=Option.map_eq_some_iff.mp hx0
   have hil:i < net.vs.length:=by rw[← hsl];exact (List.getElem?_eq_some_iff.mp hhi).1
   have hv:net.vs[i]? = some net.vs[i]:=by simp [hil]
   have vok:=nok.vs _ (List.getElem_mem hil)
   obtain⟨xv,hxv,ixv⟩:=lv.get (i:=i) (d:=vsD net.vs[i]) (by rw[List.getElem?_map,hv];rfl)
   have smT:=aK.new (o:=HO.tup [.int (i:Int),.int hi]) hT
   refine⟨Tt,_,rfl,bT.of aD,rfl,_,_,rfl,_,_,rfl,rfl,?_⟩
   have sm3:aK H (upd H2 Tt (.tup [.int (i:Int),.int hi])):=sm2.trans smT
   obtain⟨kvs,d1,d2,d3⟩:=p4
   have hgl:=goesL_len (net.vs.take i) ((aU net held coming poured doors).take i) fun v hv'=>nok.vs v (List.mem_of_mem_take hv')
   have htk:(net.vs.take i).length≤12:=by rw[List.length_take];have:=nok.hi;omega
   refine⟨_,rfl,_,rfl,.inr (.inl ⟨av,xs,i,_,rfl,rfl,sm3.tup qv,d5 hxv,_,rfl,_,rfl,xv,sd,hi,net.vs[i],_,_,_,rfl,Is.mono sm3.ts _ _ ixv,⟨kvs,smT _ _ d1,d2,d3⟩,by omega,vok,fun p H3 bt dg qp=>?_⟩)⟩
   refine⟨p,_,rfl,qp,rfl,_,_,rfl,_,_,rfl,rfl,?_⟩
   have e1:=bt hl _ n2 (smT _ _ p2)
   have e2:=bt tl _ n3 (smT _ _ p3)
   have e3:=bt ha _ (Ne.symm na3) (smT _ _ p1)
   have sm4:aK H H3:=fun b o e=>bt b o (aQ e fs) (sm3 b o e)
   have stl:(dR (net.vs.take i) ((aU net held coming poured doors).take i)).length≤12:=by
    rw[staysL_len _ _ (by rw[List.length_take,List.length_take,hsl])];exact htk
   have tpl:=tipsL_len (net.vs.take i) ((aU net held coming poured doors).take i) 0
   refine⟨_,rfl,.inl ⟨rfl,_,bM.of e1⟩,_,rfl,hl,_,_,rfl,rfl,e1,aZ (by simp;omega),?_⟩
   have f1:upd H3 hl (.lst ((dR (net.vs.take i) ((aU net held coming poured doors).take i)).map V.int++[.int (vStay net.vs[i] hi)])) tl=some (.lst ((bQ 0 (net.vs.take i) ((aU net held coming poured doors).take i)).map fun (j:Nat)=>V.int (j:Int))):=by rw[aP (Ne.symm n1)];exact e2
   have s1:=staysL_snoc net.vs (aU net held coming poured doors) i _ _ hv hhi
   have s2:=tipsL_snoc net.vs (aU net held coming poured doors) i 0 _ _ hv hhi
   have s3:=goesL_snoc net.vs (aU net held coming poured doors) i _ _ hv hhi
   have dgo:∀ {Hx:Hp},Hx sd=H3 sd→DictG Hx sd (cT (net.vs.take (i+1)) ((aU net held coming poured doors).take (i+1))):=fun {Hx} e=>by
    obtain⟨kv,a1,a2,a3⟩:=dg
    rw[s3]
    exact⟨kv,e.trans a1,a2,a3⟩
   refine⟨_,rfl,_,rfl,?_⟩
   cases ht:vTips net.vs[i] hi with
   | false=>
    refine dU ?_
    rw[ht] at s2
    refine⟨sm4.put fh,by rw[aP (Ne.symm na1)];exact e3,by rw[aD,s1,List.map_append];rfl,by rw[s2];simpa using f1,dgo (by rw[aP (Ne.symm n2)]),_,_,_,_,rfl⟩
   | true=>
    refine eT ?_
    rw[ht] at s2
    refine⟨_,rfl,.inl ⟨rfl,_,bM.of f1⟩,_,rfl,tl,_,_,rfl,rfl,f1,aZ (by simp;omega),?_⟩
    refine⟨(sm4.put fh).put ft,by rw[aP (Ne.symm na2),aP (Ne.symm na1)];exact e3,by rw[aP n1,aD,s1,List.map_append];rfl,?_,dgo (by rw[aP (Ne.symm n3),aP (Ne.symm n2)]),_,_,_,_,rfl⟩
    rw[aD,s2]
    simp
  ·rintro σ' H2 ⟨sm2,p1,p2,p3,p4,v8,v9,v10,v11,rfl⟩
   rw[List.length_map,hsl] at p2 p3 p4
   have ek:net.vs.take net.vs.length=net.vs:=List.take_length
   have ek2:(aU net held coming poured doors).take net.vs.length=aU net held coming poured doors:=by rw[← hsl,List.take_length]
   rw[ek,ek2] at p2 p3 p4
   obtain⟨kvs,d1,d2,d3⟩:=p4
   refine⟨_,rfl,av,xs,rfl,.inr (sm2.tup qv),_,rfl,by omega,by have:=nok.hi;omega,?_⟩
   have hn:((xs.length:Nat):Int).toNat=net.vs.length:=by rw[exl];simp
   rw[hn]
   refine lc_range (n:=net.vs.length) (fun D i r σ' H'=>H2 D=none∧aK H2 H'∧H' D=some (.lst r)∧r=((eI net.vs.length (cT net.vs (aU net held coming poured doors))).take i).map V.int∧∃ v,σ'=[v,some (.ref sd)])
    (fun D hD=>⟨hD,aK.new hD,aD,by simp,none,rfl⟩) ?_ ?_
   rotate_left
   ·rintro D i r σ' H' hi ⟨hD,sm,hDl,rfl,v,rfl⟩
    refine cS ?_
    have hg:=DGet.k (k:=keyO (some (i:Int))) (sm _ _ d1)
    refine⟨_,rfl,sd,rfl,.inl ⟨kvs,.inl (sm _ _ d1)⟩,_,rfl,_,hg,hDl,aZ (by simp [eI];have:=nok.hi;omega),hD,sm.put hD,aD,?_,_,rfl⟩
    have e:(eI net.vs.length (cT net.vs (aU net held coming poured doors)))[i]? = some (dF (some (i:Int)) (cT net.vs (aU net held coming poured doors))):=by
     unfold eI;simp [hi]
    rw[bA e,List.map_append]
    show _++[(valV kvs (keyO (some (i:Int)))).getD (.int 0)]=_
    rw[d3];rfl
   ·rintro D r σ' H3 ⟨hD,sm,hDl,rfl,_⟩
    have ll:(eI net.vs.length (cT net.vs (aU net held coming poured doors))).length=net.vs.length:=by unfold eI;simp
    rw[List.take_of_length_le (Nat.le_of_eq ll)] at hDl
    have sm3:aK H H3:=sm2.trans sm
    refine⟨_,rfl,_,rfl,.inr (.inl ⟨ay,_,2,_,rfl,rfl,sm3.tup qy,rfl,_,rfl,.ref av,.ref b3,tl,net.vs,doors,bQ 0 net.vs (aU net held coming poured doors),net.vs.length,rfl,Is.tupOf (sm3.tup qv) (IsL.mono sm3.ts _ _ lv),Is.tupOf (sm3.tup q3) (IsL.of_bools _),bM.of (sm _ _ p3),fun j hj=>by have:=tipsL_lt _ _ _ _ hj;omega,fun v hv=>by rw[sok.d];exact nok.vs v hv,by rw[sok.d];exact nok.sp,fun dp H4 sm4 hdp=>?_⟩)⟩
    obtain⟨da,dxs,rfl,qd,ld⟩:=hdp.un
    have c1:=sm4 _ _ (sm _ _ p2)
    have c2:=sm4 _ _ hDl
    have c3:=sm4 _ _ (sm _ _ p3)
    have c4:=sm4 _ _ (sm _ _ d1)
    refine⟨_,rfl,hl,_,rfl,.inl ⟨bM.of c1,fun t1 ht1=>?_⟩⟩
    have m1:=aK.new (o:=HO.tup ((dR net.vs (aU net held coming poured doors)).map V.int)) ht1
    refine⟨_,rfl,D,_,rfl,.inl ⟨bM.of (m1 _ _ c2),fun t2 ht2=>?_⟩⟩
    have m2:=aK.new (o:=HO.tup ((eI net.vs.length (cT net.vs (aU net held coming poured doors))).map V.int)) ht2
    refine⟨_,rfl,(show 3≤sizeLine by decide),fun t3 ht3=>?_⟩
    have m3:=aK.new (o:=HO.tup [.ref t1,.ref t2,.ref da]) ht3
    refine⟨_,rfl,tl,_,rfl,.inl ⟨bM.of (m3 _ _ (m2 _ _ (m1 _ _ c3))),fun t4 ht4=>?_⟩⟩
    have m4:=aK.new (o:=HO.tup ((bQ 0 net.vs (aU net held coming poured doors)).map fun (j:Nat)=>V.int (j:Int))) ht4
    have c4':=m4 _ _ (m3 _ _ (m2 _ _ (m1 _ _ c4)))
    have hg:=DGet.k (k:=keyO none) c4'
    refine⟨_,rfl,sd,rfl,.inl ⟨kvs,.inl c4'⟩,_,hg,(show 3≤sizeLine by decide),fun t5 ht5=>?_⟩
    have m5:aK _ _:=aK.new (o:=HO.tup [.ref t3,.ref t4,(valV kvs (keyO none)).getD (.int 0)]) ht5
    have eg:(valV kvs (keyO none)).getD (.int 0)=.int (dF none (cT net.vs (aU net held coming poured doors))):=d3 none
    refine k _ _ _ ((((((sm3.trans sm4).trans m1).trans m2).trans m3).trans m4).trans m5) aD ?_
    refine Is.tupOf (bT.of aD) (.cons ?_ (.cons ?_ (.cons ?_ .nil)))
    ·exact Is.mono m5.ts _ _ (Is.mono m4.ts _ _ (st_of (bT.of aD) (m3.tup (m2.tup (bT.of aD))) (m3.tup (bT.of aD)) (by
      have:=ld.bools;rw[this] at qd;exact m3.tup (m2.tup (m1.tup qd)))))
    ·refine Is.mono m5.ts _ _ (Is.tupOf (bT.of aD) ?_)
     show L2.IsL K _ ((bQ 0 net.vs (aU net held coming poured doors)).map fun (i:Nat)=>L2.D.int (i:Int)) _
     have e1:((bQ 0 net.vs (aU net held coming poured doors)).map fun (i:Nat)=>L2.D.int (i:Int))=((bQ 0 net.vs (aU net held coming poured doors)).map fun (i:Nat)=>(i:Int)).map L2.D.int:=by rw[List.map_map];rfl
     have e2:((bQ 0 net.vs (aU net held coming poured doors)).map fun (i:Nat)=>V.int (i:Int))=((bQ 0 net.vs (aU net held coming poured doors)).map fun (i:Nat)=>(i:Int)).map V.int:=by rw[List.map_map];rfl
     rw[e1,e2]
     exact L2.IsL.of_ints _
    ·rw[eg];exact Is.i _
end
end Tw
namespace Tw
open PySem L2
section
variable {P:Program}{w:World}{K:PySem.W.Frag}{mg:Str→Option Value}{base:Heap}
noncomputable def eU (H:Hp) (t sl:Addr):Prop:=∃ (ns:List Int) (pos cell:Int),H t=some (.lst [.ref sl,.int pos,.int cell])∧H sl=some (.lst (ns.map V.int))∧ns.length≤1000
theorem eU.mut {H:Hp}{t sl:Addr} (h:eU H t sl):Mut (H t):=by obtain⟨ns,pos,cell,e,_⟩:=h;rw[e];exact trivial
theorem eU.same {H H':Hp}{t sl:Addr} (h:eU H t sl) (s:aK H H'):eU H' t sl:=by
 obtain⟨ns,pos,cell,e,f,g⟩:=h;exact⟨ns,pos,cell,s _ _ e,s _ _ f,g⟩
noncomputable def spDraw:Sp:=fun vs H Q _=>∃ (t sl:Addr) (many:Int),vs=[.ref t,.int many]∧eU H t sl∧0 < many∧many < 1000000∧
 ∀ (r:Int) H',cY t H H'→eU H' t sl→0≤r→r < many→Q (.int r) H'
noncomputable def spDrawB:Sp:=fun vs H Q _=>∃ (t sl:Addr) (many:Int),vs=[.ref t,.int many]∧eU H t sl∧0 < many∧many < 2 ^ 200∧
 ∀ (r:Int) H',cY t H H'→eU H' t sl→0≤r→r < many→Q (.int r) H'
noncomputable abbrev rdTail (K:PySem.W.Frag):TS:=tSeq (tAsg (tOp (rI (fun _ j=>0 < j) fun i j=>.int (i % j)) (tOp (rIx K) (d6 0) (tC (.int 2))) (d6 1)) (eZ 4)) (tSeq (tAsg (tOp (rI CDivB fun i j=>.int (i / j)) (tOp (rIx K) (d6 0) (tC (.int 2))) (d6 1)) (gSub (d6 0) (tC (.int 2)) rSetL)) (tRet (d6 4)))
noncomputable abbrev rdMid (K:PySem.W.Frag):TS:=tSeq (tAsg (tOp (rI0 fun i j=>.int (i+j)) (tOp (rIx K) (d6 0) (tC (.int 1))) (tC (.int 1))) (gSub (d6 0) (tC (.int 1)) rSetL)) (tAsg (d6 3) (gSub (d6 0) (tC (.int 2)) rSetL))
noncomputable abbrev rdBody (K:PySem.W.Frag):TS:=tSeq (tAsg (tOp (rI (fun _ j=>0 < j) fun i j=>.int (i % j)) (tOp (rI0 fun i j=>.int (i+j)) (d6 3) (tOp (rI CMul fun i j=>.int (i * j)) (tC (.int 1000003)) (tOp (rIx K) (d6 0) (tC (.int 1))))) (d6 2)) (eZ 3)) (tSeq (tAsg (tOp (rI (fun _ j=>0 < j) fun i j=>.int (i % j)) (tOp (rI0 fun i j=>.int (i+j)) (tOp (rI0 fun i j=>.int (i+j)) (tOp (rI CMul fun i j=>.int (i * j)) (d6 3) (d6 3)) (tOp (rI CMul fun i j=>.int (i * j)) (tC (.int 1181783497276652981)) (d6 3))) (tC (.int 2049848353892358983))) (d6 2)) (eZ 3)) (tAsg (tOp (rI (fun _ j=>0 < j) fun i j=>.int (i % j)) (tOp (rI0 fun i j=>.int (i+j)) (tOp (rI CMul fun i j=>.int (i * j)) (d6 3) (d6 3)) (tC (.int 1442695040888963407))) (d6 2)) (eZ 3)))
noncomputable abbrev rdTest (K:PySem.W.Frag):TT:=tOr (tTest (tOp (rI0 fun i j=>.bl (decide (j≤i))) (tOp (rIx K) (d6 0) (tC (.int 1))) (tCB (rLen K) (dQ (tOp (rIx K) (d6 0) (tC (.int 0))) tNil)))) (tTest (tOp (rI0 fun i j=>.bl (decide (i < j))) (d6 3) (tOp (rI CPow fun i j=>.int (i ^ j.toNat)) (tC (.int 10)) (tC (.int 18)))))
noncomputable abbrev dE (Q:VK):Ends:={ nx:=fun _ H'=>Q .non H',rt:=Q }
theorem sc__law_draw:FnScope ["tape","many","prime","cell","found"] ["tape","many"] (aL (top 50)):=⟨rfl,rfl,rfl,by decide +kernel,rfl,by decide +kernel,by decide +kernel⟩
theorem ok__law_drawB {f:Addr}{fd:FuncData} (F:Fun K "_law_draw" "_law_draw" (top 50) f fd) (T:Txt mg):FnOk P w K mg base CX0 1 f fd ["tape","many"] spDrawB:=by
 refine F.ok sc__law_draw (fun vs H Q E h=>?_) (fun cdv A outer s H vs Q E hr h=>?_)
 ·obtain⟨t,sl,many,rfl,_⟩:=h;rfl
 ·obtain⟨t,sl,many,rfl,⟨ns,pos,cell,ht,hsl,hns⟩,hm0,hm1,k⟩:=h
  have sc:=sc__law_draw
  refine⟨_,(aF (bE (i:=2) sc.nd rfl (Or.inl rfl) aG)
   (aF (cF (bU op_lt (aR (aM (K:=K) rfl) (pv 0) aG (fun _ _=>rfl)) (pv 1) (bW _)) (aF (bE (i:=3) sc.nd rfl (Or.inl rfl) aG)
   (aF (cF (bU op_gt (aS (bK (K:=K) rfl) rfl T.b_len PySem.boot_len (aA (aR (aM (K:=K) rfl) (pv 0) aG (fun _ _=>rfl)) aE)) aG (bW _)) (aO (bE (i:=3) sc.nd rfl (Or.inl rfl) (aR (aM (K:=K) rfl) (aR (aM (K:=K) rfl) (pv 0) aG (fun _ _=>rfl)) (b0 op_mod (aR (aM (K:=K) rfl) (pv 0) aG (fun _ _=>rfl)) (aS (bK (K:=K) rfl) rfl T.b_len PySem.boot_len (aA (aR (aM (K:=K) rfl) (pv 0) aG (fun _ _=>rfl)) aE))) (fun _ _=>rfl)))) bH)
   (aF (cF (PW.pt (pw_or (bU op_ge (aR (aM (K:=K) rfl) (pv 0) aG (fun _ _=>rfl)) (aS (bK (K:=K) rfl) rfl T.b_len PySem.boot_len (aA (aR (aM (K:=K) rfl) (pv 0) aG (fun _ _=>rfl)) aE)) (bW _)) (pw_or1 (bU op_lt (pv 3) (b0 op_pow aG aG) (bW _))))) (aF (bE (i:=3) sc.nd rfl (Or.inl rfl) (b0 op_mod (b0 cO (pv 3) (b0 op_mul aG (aR (aM (K:=K) rfl) (pv 0) aG (fun _ _=>rfl)))) (pv 2)))
   (aF (bE (i:=3) sc.nd rfl (Or.inl rfl) (b0 op_mod (b0 cO (b0 cO (b0 op_mul (pv 3) (pv 3)) (b0 op_mul aG (pv 3))) aG) (pv 2)))
   (aO (bE (i:=3) sc.nd rfl (Or.inl rfl) (b0 op_mod (b0 cO (b0 op_mul (pv 3) (pv 3)) aG) (pv 2)))))) bH)
   (aF (cB (b0 cO (aR (aM (K:=K) rfl) (pv 0) aG (fun _ _=>rfl)) aG) (pg_sub (pv 0) aG eV))
   (aO (cB (pv 3) (pg_sub (pv 0) aG eV))))))) bH)
   (aF (bE (i:=4) sc.nd rfl (Or.inl rfl) (b0 op_mod (aR (aM (K:=K) rfl) (pv 0) aG (fun _ _=>rfl)) (pv 1)))
   (aF (cB (b0 op_fdivB (aR (aM (K:=K) rfl) (pv 0) aG (fun _ _=>rfl)) (pv 1)) (pg_sub (pv 0) aG eV))
   (aO (aX (pv 4))))))),?_⟩
  have nst:sl≠t:=ne_of hsl ht (by intro z;injection z with z;cases ns <;> simp at z)
  have ix:∀ {H1:Hp}{p' c':Int}{Q:VK},H1 t=some (.lst [.ref sl,.int p',.int c'])→Q (.ref sl) H1→rIx K (.ref t) (.int 0) H1 Q:=fun e q=>.inl ⟨t,_,0,_,rfl,rfl,bM.of e,rfl,q⟩
  have ix1:∀ {H1:Hp}{p' c':Int}{Q:VK},H1 t=some (.lst [.ref sl,.int p',.int c'])→Q (.int p') H1→rIx K (.ref t) (.int 1) H1 Q:=fun e q=>.inl ⟨t,_,1,_,rfl,rfl,bM.of e,rfl,q⟩
  have ix2:∀ {H1:Hp}{p' c':Int}{Q:VK},H1 t=some (.lst [.ref sl,.int p',.int c'])→Q (.int c') H1→rIx K (.ref t) (.int 2) H1 Q:=fun e q=>.inl ⟨t,_,2,_,rfl,rfl,bM.of e,rfl,q⟩
  have tail:∀ (v3:Option V) (H1:Hp) (p' c':Int),cY t H H1→H1 t=some (.lst [.ref sl,.int p',.int c'])→rdTail K (dE Q) [some (.ref t),some (.int many),some (.int 2305843009213693951),v3,none] H1:=by
   intro v3 H1 p' c' bt e
   refine⟨_,rfl,ix2 e ⟨_,rfl,_,_,rfl,rfl,hm0,?_⟩⟩
   refine⟨_,rfl,ix2 e ⟨_,rfl,_,_,rfl,rfl,⟨hm0,hm1⟩,_,rfl,t,_,2,2,rfl,rfl,e,rfl,_,rfl,?_⟩⟩
   refine k _ _ (bt.trans cY.upd) ⟨ns,p',c' / many,aD,?_,hns⟩ (Int.emod_nonneg _ (by omega)) (Int.emod_lt_of_pos _ hm0)
   rw[aP nst];exact bt sl _ nst hsl
  refine⟨_,rfl,ix2 ht ⟨_,rfl,_,_,rfl,rfl,_,rfl,?_⟩⟩
  refine eX (fun _=>?_) (fun _=>tail none H pos cell (cY.refl H) ht)
  have mid:∀ (c':Int),rdMid K { nx:=rdTail K (dE Q),rt:=Q } [some (.ref t),some (.int many),some (.int 2305843009213693951),some (.int c'),none] H:=by
   intro c'
   refine⟨_,rfl,ix1 ht ⟨_,_,rfl,rfl,_,rfl,t,_,1,1,rfl,rfl,ht,rfl,?_⟩⟩
   refine⟨_,rfl,_,rfl,t,_,2,2,rfl,rfl,aD,rfl,?_⟩
   exact tail (some (.int c')) _ (pos+1) c' (cY.upd.trans cY.upd) aD
  have big:∀ (c':Int),tSeq (tIfS (rdTest K) (rdBody K) tNext) (rdMid K) { nx:=rdTail K (dE Q),rt:=Q } [some (.ref t),some (.int many),some (.int 2305843009213693951),some (.int c'),none] H:=by
   intro c'
   have body:∀ σ,σ=[some (.ref t),some (.int many),some (.int 2305843009213693951),some (.int c'),none]→rdBody K { nx:=rdMid K { nx:=rdTail K (dE Q),rt:=Q },rt:=Q } σ H:=by
    rintro σ rfl
    have prime:(0:Int) < 2305843009213693951:=by decide
    refine⟨_,rfl,_,rfl,ix1 ht ⟨_,_,rfl,rfl,.inl ⟨by decide,by decide⟩,_,_,rfl,rfl,_,rfl,_,_,rfl,rfl,prime,?_⟩⟩
    have b1:=Int.emod_nonneg (c'+1000003 * pos) (show (2305843009213693951:Int)≠0 by decide)
    have b2:=Int.emod_lt_of_pos (c'+1000003 * pos) prime
    generalize (c'+1000003 * pos) % 2305843009213693951=c1 at b1 b2
    refine⟨_,rfl,_,rfl,_,_,rfl,rfl,.inl ⟨by omega,by omega⟩,_,rfl,_,_,rfl,rfl,.inl ⟨by decide,by decide⟩,_,_,rfl,rfl,_,_,rfl,rfl,_,rfl,_,_,rfl,rfl,prime,?_⟩
    have b3:=Int.emod_nonneg (c1 * c1+1181783497276652981 * c1+2049848353892358983) (show (2305843009213693951:Int)≠0 by decide)
    have b4:=Int.emod_lt_of_pos (c1 * c1+1181783497276652981 * c1+2049848353892358983) prime
    generalize (c1 * c1+1181783497276652981 * c1+2049848353892358983) % 2305843009213693951=c2 at b3 b4
    refine⟨_,rfl,_,rfl,_,_,rfl,rfl,.inl ⟨by omega,by omega⟩,_,_,rfl,rfl,_,rfl,_,_,rfl,rfl,prime,?_⟩
    exact mid _
   refine⟨_,rfl,ix1 ht ⟨_,rfl,ix ht ⟨sl,_,rfl,.inl (bM.of hsl),_,_,rfl,rfl,_,rfl,?_⟩⟩⟩
   refine eX (fun _=>?_) (fun _=>?_)
   ·refine eT ?_
    exact body _ rfl
   ·refine⟨_,rfl,_,_,rfl,rfl,⟨by decide,by decide,by decide⟩,_,_,rfl,rfl,_,rfl,?_⟩
    refine eX (fun _=>body _ rfl) (fun _=>mid _)
  refine⟨_,rfl,ix ht ⟨sl,_,rfl,.inl (bM.of hsl),_,_,rfl,rfl,_,rfl,?_⟩⟩
  refine eX (fun hlen=>?_) (fun _=>big 0)
  have hpos:0 < ns.length:=by have:=of_decide_eq_true hlen;simpa using this
  refine⟨_,rfl,ix ht ⟨_,rfl,ix1 ht ⟨_,rfl,ix ht ⟨sl,_,rfl,.inl (bM.of hsl),_,_,rfl,rfl,(show (0:Int) < (((ns.map V.int).length:Nat):Int) by rw[List.length_map];omega),?_⟩⟩⟩⟩
  have m1:=Int.emod_nonneg pos (show (((ns.map V.int).length:Nat):Int)≠0 by rw[List.length_map];omega)
  have m2:=Int.emod_lt_of_pos pos (show (0:Int) < (((ns.map V.int).length:Nat):Int) by rw[List.length_map];omega)
  rw[List.length_map] at m1 m2
  have hix:(ns.map V.int)[(pos % ((ns.map V.int).length:Int)).toNat]? = some (.int (ns[(pos % (ns.length:Int)).toNat]'(by omega))):=by
   rw[List.length_map,List.getElem?_map];simp [show (pos % (ns.length:Int)).toNat < ns.length by omega]
  refine .inl ⟨sl,_,_,_,rfl,rfl,bM.of hsl,atI_int (by rw[List.length_map];exact m1) hix,?_⟩
  exact big _
theorem ok__law_draw {f:Addr}{fd:FuncData} (F:Fun K "_law_draw" "_law_draw" (top 50) f fd) (T:Txt mg):FnOk P w K mg base CX0 1 f fd ["tape","many"] spDraw:=
 (ok__law_drawB F T).imp fun vs H Q E ⟨t,sl,many,e,tp,h0,h1,k⟩=>⟨t,sl,many,e,tp,h0,Int.lt_of_lt_of_le h1 (by decide),k⟩
end
end Tw
namespace Tw
open PySem L2
structure Ext (t sl:Addr) (H H':Hp):Prop where
 bt:cY t H H'
 tp:eU H' t sl
theorem eU.some {H:Hp}{t sl:Addr} (h:eU H t sl):∃ o,H t=some o:=by obtain⟨ns,pos,cell,e,_⟩:=h;exact⟨_,e⟩
theorem eU.put {H:Hp}{t sl p:Addr}{o:HO} (h:eU H t sl) (h1:p≠t) (h2:p≠sl):eU (upd H p o) t sl:=by
 obtain⟨ns,pos,cell,e,f,g⟩:=h
 exact⟨ns,pos,cell,by rw[aP (Ne.symm h1)];exact e,by rw[aP (Ne.symm h2)];exact f,g⟩
theorem eU.ne_sl {H:Hp}{t sl p:Addr} (h:eU H t sl) (hp:H p=none):p≠sl:=by
 obtain⟨ns,pos,cell,e,f,g⟩:=h
 exact fun z=>by rw[z,f] at hp;cases hp
theorem Ext.new {t sl p:Addr}{H H':Hp}{o:HO} (e:Ext t sl H H') (hp:H' p=none):Ext t sl H (upd H' p o):=⟨e.bt.trans (aK.new hp).but,e.tp.same (aK.new hp)⟩
theorem Ext.ne {t sl p:Addr}{H H':Hp} (e:Ext t sl H H') (hp:H' p=none):p≠t:=by
 obtain⟨o,h⟩:=e.tp.some
 intro z;rw[z,h] at hp;cases hp
theorem Ext.ts {K:PySem.W.Frag}{t sl:Addr}{H H':Hp} (e:Ext t sl H H') (tp:eU H t sl):bL K H H':=e.bt.ts tp.mut
noncomputable def Gn (t sl:Addr) (σ:St) (H0:Hp) (P:V→Prop) (te:TE):Prop:=∀ H Q,Ext t sl H0 H→(∀ v H',Ext t sl H0 H'→cY t H H'→P v→Q v H')→te σ H Q
section
variable {K:PySem.W.Frag}{t sl:Addr}{σ:St}{H0:Hp}{P:V→Prop}{a b c d:TE}
noncomputable def dA (lo hi:Int):V→Prop:=fun v=>∃ i,v=.int i∧lo≤i∧i < hi
theorem Gn.imp {P':V→Prop} (h:Gn t sl σ H0 P a) (f:∀ v,P v→P' v):Gn t sl σ H0 P' a:=fun H Q e k=>h H Q e fun v H' e' b p=>k v H' e' b (f v p)
theorem gn_c {v:V} (h:P v):Gn t sl σ H0 P (tC v):=fun H Q e k=>k v H e (cY.refl H) h
theorem gn_v {i:Nat}{v:V} (hσ:σ[i]? = some (some v)) (h:P v):Gn t sl σ H0 P (d6 i):=fun H Q e k=>⟨v,hσ,k v H e (cY.refl H) h⟩
theorem eY (ha:Gn t sl σ H0 P a) (hb:Gn t sl σ H0 P b) (hc:Gn t sl σ H0 (dA 0 2) c):Gn t sl σ H0 P (tOp (rIx K) (tLst (dQ a (dQ b tNil))) c):=by
 intro H Q e k
 refine ha H _ e fun v1 H1 e1 b1 p1=>hb H1 _ e1 fun v2 H2 e2 b2 p2=>⟨(show 2≤sizeLine by decide),fun p hp=>hc _ _ (e2.new hp) fun v H3 e3 b3 ⟨i,hi,h0,h1⟩=>?_⟩
 subst hi
 have hl:=b3 p _ (e2.ne hp) aD
 have hb:cY t H H3:=b1.trans (b2.trans ((aK.new hp).but.trans b3))
 rcases (show i=0∨i=1 by omega) with rfl | rfl
 ·exact .inl ⟨p,_,0,v1,rfl,rfl,bM.of hl,rfl,k v1 H3 e3 hb p1⟩
 ·exact .inl ⟨p,_,1,v2,rfl,rfl,bM.of hl,rfl,k v2 H3 e3 hb p2⟩
theorem gn_pick3 (ha:Gn t sl σ H0 P a) (hb:Gn t sl σ H0 P b) (hd:Gn t sl σ H0 P d) (hc:Gn t sl σ H0 (dA 0 3) c):Gn t sl σ H0 P (tOp (rIx K) (tLst (dQ a (dQ b (dQ d tNil)))) c):=by
 intro H Q e k
 refine ha H _ e fun v1 H1 e1 b1 p1=>hb H1 _ e1 fun v2 H2 e2 b2 p2=>hd H2 _ e2 fun v4 H4 e4 b4 p4=>⟨(show 3≤sizeLine by decide),fun p hp=>hc _ _ (e4.new hp) fun v H3 e3 b3 ⟨i,hi,h0,h1⟩=>?_⟩
 subst hi
 have hl:=b3 p _ (e4.ne hp) aD
 have hb:cY t H H3:=b1.trans (b2.trans (b4.trans ((aK.new hp).but.trans b3)))
 rcases (show i=0∨i=1∨i=2 by omega) with rfl | rfl | rfl
 ·exact .inl ⟨p,_,0,v1,rfl,rfl,bM.of hl,rfl,k v1 H3 e3 hb p1⟩
 ·exact .inl ⟨p,_,1,v2,rfl,rfl,bM.of hl,rfl,k v2 H3 e3 hb p2⟩
 ·exact .inl ⟨p,_,2,v4,rfl,rfl,bM.of hl,rfl,k v4 H3 e3 hb p4⟩
theorem gn_draw {i:Nat}{lo hi:Int} (hσ:σ[i]? = some (some (.ref t))) (hlo:0 < lo) (hhi:hi≤1000000) (ha:Gn t sl σ H0 (dA lo hi) a):Gn t sl σ H0 (fun v=>∃ r m,v=.int r∧0≤r∧r < m∧lo≤m∧m < hi) (tCall spDraw [] E0 (dQ (d6 i) (dQ a tNil))):=by
 intro H Q e k
 refine⟨_,hσ,ha H _ e fun v H1 e1 b1 ⟨m,hm,h0,h1⟩=>?_⟩
 subst hm
 exact⟨t,sl,m,rfl,e1.tp,by omega,by omega,fun r H2 b2 t2 r0 r1=>k _ H2 ⟨e1.bt.trans b2,t2⟩ (b1.trans b2) ⟨r,m,rfl,r0,r1,h0,h1⟩⟩
theorem bN {i:Nat}{m:Int} (hσ:σ[i]? = some (some (.ref t))) (h0:0 < m) (h1:m < 1000000):Gn t sl σ H0 (dA 0 m) (tCall spDraw [] E0 (dQ (d6 i) (dQ (tC (.int m)) tNil))):=
 (gn_draw (lo:=m) (hi:=m+1) hσ h0 (by omega) (gn_c ⟨m,rfl,by omega,by omega⟩)).imp fun v ⟨r,m',e,a,b,c,d⟩=>⟨r,e,a,by omega⟩
theorem gn_drawv {i j:Nat}{m:Int} (hσ:σ[i]? = some (some (.ref t))) (hj:σ[j]? = some (some (.int m))) (h0:0 < m) (h1:m < 1000000):Gn t sl σ H0 (dA 0 m) (tCall spDraw [] E0 (dQ (d6 i) (dQ (d6 j) tNil))):=
 (gn_draw (lo:=m) (hi:=m+1) hσ h0 (by omega) (gn_v hj ⟨m,rfl,by omega,by omega⟩)).imp fun v ⟨r,m',e,a,b,c,d⟩=>⟨r,e,a,by omega⟩
theorem gn_add {x y l h:Int} (ha:Gn t sl σ H0 (dA x y) a) (hb:Gn t sl σ H0 (dA l h) b):Gn t sl σ H0 (dA (x+l) (y+h - 1)) (tOp (rI0 fun i j=>.int (i+j)) a b):=by
 intro H Q e k
 refine ha H _ e fun v1 H1 e1 b1 ⟨i,hi,i0,i1⟩=>hb H1 _ e1 fun v2 H2 e2 b2 ⟨j,hj,j0,j1⟩=>?_
 subst hi hj
 exact⟨i,j,rfl,rfl,k _ H2 e2 (b1.trans b2) ⟨_,rfl,by omega,by omega⟩⟩
theorem gn_div {y m:Int} (hm:0 < m) (hm2:m < 1000000) (ha:Gn t sl σ H0 (dA 0 y) a):Gn t sl σ H0 (fun v=>∃ i,v=.int (i / m)∧0≤i∧i < y) (tOp (rI CDiv fun i j=>.int (i / j)) a (tC (.int m))):=by
 intro H Q e k
 refine ha H _ e fun v1 H1 e1 b1 ⟨i,hi,i0,i1⟩=>?_
 subst hi
 exact⟨i,m,rfl,rfl,⟨hm,by omega⟩,k _ H1 e1 b1 ⟨i,rfl,i0,i1⟩⟩
theorem gn_eq0 {y c0:Int} (ha:Gn t sl σ H0 (dA 0 y) a):Gn t sl σ H0 (fun v=>∃ b:Bool,v=.bl b) (tOp rEq a (tC (.int c0))):=by
 intro H Q e k
 refine ha H _ e fun v1 H1 e1 b1 ⟨i,hi,i0,i1⟩=>?_
 subst hi
 exact⟨rfl,k _ H1 e1 b1 ⟨_,rfl⟩⟩
theorem gn_gt0 {y c0:Int} (ha:Gn t sl σ H0 (dA 0 y) a):Gn t sl σ H0 (fun v=>∃ b:Bool,v=.bl b) (tOp (rI0 fun i j=>.bl (decide (j < i))) a (tC (.int c0))):=by
 intro H Q e k
 refine ha H _ e fun v1 H1 e1 b1 ⟨i,hi,i0,i1⟩=>?_
 subst hi
 exact⟨i,c0,rfl,rfl,k _ H1 e1 b1 ⟨_,rfl⟩⟩
noncomputable abbrev rInt1:List V→Hp→VK→Prop:=fun xs H Q=>(∃ i,xs=[.int i]∧Q (.int i) H)∨∃ k,xs=[.bl k]∧Q (.int (if k then 1 else 0)) H
theorem gn_small {i:Nat}{s:Bool} (hσ:σ[i]? = some (some (.bl s))):Gn t sl σ H0 (dA 0 2) (tCB rInt1 (dQ (d6 i) tNil)):=by
 intro H Q e k
 refine⟨_,hσ,.inr ⟨s,rfl,k _ H e (cY.refl H) ?_⟩⟩
 cases s
 ·exact⟨0,rfl,by omega,by omega⟩
 ·exact⟨1,rfl,by omega,by omega⟩
theorem gn_menu {i:Nat}{s:Bool}{x y lo hi:Int} (hσ:σ[i]? = some (some (.bl s))) (h1:lo≤x∧x < hi) (h2:lo≤y∧y < hi):Gn t sl σ H0 (dA lo hi) (tOp (rIx K) (tLst (dQ (tC (.int x)) (dQ (tC (.int y)) tNil))) (tCB rInt1 (dQ (d6 i) tNil))):=
 eY (gn_c ⟨x,rfl,h1.1,h1.2⟩) (gn_c ⟨y,rfl,h2.1,h2.2⟩) (gn_small hσ)
theorem gn_half (ha:Gn t sl σ H0 (dA 0 4) a):Gn t sl σ H0 (dA 0 2) (tOp (rI CDiv fun i j=>.int (i / j)) a (tC (.int 3))):=
 (gn_div (by decide) (by decide) ha).imp fun v ⟨i,e,a,b⟩=>⟨i / 3,e,by omega,by omega⟩
theorem gn_up {lo hi lo' hi':Int} (h:Gn t sl σ H0 (dA lo hi) a) (h1:lo'≤lo) (h2:hi≤hi'):Gn t sl σ H0 (dA lo' hi') a:=h.imp fun v ⟨i,e,a,b⟩=>⟨i,e,by omega,by omega⟩
theorem gn_drawm {i:Nat}{lo hi:Int} (hσ:σ[i]? = some (some (.ref t))) (hlo:0 < lo) (hhi:hi≤1000000) (ha:Gn t sl σ H0 (dA lo hi) a):Gn t sl σ H0 (dA 0 (hi - 1)) (tCall spDraw [] E0 (dQ (d6 i) (dQ a tNil))):=
 (gn_draw hσ hlo hhi ha).imp fun v ⟨r,m,e,a,b,c,d⟩=>⟨r,e,a,by omega⟩
end
section
variable {P:Program}{w:World}{K:PySem.W.Frag}{mg:Str→Option Value}{base:Heap}
noncomputable def spOuts (K:PySem.W.Frag):Sp:=fun args H Q _=>∃ (t sl:Addr) (n:Nat) (small:Bool),args=[.ref t,.int (n:Int),.bl small]∧eU H t sl∧1≤n∧n≤12∧
 ∀ (outs:List (Option Int×Int)) p H',Ext t sl H H'→outs≠[]→outs.length≤3→(∀ o∈outs,OutOk n o)→Is K H' (.tup (outs.map outD)) p→Q p H'
theorem sc__law_outs:FnScope ["tape","many","small","outs","k","target","parts"] ["tape","many","small"] (aL (top 51)):=⟨rfl,rfl,rfl,by decide +kernel,rfl,by decide +kernel,by decide +kernel⟩
theorem ok__law_outs {f fD:Addr}{fd fdD:FuncData} (F:Fun K "_law_outs" "_law_outs" (top 51) f fd) (T:Txt mg) (G__law_draw:Callee P w K mg base "_law_draw" ["tape","many"] 1 spDraw fD fdD):FnOk P w K mg base CX0 2 f fd ["tape","many","small"] (spOuts K):=by
 refine F.ok sc__law_outs (fun vs H Q E h=>?_) (fun cdv A outer s H vs Q E hr h=>?_)
 ·obtain⟨t,sl,n,small,rfl,_⟩:=h;rfl
 ·obtain⟨t,sl,n,small,rfl,tp,n1,n2,k⟩:=h
  have sc:=sc__law_outs
  refine⟨_,(aF (bE (i:=3) sc.nd rfl (Or.inl rfl) (bY aE))
   (aF (dB PassesOwn.never rfl (cG rfl T.b_range (aA (b0 cO aG (aR (aM (K:=K) rfl) (bY (aA (cQ G__law_draw hr (aA (pv 0) (aA aG aE))) (aA (cQ G__law_draw hr (aA (pv 0) (aA aG aE))) aE))) (cQ G__law_draw hr (aA (pv 0) (aA aG aE))) (fun _ _=>rfl))) aE)) (aJ (i:=4) sc.nd rfl (Or.inl rfl)) (aF (bE (i:=5) sc.nd rfl (Or.inl rfl) (aR (aM (K:=K) rfl) (bY (aA eO (aA (cQ G__law_draw hr (aA (pv 0) (aA (pv 1) aE))) (aA (cQ G__law_draw hr (aA (pv 0) (aA (pv 1) aE))) aE)))) (cQ G__law_draw hr (aA (pv 0) (aA aG aE))) (fun _ _=>rfl)))
   (aF (bE (i:=6) sc.nd rfl (Or.inl rfl) (aR (aM (K:=K) rfl) (bY (aA (cQ G__law_draw hr (aA (pv 0) (aA aG aE))) (aA (cQ G__law_draw hr (aA (pv 0) (aA (aR (aM (K:=K) rfl) (bY (aA aG (aA aG aE))) (bG call_int1 rfl T.b_int bt_int (aA (pv 2) aE)) (fun _ _=>rfl)) aE))) aE))) (b0 op_fdiv (cQ G__law_draw hr (aA (pv 0) (aA aG aE))) aG) (fun _ _=>rfl)))
   (aO (bZ (dY (K:=K) rfl PySem.F.plainAttrs_list PySem.F.slot_list_append PySem.F.type_list_append cD (pv 3) (aA (bV (aA (pv 5) (aA (b0 cO aG (pv 6)) aE))) aE)))))))
   (aO (aX (bG (cH (K:=K) rfl) rfl T.b_tuple cJ (aA (pv 3) aE)))))),?_⟩
  refine⟨Nat.zero_le _,fun ol hol=>?_⟩
  have e0:Ext t sl H (upd H ol (.lst [])):=Ext.new ⟨cY.refl H,tp⟩ hol
  have no:ol≠t:=Ext.ne ⟨cY.refl H,tp⟩ hol
  refine gn_add (x:=1) (y:=2) (l:=0) (h:=3) (H0:=upd H ol (.lst [])) (t:=t) (sl:=sl) (gn_c ⟨1,rfl,by omega,by omega⟩)
   (eY (gn_up (bN rfl (by decide) (by decide)) (Int.le_refl _) (by decide)) (bN rfl (by decide) (by decide)) (bN rfl (by decide) (by decide))) _ _ ⟨cY.refl _,e0.tp⟩ ?_
  rintro v H1 e1 _ ⟨m,rfl,m0,m1⟩
  refine⟨m,rfl,by omega,by omega,?_⟩
  refine dO (lo:=0) (n:=m.toNat) (fun i σ' H'=>Ext t sl H H'∧∃ (outs:List (Option Int×Int)) (xs:List V),H' ol=some (.lst xs)∧IsL K H' (outs.map outD) xs∧outs.length=i∧(∀ o∈outs,OutOk n o)∧
   ∃ v4 v5 v6,σ'=[some (.ref t),some (.int (n:Int)),some (.bl small),some (.ref ol),v4,v5,v6]) ?_ ?_ ?_
  ·exact⟨⟨e0.bt.trans e1.bt,e1.tp⟩,[],[],e1.bt ol _ no aD,.nil,rfl,fun o ho=>(nomatch ho),none,none,none,rfl⟩
  ·rintro i σ' H2 hi ⟨e2,outs,xs,ho,hl,hlen,hok,v4,v5,v6,rfl⟩
   refine gn_pick3 (H0:=H2) (t:=t) (sl:=sl) (P:=fun v=>∃ o:Option Int,v=tgV o∧∀ z,o=some z→0≤z∧z < n) (gn_c ⟨none,rfl,fun z h=>nomatch h⟩)
    ((gn_drawv (m:=(n:Int)) rfl rfl (by omega) (by omega)).imp fun v ⟨r,e,a,b⟩=>⟨some r,e,fun z h=>by cases h;exact⟨a,by omega⟩⟩)
    ((gn_drawv (m:=(n:Int)) rfl rfl (by omega) (by omega)).imp fun v ⟨r,e,a,b⟩=>⟨some r,e,fun z h=>by cases h;exact⟨a,by omega⟩⟩) (bN rfl (by decide) (by decide)) _ _ ⟨cY.refl _,e2.tp⟩ ?_
   rintro v H3 e3 _ ⟨tg,rfl,htg⟩
   refine eY (H0:=H3) (t:=t) (sl:=sl) (P:=dA 0 60) (gn_up (bN rfl (by decide) (by decide)) (Int.le_refl _) (by decide))
    (gn_up (gn_drawm (lo:=3) (hi:=61) rfl (by decide) (by decide) (gn_menu rfl ⟨by decide,by decide⟩ ⟨by decide,by decide⟩)) (Int.le_refl _) (by decide)) (gn_half (bN rfl (by decide) (by decide))) _ _ ⟨cY.refl _,e3.tp⟩ ?_
   rintro v H4 e4 _ ⟨pt,rfl,p0,p1⟩
   have ho4:H4 ol=some (.lst xs):=e4.bt ol _ no (e3.bt ol _ no ho)
   refine⟨_,rfl,.inl ⟨rfl,_,bM.of ho4⟩,_,rfl,_,rfl,_,_,rfl,rfl,(show 2≤sizeLine by decide),fun q hq=>?_⟩
   have nq:ol≠q:=aQ ho4 hq
   have hxl:xs.length=outs.length:=by rw[hl.length,List.length_map]
   have hm3:m.toNat≤3:=by omega
   refine⟨ol,xs,_,rfl,rfl,by rw[aP nq];exact ho4,aZ (by omega),?_⟩
   have e5:Ext t sl H2 (upd H4 q (.tup [tgV tg,.int (1+pt)])):=Ext.new ⟨e3.bt.trans e4.bt,e4.tp⟩ hq
   have ts:bL K H2 (upd (upd H4 q (.tup [tgV tg,.int (1+pt)])) ol (.lst (xs++[.ref q]))):=bL.put (e5.ts e2.tp) (.inr (by rw[aP nq,ho4];exact trivial))
   refine⟨⟨fun b o hb e=>?_,?_⟩,outs++[(tg,1+pt)],xs++[.ref q],aD,?_,by simp [hlen],?_,_,_,_,rfl⟩
   ·rw[aP (aQ e hol)];exact e5.bt b o hb (e2.bt b o hb e)
   ·exact e5.tp.put no (eU.ne_sl tp hol)
   ·rw[List.map_append]
    exact IsL.snoc (Is.tupOf (ds:=[tgD tg,.int (1+pt)]) (bL.put (bL.refl _) (.inr (by rw[aP nq,ho4];exact trivial)) _ _ (bT.of aD)) (.cons (Is.tgOf tg) (.cons (Is.i _) .nil))) (IsL.mono ts _ _ hl)
   ·intro o ho
    rcases List.mem_append.mp ho with ho | ho
    ·exact hok o ho
    ·rw[List.mem_singleton.mp ho]
     exact⟨fun z hz=>htg z hz,by show 1≤1+pt;omega,by show 1+pt≤60;omega⟩
  ·rintro σ' H2 ⟨e2,outs,xs,ho,hl,hlen,hok,v4,v5,v6,rfl⟩
   refine⟨_,rfl,ol,_,rfl,.inl ⟨bM.of ho,fun l hlf=>?_⟩⟩
   refine k outs _ _ (e2.new hlf) (fun z=>by rw[z] at hlen;simp at hlen;omega) (by omega) hok (Is.tupOf (bT.of aD) (IsL.mono (aK.new hlf).ts _ _ hl))
end
end Tw
namespace L2
theorem if_by {c:TT}{a b:TS}{D:Ends}{σ:St}{H:Hp} (I:St→Hp→Prop) (h1:∀ D':Ends,(∀ σ' H',I σ' H'→D'.nx σ' H')→tIfS c a b D' σ H) (h2:∀ σ' H',I σ' H'→D.nx σ' H'):tIfS c a b D σ H:=h1 D h2
theorem for_by {i:TI}{g:TG}{b:TS}{D:Ends}{σ:St}{H:Hp} (I:St→Hp→Prop) (h1:∀ D':Ends,(∀ σ' H',I σ' H'→D'.nx σ' H')→tFor i g b D' σ H) (h2:∀ σ' H',I σ' H'→D.nx σ' H'):tFor i g b D σ H:=h1 D h2
end L2
namespace Tw
open PySem L2
section
variable {K:PySem.W.Frag}{t sl:Addr}{σ:St}{H0:Hp}{P:V→Prop}{a b c d:TE}
theorem if_draw0 {y c0:Int}{t' u':TS}{D':Ends}{H:Hp} (ha:Gn t sl σ H0 (dA 0 y) a) (e:Ext t sl H0 H) (k:∀ (b:Bool) H',Ext t sl H0 H'→cY t H H'→if b=true then t' D' σ H' else u' D' σ H'):tIfS (tTest (tOp rEq a (tC (.int c0)))) t' u' D' σ H:=
 gn_eq0 ha H _ e fun v H' e' b ⟨c,hc⟩=>⟨c,hc,k c H' e' b⟩
theorem gn_mulnot {i:Nat}{s:Bool} (hσ:σ[i]? = some (some (.bl s))) (ha:Gn t sl σ H0 (dA 0 2) a):Gn t sl σ H0 (dA 0 2) (tOp (rI CMul fun i j=>.int (i * j)) a (tCB rInt1 (dQ (tNotV (d6 i)) tNil))):=by
 intro H Q e k
 refine ha H _ e fun v1 H1 e1 b1 ⟨j,hj,j0,j1⟩=>⟨_,hσ,s,rfl,.inr ⟨!s,rfl,?_⟩⟩
 subst hj
 refine⟨j,_,rfl,rfl,.inl ⟨by omega,by omega⟩,k _ H1 e1 b1 ?_⟩
 cases s
 ·exact⟨j,by simp,j0,j1⟩
 ·exact⟨0,by simp,by omega,by omega⟩
theorem gn_subcv {j:Nat}{x y:Int} (hj:σ[j]? = some (some (.int y))):Gn t sl σ H0 (dA (x - y) (x - y+1)) (tOp (rI0 fun i j=>.int (i - j)) (tC (.int x)) (d6 j)):=fun H Q e k=>
 ⟨_,hj,x,y,rfl,rfl,k _ H e (cY.refl H) ⟨_,rfl,by omega,by omega⟩⟩
theorem gn_addv {j:Nat}{y l h:Int} (hj:σ[j]? = some (some (.int y))) (hb:Gn t sl σ H0 (dA l h) b):Gn t sl σ H0 (dA (y+l) (y+h)) (tOp (rI0 fun i j=>.int (i+j)) (d6 j) b):=
 gn_up (gn_add (x:=y) (y:=y+1) (gn_v hj ⟨y,rfl,by omega,by omega⟩) hb) (by omega) (by omega)
end
section
variable {P:Program}{w:World}{K:PySem.W.Frag}{mg:Str→Option Value}{base:Heap}
structure VFull (i:Nat) (v:Vs):Prop where
 sz:v.size≤60
 br:v.size≤v.brim
 bh:v.brim≤200
 sp:∀ t,v.spill=some t→(i:Int) < t
structure NetFull (net:Net):Prop where
 vs:∀ i v,net.vs[i]? = some v→VFull i v
 sps:∀ s∈net.sps,0≤s.2.1∧s.2.1≤60
noncomputable def spVessel (K:PySem.W.Frag):Sp:=fun args H Q _=>∃ (t sl:Addr) (i n m:Nat) (small:Bool),args=[.ref t,.int (i:Int),.int (n:Int),.int (m:Int),.bl small]∧eU H t sl∧i < n∧n≤12∧m≤12∧
 ∀ (v:Vs) p H',Ext t sl H H'→VOk n m v→VFull i v→Is K H' (vsD v) p→Q p H'
theorem sc__law_vessel:FnScope ["tape","number","many","spouts","small","size","brim","spill","acts","k"] ["tape","number","many","spouts","small"] (aL (top 52)):=⟨rfl,rfl,rfl,by decide +kernel,rfl,by decide +kernel,by decide +kernel⟩
theorem ok__law_vessel {f fD fO:Addr}{fd fdD fdO:FuncData} (F:Fun K "_law_vessel" "_law_vessel" (top 52) f fd) (T:Txt mg) (G__law_draw:Callee P w K mg base "_law_draw" ["tape","many"] 1 spDraw fD fdD)
  (G__law_outs:Callee P w K mg base "_law_outs" ["tape","many","small"] 2 (spOuts K) fO fdO):FnOk P w K mg base CX0 3 f fd ["tape","number","many","spouts","small"] (spVessel K):=by
 refine F.ok sc__law_vessel (fun vs H Q E h=>?_) (fun cdv A outer s H vs Q E hr h=>?_)
 ·obtain⟨t,sl,i,n,m,small,rfl,_⟩:=h;rfl
 ·obtain⟨t,sl,i,n,m,small,rfl,tp,hi,hn,hm,k⟩:=h
  have sc:=sc__law_vessel
  refine⟨_,(aF (bE (i:=5) sc.nd rfl (Or.inl rfl) (b0 cO aG (aR (aM (K:=K) rfl) (bY (aA (cQ G__law_draw hr (aA (pv 0) (aA (aR (aM (K:=K) rfl) (bY (aA aG (aA aG aE))) (bG call_int1 rfl T.b_int bt_int (aA (pv 4) aE)) (fun _ _=>rfl)) aE))) (aA (cQ G__law_draw hr (aA (pv 0) (aA (aR (aM (K:=K) rfl) (bY (aA aG (aA aG aE))) (bG call_int1 rfl T.b_int bt_int (aA (pv 4) aE)) (fun _ _=>rfl)) aE))) aE))) (b0 op_fdiv (cQ G__law_draw hr (aA (pv 0) (aA aG aE))) aG) (fun _ _=>rfl))))
   (aF (bE (i:=6) sc.nd rfl (Or.inl rfl) (b0 cO (pv 5) (aR (aM (K:=K) rfl) (bY (aA aG (aA (cQ G__law_draw hr (aA (pv 0) (aA (b0 dN aG (pv 5)) aE))) aE))) (b0 op_mul (cQ G__law_draw hr (aA (pv 0) (aA aG aE))) (bG call_int1 rfl T.b_int bt_int (aA (pe_not (pv 4)) aE))) (fun _ _=>rfl))))
   (aF (cF (bU op_eq (cQ G__law_draw hr (aA (pv 0) (aA aG aE))) aG (bW _)) (aO (bE (i:=6) sc.nd rfl (Or.inl rfl) (b0 cO (pv 5) (cQ G__law_draw hr (aA (pv 0) (aA aG aE)))))) bH)
   (aF (bE (i:=7) sc.nd rfl (Or.inl rfl) eO)
   (aF (cF (PW.pt (pw_and (bU op_lt (b0 cO (pv 1) aG) (pv 2) (bW _)) (pw_and1 (bU op_eq (cQ G__law_draw hr (aA (pv 0) (aA aG aE))) aG (bW _))))) (aO (bE (i:=7) sc.nd rfl (Or.inl rfl) (b0 cO (b0 cO (pv 1) aG) (cQ G__law_draw hr (aA (pv 0) (aA (b0 dN (b0 dN (pv 2) (pv 1)) aG) aE)))))) bH)
   (aF (bE (i:=8) sc.nd rfl (Or.inl rfl) (bY aE))
   (aF (cF (bU op_gt (pv 3) aG (bW _)) (aO (dB PassesOwn.never rfl (cG rfl T.b_range (aA (b0 op_fdiv (cQ G__law_draw hr (aA (pv 0) (aA aG aE))) aG) aE)) (aJ (i:=9) sc.nd rfl (Or.inl rfl)) (aO (bZ (dY (K:=K) rfl PySem.F.plainAttrs_list PySem.F.slot_list_append PySem.F.type_list_append cD (pv 8) (aA (bV (aA (aR (aM (K:=K) rfl) (bY (aA dM (aA dM (aA dM aE)))) (cQ G__law_draw hr (aA (pv 0) (aA aG aE))) (fun _ _=>rfl)) (aA (cQ G__law_draw hr (aA (pv 0) (aA (pv 3) aE))) aE))) aE)))))) bH)
   (aO (aX (bV (aA (pv 5) (aA (pv 6) (aA (cQ G__law_outs hr (aA (pv 0) (aA (pv 2) (aA (pv 4) aE)))) (aA (pe_cmpR op_eq (cQ G__law_draw hr (aA (pv 0) (aA aG aE))) aG (bW _)) (aA (pv 7) (aA (bG (cH (K:=K) rfl) rfl T.b_tuple cJ (aA (pv 8) aE)) aE)))))))))))))))),?_⟩
  refine gn_add (t:=t) (sl:=sl) (H0:=H) (x:=1) (y:=2) (l:=0) (h:=60) (gn_c ⟨1,rfl,by omega,by omega⟩)
   (eY (gn_up (gn_drawm (lo:=4) (hi:=10) rfl (by decide) (by decide) (gn_menu rfl ⟨by decide,by decide⟩ ⟨by decide,by decide⟩)) (Int.le_refl _) (by decide))
    (gn_up (gn_drawm (lo:=4) (hi:=61) rfl (by decide) (by decide) (gn_menu rfl ⟨by decide,by decide⟩ ⟨by decide,by decide⟩)) (Int.le_refl _) (by decide)) (gn_half (bN rfl (by decide) (by decide)))) _ _ ⟨cY.refl _,tp⟩ ?_
  rintro v H1 e1 _ ⟨size,rfl,s0,s1⟩
  refine gn_addv (t:=t) (sl:=sl) (H0:=H) (y:=size) (l:=0) (h:=201 - size) rfl (eY (gn_c ⟨0,rfl,by omega,by omega⟩)
   (gn_up (gn_drawm (lo:=201 - size) (hi:=201 - size+1) rfl (by omega) (by omega) (gn_subcv rfl)) (Int.le_refl _) (by omega)) (gn_mulnot rfl (bN rfl (by decide) (by decide)))) _ _ e1 ?_
  rintro v H2 e2 _ ⟨brim,rfl,br0,br1⟩
  dsimp only [tSeq,tAsg,tC,eZ]
  refine if_by (fun σ' H'=>Ext t sl H H'∧∃ brim,size≤brim∧brim≤200∧σ'=[some (.ref t),some (.int (i:Int)),some (.int (n:Int)),some (.int (m:Int)),some (.bl small),some (.int size),some (.int brim),none,none,none]) (fun D' hD=>?_) ?_
  ·refine if_draw0 (t:=t) (sl:=sl) (H0:=H) (bN rfl (by decide) (by decide)) e2 fun b H3 e3 _=>?_
   cases b with
   | false=>exact dU (hD _ _ ⟨e3,brim,by omega,by omega,rfl⟩)
   | true=>
    refine eT ?_
    refine gn_addv (t:=t) (sl:=sl) (H0:=H) (y:=size) (l:=0) (h:=3) rfl (bN rfl (by decide) (by decide)) _ _ e3 ?_
    rintro v H4 e4 _ ⟨b2,rfl,c0,c1⟩
    exact hD _ _ ⟨e4,b2,by omega,by omega,rfl⟩
  rintro σ3 H3 ⟨e3,brim,hb1,hb2,rfl⟩
  dsimp only [tSeq,tAsg,tC,eZ]
  refine if_by (fun σ' H'=>Ext t sl H H'∧∃ sp:Option Int,(∀ z,sp=some z→(0≤z∧z < n)∧(i:Int) < z)∧σ'=[some (.ref t),some (.int (i:Int)),some (.int (n:Int)),some (.int (m:Int)),some (.bl small),some (.int size),some (.int brim),some (tgV sp),none,none]) (fun D' hD=>?_) ?_
  ·refine⟨_,rfl,_,_,rfl,rfl,_,rfl,_,_,rfl,rfl,_,rfl,?_⟩
   refine eX (fun hlt=>?_) (fun _=>dU (hD _ _ ⟨e3,none,(fun z h=>nomatch h),rfl⟩))
   have hlt':(i:Int)+1 < n:=of_decide_eq_true hlt
   refine gn_eq0 (t:=t) (sl:=sl) (H0:=H) (bN rfl (by decide) (by decide)) _ _ e3 ?_
   rintro v H4 e4 _ ⟨b,rfl⟩
   refine⟨b,rfl,?_⟩
   cases b with
   | false=>exact dU (hD _ _ ⟨e4,none,(fun z h=>nomatch h),rfl⟩)
   | true=>
    refine eT ?_
    refine⟨_,rfl,_,_,rfl,rfl,_,rfl,_,rfl,_,rfl,_,_,rfl,rfl,_,_,rfl,rfl,t,sl,(n:Int) - i - 1,rfl,e4.tp,by omega,by omega,fun r H5 b5 t5 r0 r1=>⟨_,_,rfl,rfl,?_⟩⟩
    exact hD _ _ ⟨⟨e4.bt.trans b5,t5⟩,some ((i:Int)+1+r),fun z h=>by cases h;omega,rfl⟩
  rintro σ4 H4 ⟨e4,sp,hsp,rfl⟩
  refine⟨Nat.zero_le _,fun al hal=>?_⟩
  dsimp only [tSeq,tAsg,tC,eZ]
  have fal:H al=none:=e4.bt.free (e4.ne hal) hal
  have nal:al≠t:=e4.ne hal
  refine if_by (fun σ' H'=>Ext t sl H H'∧∃ (acts:List (Str×Int)) (xs:List V),H' al=some (.lst xs)∧L2.IsL K H' (acts.map actD) xs∧acts.length≤3∧(∀ a∈acts,ActOk m a)∧
   ∃ v9,σ'=[some (.ref t),some (.int (i:Int)),some (.int (n:Int)),some (.int (m:Int)),some (.bl small),some (.int size),some (.int brim),some (tgV sp),some (.ref al),v9]) (fun D' hD=>?_) ?_
  ·refine⟨_,rfl,_,_,rfl,rfl,_,rfl,?_⟩
   refine eX (fun hlt=>?_) (fun _=>hD _ _ ⟨e4.new hal,[],[],aD,.nil,by simp,fun a ha=>(nomatch ha),none,rfl⟩)
   have hm0:(0:Int) < m:=of_decide_eq_true hlt
   refine gn_div (t:=t) (sl:=sl) (H0:=H) (by decide) (by decide) (bN (m:=11) rfl (by decide) (by decide)) _ _ (e4.new hal) ?_
   rintro v H5 e5 b5 ⟨c,rfl,c0,c1⟩
   refine⟨_,rfl,by omega,by omega,?_⟩
   refine dO (lo:=0) (n:=(c / 3).toNat) (fun j σ' H'=>Ext t sl H H'∧∃ (acts:List (Str×Int)) (xs:List V),H' al=some (.lst xs)∧L2.IsL K H' (acts.map actD) xs∧acts.length=j∧(∀ a∈acts,ActOk m a)∧
    ∃ v9,σ'=[some (.ref t),some (.int (i:Int)),some (.int (n:Int)),some (.int (m:Int)),some (.bl small),some (.int size),some (.int brim),some (tgV sp),some (.ref al),v9]) ?_ ?_ ?_
   ·exact⟨e5,[],[],b5 al _ nal aD,.nil,rfl,fun a ha=>(nomatch ha),none,rfl⟩
   ·rintro j σ' H6 hj ⟨e6,acts,xs,ha,hl,hlen,hok,v9,rfl⟩
    refine⟨_,rfl,.inl ⟨rfl,_,bM.of ha⟩,?_⟩
    refine gn_pick3 (t:=t) (sl:=sl) (H0:=H) (P:=fun v=>∃ wd:Str,v=.str wd∧(wd = "open" ∨ wd = "shut" ∨ wd = "turn")) (gn_c ⟨_,rfl,.inl rfl⟩) (gn_c ⟨_,rfl,.inr (.inl rfl)⟩) (gn_c ⟨_,rfl,.inr (.inr rfl)⟩) (bN rfl (by decide) (by decide)) _ _ e6 ?_
    rintro v H7 e7 b7 ⟨wd,rfl,hwd⟩
    refine gn_drawv (t:=t) (sl:=sl) (H0:=H) (m:=(m:Int)) rfl rfl hm0 (by omega) _ _ e7 ?_
    rintro v H8 e8 b8 ⟨r,rfl,r0,r1⟩
    refine⟨(show 2≤sizeLine by decide),fun q hq=>?_⟩
    have ha8:H8 al=some (.lst xs):=b8 al _ nal (b7 al _ nal ha)
    have nq:al≠q:=aQ ha8 hq
    have hxl:xs.length=acts.length:=by rw[hl.length,List.length_map]
    refine⟨al,xs,_,rfl,rfl,by rw[aP nq];exact ha8,aZ (by omega),?_⟩
    have e9:Ext t sl H (upd H8 q (.tup [.str wd,.int r])):=e8.new hq
    have mt:Mut (upd H8 q (.tup [.str wd,.int r]) al):=by rw[aP nq,ha8];exact trivial
    have ts:bL K H6 (upd (upd H8 q (.tup [.str wd,.int r])) al (.lst (xs++[.ref q]))):=bL.put (((b7.trans b8).trans (aK.new hq).but).ts e6.tp.mut) (.inr mt)
    refine⟨⟨fun b o hb e=>?_,e9.tp.put nal (eU.ne_sl tp fal)⟩,acts++[(wd,r)],xs++[.ref q],aD,?_,by simp [hlen],?_,_,rfl⟩
    ·rw[aP (aQ e fal)];exact e9.bt b o hb e
    ·rw[List.map_append]
     exact L2.IsL.snoc (Is.tupOf (ds:=[.str wd,.int r]) (bL.put (bL.refl _) (.inr mt) _ _ (bT.of aD)) (.cons (Is.s _) (.cons (Is.i _) .nil))) (L2.IsL.mono ts _ _ hl)
    ·intro a ha'
     rcases List.mem_append.mp ha' with ha' | ha'
     ·exact hok a ha'
     ·rw[List.mem_singleton.mp ha']
      exact⟨hwd,r0,r1⟩
   ·rintro σ' H6 ⟨e6,acts,xs,ha,hl,hlen,hok,v9,rfl⟩
    exact hD _ _ ⟨e6,acts,xs,ha,hl,by omega,hok,v9,rfl⟩
  rintro σ5 H5 ⟨e5,acts,xs,ha,hl,hlen,hok,v9,rfl⟩
  refine⟨_,rfl,_,rfl,_,rfl,_,rfl,_,rfl,t,sl,n,small,rfl,e5.tp,by omega,hn,fun outs p H6 e6 o1 o2 o3 hp=>?_⟩
  refine gn_eq0 (t:=t) (sl:=sl) (H0:=H) (bN rfl (by decide) (by decide)) _ _ ⟨e5.bt.trans e6.bt,e6.tp⟩ ?_
  rintro v H7 e7 b7 ⟨b,rfl⟩
  have ha7:H7 al=some (.lst xs):=b7 al _ nal (e6.bt al _ nal ha)
  have b57:cY t H5 H7:=e6.bt.trans b7
  refine⟨_,rfl,_,rfl,al,_,rfl,.inl ⟨bM.of ha7,fun q hq=>⟨(show 6≤sizeLine by decide),fun r hr'=>?_⟩⟩⟩
  have m1:=aK.new (o:=HO.tup xs) hq
  have m2:aK (upd H7 q (.tup xs)) (upd (upd H7 q (.tup xs)) r (.tup [.int size,.int brim,p,.bl b,tgV sp,.ref q])):=aK.new hr'
  refine k ⟨size,brim,outs,b,sp,acts⟩ _ _ ((e7.new hq).new hr') ⟨s0,o1,o2,o3,fun z h=>(hsp z h).1,hlen,hok⟩ ⟨by show size≤60;omega,hb1,hb2,fun z h=>(hsp z h).2⟩ ?_
  refine Is.tupOf (bT.of aD) (.cons (Is.i _) (.cons (Is.i _) (.cons ?_ (.cons (Is.b _) (.cons (Is.tgOf _) (.cons ?_ .nil))))))
  ·exact Is.mono m2.ts _ _ (Is.mono m1.ts _ _ (Is.mono (b7.ts e6.tp.mut) _ _ hp))
  ·exact Is.mono m2.ts _ _ (Is.tupOf (bT.of aD) (L2.IsL.mono m1.ts _ _ (L2.IsL.mono (b57.ts e5.tp.mut) _ _ hl)))
end
end Tw
namespace Tw
open PySem L2
section
variable {P:Program}{w:World}{K:PySem.W.Frag}{mg:Str→Option Value}{base:Heap}
theorem Ext.put {t sl p:Addr}{H H':Hp}{o:HO} (e:Ext t sl H H') (tp:eU H t sl) (hp:H p=none):Ext t sl H (upd H' p o):=
 ⟨fun b u hb e1=>by rw[aP (aQ e1 hp)];exact e.bt b u hb e1,e.tp.put (fun z=>by obtain⟨o,h⟩:=tp.some;rw[z,h] at hp;cases hp) (eU.ne_sl tp hp)⟩
theorem Ext.trans {t sl:Addr}{H H1 H2:Hp} (a:Ext t sl H H1) (b:Ext t sl H1 H2):Ext t sl H H2:=⟨a.bt.trans b.bt,b.tp⟩
noncomputable def spNetM (K:PySem.W.Frag):Sp:=fun args H Q _=>∃ (t sl:Addr) (most:Int) (small:Bool),args=[.ref t,.int most,.bl small]∧1≤most∧most≤12∧eU H t sl∧
 ∀ (net:Net) p H',Ext t sl H H'→NetOk net→NetFull net→(net.vs.length:Int)≤most→Is K H' (netD net) p→Q p H'
theorem sc__law_net:FnScope ["tape","most","small","many","spouts","vessels","found","k","flow"] ["tape","most","small"] (aL (top 53)):=⟨rfl,rfl,rfl,by decide +kernel,rfl,by decide +kernel,by decide +kernel⟩
theorem ok__law_netM {f fD fV:Addr}{fd fdD fdV:FuncData} (F:Fun K "_law_net" "_law_net" (top 53) f fd) (T:Txt mg) (G__law_draw:Callee P w K mg base "_law_draw" ["tape","many"] 1 spDraw fD fdD)
  (G__law_vessel:Callee P w K mg base "_law_vessel" ["tape","number","many","spouts","small"] 3 (spVessel K) fV fdV):FnOk P w K mg base CX0 4 f fd ["tape","most","small"] (spNetM K):=by
 refine F.ok sc__law_net (fun vs H Q E h=>?_) (fun cdv A outer s H vs Q E hr h=>?_)
 ·obtain⟨t,sl,most,small,rfl,_⟩:=h;rfl
 ·obtain⟨t,sl,most,small,rfl,mo1,mo2,tp,k⟩:=h
  have sc:=sc__law_net
  refine⟨_,(aF (bE (i:=3) sc.nd rfl (Or.inr rfl) (b0 cO aG (cQ G__law_draw hr (aA (pv 0) (aA (pv 1) aE)))))
   (aF (bE (i:=4) sc.nd rfl (Or.inr rfl) (aR (aM (K:=K) rfl) (bY (aA (cQ G__law_draw hr (aA (pv 0) (aA aG aE))) (aA (cQ G__law_draw hr (aA (pv 0) (aA aG aE))) aE))) (b0 op_fdiv (cQ G__law_draw hr (aA (pv 0) (aA aG aE))) aG) (fun _ _=>rfl)))
   (aF (ps_set_lc (i:=5) sc.nd rfl rfl (fun _ _ h=>h) rfl (LcOk.mk (N':=["k","tape","many","spouts","small"]) (fr:=[none,some 0,some 3,some 4,some 2]) rfl ⟨rfl,rfl,rfl,rfl,trivial⟩ rfl rfl rfl rfl rfl ⟨⟨_,rfl,rfl,rfl,rfl⟩,⟨_,rfl,rfl,rfl,rfl⟩,⟨_,rfl,rfl,rfl,rfl⟩,⟨_,rfl,rfl,rfl,rfl⟩,trivial⟩) (cG rfl T.b_range (aA (pv 3) aE)) (fun _ _ _=>(aJ (i:=0) (show (["k","tape","many","spouts","small"]:List Str).Nodup by decide +kernel) rfl (Or.inl rfl) (Or.inr rfl))) (fun _ _ _=>cP) (fun _ _ _=>(cQ G__law_vessel hr (aA (pv 1) (aA (pv 0) (aA (pv 2) (aA (pv 3) (aA (pv 4) aE))))))))
   (aF (bE (i:=6) sc.nd rfl (Or.inl rfl) (bY aE))
   (aF (dB PassesOwn.never rfl (cG rfl T.b_range (aA (pv 4) aE)) (aJ (i:=7) sc.nd rfl (Or.inl rfl)) (aF (bE (i:=8) sc.nd rfl (Or.inl rfl) (aR (aM (K:=K) rfl) (bY (aA (cQ G__law_draw hr (aA (pv 0) (aA aG aE))) (aA (cQ G__law_draw hr (aA (pv 0) (aA (aR (aM (K:=K) rfl) (bY (aA aG (aA aG aE))) (bG call_int1 rfl T.b_int bt_int (aA (pv 2) aE)) (fun _ _=>rfl)) aE))) aE))) (b0 op_fdiv (cQ G__law_draw hr (aA (pv 0) (aA aG aE))) aG) (fun _ _=>rfl)))
   (aO (bZ (dY (K:=K) rfl PySem.F.plainAttrs_list PySem.F.slot_list_append PySem.F.type_list_append cD (pv 6) (aA (bV (aA (cQ G__law_draw hr (aA (pv 0) (aA (pv 3) aE))) (aA (pv 8) (aA (pe_cmpR op_gt (cQ G__law_draw hr (aA (pv 0) (aA aG aE))) aG (bW _)) aE)))) aE))))))
   (aO (aX (bV (aA (bG (cH (K:=K) rfl) rfl T.b_tuple cJ (aA (pv 5) aE)) (aA (bG (cH (K:=K) rfl) rfl T.b_tuple cJ (aA (pv 6) aE)) aE)))))))))),?_⟩
  refine gn_add (t:=t) (sl:=sl) (H0:=H) (x:=1) (y:=2) (l:=0) (h:=most) (gn_c ⟨1,rfl,by omega,by omega⟩) (gn_drawv (m:=most) rfl rfl (by omega) (by omega)) _ _ ⟨cY.refl _,tp⟩ ?_
  rintro v H1 e1 _ ⟨n',rfl,n0,n1⟩
  obtain⟨n,rfl⟩:=Int.eq_ofNat_of_zero_le (show 0≤n' by omega)
  refine eY (t:=t) (sl:=sl) (H0:=H) (P:=dA 0 13) (gn_up (bN rfl (by decide) (by decide)) (Int.le_refl _) (by decide)) (bN rfl (by decide) (by decide)) (gn_half (bN rfl (by decide) (by decide))) _ _ e1 ?_
  rintro v H2 e2 _ ⟨m',rfl,m0,m1⟩
  obtain⟨m,rfl⟩:=Int.eq_ofNat_of_zero_le m0
  refine⟨_,rfl,_,rfl,by omega,by omega,?_⟩
  refine lc_range (n:=n) (fun D i r σ' H'=>H2 D=none∧Ext t sl H H'∧H' D=some (.lst r)∧∃ vs:List Vs,vs.length=i∧L2.IsL K H' (vs.map vsD) r∧(∀ v∈vs,VOk n m v)∧(∀ i v,vs[i]? = some v→VFull i v)∧∃ v0,σ'=[v0,some (.ref t),some (.int (n:Int)),some (.int (m:Int)),some (.bl small)])
   (fun D hD=>⟨hD,e2.new hD,aD,[],rfl,.nil,(fun v hv=>nomatch hv),(fun i v hv=>by simp at hv),none,rfl⟩) ?_ ?_
  rotate_left
  ·rintro D i r σ' H3 hi ⟨hD,e3,hl,vs,hlen,hvl,hok,hfu,v0,rfl⟩
   refine cS ?_
   refine⟨_,rfl,_,rfl,_,rfl,_,rfl,_,rfl,t,sl,i,n,m,small,rfl,e3.tp,hi,by omega,by omega,fun v p H4 e4 vok vfu hp=>?_⟩
   have nD:D≠t:=e2.ne hD
   have fD:H D=none:=e2.bt.free nD hD
   have hl4:H4 D=some (.lst r):=e4.bt D _ nD hl
   have hrl:r.length=vs.length:=by rw[hvl.length,List.length_map]
   have mt:Mut (H4 D):=by rw[hl4];exact trivial
   refine⟨hl4,aZ (by omega),hD,(e3.trans e4).put tp fD,aD,vs++[v],by simp [hlen],?_,?_,?_,_,rfl⟩
   ·rw[List.map_append]
    exact L2.IsL.snoc (Is.mono (bL.put (bL.refl _) (.inr mt)) _ _ hp) (L2.IsL.mono (bL.put (e4.bt.ts e3.tp.mut) (.inr mt)) _ _ hvl)
   ·intro u hu
    rcases List.mem_append.mp hu with hu | hu
    ·exact hok u hu
    ·rw[List.mem_singleton.mp hu];exact vok
   ·intro j u hu
    rcases Nat.lt_or_ge j vs.length with hj | hj
    ·rw[List.getElem?_append_left hj] at hu;exact hfu j u hu
    ·rw[List.getElem?_append_right hj] at hu
     have e0:j - vs.length=0:=by
      rcases Nat.eq_zero_or_pos (j - vs.length) with h | h
      ·exact h
      ·rw[List.getElem?_eq_none (show [v].length≤j - vs.length from h)] at hu;cases hu
     rw[e0] at hu
     have e1:j=i:=by omega
     cases hu
     rw[e1];exact vfu
  rintro D r σ' H3 ⟨hD,e3,hl,vs,hlen,hvl,hok,hfu,_⟩
  have nD:D≠t:=e2.ne hD
  have fD:H D=none:=e2.bt.free nD hD
  refine⟨Nat.zero_le _,fun fl hfl=>?_⟩
  have nf:fl≠t:=e3.ne hfl
  have ff:H fl=none:=e3.bt.free nf hfl
  have nDf:D≠fl:=aQ hl hfl
  refine⟨_,rfl,_,rfl,by omega,by omega,?_⟩
  refine dO (lo:=0) (n:=m) (fun j σ' H'=>Ext t sl H H'∧H' D=some (.lst r)∧L2.IsL K H' (vs.map vsD) r∧∃ (sps:List Spt) (xs:List V),H' fl=some (.lst xs)∧L2.IsL K H' (sps.map spD) xs∧sps.length=j∧(∀ s∈sps,(0≤s.1∧s.1 < n)∧0≤s.2.1∧s.2.1≤60)∧
   ∃ v7 v8,σ'=[some (.ref t),some (.int most),some (.bl small),some (.int (n:Int)),some (.int (m:Int)),some (.ref D),some (.ref fl),v7,v8]) ?_ ?_ ?_
  ·exact⟨e3.new hfl,by rw[aP nDf];exact hl,L2.IsL.mono (aK.new hfl).ts _ _ hvl,[],[],aD,.nil,rfl,(fun s hs=>nomatch hs),none,none,rfl⟩
  ·rintro j σ' H4 hj ⟨e4,hl4,hv4,sps,xs,hf4,hs4,hslen,hsok,v7,v8,rfl⟩
   refine eY (t:=t) (sl:=sl) (H0:=H) (P:=dA 0 61) (gn_up (bN rfl (by decide) (by decide)) (Int.le_refl _) (by decide))
    (gn_up (gn_drawm (lo:=4) (hi:=62) rfl (by decide) (by decide) (gn_menu rfl ⟨by decide,by decide⟩ ⟨by decide,by decide⟩)) (Int.le_refl _) (by decide)) (gn_half (bN rfl (by decide) (by decide))) _ _ e4 ?_
   rintro v H5 e5 b5 ⟨flow,rfl,fl0,fl1⟩
   have hf5:H5 fl=some (.lst xs):=b5 fl _ nf hf4
   refine⟨_,rfl,.inl ⟨rfl,_,bM.of hf5⟩,?_⟩
   refine gn_drawv (t:=t) (sl:=sl) (H0:=H) (m:=(n:Int)) rfl rfl (by omega) (by omega) _ _ e5 ?_
   rintro v H6 e6 b6 ⟨tg,rfl,tg0,tg1⟩
   refine⟨_,rfl,?_⟩
   refine gn_gt0 (t:=t) (sl:=sl) (H0:=H) (bN rfl (by decide) (by decide)) _ _ e6 ?_
   rintro v H7 e7 b7 ⟨dr,rfl⟩
   refine⟨(show 3≤sizeLine by decide),fun q hq=>?_⟩
   have b47:cY t H4 H7:=b5.trans (b6.trans b7)
   have hf7:H7 fl=some (.lst xs):=b47 fl _ nf hf4
   have hl7:H7 D=some (.lst r):=b47 D _ nD hl4
   have nq:fl≠q:=aQ hf7 hq
   have nDq:D≠q:=aQ hl7 hq
   have hxl:xs.length=sps.length:=by rw[hs4.length,List.length_map]
   refine⟨fl,xs,_,rfl,rfl,by rw[aP nq];exact hf7,aZ (by omega),?_⟩
   have mt:Mut (upd H7 q (.tup [.int tg,.int flow,.bl dr]) fl):=by rw[aP nq,hf7];exact trivial
   have ts:bL K H4 (upd (upd H7 q (.tup [.int tg,.int flow,.bl dr])) fl (.lst (xs++[.ref q]))):=bL.put ((b47.trans (aK.new hq).but).ts e4.tp.mut) (.inr mt)
   refine⟨(e7.new hq).put tp ff,by rw[aP nDf,aP nDq];exact hl7,L2.IsL.mono ts _ _ hv4,sps++[(tg,flow,dr)],xs++[.ref q],aD,?_,by simp [hslen],?_,_,_,rfl⟩
   ·rw[List.map_append]
    exact L2.IsL.snoc (Is.tupOf (ds:=[.int tg,.int flow,.bl dr]) (bL.put (bL.refl _) (.inr mt) _ _ (bT.of aD)) (.cons (Is.i _) (.cons (Is.i _) (.cons (Is.b _) .nil)))) (L2.IsL.mono ts _ _ hs4)
   ·intro s hs
    rcases List.mem_append.mp hs with hs | hs
    ·exact hsok s hs
    ·rw[List.mem_singleton.mp hs];exact⟨⟨tg0,tg1⟩,fl0,show flow≤60 by omega⟩
  ·rintro σ' H4 ⟨e4,hl4,hv4,sps,xs,hf4,hs4,hslen,hsok,v7,v8,rfl⟩
   refine⟨_,rfl,D,_,rfl,.inl ⟨bM.of hl4,fun q1 hq1=>⟨_,rfl,fl,_,rfl,.inl ⟨bM.of (aK.new hq1 _ _ hf4),fun q2 hq2=>⟨(show 2≤sizeLine by decide),fun q3 hq3=>?_⟩⟩⟩⟩⟩
   have m1:aK H4 (upd H4 q1 (.tup r)):=aK.new hq1
   have m2:aK (upd H4 q1 (.tup r)) (upd (upd H4 q1 (.tup r)) q2 (.tup xs)):=aK.new hq2
   have m3:aK (upd (upd H4 q1 (.tup r)) q2 (.tup xs)) (upd (upd (upd H4 q1 (.tup r)) q2 (.tup xs)) q3 (.tup [.ref q1,.ref q2])):=aK.new hq3
   refine k ⟨vs,sps⟩ _ _ (((e4.new hq1).new hq2).new hq3) ⟨by show 1≤vs.length;omega,by show vs.length≤12;omega,by show sps.length≤12;omega,fun v hv=>by rw[hlen,hslen];exact hok v hv,fun s hs=>by rw[hlen];exact (hsok s hs).1⟩ ⟨hfu,fun s hs=>(hsok s hs).2⟩ (by show (vs.length:Int)≤most;omega) ?_
   refine Is.tupOf (bT.of aD) (.cons (Is.tupOf (m3.tup (m2.tup (bT.of aD))) ?_) (.cons (Is.tupOf (m3.tup (bT.of aD)) ?_) .nil))
   ·exact L2.IsL.mono m3.ts _ _ (L2.IsL.mono m2.ts _ _ (L2.IsL.mono m1.ts _ _ hv4))
   ·exact L2.IsL.mono m3.ts _ _ (L2.IsL.mono m2.ts _ _ (L2.IsL.mono m1.ts _ _ hs4))
end
end Tw
namespace Tw
open PySem L2
section
variable {P:Program}{w:World}{K:PySem.W.Frag}{mg:Str→Option Value}{base:Heap}
theorem rep0:∀ n:Nat,(List.replicate n [V.int 0]).flatten=(List.replicate n (0:Int)).map V.int
 | 0=>rfl
 | n+1=>by rw[List.replicate_succ,List.replicate_succ,List.flatten_cons,rep0 n,List.map_cons];rfl
noncomputable def zeros (n:Nat):List Int:=List.replicate n 0
noncomputable def spFirst (K:PySem.W.Frag):Sp:=fun args H Q _=>∃ (x:V) (net:Net),args=[x]∧Is K H (netD net) x∧NetOk net∧
 ∀ p H',aK H H'→Is K H' (stD (zeros net.vs.length) (zeros net.vs.length) (net.sps.map (·.2.2))) p→Q p H'
theorem sc_first_state:FnScope ["net","vessels","spouts","empty"] ["net"] (aL (top 6)):=⟨rfl,rfl,rfl,by decide +kernel,rfl,by decide +kernel,by decide +kernel⟩
theorem ok_first_state {f:Addr}{fd:FuncData} (F:Fun K "first_state" "first_state" (top 6) f fd) (T:Txt mg):FnOk P w K mg base CX0 1 f fd ["net"] (spFirst K):=by
 refine F.ok sc_first_state (fun vs H Q E h=>?_) (fun cdv A outer s H vs Q E hr h=>?_)
 ·obtain⟨x,net,rfl,_⟩:=h;rfl
 ·obtain⟨x,net,rfl,hx,nok,k⟩:=h
  have sc:=sc_first_state
  refine⟨_,(aF (cB (pv 0) (bF (K:=K) (n:=2) rfl rfl (aH (aJ (i:=1) sc.nd rfl (Or.inl rfl)) (aH (aJ (i:=2) sc.nd rfl (Or.inl rfl)) bD))))
   (aF (bE (i:=3) sc.nd rfl (Or.inl rfl) (b0 (op_repTK (K:=K) rfl) (bV (aA aG aE)) (aS (bK (K:=K) rfl) rfl T.b_len PySem.boot_len (aA (pv 1) aE))))
   (aO (aX (bV (aA (pv 3) (aA (pv 3) (aA (bG (cH (K:=K) rfl) rfl T.b_tuple cJ (aA (pe_lc (fun _ _ h=>h) rfl (LcOk.mk (N':=["target","flow","door"]) (fr:=[none,none,none]) rfl trivial rfl rfl rfl rfl rfl trivial) (dD (K:=K) rfl (pv 2)) (fun _ _ _=>(bF (K:=K) (n:=3) rfl rfl (aH (aJ (i:=0) (show (["target","flow","door"]:List Str).Nodup by decide +kernel) rfl (Or.inl rfl) (Or.inr rfl)) (aH (aJ (i:=1) (show (["target","flow","door"]:List Str).Nodup by decide +kernel) rfl (Or.inl rfl) (Or.inr rfl)) (aH (aJ (i:=2) (show (["target","flow","door"]:List Str).Nodup by decide +kernel) rfl (Or.inl rfl) (Or.inr rfl)) bD))))) (fun _ _ _=>cP) (fun _ _ _=>(pv 2))) aE)) aE)))))))),?_⟩
  obtain⟨a,b,c,xs,ys,rfl,q,q1,l1,q2,l2⟩:=net_un hx
  have exl:xs.length=net.vs.length:=by rw[l1.length,List.length_map]
  have eyl:ys.length=net.sps.length:=by rw[l2.length,List.length_map]
  have n1:=nok.lo
  have n2:=nok.hi
  have n3:=nok.sp
  refine⟨_,rfl,a,_,rfl,q,rfl,_,_,rfl,_,_,rfl,rfl,?_⟩
  refine⟨(show 1≤sizeLine by decide),fun z hz=>⟨_,rfl,b,xs,rfl,.inr ((aK.new hz).tup q1),z,_,[.int 0],rfl,rfl,bT.of aD,by omega,by omega,by simp,by simp,fun e H1 sm1 qe=>?_⟩⟩
  have s1:aK H H1:=(aK.new hz).trans sm1
  have en:((xs.length:Nat):Int).toNat=net.vs.length:=by rw[exl];simp
  rw[en,rep0] at qe
  refine⟨_,rfl,_,rfl,_,rfl,c,rfl,⟨_,s1.tup q2⟩,lc_tup (K:=K) (a:=c) (xs:=ys) (fun D i r σ' H'=>H1 D=none∧aK H1 H'∧H' D=some (.lst r)∧r=((net.sps.take i).map (·.2.2)).map V.bl∧∃ u v w,σ'=[u,v,w])
   (fun D i r σ' H' p=>p.2.1.tup (s1.tup q2)) (fun D hD=>⟨hD,aK.new hD,aD,by simp,none,none,none,rfl⟩) ?_ ?_⟩
  rotate_left
  ·rintro D i x r σ' H2 hx ⟨hD,sm,hDl,rfl,u,v,w',rfl⟩
   obtain⟨sp,hsi,sa,rfl,qs⟩:=sps_at l2 hx
   have hil:=(List.getElem?_eq_some_iff.mp hsi).1
   refine⟨sa,_,rfl,sm.tup (s1.tup qs),rfl,_,_,rfl,_,_,rfl,_,_,rfl,rfl,?_⟩
   refine yes_of ⟨_,rfl,hDl,aZ (by simp;omega),hD,sm.put hD,aD,?_,_,_,_,rfl⟩
   rw[bA hsi];simp
  ·rintro D r σ' H2 ⟨hD,sm,hDl,rfl,_⟩
   rw[eyl,List.take_length] at hDl
   refine⟨D,_,rfl,.inl ⟨bM.of hDl,fun d hd=>⟨(show 3≤sizeLine by decide),fun r hr'=>?_⟩⟩⟩
   have m1:aK H2 (upd H2 d (.tup ((net.sps.map (·.2.2)).map V.bl))):=aK.new hd
   have m2:aK (upd H2 d (.tup ((net.sps.map (·.2.2)).map V.bl))) (upd (upd H2 d (.tup ((net.sps.map (·.2.2)).map V.bl))) r (.tup [.ref e,.ref e,.ref d])):=aK.new hr'
   refine k _ _ (((s1.trans sm).trans m1).trans m2) (st_of (bT.of aD) ?_ ?_ (m2.tup (bT.of aD)))
   ·exact m2.tup (m1.tup (sm.tup qe))
   ·exact m2.tup (m1.tup (sm.tup qe))
theorem sc__law_first:FnScope ["net","none"] ["net"] (aL (top 54)):=⟨rfl,rfl,rfl,by decide +kernel,rfl,by decide +kernel,by decide +kernel⟩
theorem ok__law_first {f:Addr}{fd:FuncData} (F:Fun K "_law_first" "_law_first" (top 54) f fd) (T:Txt mg):FnOk P w K mg base CX0 1 f fd ["net"] (spFirst K):=by
 refine F.ok sc__law_first (fun vs H Q E h=>?_) (fun cdv A outer s H vs Q E hr h=>?_)
 ·obtain⟨x,net,rfl,_⟩:=h;rfl
 ·obtain⟨x,net,rfl,hx,nok,k⟩:=h
  have sc:=sc__law_first
  refine⟨_,(aF (bE (i:=1) sc.nd rfl (Or.inl rfl) (b0 (op_repTK (K:=K) rfl) (bV (aA aG aE)) (aS (bK (K:=K) rfl) rfl T.b_len PySem.boot_len (aA (aR (aM (K:=K) rfl) (pv 0) aG (fun _ _=>rfl)) aE))))
   (aO (aX (bV (aA (pv 1) (aA (pv 1) (aA (bG (cH (K:=K) rfl) rfl T.b_tuple cJ (aA (pe_lc (fun _ _ h=>h) rfl (LcOk.mk (N':=["spout"]) (fr:=[none]) rfl trivial rfl rfl rfl rfl rfl trivial) (dD (K:=K) rfl (aR (aM (K:=K) rfl) (pv 0) aG (fun _ _=>rfl))) (fun _ _ _=>(aJ (i:=0) (show (["spout"]:List Str).Nodup by decide +kernel) rfl (Or.inl rfl) (Or.inr rfl))) (fun _ _ _=>cP) (fun _ _ _=>(aR (aM (K:=K) rfl) (pv 0) aG (fun _ _=>rfl)))) aE)) aE))))))),?_⟩
  obtain⟨a,b,c,xs,ys,rfl,q,q1,l1,q2,l2⟩:=net_un hx
  have exl:xs.length=net.vs.length:=by rw[l1.length,List.length_map]
  have eyl:ys.length=net.sps.length:=by rw[l2.length,List.length_map]
  have n1:=nok.lo
  have n2:=nok.hi
  have n3:=nok.sp
  refine⟨(show 1≤sizeLine by decide),fun z hz=>⟨_,rfl,.inr (.inl ⟨a,_,0,_,rfl,rfl,(aK.new hz).tup q,rfl,b,xs,rfl,.inr ((aK.new hz).tup q1),z,_,[.int 0],rfl,rfl,bT.of aD,by omega,by omega,by simp,by simp,fun e H1 sm1 qe=>?_⟩)⟩⟩
  have s1:aK H H1:=(aK.new hz).trans sm1
  have en:((xs.length:Nat):Int).toNat=net.vs.length:=by rw[exl];simp
  rw[en,rep0] at qe
  refine⟨_,rfl,_,rfl,_,rfl,.inr (.inl ⟨a,_,1,_,rfl,rfl,s1.tup q,rfl,c,rfl,⟨_,s1.tup q2⟩,lc_tup (K:=K) (a:=c) (xs:=ys) (fun D i r σ' H'=>H1 D=none∧aK H1 H'∧H' D=some (.lst r)∧r=((net.sps.take i).map (·.2.2)).map V.bl∧∃ u,σ'=[u])
   (fun D i r σ' H' p=>p.2.1.tup (s1.tup q2)) (fun D hD=>⟨hD,aK.new hD,aD,by simp,none,rfl⟩) ?_ ?_⟩)⟩
  rotate_left
  ·rintro D i x r σ' H2 hx ⟨hD,sm,hDl,rfl,u,rfl⟩
   obtain⟨sp,hsi,sa,rfl,qs⟩:=sps_at l2 hx
   have hil:=(List.getElem?_eq_some_iff.mp hsi).1
   refine cS ?_
   refine⟨_,rfl,.inr (.inl ⟨sa,_,2,_,rfl,rfl,sm.tup (s1.tup qs),rfl,hDl,aZ (by simp;omega),hD,sm.put hD,aD,?_,_,rfl⟩)⟩
   rw[bA hsi];simp
  ·rintro D r σ' H2 ⟨hD,sm,hDl,rfl,_⟩
   rw[eyl,List.take_length] at hDl
   refine⟨D,_,rfl,.inl ⟨bM.of hDl,fun d hd=>⟨(show 3≤sizeLine by decide),fun r hr'=>?_⟩⟩⟩
   have m1:aK H2 (upd H2 d (.tup ((net.sps.map (·.2.2)).map V.bl))):=aK.new hd
   have m2:aK (upd H2 d (.tup ((net.sps.map (·.2.2)).map V.bl))) (upd (upd H2 d (.tup ((net.sps.map (·.2.2)).map V.bl))) r (.tup [.ref e,.ref e,.ref d])):=aK.new hr'
   refine k _ _ (((s1.trans sm).trans m1).trans m2) (st_of (bT.of aD) ?_ ?_ (m2.tup (bT.of aD)))
   ·exact m2.tup (m1.tup (sm.tup qe))
   ·exact m2.tup (m1.tup (sm.tup qe))
end
end Tw
namespace Tw
end Tw
namespace Tw
open PySem L2
theorem depth_map {α:Type} (f:α→L2.D) (hf:∀ a,(f a).depth=0):∀ l:List α,bX (l.map f)=0
 | []=>by rw[List.map_nil,bX]
 | a::r=>by rw[List.map_cons,bX,hf,depth_map f hf r];rfl
theorem depth_int (i:Int):(L2.D.int i).depth=0:=by rw[L2.D.depth] <;> intros <;> (first | rfl | (intro z;cases z) | (rename_i z;cases z))
theorem depth_bl (i:Bool):(L2.D.bl i).depth=0:=by rw[L2.D.depth] <;> intros <;> (first | rfl | (intro z;cases z) | (rename_i z;cases z))
theorem depth_st (held coming:List Int) (doors:List Bool):bX [.tup (held.map L2.D.int),.tup (coming.map L2.D.int),.tup (doors.map L2.D.bl)]=1:=by
 simp only [bX,L2.D.depth,depth_map _ depth_int,depth_map _ depth_bl];rfl
theorem kit_tt (K:PySem.W.Frag):PySem.W.kitOne K (.type "tuple") (.type "tuple")=some true:=by
 unfold PySem.W.kitOne;rw[if_pos (by decide +kernel)]
theorem kit_bb (K:PySem.W.Frag):PySem.W.kitOne K (.type "bool") (.type "bool")=some true:=by
 unfold PySem.W.kitOne;rw[if_pos (by decide +kernel)]
theorem kit_ib (K:PySem.W.Frag):PySem.W.kitOne K (.type "int") (.type "bool")=some false:=by
 unfold PySem.W.kitOne
 rw[if_neg (by decide +kernel)]
 show (if PySem.W.kitMeta "bool" = true then PySem.W.subIn K (.type "int") (.type "bool") else none)=some false
 rw[if_pos (by decide +kernel)]
 show (PySem.fastBuiltinMro "int").map (·.contains (.type "bool"))=some false
 decide +kernel
theorem all_true (n:Nat):(List.replicate n true).all id=true:=by
 rw[List.all_eq_true];intro x hx;rw[List.eq_of_mem_replicate hx];rfl
section
variable {P:Program}{w:World}{K:PySem.W.Frag}{mg:Str→Option Value}{base:Heap}
noncomputable def spLaw (K:PySem.W.Frag):Sp:=fun vs H Q _=>∃ (a:Addr) (ns:List Int),vs=[.ref a]∧bM K H a (ns.map V.int)∧ns.length≤63∧∀ H',Q (.bl true) H'
end
end Tw
namespace L2
open PySem PySem.Spec PyProof.Rows TwZ
section
variable {X:Cx}{K:PySem.W.Frag}
theorem eG {x:Str}{v:V}{pos:Pos} (hg:Gl X x) (h:∃ u,X.mg x=some u∧bO v u) (hd:(x == ("__debug__" : Str))=false:=by decide):PE X (.Name x pos) (tC v):=by
 obtain⟨u,e,r⟩:=h
 exact pe_glob hg e r hd
theorem op_inK (hK:X.K=K):OpR X (compareOp .In) (rIn K false):=by subst hK;exact op_in_seq
end
theorem iteD {c A B:Prop} [Decidable c] (hc:c) (h:A):if decide c=true then A else B:=by
 rw[if_pos (decide_eq_true hc)];exact h
end L2
namespace Tw
open PySem L2
structure TxtN (K:PySem.W.Frag) (mg:Str→Option Value) (aw:Addr):Prop where
 g_MOST_VESSELS:∃ u,mg "MOST_VESSELS" = some u∧bO (.int 12) u
 g_MOST_SPOUTS:∃ u,mg "MOST_SPOUTS" = some u∧bO (.int 12) u
 g_MOST_SIZE:∃ u,mg "MOST_SIZE" = some u∧bO (.int 60) u
 g_MOST_BRIM:∃ u,mg "MOST_BRIM" = some u∧bO (.int 200) u
 g_MOST_OUTS:∃ u,mg "MOST_OUTS" = some u∧bO (.int 3) u
 g_MOST_PARTS:∃ u,mg "MOST_PARTS" = some u∧bO (.int 60) u
 g_MOST_ACTS:∃ u,mg "MOST_ACTS" = some u∧bO (.int 3) u
 g_MOST_FLOW:∃ u,mg "MOST_FLOW" = some u∧bO (.int 60) u
 g_ACT_WORDS:∃ u,mg "ACT_WORDS" = some u∧bO (.ref aw) u
 words:∀ H,bT K H aw [.str "open",.str "shut",.str "turn"]
theorem kit_ii (K:PySem.W.Frag):PySem.W.kitOne K (.type "int") (.type "int")=some true:=by
 unfold PySem.W.kitOne;rw[if_pos (by decide +kernel)]
section
variable {P:Program}{w:World}{K:PySem.W.Frag}{mg:Str→Option Value}{base:Heap}{aw:Addr}
noncomputable def spTupN (K:PySem.W.Frag):Sp:=fun vs H Q _=>∃ (a:Addr) (xs:List V) (lo hi:Int),vs=[.ref a,.int lo,.int hi]∧bT K H a xs∧lo≤(xs.length:Int)∧(xs.length:Int)≤hi∧Q (.bl true) H
noncomputable def spWhole:Sp:=fun vs H Q _=>∃ (n lo hi:Int),vs=[.int n,.int lo,.int hi]∧lo≤n∧n≤hi∧Q (.bl true) H
noncomputable def spIsOut (K:PySem.W.Frag):Sp:=fun vs H Q _=>∃ (a:Addr) (n:Nat) (o:Option Int×Int),vs=[.ref a,.int (n:Int)]∧bT K H a [tgV o.1,.int o.2]∧OutOk n o∧Q (.bl true) H
noncomputable def spIsAct (K:PySem.W.Frag):Sp:=fun vs H Q _=>∃ (a:Addr) (m:Nat) (c:Str×Int),vs=[.ref a,.int (m:Int)]∧bT K H a [.str c.1,.int c.2]∧ActOk m c∧Q (.bl true) H
noncomputable def spIsSpout (K:PySem.W.Frag):Sp:=fun vs H Q _=>∃ (a:Addr) (n:Nat) (s:Spt),vs=[.ref a,.int (n:Int)]∧bT K H a [.int s.1,.int s.2.1,.bl s.2.2]∧(0≤s.1∧s.1 < n)∧(0≤s.2.1∧s.2.1≤60)∧Q (.bl true) H
noncomputable def spIsVessel (K:PySem.W.Frag):Sp:=fun vs H Q _=>∃ (x:V) (i n m:Nat) (v:Vs),vs=[x,.int (i:Int),.int (n:Int),.int (m:Int)]∧Is K H (vsD v) x∧VOk n m v∧VFull i v∧∀ H',aK H H'→Q (.bl true) H'
noncomputable def spIsNet (K:PySem.W.Frag):Sp:=fun vs H Q _=>∃ (x:V) (net:Net),vs=[x]∧Is K H (netD net) x∧NetOk net∧NetFull net∧∀ H',aK H H'→Q (.bl true) H'
theorem sc_is_tuple:FnScope ["thing","least","most"] ["thing","least","most"] (aL (top 40)):=⟨rfl,rfl,rfl,by decide +kernel,rfl,by decide +kernel,by decide +kernel⟩
theorem ok_is_tuple {f:Addr}{fd:FuncData} (F:Fun K "is_tuple" "is_tuple" (top 40) f fd) (T:Txt mg):FnOk P w K mg base CX0 1 f fd ["thing","least","most"] (spTupN K):=by
 refine F.ok sc_is_tuple (fun vs H Q E h=>?_) (fun cdv A outer s H vs Q E hr h=>?_)
 ·obtain⟨a,xs,lo,hi,rfl,_⟩:=h;rfl
 ·obtain⟨a,xs,lo,hi,rfl,q,h1,h2,k⟩:=h
  have sc:=sc_is_tuple
  refine⟨_,(aO (aX (dZ (aS (eK (K:=K) rfl) rfl T.b_isinstance fA (aA (pv 0) (aA (pe_bltn (v:=.ty "tuple") rfl T.b_tuple cJ rfl) aE))) (eS (pe_chain op_le op_le (pv 1) (aS (bK (K:=K) rfl) rfl T.b_len PySem.boot_len (aA (pv 0) aE)) (pv 2)))))),?_⟩
  refine⟨_,rfl,_,"tuple",_,true,rfl,.inr ⟨a,xs,rfl,q,rfl⟩,kit_tt K,_,rfl,eT ?_⟩
  refine⟨_,rfl,_,rfl,a,xs,rfl,.inr q,_,_,rfl,rfl,_,rfl,iteD h1 ⟨_,rfl,_,_,rfl,rfl,?_⟩⟩
  show Q (.bl (decide _)) H
  rw[decide_eq_true h2];exact k
theorem sc_is_whole:FnScope ["thing","least","most"] ["thing","least","most"] (aL (top 41)):=⟨rfl,rfl,rfl,by decide +kernel,rfl,by decide +kernel,by decide +kernel⟩
theorem ok_is_whole {f:Addr}{fd:FuncData} (F:Fun K "is_whole" "is_whole" (top 41) f fd) (T:Txt mg):FnOk P w K mg base CX0 1 f fd ["thing","least","most"] spWhole:=by
 refine F.ok sc_is_whole (fun vs H Q E h=>?_) (fun cdv A outer s H vs Q E hr h=>?_)
 ·obtain⟨n,lo,hi,rfl,_⟩:=h;rfl
 ·obtain⟨n,lo,hi,rfl,h1,h2,k⟩:=h
  have sc:=sc_is_whole
  refine⟨_,(aO (aX (dZ (aS (eK (K:=K) rfl) rfl T.b_isinstance fA (aA (pv 0) (aA (pe_bltn (v:=.ty "int") rfl T.b_int bt_int rfl) aE))) (dZ (pe_not (aS (eK (K:=K) rfl) rfl T.b_isinstance fA (aA (pv 0) (aA (pe_bltn (v:=.ty "bool") rfl T.b_bool bt_bool rfl) aE)))) (eS (pe_chain op_le op_le (pv 1) (pv 0) (pv 2))))))),?_⟩
  refine⟨_,rfl,_,"int",_,true,rfl,.inl (.int _),kit_ii K,_,rfl,eT ?_⟩
  refine⟨_,rfl,_,"bool",_,false,rfl,.inl (.int _),kit_ib K,_,rfl,_,rfl,eT ?_⟩
  refine⟨_,rfl,_,rfl,_,_,rfl,rfl,_,rfl,iteD h1 ⟨_,rfl,_,_,rfl,rfl,?_⟩⟩
  show Q (.bl (decide _)) H
  rw[decide_eq_true h2];exact k
theorem sc_is_out:FnScope ["thing","vessel_count","target","parts"] ["thing","vessel_count"] (aL (top 36)):=⟨rfl,rfl,rfl,by decide +kernel,rfl,by decide +kernel,by decide +kernel⟩
theorem ok_is_out {f f1 f2:Addr}{fd fd1 fd2:FuncData} (F:Fun K "is_out" "is_out" (top 36) f fd) (T:Txt mg) (U:TxtN K mg aw) (G_is_tuple:Callee P w K mg base "is_tuple" ["thing","least","most"] 1 (spTupN K) f1 fd1)
  (G_is_whole:Callee P w K mg base "is_whole" ["thing","least","most"] 1 spWhole f2 fd2):FnOk P w K mg base CX0 2 f fd ["thing","vessel_count"] (spIsOut K):=by
 refine F.ok sc_is_out (fun vs H Q E h=>?_) (fun cdv A outer s H vs Q E hr h=>?_)
 ·obtain⟨a,n,o,rfl,_⟩:=h;rfl
 ·obtain⟨a,n,o,rfl,q,ok,k⟩:=h
  have sc:=sc_is_out
  refine⟨_,(aF (cF (dL (cU (cQ G_is_tuple hr (aA (pv 0) (aA aG (aA aG aE)))))) (aO (aX eL)) bH)
   (aF (cB (pv 0) (bF (K:=K) (n:=2) rfl rfl (aH (aJ (i:=2) sc.nd rfl (Or.inl rfl)) (aH (aJ (i:=3) sc.nd rfl (Or.inl rfl)) bD))))
   (aO (aX (dZ (pe_or (pe_cmpR op_isN (pv 2) eO (bW _)) (eS (cQ G_is_whole hr (aA (pv 2) (aA aG (aA (b0 dN (pv 1) aG) aE)))))) (eS (cQ G_is_whole hr (aA (pv 3) (aA aG (aA (eG rfl U.g_MOST_PARTS) aE)))))))))),?_⟩
  refine⟨_,rfl,a,_,2,2,rfl,q,(show (2:Int)≤2 by decide),(show (2:Int)≤2 by decide),_,rfl,dU ?_⟩
  refine⟨_,rfl,a,_,rfl,q,rfl,_,_,rfl,_,_,rfl,rfl,?_⟩
  obtain⟨tg,pa⟩:=o
  cases tg with
  | none=>
   refine⟨_,rfl,rfl,_,rfl,iteD rfl ⟨_,rfl,eT ?_⟩⟩
   exact⟨_,rfl,pa,1,60,rfl,ok.lo,ok.hi,k⟩
  | some i=>
   have hi:=ok.tg i rfl
   refine⟨_,rfl,rfl,_,rfl,dU ⟨_,rfl,_,rfl,_,_,rfl,rfl,i,0,_,rfl,hi.1,by omega,_,rfl,eT ?_⟩⟩
   exact⟨_,rfl,pa,1,60,rfl,ok.lo,ok.hi,k⟩
theorem sc_is_act:FnScope ["thing","spout_count","word","spout"] ["thing","spout_count"] (aL (top 37)):=⟨rfl,rfl,rfl,by decide +kernel,rfl,by decide +kernel,by decide +kernel⟩
theorem ok_is_act {f f1 f2:Addr}{fd fd1 fd2:FuncData} (F:Fun K "is_act" "is_act" (top 37) f fd) (T:Txt mg) (U:TxtN K mg aw) (G_is_tuple:Callee P w K mg base "is_tuple" ["thing","least","most"] 1 (spTupN K) f1 fd1)
  (G_is_whole:Callee P w K mg base "is_whole" ["thing","least","most"] 1 spWhole f2 fd2):FnOk P w K mg base CX0 2 f fd ["thing","spout_count"] (spIsAct K):=by
 refine F.ok sc_is_act (fun vs H Q E h=>?_) (fun cdv A outer s H vs Q E hr h=>?_)
 ·obtain⟨a,m,c,rfl,_⟩:=h;rfl
 ·obtain⟨a,m,c,rfl,q,ok,k⟩:=h
  have sc:=sc_is_act
  refine⟨_,(aF (cF (dL (cU (cQ G_is_tuple hr (aA (pv 0) (aA aG (aA aG aE)))))) (aO (aX eL)) bH)
   (aF (cB (pv 0) (bF (K:=K) (n:=2) rfl rfl (aH (aJ (i:=2) sc.nd rfl (Or.inl rfl)) (aH (aJ (i:=3) sc.nd rfl (Or.inl rfl)) bD))))
   (aO (aX (dZ (pe_cmpR (op_inK (K:=K) rfl) (pv 2) (eG rfl U.g_ACT_WORDS) (by rfl)) (eS (cQ G_is_whole hr (aA (pv 3) (aA aG (aA (b0 dN (pv 1) aG) aE)))))))))),?_⟩
  refine⟨_,rfl,a,_,2,2,rfl,q,(show (2:Int)≤2 by decide),(show (2:Int)≤2 by decide),_,rfl,dU ?_⟩
  refine⟨_,rfl,a,_,rfl,q,rfl,_,_,rfl,_,_,rfl,rfl,?_⟩
  have hin:inV (.str c.1) [.str "open",.str "shut",.str "turn"]=true:=by
   rcases ok.word with e | e | e <;> rw[e] <;> decide +kernel
  refine⟨_,rfl,aw,_,rfl,.inr (U.words _),rfl,rfl,_,rfl,?_⟩
  rw[show (if false=true then !inV (V.str c.1) [.str "open",.str "shut",.str "turn"] else inV (V.str c.1) [.str "open",.str "shut",.str "turn"])=true from hin]
  refine eT ?_
  exact⟨_,rfl,_,rfl,_,_,rfl,rfl,c.2,0,_,rfl,ok.lo,by have:=ok.hi;omega,k⟩
theorem sc_is_spout:FnScope ["thing","vessel_count","target","flow","door"] ["thing","vessel_count"] (aL (top 38)):=⟨rfl,rfl,rfl,by decide +kernel,rfl,by decide +kernel,by decide +kernel⟩
theorem ok_is_spout {f f1 f2:Addr}{fd fd1 fd2:FuncData} (F:Fun K "is_spout" "is_spout" (top 38) f fd) (T:Txt mg) (U:TxtN K mg aw) (G_is_tuple:Callee P w K mg base "is_tuple" ["thing","least","most"] 1 (spTupN K) f1 fd1)
  (G_is_whole:Callee P w K mg base "is_whole" ["thing","least","most"] 1 spWhole f2 fd2):FnOk P w K mg base CX0 2 f fd ["thing","vessel_count"] (spIsSpout K):=by
 refine F.ok sc_is_spout (fun vs H Q E h=>?_) (fun cdv A outer s H vs Q E hr h=>?_)
 ·obtain⟨a,n,s,rfl,_⟩:=h;rfl
 ·obtain⟨a,n,s,rfl,q,ok1,ok2,k⟩:=h
  have sc:=sc_is_spout
  refine⟨_,(aF (cF (dL (cU (cQ G_is_tuple hr (aA (pv 0) (aA aG (aA aG aE)))))) (aO (aX eL)) bH)
   (aF (cB (pv 0) (bF (K:=K) (n:=3) rfl rfl (aH (aJ (i:=2) sc.nd rfl (Or.inl rfl)) (aH (aJ (i:=3) sc.nd rfl (Or.inl rfl)) (aH (aJ (i:=4) sc.nd rfl (Or.inl rfl)) bD)))))
   (aO (aX (dZ (cQ G_is_whole hr (aA (pv 2) (aA aG (aA (b0 dN (pv 1) aG) aE)))) (dZ (cQ G_is_whole hr (aA (pv 3) (aA aG (aA (eG rfl U.g_MOST_FLOW) aE)))) (eS (aS (eK (K:=K) rfl) rfl T.b_isinstance fA (aA (pv 4) (aA (pe_bltn (v:=.ty "bool") rfl T.b_bool bt_bool rfl) aE)))))))))),?_⟩
  refine⟨_,rfl,a,_,3,3,rfl,q,(show (3:Int)≤3 by decide),(show (3:Int)≤3 by decide),_,rfl,dU ?_⟩
  refine⟨_,rfl,a,_,rfl,q,rfl,_,_,rfl,_,_,rfl,_,_,rfl,rfl,?_⟩
  refine⟨_,rfl,_,rfl,_,_,rfl,rfl,s.1,0,_,rfl,ok1.1,by omega,_,rfl,eT ?_⟩
  refine⟨_,rfl,s.2.1,0,60,rfl,ok2.1,ok2.2,_,rfl,eT ?_⟩
  exact⟨_,rfl,_,"bool",_,true,rfl,.inl (.bl _),kit_bb K,k⟩
theorem sc_is_vessel:FnScope ["thing","number","vessel_count","spout_count","size","brim","outs","holds","spill","acts"] ["thing","number","vessel_count","spout_count"] (aL (top 35)):=⟨rfl,rfl,rfl,by decide +kernel,rfl,by decide +kernel,by decide +kernel⟩
theorem ok_is_vessel {f f1 f2 f3 f4:Addr}{fd fd1 fd2 fd3 fd4:FuncData} (F:Fun K "is_vessel" "is_vessel" (top 35) f fd) (T:Txt mg) (U:TxtN K mg aw) (G_is_tuple:Callee P w K mg base "is_tuple" ["thing","least","most"] 1 (spTupN K) f1 fd1)
  (G_is_whole:Callee P w K mg base "is_whole" ["thing","least","most"] 1 spWhole f2 fd2) (G_is_out:Callee P w K mg base "is_out" ["thing","vessel_count"] 2 (spIsOut K) f3 fd3) (G_is_act:Callee P w K mg base "is_act" ["thing","spout_count"] 2 (spIsAct K) f4 fd4) :
  FnOk P w K mg base CX0 3 f fd ["thing","number","vessel_count","spout_count"] (spIsVessel K):=by
 refine F.ok sc_is_vessel (fun vs H Q E h=>?_) (fun cdv A outer s H vs Q E hr h=>?_)
 ·obtain⟨x,i,n,m,v,rfl,_⟩:=h;rfl
 ·obtain⟨x,i,n,m,v,rfl,hx,ok,fu,k⟩:=h
  have sc:=sc_is_vessel
  refine⟨_,(aF (cF (dL (cU (cQ G_is_tuple hr (aA (pv 0) (aA aG (aA aG aE)))))) (aO (aX eL)) bH)
   (aF (cB (pv 0) (bF (K:=K) (n:=6) rfl rfl (aH (aJ (i:=4) sc.nd rfl (Or.inl rfl)) (aH (aJ (i:=5) sc.nd rfl (Or.inl rfl)) (aH (aJ (i:=6) sc.nd rfl (Or.inl rfl)) (aH (aJ (i:=7) sc.nd rfl (Or.inl rfl)) (aH (aJ (i:=8) sc.nd rfl (Or.inl rfl)) (aH (aJ (i:=9) sc.nd rfl (Or.inl rfl)) bD))))))))
   (aF (cF (PW.pt (pw_or (dL (cU (cQ G_is_whole hr (aA (pv 4) (aA aG (aA (eG rfl U.g_MOST_SIZE) aE)))))) (pw_or1 (dL (cU (cQ G_is_whole hr (aA (pv 5) (aA (pv 4) (aA (eG rfl U.g_MOST_BRIM) aE))))))))) (aO (aX eL)) bH)
   (aF (cF (PW.pt (pw_or (dL (cU (cQ G_is_tuple hr (aA (pv 6) (aA aG (aA (eG rfl U.g_MOST_OUTS) aE)))))) (pw_or1 (dL (cU (cQ G_is_tuple hr (aA (pv 9) (aA aG (aA (eG rfl U.g_MOST_ACTS) aE))))))))) (aO (aX eL)) bH)
   (aO (aX (dZ (aS (call_allK (K:=K) rfl rfl) rfl T.b_all PyProof.Rows.boot_all (aA (pe_lc (fun _ _ h=>h) rfl (LcOk.mk (N':=["out","vessel_count"]) (fr:=[none,some 2]) rfl ⟨rfl,trivial⟩ rfl rfl rfl rfl rfl ⟨⟨_,rfl,rfl,rfl,rfl⟩,trivial⟩) (dD (K:=K) rfl (pv 6)) (fun _ _ _=>(aJ (i:=0) (show (["out","vessel_count"]:List Str).Nodup by decide +kernel) rfl (Or.inl rfl) (Or.inr rfl))) (fun _ _ _=>cP) (fun _ _ _=>(cQ G_is_out hr (aA (pv 0) (aA (pv 1) aE))))) aE)) (dZ (aS (eK (K:=K) rfl) rfl T.b_isinstance fA (aA (pv 7) (aA (pe_bltn (v:=.ty "bool") rfl T.b_bool bt_bool rfl) aE))) (dZ (pe_or (pe_cmpR op_isN (pv 8) eO (bW _)) (eS (cQ G_is_whole hr (aA (pv 8) (aA (b0 cO (pv 1) aG) (aA (b0 dN (pv 2) aG) aE)))))) (eS (aS (call_allK (K:=K) rfl rfl) rfl T.b_all PyProof.Rows.boot_all (aA (pe_lc (fun _ _ h=>h) rfl (LcOk.mk (N':=["act","spout_count"]) (fr:=[none,some 3]) rfl ⟨rfl,trivial⟩ rfl rfl rfl rfl rfl ⟨⟨_,rfl,rfl,rfl,rfl⟩,trivial⟩) (dD (K:=K) rfl (pv 9)) (fun _ _ _=>(aJ (i:=0) (show (["act","spout_count"]:List Str).Nodup by decide +kernel) rfl (Or.inl rfl) (Or.inr rfl))) (fun _ _ _=>cP) (fun _ _ _=>(cQ G_is_act hr (aA (pv 0) (aA (pv 1) aE))))) aE)))))))))))),?_⟩
  obtain⟨va,o,cc,rfl,qv,ho,hc⟩:=vs_un hx
  obtain⟨oa,os,rfl,qo,lo⟩:=ho.un
  obtain⟨ca,cs,rfl,qc,lc⟩:=hc.un
  have eol:os.length=v.outs.length:=by rw[lo.length,List.length_map]
  have ecl:cs.length=v.acts.length:=by rw[lc.length,List.length_map]
  have ne1:1≤v.outs.length:=by
   rcases Nat.eq_zero_or_pos v.outs.length with e | e
   ·exact absurd (List.eq_nil_of_length_eq_zero e) ok.ne
   ·exact e
  have o3:=ok.o3
  have a3:=ok.a3
  refine⟨_,rfl,va,_,6,6,rfl,qv,(show (6:Int)≤6 by decide),(show (6:Int)≤6 by decide),_,rfl,dU ?_⟩
  refine⟨_,rfl,va,_,rfl,qv,rfl,_,_,rfl,_,_,rfl,_,_,rfl,_,_,rfl,_,_,rfl,_,_,rfl,rfl,?_⟩
  refine⟨_,rfl,v.size,1,60,rfl,ok.size,fu.sz,_,rfl,dU ?_⟩
  refine⟨_,rfl,_,rfl,v.brim,v.size,200,rfl,fu.br,fu.bh,_,rfl,dU ?_⟩
  refine⟨_,rfl,oa,_,1,3,rfl,qo,by omega,by omega,_,rfl,dU ?_⟩
  refine⟨_,rfl,ca,_,0,3,rfl,qc,by omega,by omega,_,rfl,dU ?_⟩
  refine⟨_,rfl,oa,rfl,⟨_,qo⟩,lc_tup (K:=K) (a:=oa) (xs:=os) (fun D i r σ' H'=>H D=none∧aK H H'∧H' D=some (.lst r)∧r=(List.replicate i true).map V.bl∧∃ u,σ'=[u,some (.int (n:Int))])
   (fun D i r σ' H' p=>p.2.1.tup qo) (fun D hD=>⟨hD,aK.new hD,aD,rfl,none,rfl⟩) ?_ ?_⟩
  rotate_left
  ·rintro D j y r σ' H2 hy ⟨hD,sm,hDl,rfl,u,rfl⟩
   obtain⟨ot,hot,oad,rfl,qot⟩:=outs_at lo hy
   have hjl:=(List.getElem?_eq_some_iff.mp hot).1
   refine cS ?_
   refine⟨_,rfl,_,rfl,oad,n,ot,rfl,sm.tup qot,ok.outs _ (List.mem_of_getElem? hot),hDl,aZ (by simp;omega),hD,sm.put hD,aD,?_,_,rfl⟩
   rw[List.replicate_succ',List.map_append];rfl
  rintro D r σ' H2 ⟨hD,sm2,hDl,rfl,_⟩
  refine⟨false,D,_,rfl,bM.of hDl,_,rfl,?_⟩
  rw[all_true]
  refine eT ?_
  refine⟨_,rfl,_,"bool",_,true,rfl,.inl (.bl _),kit_bb K,_,rfl,eT ?_⟩
  cases hsp:v.spill with
  | none=>
   rw[hsp] at qv
   refine⟨_,rfl,rfl,_,rfl,iteD rfl ⟨_,rfl,eT ?_⟩⟩
   refine⟨_,rfl,ca,rfl,⟨_,sm2.tup qc⟩,lc_tup (K:=K) (a:=ca) (xs:=cs) (fun D i r σ' H'=>H2 D=none∧aK H2 H'∧H' D=some (.lst r)∧r=(List.replicate i true).map V.bl∧∃ u,σ'=[u,some (.int (m:Int))])
    (fun D i r σ' H' p=>p.2.1.tup (sm2.tup qc)) (fun D hD=>⟨hD,aK.new hD,aD,rfl,none,rfl⟩) ?_ ?_⟩
   rotate_left
   ·rintro D j y r σ' H3 hy ⟨hD,sm,hDl,rfl,u,rfl⟩
    obtain⟨at',hat,aa,rfl,qa⟩:=acts_at lc hy
    have hjl:=(List.getElem?_eq_some_iff.mp hat).1
    refine cS ?_
    refine⟨_,rfl,_,rfl,aa,m,at',rfl,sm.tup (sm2.tup qa),ok.acts _ (List.mem_of_getElem? hat),hDl,aZ (by simp;omega),hD,sm.put hD,aD,?_,_,rfl⟩
    rw[List.replicate_succ',List.map_append];rfl
   rintro D r σ' H3 ⟨hD,sm3,hDl,rfl,_⟩
   refine⟨false,D,_,rfl,bM.of hDl,?_⟩
   rw[all_true]
   exact k _ (sm2.trans sm3)
  | some t=>
   have h1:=ok.spill t hsp
   have h2:=fu.sp t hsp
   rw[hsp] at qv
   refine⟨_,rfl,rfl,_,rfl,dU ⟨_,rfl,_,rfl,_,_,rfl,rfl,_,rfl,_,_,rfl,rfl,t,_,_,rfl,by omega,by omega,_,rfl,eT ?_⟩⟩
   refine⟨_,rfl,ca,rfl,⟨_,sm2.tup qc⟩,lc_tup (K:=K) (a:=ca) (xs:=cs) (fun D i r σ' H'=>H2 D=none∧aK H2 H'∧H' D=some (.lst r)∧r=(List.replicate i true).map V.bl∧∃ u,σ'=[u,some (.int (m:Int))])
    (fun D i r σ' H' p=>p.2.1.tup (sm2.tup qc)) (fun D hD=>⟨hD,aK.new hD,aD,rfl,none,rfl⟩) ?_ ?_⟩
   rotate_left
   ·rintro D j y r σ' H3 hy ⟨hD,sm,hDl,rfl,u,rfl⟩
    obtain⟨at',hat,aa,rfl,qa⟩:=acts_at lc hy
    have hjl:=(List.getElem?_eq_some_iff.mp hat).1
    refine cS ?_
    refine⟨_,rfl,_,rfl,aa,m,at',rfl,sm.tup (sm2.tup qa),ok.acts _ (List.mem_of_getElem? hat),hDl,aZ (by simp;omega),hD,sm.put hD,aD,?_,_,rfl⟩
    rw[List.replicate_succ',List.map_append];rfl
   rintro D r σ' H3 ⟨hD,sm3,hDl,rfl,_⟩
   refine⟨false,D,_,rfl,bM.of hDl,?_⟩
   rw[all_true]
   exact k _ (sm2.trans sm3)
theorem sc_is_net:FnScope ["thing","vessels","spouts","number","vessel"] ["thing"] (aL (top 34)):=⟨rfl,rfl,rfl,by decide +kernel,rfl,by decide +kernel,by decide +kernel⟩
theorem ok_is_net {f f1 f2 f3:Addr}{fd fd1 fd2 fd3:FuncData} (F:Fun K "is_net" "is_net" (top 34) f fd) (T:Txt mg) (U:TxtN K mg aw) (G_is_tuple:Callee P w K mg base "is_tuple" ["thing","least","most"] 1 (spTupN K) f1 fd1)
  (G_is_vessel:Callee P w K mg base "is_vessel" ["thing","number","vessel_count","spout_count"] 3 (spIsVessel K) f2 fd2) (G_is_spout:Callee P w K mg base "is_spout" ["thing","vessel_count"] 2 (spIsSpout K) f3 fd3):FnOk P w K mg base CX0 4 f fd ["thing"] (spIsNet K):=by
 refine F.ok sc_is_net (fun vs H Q E h=>?_) (fun cdv A outer s H vs Q E hr h=>?_)
 ·obtain⟨x,net,rfl,_⟩:=h;rfl
 ·obtain⟨x,net,rfl,hx,nok,nfu,k⟩:=h
  have sc:=sc_is_net
  refine⟨_,(aF (cF (dL (cU (cQ G_is_tuple hr (aA (pv 0) (aA aG (aA aG aE)))))) (aO (aX eL)) bH)
   (aF (cB (pv 0) (bF (K:=K) (n:=2) rfl rfl (aH (aJ (i:=1) sc.nd rfl (Or.inr rfl)) (aH (aJ (i:=2) sc.nd rfl (Or.inl rfl)) bD))))
   (aF (cF (PW.pt (pw_or (dL (cU (cQ G_is_tuple hr (aA (pv 1) (aA aG (aA (eG rfl U.g_MOST_VESSELS) aE)))))) (pw_or1 (dL (cU (cQ G_is_tuple hr (aA (pv 2) (aA aG (aA (eG rfl U.g_MOST_SPOUTS) aE))))))))) (aO (aX eL)) bH)
   (aF (dB PassesOwn.never rfl (pi_enumK (K:=K) rfl rfl T.b_enumerate (aA (pv 1) aE)) (bF (K:=K) (n:=2) rfl rfl (aH (aJ (i:=3) sc.nd rfl (Or.inl rfl)) (aH (aJ (i:=4) sc.nd rfl (Or.inl rfl)) bD))) (aO (cF (dL (cU (cQ G_is_vessel hr (aA (pv 4) (aA (pv 3) (aA (aS (bK (K:=K) rfl) rfl T.b_len PySem.boot_len (aA (pv 1) aE)) (aA (aS (bK (K:=K) rfl) rfl T.b_len PySem.boot_len (aA (pv 2) aE)) aE))))))) (aO (aX eL)) bH)))
   (aO (aX (aS (call_allK (K:=K) rfl rfl) rfl T.b_all PyProof.Rows.boot_all (aA (pe_lc (fun _ _ h=>h) rfl (LcOk.mk (N':=["spout","vessels"]) (fr:=[none,some 1]) rfl ⟨rfl,trivial⟩ rfl rfl rfl rfl rfl ⟨⟨_,rfl,rfl,rfl,rfl⟩,trivial⟩) (dD (K:=K) rfl (pv 2)) (fun _ _ _=>(aJ (i:=0) (show (["spout","vessels"]:List Str).Nodup by decide +kernel) rfl (Or.inl rfl) (Or.inr rfl))) (fun _ _ _=>cP) (fun _ _ _=>(cQ G_is_spout hr (aA (pv 0) (aA (aS (bK (K:=K) rfl) rfl T.b_len PySem.boot_len (aA (pv 1) aE)) aE))))) aE)))))))),?_⟩
  obtain⟨a,b,c,xs,ys,rfl,q,q1,l1,q2,l2⟩:=net_un hx
  have exl:xs.length=net.vs.length:=by rw[l1.length,List.length_map]
  have eyl:ys.length=net.sps.length:=by rw[l2.length,List.length_map]
  have n1:=nok.lo
  have n2:=nok.hi
  have n3:=nok.sp
  refine⟨_,rfl,a,_,2,2,rfl,q,(show (2:Int)≤2 by decide),(show (2:Int)≤2 by decide),_,rfl,dU ?_⟩
  refine⟨_,rfl,a,_,rfl,q,rfl,_,_,rfl,_,_,rfl,rfl,?_⟩
  refine⟨_,rfl,b,_,1,12,rfl,q1,by omega,by omega,_,rfl,dU ?_⟩
  refine⟨_,rfl,c,_,0,12,rfl,q2,by omega,by omega,_,rfl,dU ?_⟩
  refine⟨_,rfl,true,b,rfl,⟨_,q1⟩,for_enum (K:=K) (t:=true) (a:=b) (xs:=xs) (fun i σ' H'=>aK H H'∧∃ v3 v4,σ'=[some (.ref a),some (.ref b),some (.ref c),v3,v4])
   (fun i σ' H' p=>p.1.tup q1) ⟨fun _ _ h=>h,none,none,rfl⟩ ?_ ?_⟩
  rotate_left
  ·rintro i y σ' H2 Tt hy ⟨sm,v3,v4,rfl⟩ hT
   obtain⟨d,hd,iy⟩:=l1.get' hy
   rw[List.getElem?_map] at hd
   obtain⟨v,hv,rfl⟩:=Option.map_eq_some_iff.mp hd
   have smT:=aK.new (o:=HO.tup [.int (i:Int),y]) hT
   have sm3:=sm.trans smT
   refine⟨Tt,_,rfl,bT.of aD,rfl,_,_,rfl,_,_,rfl,rfl,?_⟩
   refine⟨_,rfl,_,rfl,_,rfl,b,xs,rfl,.inr (sm3.tup q1),_,rfl,c,ys,rfl,.inr (sm3.tup q2),y,i,net.vs.length,net.sps.length,v,by rw[exl,eyl];rfl,Is.mono sm3.ts _ _ iy,nok.vs v (List.mem_of_getElem? hv),nfu.vs i v hv,fun H4 sm4=>⟨_,rfl,dU ?_⟩⟩
   exact⟨sm3.trans sm4,_,_,rfl⟩
  rintro σ' H2 ⟨sm2,v3,v4,rfl⟩
  refine⟨_,rfl,c,rfl,⟨_,sm2.tup q2⟩,lc_tup (K:=K) (a:=c) (xs:=ys) (fun D i r σ' H'=>H2 D=none∧aK H2 H'∧H' D=some (.lst r)∧r=(List.replicate i true).map V.bl∧∃ u,σ'=[u,some (.ref b)])
   (fun D i r σ' H' p=>p.2.1.tup (sm2.tup q2)) (fun D hD=>⟨hD,aK.new hD,aD,rfl,none,rfl⟩) ?_ ?_⟩
  rotate_left
  ·rintro D j y r σ' H3 hy ⟨hD,sm,hDl,rfl,u,rfl⟩
   obtain⟨sp,hsi,sa,rfl,qs⟩:=sps_at l2 hy
   have hjl:=(List.getElem?_eq_some_iff.mp hsi).1
   have hm:=List.mem_of_getElem? hsi
   refine cS ?_
   refine⟨_,rfl,_,rfl,b,xs,rfl,.inr (sm.tup (sm2.tup q1)),sa,net.vs.length,sp,by rw[exl];rfl,sm.tup (sm2.tup qs),nok.sps sp hm,nfu.sps sp hm,hDl,aZ (by simp;omega),hD,sm.put hD,aD,?_,_,rfl⟩
   rw[List.replicate_succ',List.map_append];rfl
  rintro D r σ' H3 ⟨hD,sm3,hDl,rfl,_⟩
  refine⟨false,D,_,rfl,bM.of hDl,?_⟩
  rw[all_true]
  exact k _ (sm2.trans sm3)
end
end Tw
namespace L2
open PySem PySem.Spec PyProof.Rows
noncomputable def gLst (K:PySem.W.Frag) (n:Nat) (t:TGs):TG:=fun v σ H Q=>∃ a xs,v=.ref a∧bM K H a xs∧xs.length=n∧t xs σ H Q
theorem pg_lst {X:Cx}{pos:Pos}{es:List Expr}{k:Nat}{t:TGs}{n:Nat} (hc:X.calm=true) (h:PGs X es t)
  (hn:(assignEach es X.env).length=n:=by rfl) (hst:(assignEach es X.env).findIdx? (·.1)=none:=by rfl):PG X (.Tuple es k pos) (gLst X.K n t):=by
 intro pins s σ H v u Q I r hw
 obtain⟨a,xs,e1,hq,hl,hw⟩:=hw
 subst e1
 cases r
 obtain⟨its,rv,ht,hz⟩:=I.list hq
 rw[assign_Tuple]
 refine wpAny_bind (wpAny_standAt ?_)
 unfold unpack
 have e:(assignEach es X.env).length=its.toArray.size:=by simp [hn,← hl,rv.length]
 rw[e,hst]
 refine wpAny_bind (wpAny_holding (PySem.W.kun_itemsOf (I.ok.hd hc) ht.isList fun h' hx=>?_))
 have I1:Inv X pins σ H { s with heap:=h' }:=I.kept (t':=s.toks) fun b o e=>hx b o (Nat.ne_of_lt (Heap.lt_size e)) e
 exact h pins _ σ H xs _ Q I1 (by simpa using rv) hw
theorem pg_lstK {X:Cx}{K:PySem.W.Frag}{pos:Pos}{es:List Expr}{k:Nat}{t:TGs}{n:Nat} (hK:X.K=K) (hc:X.calm=true) (h:PGs X es t)
  (hn:(assignEach es X.env).length=n:=by rfl) (hst:(assignEach es X.env).findIdx? (·.1)=none:=by rfl):PG X (.Tuple es k pos) (gLst K n t):=by
 subst hK;exact pg_lst hc h hn hst
end L2
namespace L2
open PySem PySem.Spec PyProof.Rows TwZ
section
variable {X:Cx}{K:PySem.W.Frag}
theorem ps_dead {st:Stmt}:PS X st (fun _ _ _=>False):=fun _ _ _ _ _ _ h=>h.elim
theorem cZ {e:Expr}{f:Str}{pos:Pos}{ta:TE} (hK:X.K=K) (he:PE X e ta) (hb:attributeBase e f X.env (eval e X.env)=eval e X.env):PE X (.Attribute e f pos) (tFld K ta f):=by subst hK;exact pe_fld he hb
theorem ps_fldK {o value:Expr}{f:Str}{pos pos':Pos}{ta tv:TE} (hK:X.K=K) (ha:PE X o ta) (hv:PE X value tv) (hs:swapsWith value (some (.Attribute o f pos')) pos.line X.env=pure false):PS X (.Assign [.Attribute o f pos'] value pos) (sFld K ta tv f):=by subst hK;exact ps_fld ha hv hs
theorem op_catTK (hK:X.K=K):OpR X (binaryOp .Add) (rCatT K):=by subst hK;exact op_catT
theorem tuple_mul_none (l:Addr) (items:Array Value) (n:Nat) (x:Int) (u:Tok) (dd:Option Addr) (sl:Array (Option Value)) (c0:¬ (decide (x < -(2 ^ 63)) || decide (x ≥ 2 ^ 63))=true) (c1:¬ (items.isEmpty || x == 1)=true)
  (c2:(decide (x≤0) || items.isEmpty)=true) :
  Meets (Builtin.«tuple.__mul__» ⟨[.ref l,.int x u],[]⟩) (fun _ R s=>s.heap.get? l=some { cls:=.type "tuple",dict:=dd,data:=.seq items n,slots:=sl }∧
   R (.ok (.ret (.ref s.heap.objs.size))) { s with heap:=s.heap.push { cls:=.type "tuple",data:=.seq #[] } }):=
 .of_wp fun prog w A R s h=>by
  obtain⟨hp,g,d,tk,os⟩:=s;obtain⟨hl,h⟩:=h
  wp_walk
  rw[if_neg c0]
  wp_walk
  all_goals (try rw[if_neg c1])
  wp_walk
  all_goals (try rw[if_pos c2])
  wp_walk
  exact⟨_,rfl,h⟩
noncomputable def rRepZ (K:PySem.W.Frag):R2:=fun x y H Q=>∃ (l:Addr) (k:Int) (xs:List V),x=.ref l∧y=.int k∧bT K H l xs∧0≤k∧k < 1000000∧xs≠[]∧xs.length≤10∧
 ∀ p H',aK H H'→bT K H' p (List.replicate k.toNat xs).flatten→Q (.ref p) H'
theorem op_repZ:OpR X (binaryOp .Mult) (rRepZ X.K):=by
 intro pins s σ H x y v u Q I rx ry h
 obtain⟨l,k,xs,rfl,rfl,hq,h1,h2,hne,hl10,q⟩:=h
 by_cases hk:1≤k
 ·exact op_repT pins s σ H _ _ v u Q I rx ry ⟨l,k,xs,rfl,rfl,hq,hk,h2,hne,hl10,q⟩
 ·have hk0:k=0:=by omega
  subst hk0
  cases rx
  obtain⟨t,rfl⟩:=ry
  obtain⟨its,r,ht,z⟩:=I.tuple hq
  have hlen:=r.length
  obtain⟨⟨cls,dd,data,sl⟩,e,hc,n,hd⟩:=id ht
  simp only at hc hd
  subst hc hd
  refine wpAny_binaryOp_repeat_ref (T := "tuple") (U := "int") (by decide) ⟨_,e,rfl⟩ (fun s'=>typeIs_int s' 0 t) noFill_tuple_mul F.fills_int_mul F.slot_int_rmul repeat_tuple F.slot_int_index.lookup
   (call_meets F.slot_int_rmul (typeIs_int s 0 t) F.entry_int_rmul (F.args_int_rmul_2 _ _) (int_rmul_tuple 0 t l its.toArray n dd sl) ⟨e,rfl,⟨_,e,rfl⟩,?_⟩)
  have hne':its≠[]:=fun z=>by rw[z] at hlen;exact hne (List.eq_nil_of_length_eq_zero hlen)
  have hemp:its.toArray.isEmpty=false:=by cases its with
   | nil=>exact absurd rfl hne'
   | cons a r=>rfl
  refine call_meets F.slot_tuple_mul ⟨_,e,rfl⟩ F.entry_tuple_mul (F.args_tuple_mul_2 _ _) (tuple_mul_none l its.toArray n 0 t dd sl (by decide) (by rw[hemp];decide) (by simp)) ⟨e,?_⟩
  have I1:=I.laid (a:=s.heap.objs.size) (o:=.tup []) (h':=s.heap.push { cls:=.type "tuple",data:=.seq #[] }) (t':=s.toks)
   (fun _ _ q=>Heap.get?_push_of_some _ q) (Nat.le_refl _) ⟨Nat.zero_le _,[],.nil,⟨_,Heap.get?_push_size _ rfl,rfl,0,rfl⟩⟩
  exact⟨.ref _,_,I1,rfl,q _ _ (aK.new I.fresh) (bT.of aD)⟩
theorem op_repZK (hK:X.K=K):OpR X (binaryOp .Mult) (rRepZ K):=by subst hK;exact op_repZ
end
structure MCal (P:Program) (w:World) (K:PySem.W.Frag) (mg:Str→Option Value) (base:Heap) (C:Addr) (m:Str) (ps:List Str) (k:Nat) (sp:Sp) (f:Addr) (fd:FuncData):Prop where
 cls:Cls K C
 mt:Meth K C m f
 ok:FnOk P w K mg base CX0 k f fd ps sp
 bd:Binds K fd ps []
structure MkCal (P:Program) (w:World) (K:PySem.W.Frag) (mg:Str→Option Value) (base:Heap) (C:Addr) (x:Str) (ps:List Str) (k:Nat) (sp:Sp) (f:Addr) (fd:FuncData):Prop where
 make:Mk K C f
 ok:FnOk P w K mg base CX0 k f fd ps sp
 mg:mg x=some (.ref C)
 bd:Binds K fd ps []
noncomputable def ButL (fp:List Addr) (H H':Hp):Prop:=∀ b o,b∉fp→H b=some o→H' b=some o
theorem ButL.trans {fp:List Addr}{H H1 H2:Hp} (a:ButL fp H H1) (b:ButL fp H1 H2):ButL fp H H2:=fun c o hc h=>b c o hc (a c o hc h)
theorem ButL.upd {fp:List Addr}{H:Hp}{a:Addr}{o:HO} (ha:a∈fp):ButL fp H (upd H a o):=fun b u hb h=>by
 have ne:b≠a:=fun e=>hb (by rw[e];exact ha)
 rw[aP ne];exact h
theorem ButL.ts {K:PySem.W.Frag}{fp:List Addr}{H H':Hp} (a:ButL fp H H') (hm:∀ b∈fp,Mut (H b)):bL K H H':=by
 intro b xs h
 have ne:∀ {o:HO},H b=some o→¬ Mut (some o)→b∉fp:=fun e n z=>by
  have:=hm b z;rw[e] at this;exact n this
 rcases h with (h | ⟨o,h⟩) | h
 ·exact .inl (.inl (a _ _ (ne h (fun z=>z)) h))
 ·exact .inl (.inr ⟨o,a _ _ (ne h (fun z=>z)) h⟩)
 ·exact .inr h
end L2
namespace L2
open PySem PySem.Spec PyProof.Rows TwZ
section
variable {K:PySem.W.Frag}{g:TG}{tc:TT}{te:TE}{fr:List (Option Nat)}{σ:St}{H1:Hp}{Q:Addr→Hp→Prop}
theorem lc_zip2 {t1 t2:Bool}{a1 a2:Addr}{xs ys:List V}{n:Nat} (h1:xs.length=n) (h2:ys.length=n) (Pv:Addr→Nat→List V→St→Hp→Prop)
  (hq:∀ D i r σ H,Pv D i r σ H→SqB K H t1 a1 xs∧SqB K H t2 a2 ys)
  (h0:∀ D,H1 D=none→Pv D 0 [] (frσ fr σ) (upd H1 D (.lst []))) (hstop:∀ D r σ' H',Pv D n r σ' H'→Q D H')
  (hgo:∀ D i x y r σ' H' T,xs[i]? = some x→ys[i]? = some y→Pv D i r σ' H'→H' T=none→g (.ref T) σ' (upd H' T (.tup [x,y])) fun σ3 H3=>tc σ3 H3 fun b H4=>
    if b=true then te σ3 H4 fun y H5=>H5 D=some (.lst r)∧r.length < PySem.sizeLine∧Pv D (i+1) (r++[y]) σ3 (upd H5 D (.lst (r++[y])))
    else Pv D (i+1) r σ3 H4):lcRest (Itz2 K t1 t2 a1 a2) g tc te fr σ H1 Q:=by
 refine lc_gen (n:=n) Pv h0 (fun D r σ' H' p=>?_) fun D i r σ' H' hi p=>?_
 ·obtain⟨q1,q2⟩:=hq D _ r σ' H' p
  exact⟨⟨xs,ys,q1,q2,.inl (by omega)⟩,hstop D r σ' H' p⟩
 ·obtain⟨q1,q2⟩:=hq D _ r σ' H' p
  refine⟨⟨xs,ys,xs[i]'(by omega),ys[i]'(by omega),q1,q2,by simp,by simp⟩,?_⟩
  rintro v H2 ⟨T,x,y,hT,rfl,e1,e2,rfl⟩
  exact hgo D i x y r σ' H' T (e1 xs q1) (e2 ys q2) p hT
end
end L2
namespace Tw
open PySem L2
structure Mom where
 tick:Int
 held:List Int
 coming:List Int
 doors:List Bool
 poured:List Int
 came:Int
 ground:Int
noncomputable def momD (m:Mom):L2.D:=.tup [.int m.tick,stD m.held m.coming m.doors,.tup (m.poured.map L2.D.int),.int m.came,.int m.ground]
noncomputable def dH:List Spt→List Bool→Int
 | s::ss,d::ds=>(if d=true then s.2.1 else 0)+dH ss ds
 | _,_=>0
structure MomOk (net:Net) (m:Mom):Prop where
 st:StOk net m.held m.coming m.doors
 pl:m.poured.length=net.vs.length
noncomputable def Mom.tk (net:Net) (m:Mom):Tick:=tickOf net m.held m.coming m.poured m.doors
noncomputable def Mom.step (net:Net) (m:Mom):Mom:=
 { tick:=m.tick+1,held:=(m.tk net).held,coming:=(m.tk net).coming,doors:=(m.tk net).doors,poured:=zeros net.vs.length,came:=m.came+(m.poured.sum+dH net.sps m.doors),ground:=m.ground+(m.tk net).ground }
noncomputable def Mom.pour (m:Mom) (v a:Int):Mom:={ m with poured:=m.poured.set v.toNat (m.poured.getD v.toNat 0+a) }
noncomputable def d9 (net:Net) (m:Mom):Nat→Mom
 | 0=>m
 | i+1=>(d9 net m i).step net
noncomputable def tipsAt (net:Net) (m:Mom):List (Int×Nat):=(m.tk net).tip.map fun k=>(m.tick,k)
noncomputable def cK (net:Net) (m:Mom):Nat→List (Int×Nat)
 | 0=>[]
 | i+1=>cK net m i++tipsAt net (d9 net m i)
inductive Row where
 | pour (v a:Int)
 | go (many:Int) (tips:List (Int×Nat))
noncomputable def tipD (t:Int×Nat):L2.D:=.tup [.int t.1,.int (t.2:Int)]
noncomputable def rowD:Row→L2.D
 | .pour v a=>.tup [.str "pour",.int v,.int a]
 | .go n ts=>.tup [.str "go",.int n,.tup (ts.map tipD)]
structure RunS where
 net:Net
 rows:List Row
 pre:List Mom
 cur:Mom
 tips:List (List Int)
noncomputable def addTip (ts:List (List Int)) (t:Int×Nat):List (List Int):=ts.set t.2 (ts.getD t.2 []++[t.1])
noncomputable def RunS.pour (S:RunS) (v a:Int):RunS:={ S with rows:=S.rows++[.pour v a],pre:=S.pre++[S.cur],cur:=S.cur.pour v a }
noncomputable def RunS.go (S:RunS) (k:Nat):RunS:={ S with rows:=S.rows++[.go (k:Int) (cK S.net S.cur k)],pre:=S.pre++[S.cur],cur:=d9 S.net S.cur k,tips:=(cK S.net S.cur k).foldl addTip S.tips }
noncomputable def mom0 (net:Net):Mom:=⟨0,zeros net.vs.length,zeros net.vs.length,net.sps.map (·.2.2),zeros net.vs.length,0,0⟩
noncomputable def run0 (net:Net):RunS:=⟨net,[],[],mom0 net,List.replicate net.vs.length []⟩
structure RunOk (S:RunS):Prop where
 nok:NetOk S.net
 cur:MomOk S.net S.cur
 tl:S.tips.length=S.net.vs.length
structure RunSz (S:RunS) (B:Nat):Prop where
 rows:S.rows.length≤B
 pre:S.pre.length≤B
 tips:∀ l∈S.tips,l.length≤B
theorem zeros_len (n:Nat):(zeros n).length=n:=by simp [zeros]
theorem zeros_cons {n:Nat} (h:1≤n):(0:Int)::zeros (n - 1)=zeros n:=by
 obtain⟨k,rfl⟩:∃ k,n=k+1:=⟨n - 1,by omega⟩
 simp [zeros,List.replicate_succ]
theorem mom0_ok (net:Net):MomOk net (mom0 net):=⟨⟨zeros_len _,zeros_len _,by simp [mom0]⟩,zeros_len _⟩
theorem Mom.hs_len {net:Net}{m:Mom} (h:MomOk net m):(aU net m.held m.coming m.poured m.doors).length=net.vs.length:=by
 unfold aU;rw[fillL_len,add3_len h.st.h h.st.c h.pl]
theorem MomOk.step {net:Net}{m:Mom} (h:MomOk net m):MomOk net (m.step net):=
 ⟨⟨staysL_len _ _ (Mom.hs_len h).symm,by show (eI _ _).length=_;unfold eI;simp,by show (cX _ _ _).length=_;rw[doorsL_len];exact h.st.d⟩,zeros_len _⟩
theorem MomOk.pour {net:Net}{m:Mom} (h:MomOk net m) (v a:Int):MomOk net (m.pour v a):=⟨h.st,by show (List.set _ _ _).length=_;rw[List.length_set];exact h.pl⟩
theorem momN_ok {net:Net}{m:Mom} (h:MomOk net m):∀ i,MomOk net (d9 net m i)
 | 0=>h
 | i+1=>(momN_ok h i).step
theorem tk_lt {net:Net}{m:Mom}{k:Nat} (h:k∈(m.tk net).tip):k < net.vs.length:=by
 have:=tipsL_lt _ _ _ _ (show k∈bQ 0 net.vs _ from h)
 omega
theorem tk_len (net:Net) (m:Mom):(m.tk net).tip.length≤net.vs.length:=tipsL_len _ _ _
theorem tipN_lt {net:Net}{m:Mom}:∀ (i:Nat) (t:Int×Nat),t∈cK net m i→t.2 < net.vs.length
 | 0,t,h=>by simp [cK] at h
 | i+1,t,h=>by
  rcases List.mem_append.1 h with h | h
  ·exact tipN_lt i t h
  ·obtain⟨k,hk,rfl⟩:=List.mem_map.1 h
   exact tk_lt hk
theorem tipN_len {net:Net}{m:Mom} (nok:NetOk net):∀ (i:Nat),(cK net m i).length≤12 * i
 | 0=>by simp [cK]
 | i+1=>by
  have h1:=tipN_len (m:=m) nok i
  have h2:=tk_len net (d9 net m i)
  have h3:=nok.hi
  show (cK net m i++tipsAt net (d9 net m i)).length≤_
  rw[List.length_append]
  unfold tipsAt
  rw[List.length_map]
  omega
theorem addTips_len:∀ (l:List (Int×Nat)) (ts:List (List Int)),(l.foldl addTip ts).length=ts.length
 | [],_=>rfl
 | t::l,ts=>by show (l.foldl addTip (addTip ts t)).length=_;rw[addTips_len l];unfold addTip;simp
theorem RunOk.pour {S:RunS} (h:RunOk S) (v a:Int):RunOk (S.pour v a):=⟨h.nok,h.cur.pour v a,h.tl⟩
theorem RunOk.go {S:RunS} (h:RunOk S) (k:Nat):RunOk (S.go k):=⟨h.nok,momN_ok h.cur k,by show (List.foldl addTip S.tips (cK S.net S.cur k)).length=_;rw[addTips_len];exact h.tl⟩
theorem run0_ok {net:Net} (nok:NetOk net):RunOk (run0 net):=⟨nok,mom0_ok net,by simp [run0]⟩
noncomputable def flds (np:V) (R M T:Addr):List (Str×V):=[("net",np),("rows",.ref R),("moments",.ref M),("tip_ticks",.ref T)]
theorem lk_net {np:V}{R M T:Addr}:(flds np R M T).lookup ("net" : Str)=some np:=rfl
theorem lk_rows {np:V}{R M T:Addr}:(flds np R M T).lookup ("rows" : Str)=some (.ref R):=rfl
theorem dS {np:V}{R M T:Addr}:(flds np R M T).lookup ("moments" : Str)=some (.ref M):=rfl
theorem lk_tips {np:V}{R M T:Addr}:(flds np R M T).lookup ("tip_ticks" : Str)=some (.ref T):=rfl
structure RunC (K:PySem.W.Frag) (C:Addr) (H:Hp) (r:Addr) (S:RunS) (dx:Addr) (np:V) (R M T:Addr) (ts:List Addr) (rs ms:List V) (mv:V):Prop where
 ins:H r=some (.ins C dx (flds np R M T))
 net:Is K H (netD S.net) np
 hR:H R=some (.lst rs)
 lR:IsL K H (S.rows.map rowD) rs
 hM:H M=some (.lst (ms++[mv]))
 lM:IsL K H (S.pre.map momD) ms
 cM:Is K H (momD S.cur) mv
 hT:H T=some (.lst (ts.map V.ref))
 tl:ts.length=S.tips.length
 ti:∀ (i:Nat) (t:Addr) (l:List Int),ts[i]? = some t→S.tips[i]? = some l→H t=some (.lst (l.map V.int))
 nd:(R::M::T::ts).Nodup
 ok:RunOk S
noncomputable def cL (K:PySem.W.Frag) (C:Addr) (H:Hp) (r:Addr) (S:RunS) (fp:List Addr):Prop:=∃ dx np R M T ts rs ms mv,RunC K C H r S dx np R M T ts rs ms mv∧fp=R::M::T::ts
structure RunTx (K:PySem.W.Frag) (C:Addr):Prop where
 cls:Cls K C
 net:NoAttr K C "net"
 rows:NoAttr K C "rows"
 moments:NoAttr K C "moments"
 tips:NoAttr K C "tip_ticks"
section
variable {K:PySem.W.Frag}{C r dx R M T:Addr}{H H':Hp}{S:RunS}{fp:List Addr}{np mv:V}{ts:List Addr}{rs ms:List V}
theorem RunC.lists (c:RunC K C H r S dx np R M T ts rs ms mv):∀ b∈R::M::T::ts,∃ xs,H b=some (.lst xs):=by
 intro b hb
 rcases List.mem_cons.1 hb with rfl | hb
 ·exact⟨_,c.hR⟩
 rcases List.mem_cons.1 hb with rfl | hb
 ·exact⟨_,c.hM⟩
 rcases List.mem_cons.1 hb with rfl | hb
 ·exact⟨_,c.hT⟩
 obtain⟨i,hi,rfl⟩:=List.mem_iff_getElem.1 hb
 have hl:i < S.tips.length:=by rw[← c.tl];exact hi
 exact⟨_,c.ti i ts[i] S.tips[i] (by simp) (by simp)⟩
theorem cL.lists (c:cL K C H r S fp):∀ b∈fp,∃ xs,H b=some (.lst xs):=by
 obtain⟨dx,np,R,M,T,ts,rs,ms,mv,c,rfl⟩:=c
 exact c.lists
theorem cL.mut (c:cL K C H r S fp):∀ b∈fp,Mut (H b):=fun b hb=>by
 obtain⟨xs,e⟩:=c.lists b hb
 rw[e];exact trivial
theorem cL.notfp (c:cL K C H r S fp) {b:Addr} (h:H b=none):b∉fp:=fun hb=>by
 obtain⟨xs,e⟩:=c.lists b hb
 rw[e] at h;cases h
theorem cL.ok (c:cL K C H r S fp):RunOk S:=by
 obtain⟨dx,np,R,M,T,ts,rs,ms,mv,c,_⟩:=c
 exact c.ok
theorem RunC.r_notin (c:RunC K C H r S dx np R M T ts rs ms mv):r∉R::M::T::ts:=fun hb=>by
 obtain⟨xs,e⟩:=c.lists r hb
 rw[c.ins] at e;cases e
theorem RunC.keep (c:RunC K C H r S dx np R M T ts rs ms mv) (t:bL K H H') (k:∀ b∈r::R::M::T::ts,H' b=H b):RunC K C H' r S dx np R M T ts rs ms mv where
 ins:=by rw[k r (by simp)];exact c.ins
 net:=Is.mono t _ _ c.net
 hR:=by rw[k R (by simp)];exact c.hR
 lR:=IsL.mono t _ _ c.lR
 hM:=by rw[k M (by simp)];exact c.hM
 lM:=IsL.mono t _ _ c.lM
 cM:=Is.mono t _ _ c.cM
 hT:=by rw[k T (by simp)];exact c.hT
 tl:=c.tl
 ti:=fun i t l h1 h2=>by rw[k t (by have:=List.mem_of_getElem? h1;simp [this])];exact c.ti i t l h1 h2
 nd:=c.nd
 ok:=c.ok
theorem cL.same (c:cL K C H r S fp) (s:aK H H'):cL K C H' r S fp:=by
 obtain⟨dx,np,R,M,T,ts,rs,ms,mv,c,rfl⟩:=c
 refine⟨dx,np,R,M,T,ts,rs,ms,mv,c.keep s.ts fun b hb=>?_,rfl⟩
 rcases List.mem_cons.1 hb with rfl | hb
 ·rw[s _ _ c.ins,c.ins]
 ·obtain⟨xs,e⟩:=c.lists b hb
  rw[s _ _ e,e]
theorem cL.but {t:Addr} (c:cL K C H r S fp) (s:cY t H H') (hm:Mut (H t)) (h1:t≠r) (h2:t∉fp):cL K C H' r S fp:=by
 obtain⟨dx,np,R,M,T,ts,rs,ms,mv,c,rfl⟩:=c
 refine⟨dx,np,R,M,T,ts,rs,ms,mv,c.keep (s.ts hm) fun b hb=>?_,rfl⟩
 rcases List.mem_cons.1 hb with rfl | hb
 ·rw[s _ _ (Ne.symm h1) c.ins,c.ins]
 ·obtain⟨xs,e⟩:=c.lists b hb
  rw[s _ _ (fun z=>h2 (by rw[← z];exact hb)) e,e]
theorem mom_un {m:Mom}{v:V} (h:Is K H (momD m) v):∃ (a po:Addr) (st:V),v=.ref a∧bT K H a [.int m.tick,st,.ref po,.int m.came,.int m.ground]∧Is K H (stD m.held m.coming m.doors) st∧bT K H po (m.poured.map V.int):=by
 obtain⟨a,zs,rfl,q,l⟩:=(show Is K H (.tup [.int m.tick,stD m.held m.coming m.doors,.tup (m.poured.map L2.D.int),.int m.came,.int m.ground]) v from h).un
 obtain⟨x1,r,rfl,h1,l⟩:=l.un
 obtain⟨x2,r,rfl,h2,l⟩:=l.un
 obtain⟨x3,r,rfl,h3,l⟩:=l.un
 obtain⟨x4,r,rfl,h4,l⟩:=l.un
 obtain⟨x5,r,rfl,h5,l⟩:=l.un
 have:=l.un0
 subst this
 have:=h1.ui
 subst this
 have:=h4.ui
 subst this
 have:=h5.ui
 subst this
 obtain⟨po,xs,rfl,q1,l1⟩:=h3.un
 have:=l1.ints
 subst this
 exact⟨a,po,x2,rfl,q,h2,q1⟩
theorem mom_of {m:Mom}{a po:Addr}{st:V} (q:bT K H a [.int m.tick,st,.ref po,.int m.came,.int m.ground]) (hs:Is K H (stD m.held m.coming m.doors) st) (hp:bT K H po (m.poured.map V.int)):Is K H (momD m) (.ref a):=
 Is.tupOf q (.cons (Is.i _) (.cons hs (.cons (Is.tupOf hp (IsL.of_ints _)) (.cons (Is.i _) (.cons (Is.i _) .nil)))))
end
section
variable {P:Program}{w:World}{K:PySem.W.Frag}{mg:Str→Option Value}{base:Heap}{C:Addr}
theorem sc_need_vessel:FnScope ["net","number","vessels","spouts"] ["net","number"] (aL (top 39)):=⟨rfl,rfl,rfl,by decide +kernel,rfl,by decide +kernel,by decide +kernel⟩
noncomputable def spPouring (K:PySem.W.Frag):Sp:=fun vs H Q _=>∃ (x:V) (net:Net) (v:Int),vs=[x,.int v]∧Is K H (netD net) x∧NetOk net∧∀ p H',aK H H'→bT K H' p ((v::zeros (net.vs.length - 1)).map V.int)→Q (.ref p) H'
theorem sc_pouring:FnScope ["net","amount","vessels","spouts"] ["net","amount"] (aL (top 7)):=⟨rfl,rfl,rfl,by decide +kernel,rfl,by decide +kernel,by decide +kernel⟩
theorem ok_pouring {f:Addr}{fd:FuncData} (F:Fun K "pouring" "pouring" (top 7) f fd) (T:Txt mg):FnOk P w K mg base CX0 1 f fd ["net","amount"] (spPouring K):=by
 refine F.ok sc_pouring (fun vs H Q E h=>?_) (fun cdv A outer s H vs Q E hr h=>?_)
 ·obtain⟨x,net,v,rfl,_⟩:=h;rfl
 ·obtain⟨x,net,v,rfl,hx,nok,k⟩:=h
  have sc:=sc_pouring
  refine⟨_,(aF (cB (pv 0) (bF (K:=K) (n:=2) rfl rfl (aH (aJ (i:=2) sc.nd rfl (Or.inl rfl)) (aH (aJ (i:=3) sc.nd rfl (Or.inl rfl)) bD))))
   (aO (aX (b0 (op_catTK (K:=K) rfl) (bV (aA (pv 1) aE)) (b0 (op_repZK (K:=K) rfl) (bV (aA aG aE)) (b0 dN (aS (bK (K:=K) rfl) rfl T.b_len PySem.boot_len (aA (pv 2) aE)) aG)))))),?_⟩
  obtain⟨a,b,c,xs,ys,rfl,q,q1,l1,q2,l2⟩:=net_un hx
  have exl:xs.length=net.vs.length:=by rw[l1.length,List.length_map]
  have n1:=nok.lo
  have n2:=nok.hi
  refine⟨_,rfl,a,_,rfl,q,rfl,_,_,rfl,_,_,rfl,rfl,?_⟩
  refine⟨_,rfl,(show 1≤sizeLine by decide),fun y hy=>⟨(show 1≤sizeLine by decide),fun z hz=>?_⟩⟩
  have m1:=aK.new (o:=HO.tup [.int v]) hy
  have m2:=aK.new (o:=HO.tup [.int 0]) hz
  refine⟨_,rfl,b,xs,rfl,.inr (m2.tup (m1.tup q1)),_,_,rfl,rfl,z,_,[.int 0],rfl,rfl,bT.of aD,by omega,by omega,by simp,by simp,fun e H1 sm1 qe=>?_⟩
  have en:(((xs.length:Nat):Int) - 1).toNat=net.vs.length - 1:=by rw[exl];omega
  rw[en,rep0] at qe
  refine⟨y,e,[.int v],_,rfl,rfl,sm1.tup (m2.tup (bT.of aD)),qe,by simp,aZ (by simp;omega) |> Nat.le_of_lt,fun he=>?_,fun _ p hp=>?_⟩
  ·refine k _ _ ((m1.trans m2).trans sm1) ?_
   have e0:zeros (net.vs.length - 1)=[]:=List.map_eq_nil_iff.mp he
   rw[e0]
   exact sm1.tup (m2.tup (bT.of aD))
  ·exact k _ _ (((m1.trans m2).trans sm1).trans (aK.new hp)) (bT.of aD)
noncomputable def spCameIn (K:PySem.W.Frag):Sp:=fun vs H Q _=>∃ (x y:V) (z:Addr) (net:Net) (held coming poured:List Int) (doors:List Bool),vs=[x,y,.ref z]∧Is K H (netD net) x∧Is K H (stD held coming doors) y∧bT K H z (poured.map V.int)∧
 NetOk net∧StOk net held coming doors∧∀ H',aK H H'→Q (.int (poured.sum+dH net.sps doors)) H'
theorem openSum_snoc:∀ (ss:List Spt) (ds:List Bool) (i:Nat) (s:Spt) (d:Bool),ss[i]? = some s→ds[i]? = some d→dH (ss.take (i+1)) (ds.take (i+1))=dH (ss.take i) (ds.take i)+(if d=true then s.2.1 else 0)
 | [],_,i,_,_,h,_=>by simp at h
 | _::_,[],i,_,_,_,h=>by simp at h
 | a::ss,b::ds,0,s,d,h1,h2=>by simp at h1 h2;subst h1 h2;simp [dH]
 | a::ss,b::ds,i+1,s,d,h1,h2=>by
  simp only [List.take_succ_cons,dH]
  rw[openSum_snoc ss ds i s d (by simpa using h1) (by simpa using h2)]
  omega
theorem sc_came_in:FnScope ["net","state","poured","vessels","spouts","held","coming","doors"] ["net","state","poured"] (aL (top 9)):=⟨rfl,rfl,rfl,by decide +kernel,rfl,by decide +kernel,by decide +kernel⟩
theorem ok_came_in {f:Addr}{fd:FuncData} (F:Fun K "came_in" "came_in" (top 9) f fd) (T:Txt mg):FnOk P w K mg base CX0 1 f fd ["net","state","poured"] (spCameIn K):=by
 refine F.ok sc_came_in (fun vs H Q E h=>?_) (fun cdv A outer s H vs Q E hr h=>?_)
 ·obtain⟨x,y,z,net,held,coming,poured,doors,rfl,_⟩:=h;rfl
 ·obtain⟨x,y,z,net,held,coming,poured,doors,rfl,hx,hy,qz,nok,sok,k⟩:=h
  have sc:=sc_came_in
  refine⟨_,(aF (cB (pv 0) (bF (K:=K) (n:=2) rfl rfl (aH (aJ (i:=3) sc.nd rfl (Or.inl rfl)) (aH (aJ (i:=4) sc.nd rfl (Or.inl rfl)) bD))))
   (aF (cB (pv 1) (bF (K:=K) (n:=3) rfl rfl (aH (aJ (i:=5) sc.nd rfl (Or.inl rfl)) (aH (aJ (i:=6) sc.nd rfl (Or.inl rfl)) (aH (aJ (i:=7) sc.nd rfl (Or.inl rfl)) bD)))))
   (aO (aX (b0 cO (aS (dX (K:=K) rfl rfl) rfl T.b_sum PyProof.Rows.boot_sum (aA (pv 2) aE)) (aS (dX (K:=K) rfl rfl) rfl T.b_sum PyProof.Rows.boot_sum (aA (pe_lc (fun _ _ h=>h) rfl (LcOk.mk (N':=["target","flow","first_door","door"]) (fr:=[none,none,none,none]) rfl trivial rfl rfl rfl rfl rfl trivial) (pi_zip2K (K:=K) rfl rfl T.b_zip (aA (pv 4) (aA (pv 7) aE))) (fun _ _ _=>(bF (K:=K) (n:=2) rfl rfl (aH (bF (K:=K) (n:=3) rfl rfl (aH (aJ (i:=0) (show (["target","flow","first_door","door"]:List Str).Nodup by decide +kernel) rfl (Or.inl rfl) (Or.inr rfl)) (aH (aJ (i:=1) (show (["target","flow","first_door","door"]:List Str).Nodup by decide +kernel) rfl (Or.inl rfl) (Or.inr rfl)) (aH (aJ (i:=2) (show (["target","flow","first_door","door"]:List Str).Nodup by decide +kernel) rfl (Or.inl rfl) (Or.inr rfl)) bD)))) (aH (aJ (i:=3) (show (["target","flow","first_door","door"]:List Str).Nodup by decide +kernel) rfl (Or.inl rfl) (Or.inr rfl)) bD)))) (fun _ _ _=>pif_one (cU (pv 3))) (fun _ _ _=>(pv 1))) aE))))))),?_⟩
  obtain⟨a,b,c,xs,ys,rfl,q,q1,l1,q2,l2⟩:=net_un hx
  obtain⟨ay,b1,b2,b3,rfl,qy,qb1,qb2,qb3⟩:=st_un hy
  have eyl:ys.length=net.sps.length:=by rw[l2.length,List.length_map]
  have n3:=nok.sp
  refine⟨_,rfl,a,_,rfl,q,rfl,_,_,rfl,_,_,rfl,rfl,?_⟩
  refine⟨_,rfl,ay,_,rfl,qy,rfl,_,_,rfl,_,_,rfl,_,_,rfl,rfl,?_⟩
  refine⟨_,rfl,true,z,_,rfl,qz,?_⟩
  refine⟨_,rfl,_,rfl,true,true,c,b3,rfl,⟨_,q2⟩,⟨_,qb3⟩,lc_zip2 (K:=K) (t1:=true) (t2:=true) (xs:=ys) (ys:=doors.map V.bl) (n:=net.sps.length) eyl (by rw[List.length_map];exact sok.d)
   (fun D i r σ' H'=>H D=none∧aK H H'∧H' D=some (.lst r)∧(∃ ns:List Int,r=ns.map V.int∧ns.sum=dH (net.sps.take i) (doors.take i)∧ns.length≤i)∧∃ u1 u2 u3 u4,σ'=[u1,u2,u3,u4])
   (fun D i r σ' H' p=>⟨p.2.1.tup q2,p.2.1.tup qb3⟩) (fun D hD=>⟨hD,aK.new hD,aD,⟨[],rfl,by simp [dH],by simp⟩,none,none,none,none,rfl⟩) ?_ ?_⟩
  rotate_left
  ·rintro D i x y r σ' H2 Tt hx hy ⟨hD,sm,hDl,⟨ns,rfl,hns,hnl⟩,u1,u2,u3,u4,rfl⟩ hT
   obtain⟨sp,hsi,sa,rfl,qs⟩:=sps_at l2 hx
   have hil:=(List.getElem?_eq_some_iff.mp hsi).1
   obtain⟨d,hdi,rfl⟩:∃ d,doors[i]? = some d∧y=V.bl d:=by
    rw[List.getElem?_map] at hy
    cases hd:doors[i]? with
    | none=>rw[hd] at hy;cases hy
    | some d=>rw[hd] at hy;cases hy;exact⟨d,rfl,rfl⟩
   have mT:=aK.new (o:=HO.tup [.ref sa,.bl d]) hT
   have hs:=openSum_snoc net.sps doors i sp d hsi hdi
   refine⟨Tt,_,rfl,bT.of aD,rfl,_,_,rfl,sa,_,rfl,mT.tup (sm.tup qs),rfl,_,_,rfl,_,_,rfl,_,_,rfl,rfl,_,_,rfl,rfl,?_⟩
   refine⟨_,rfl,_,rfl,?_⟩
   have smT:=sm.trans mT
   cases d with
   | false=>
    refine dU ⟨hD,smT,mT _ _ hDl,⟨ns,rfl,by rw[hs,hns];simp,by omega⟩,_,_,_,_,rfl⟩
   | true=>
    refine eT ⟨_,rfl,mT _ _ hDl,aZ (by simp;omega),hD,smT.put hD,aD,⟨ns++[sp.2.1],by rw[List.map_append];rfl,by rw[hs,List.sum_append,hns];simp,by simp;omega⟩,_,_,_,_,rfl⟩
  ·rintro D r σ' H2 ⟨hD,sm,hDl,⟨ns,rfl,hns,hnl⟩,_⟩
   refine⟨false,D,_,rfl,bM.of hDl,_,_,rfl,rfl,?_⟩
   rw[hns,List.take_of_length_le (Nat.le_refl _),List.take_of_length_le (Nat.le_of_eq sok.d)]
   exact k _ sm
noncomputable def spMoment (K:PySem.W.Frag):Sp:=fun vs H Q _=>∃ (x y:V) (net:Net) (m:Mom),vs=[x,y]∧Is K H (netD net) x∧Is K H (momD m) y∧NetOk net∧MomOk net m∧
 ∀ p p1 p2 H',aK H H'→bT K H' p [p1,.ref p2]→Is K H' (momD (m.step net)) p1→bT K H' p2 ((m.tk net).tip.map fun (k:Nat)=>V.int (k:Int))→Q (.ref p) H'
theorem sc_moment_behind:FnScope ["net","moment","tick","state","poured","came","grounded","behind","tipped","lost"] ["net","moment"] (aL (top 21)):=⟨rfl,rfl,rfl,by decide +kernel,rfl,by decide +kernel,by decide +kernel⟩
theorem ok_moment_behind {f f1 f2 f3:Addr}{fd fd1 fd2 fd3:FuncData} (F:Fun K "moment_behind" "moment_behind" (top 21) f fd) (T:Txt mg) (G_tick_behind:Callee P w K mg base "tick_behind" ["net","state","poured"] 4 (spTick K) f1 fd1)
  (G_came_in:Callee P w K mg base "came_in" ["net","state","poured"] 1 (spCameIn K) f2 fd2) (G_pouring:Callee P w K mg base "pouring" ["net","amount"] 1 (spPouring K) f3 fd3):FnOk P w K mg base CX0 5 f fd ["net","moment"] (spMoment K):=by
 refine F.ok sc_moment_behind (fun vs H Q E h=>?_) (fun cdv A outer s H vs Q E hr h=>?_)
 ·obtain⟨x,y,net,m,rfl,_⟩:=h;rfl
 ·obtain⟨x,y,net,m,rfl,hx,hy,nok,mok,k⟩:=h
  have sc:=sc_moment_behind
  refine⟨_,(aF (cB (pv 1) (bF (K:=K) (n:=5) rfl rfl (aH (aJ (i:=2) sc.nd rfl (Or.inl rfl)) (aH (aJ (i:=3) sc.nd rfl (Or.inl rfl)) (aH (aJ (i:=4) sc.nd rfl (Or.inl rfl)) (aH (aJ (i:=5) sc.nd rfl (Or.inl rfl)) (aH (aJ (i:=6) sc.nd rfl (Or.inl rfl)) bD)))))))
   (aF (cB (cQ G_tick_behind hr (aA (pv 0) (aA (pv 3) (aA (pv 4) aE)))) (bF (K:=K) (n:=3) rfl rfl (aH (aJ (i:=7) sc.nd rfl (Or.inl rfl)) (aH (aJ (i:=8) sc.nd rfl (Or.inl rfl)) (aH (aJ (i:=9) sc.nd rfl (Or.inl rfl)) bD)))))
   (aF (ps_aug (i:=5) sc.nd rfl (Or.inl rfl) (cQ G_came_in hr (aA (pv 0) (aA (pv 3) (aA (pv 4) aE)))) ip_add)
   (aO (aX (bV (aA (bV (aA (b0 cO (pv 2) aG) (aA (pv 7) (aA (cQ G_pouring hr (aA (pv 0) (aA aG aE))) (aA (pv 5) (aA (b0 cO (pv 6) (pv 9)) aE)))))) (aA (pv 8) aE)))))))),?_⟩
  obtain⟨a,po,st,rfl,q,hs,hp⟩:=mom_un hy
  refine⟨_,rfl,a,_,rfl,q,rfl,_,_,rfl,_,_,rfl,_,_,rfl,_,_,rfl,_,_,rfl,rfl,?_⟩
  refine⟨_,rfl,_,rfl,_,rfl,x,st,po,net,m.held,m.coming,m.poured,m.doors,rfl,hx,hs,hp,nok,mok.st,mok.pl,fun f fxs H1 sm1 _ if1=>?_⟩
  obtain⟨fa,gxs,ef,qf,lf⟩:=(show Is K H1 (.tup [stD (m.tk net).held (m.tk net).coming (m.tk net).doors,.tup ((m.tk net).tip.map fun (i:Nat)=>L2.D.int (i:Int)),.int (m.tk net).ground]) (.ref f) from if1).un
  cases ef
  obtain⟨y1,r,rfl,j1,lf⟩:=lf.un
  obtain⟨y2,r,rfl,j2,lf⟩:=lf.un
  obtain⟨y3,r,rfl,j3,lf⟩:=lf.un
  have:=lf.un0
  subst this
  have:=j3.ui
  subst this
  obtain⟨p2,ts,rfl,qt,lt⟩:=j2.un
  have et:ts=(m.tk net).tip.map fun (k:Nat)=>V.int (k:Int):=by
   have e1:((m.tk net).tip.map fun (i:Nat)=>L2.D.int (i:Int))=((m.tk net).tip.map fun (i:Nat)=>(i:Int)).map L2.D.int:=by rw[List.map_map];rfl
   rw[e1] at lt
   rw[lt.ints,List.map_map];rfl
  subst et
  refine⟨f,_,rfl,qf,rfl,_,_,rfl,_,_,rfl,_,_,rfl,rfl,?_⟩
  refine⟨_,rfl,_,rfl,_,rfl,_,rfl,x,st,po,net,m.held,m.coming,m.poured,m.doors,rfl,Is.mono sm1.ts _ _ hx,Is.mono sm1.ts _ _ hs,sm1.tup hp,nok,mok.st,fun H2 sm2=>⟨_,_,rfl,rfl,?_⟩⟩
  have s2:aK H H2:=sm1.trans sm2
  refine⟨_,rfl,_,_,rfl,rfl,_,rfl,_,rfl,x,net,0,rfl,Is.mono s2.ts _ _ hx,nok,fun z H3 sm3 qz=>?_⟩
  rw[zeros_cons nok.lo] at qz
  refine⟨_,rfl,_,rfl,_,rfl,_,_,rfl,rfl,(show 5≤sizeLine by decide),fun p1 hp1=>?_⟩
  have m1:aK H3 _:=aK.new (o:=HO.tup [.int (m.tick+1),y1,.ref z,.int (m.came+(m.poured.sum+dH net.sps m.doors)),.int (m.ground+(m.tk net).ground)]) hp1
  refine⟨_,rfl,(show 2≤sizeLine by decide),fun p hpp=>?_⟩
  have m2:aK _ _:=aK.new (o:=HO.tup [.ref p1,.ref p2]) hpp
  refine k p (.ref p1) p2 _ (((s2.trans sm3).trans m1).trans m2) (bT.of aD) (mom_of (m:=m.step net) (m2.tup (bT.of aD)) ?_ ?_) ?_
  ·exact Is.mono m2.ts _ _ (Is.mono m1.ts _ _ (Is.mono sm3.ts _ _ (Is.mono sm2.ts _ _ j1)))
  ·exact m2.tup (m1.tup qz)
  ·exact m2.tup (m1.tup (sm3.tup (sm2.tup qt)))
end
end Tw
namespace Tw
open PySem L2
section
variable {K:PySem.W.Frag}
theorem IsL.app {H:Hp}:∀ {ds es:List L2.D}{xs ys:List V},L2.IsL K H ds xs→L2.IsL K H es ys→L2.IsL K H (ds++es) (xs++ys)
 | [],_,_,_,h1,h2=>by have:=h1.un0;subst this;exact h2
 | d::ds,_,_,_,h1,h2=>by
  obtain⟨x,r,rfl,h,h1⟩:=h1.un
  exact .cons h (IsL.app h1 h2)
theorem eA {n:Nat} (h:n≤10000000):n < sizeLine:=by rw[sizeLine_eq];omega
end
section
variable {P:Program}{w:World}{K:PySem.W.Frag}{mg:Str→Option Value}{base:Heap}{C:Addr}
noncomputable def spFirstMom (K:PySem.W.Frag):Sp:=fun vs H Q _=>∃ (x:V) (net:Net),vs=[x]∧Is K H (netD net) x∧NetOk net∧∀ p H',aK H H'→Is K H' (momD (mom0 net)) (.ref p)→Q (.ref p) H'
theorem sc_first_moment:FnScope ["net"] ["net"] (aL (top 18)):=⟨rfl,rfl,rfl,by decide +kernel,rfl,by decide +kernel,by decide +kernel⟩
theorem ok_first_moment {f f1 f2:Addr}{fd fd1 fd2:FuncData} (F:Fun K "first_moment" "first_moment" (top 18) f fd) (T:Txt mg)
  (G_first_state:Callee P w K mg base "first_state" ["net"] 1 (spFirst K) f1 fd1) (G_pouring:Callee P w K mg base "pouring" ["net","amount"] 1 (spPouring K) f2 fd2):FnOk P w K mg base CX0 2 f fd ["net"] (spFirstMom K):=by
 refine F.ok sc_first_moment (fun vs H Q E h=>?_) (fun cdv A outer s H vs Q E hr h=>?_)
 ·obtain⟨x,net,rfl,_⟩:=h;rfl
 ·obtain⟨x,net,rfl,hx,nok,k⟩:=h
  have sc:=sc_first_moment
  refine⟨_,(aO (aX (bV (aA aG (aA (cQ G_first_state hr (aA (pv 0) aE)) (aA (cQ G_pouring hr (aA (pv 0) (aA aG aE))) (aA aG (aA aG aE)))))))),?_⟩
  refine⟨_,rfl,x,net,rfl,hx,nok,fun st H4 sm4 hst=>⟨_,rfl,x,net,0,rfl,Is.mono sm4.ts _ _ hx,nok,fun z H5 sm5 qz=>⟨(show 5≤sizeLine by decide),fun p hp=>?_⟩⟩⟩
  rw[zeros_cons nok.lo] at qz
  have sp:aK H5 (upd H5 p (.tup [.int 0,st,.ref z,.int 0,.int 0])):=aK.new hp
  exact k p _ ((sm4.trans sm5).trans sp) (mom_of (m:=mom0 net) (bT.of aD) (Is.mono sp.ts _ _ (Is.mono sm5.ts _ _ hst)) (sp.tup qz))
noncomputable def spMomPour (K:PySem.W.Frag):Sp:=fun vs H Q _=>∃ (x:V) (n:Nat) (m:Mom) (v a:Int),vs=[x,.int v,.int a]∧Is K H (momD m) x∧m.poured.length=n∧n≤12∧0≤v∧v < n∧
 ∀ p H',aK H H'→Is K H' (momD (m.pour v a)) (.ref p)→Q (.ref p) H'
theorem sc_moment_poured:FnScope ["moment","vessel","amount","tick","state","poured","came","grounded","more"] ["moment","vessel","amount"] (aL (top 19)):=⟨rfl,rfl,rfl,by decide +kernel,rfl,by decide +kernel,by decide +kernel⟩
theorem ok_moment_poured {f:Addr}{fd:FuncData} (F:Fun K "moment_poured" "moment_poured" (top 19) f fd) (T:Txt mg):FnOk P w K mg base CX0 1 f fd ["moment","vessel","amount"] (spMomPour K):=by
 refine F.ok sc_moment_poured (fun vs H Q E h=>?_) (fun cdv A outer s H vs Q E hr h=>?_)
 ·obtain⟨x,n,m,v,a,rfl,_⟩:=h;rfl
 ·obtain⟨x,n,m,v,a,rfl,hx,pl,hnh,v0,v1,k⟩:=h
  have sc:=sc_moment_poured
  refine⟨_,(aF (cB (pv 0) (bF (K:=K) (n:=5) rfl rfl (aH (aJ (i:=3) sc.nd rfl (Or.inl rfl)) (aH (aJ (i:=4) sc.nd rfl (Or.inl rfl)) (aH (aJ (i:=5) sc.nd rfl (Or.inl rfl)) (aH (aJ (i:=6) sc.nd rfl (Or.inl rfl)) (aH (aJ (i:=7) sc.nd rfl (Or.inl rfl)) bD)))))))
   (aF (bE (i:=8) sc.nd rfl (Or.inl rfl) (bG (call_lstK (K:=K) rfl) rfl T.b_list bt_list (aA (pv 5) aE)))
   (aF (ps_augS (pv 8) (pv 1) (get_listK (K:=K) rfl) (pv 2) ip_add eV)
   (aO (aX (bV (aA (pv 3) (aA (pv 4) (aA (bG (cH (K:=K) rfl) rfl T.b_tuple cJ (aA (pv 8) aE)) (aA (pv 6) (aA (pv 7) aE))))))))))),?_⟩
  obtain⟨ma,po,st,rfl,q,hs,hp⟩:=mom_un hx
  refine⟨_,rfl,ma,_,rfl,q,rfl,_,_,rfl,_,_,rfl,_,_,rfl,_,_,rfl,_,_,rfl,rfl,?_⟩
  refine⟨_,rfl,po,_,rfl,.inr hp,fun l hl=>?_⟩
  have hlt:v.toNat < m.poured.length:=by omega
  have hg:m.poured[v.toNat]? = some (m.poured.getD v.toNat 0):=by rw[List.getD_eq_getElem?_getD,List.getElem?_eq_getElem hlt];rfl
  refine⟨_,rfl,_,rfl,l,_,v,_,rfl,rfl,bM.of aD,v0,by omega,(by rw[List.getElem?_map,hg];rfl),_,rfl,_,_,rfl,rfl,l,_,v,v.toNat,rfl,rfl,aD,ixN_nat v0 (by rw[List.length_map];omega),?_⟩
  have e2:upd (upd H l (.lst (m.poured.map V.int))) l (.lst ((m.poured.map V.int).set v.toNat (.int (m.poured.getD v.toNat 0+a))))=upd H l (.lst ((m.pour v a).poured.map V.int)):=by
   rw[upd_upd]
   show _=upd H l (.lst ((m.poured.set v.toNat (m.poured.getD v.toNat 0+a)).map V.int))
   rw[List.map_set]
  rw[e2]
  have s1:aK H (upd H l (.lst ((m.pour v a).poured.map V.int))):=aK.new hl
  have hl1:upd H l (.lst ((m.pour v a).poured.map V.int)) l=some (.lst ((m.pour v a).poured.map V.int)):=aD
  generalize upd H l (.lst ((m.pour v a).poured.map V.int))=H1 at s1 hl1
  refine⟨_,rfl,_,rfl,_,rfl,l,_,rfl,.inl ⟨bM.of hl1,fun p hp'=>⟨_,rfl,_,rfl,(show 5≤sizeLine by decide),fun p2 hp2=>?_⟩⟩⟩
  have m2:aK H1 (upd H1 p (.tup ((m.pour v a).poured.map V.int))):=aK.new hp'
  have m3:aK (upd H1 p (.tup ((m.pour v a).poured.map V.int))) (upd (upd H1 p (.tup ((m.pour v a).poured.map V.int))) p2 (.tup [.int m.tick,st,.ref p,.int m.came,.int m.ground])):=aK.new hp2
  exact k p2 _ ((s1.trans m2).trans m3) (mom_of (m:=m.pour v a) (bT.of aD) (Is.mono m3.ts _ _ (Is.mono m2.ts _ _ (Is.mono s1.ts _ _ hs))) (m3.tup (bT.of aD)))
noncomputable def spMomGo (K:PySem.W.Frag):Sp:=fun vs H Q _=>∃ (x y:V) (net:Net) (m:Mom) (n:Nat),vs=[x,y,.int (n:Int)]∧Is K H (netD net) x∧Is K H (momD m) y∧NetOk net∧MomOk net m∧n≤100000∧
 ∀ p p1 p2 tvs H',aK H H'→bT K H' p [p1,.ref p2]→Is K H' (momD (d9 net m n)) p1→bT K H' p2 tvs→IsL K H' ((cK net m n).map tipD) tvs→Q (.ref p) H'
theorem sc_moment_gone:FnScope ["net","moment","many","tipped","step","tick","numbers"] ["net","moment","many"] (aL (top 20)):=⟨rfl,rfl,rfl,by decide +kernel,rfl,by decide +kernel,by decide +kernel⟩
theorem ok_moment_gone {f f1:Addr}{fd fd1:FuncData} (F:Fun K "moment_gone" "moment_gone" (top 20) f fd) (T:Txt mg) (G_moment_behind:Callee P w K mg base "moment_behind" ["net","moment"] 5 (spMoment K) f1 fd1) :
  FnOk P w K mg base CX0 6 f fd ["net","moment","many"] (spMomGo K):=by
 refine F.ok sc_moment_gone (fun vs H Q E h=>?_) (fun cdv A outer s H vs Q E hr h=>?_)
 ·obtain⟨x,y,net,m,n,rfl,_⟩:=h;rfl
 ·obtain⟨x,y,net,m,n,rfl,hx,hy,nok,mok,hn,k⟩:=h
  have sc:=sc_moment_gone
  refine⟨_,(aF (bE (i:=3) sc.nd rfl (Or.inl rfl) (bY aE))
   (aF (dB PassesOwn.never rfl (cG rfl T.b_range (aA (pv 2) aE)) (aJ (i:=4) sc.nd rfl (Or.inl rfl)) (aF (bE (i:=5) sc.nd rfl (Or.inr rfl) (aR (aM (K:=K) rfl) (pv 1) aG (fun _ _=>rfl)))
   (aF (cB (cQ G_moment_behind hr (aA (pv 0) (aA (pv 1) aE))) (bF (K:=K) (n:=2) rfl rfl (aH (aJ (i:=1) sc.nd rfl (Or.inl rfl)) (aH (aJ (i:=6) sc.nd rfl (Or.inl rfl)) bD))))
   (aO (bZ (dY (K:=K) rfl PySem.F.plainAttrs_list PySem.F.slot_list_extend PySem.F.type_list_extend mt_extend (pv 3) (aA (pe_lc (fun _ _ h=>h) rfl (LcOk.mk (N':=["number","tick"]) (fr:=[none,some 5]) rfl ⟨rfl,trivial⟩ rfl rfl rfl rfl rfl ⟨⟨_,rfl,rfl,rfl,rfl⟩,trivial⟩) (dD (K:=K) rfl (pv 6)) (fun _ _ _=>(aJ (i:=0) (show (["number","tick"]:List Str).Nodup by decide +kernel) rfl (Or.inl rfl) (Or.inr rfl))) (fun _ _ _=>cP) (fun _ _ _=>(bV (aA (pv 1) (aA (pv 0) aE))))) aE)))))))
   (aO (aX (bV (aA (pv 1) (aA (bG (cH (K:=K) rfl) rfl T.b_tuple cJ (aA (pv 3) aE)) aE))))))),?_⟩
  refine⟨Nat.zero_le _,fun tl htl=>?_⟩
  have s0:aK H (upd H tl (.lst [])):=aK.new htl
  have g0:upd H tl (.lst []) tl=some (.lst []):=aD
  generalize upd H tl (.lst [])=H0 at s0 g0
  dsimp only [tSeq]
  refine for_by (fun σ' H'=>aK H H'∧(∃ tvs,H' tl=some (.lst tvs)∧IsL K H' ((cK net m n).map tipD) tvs)∧∃ mi,Is K H' (momD (d9 net m n)) mi∧
   ∃ v4 v5 v6,σ'=[some x,some mi,some (.int (n:Int)),some (.ref tl),v4,v5,v6]) (fun D' hD=>?_) ?_
  rotate_left
  ·rintro σ' H1 ⟨s1,⟨tvs,ht1,lt1⟩,mi,cm1,v4,v5,v6,rfl⟩
   refine⟨_,rfl,_,rfl,tl,_,rfl,.inl ⟨bM.of ht1,fun p2 hp2=>⟨(show 2≤sizeLine by decide),fun p hp=>?_⟩⟩⟩
   have m2:aK H1 (upd H1 p2 (.tup tvs)):=aK.new hp2
   have m3:aK (upd H1 p2 (.tup tvs)) (upd (upd H1 p2 (.tup tvs)) p (.tup [mi,.ref p2])):=aK.new hp
   exact k p mi p2 tvs _ ((s1.trans m2).trans m3) (bT.of aD) (Is.mono (m2.trans m3).ts _ _ cm1) (m3.tup (bT.of aD)) (L2.IsL.mono (m2.trans m3).ts _ _ lt1)
  refine⟨_,rfl,_,rfl,by omega,by omega,?_⟩
  refine dO (lo:=0) (n:=n) (fun i σ' H'=>aK H H'∧(∃ tvs,H' tl=some (.lst tvs)∧IsL K H' ((cK net m i).map tipD) tvs)∧∃ mi,Is K H' (momD (d9 net m i)) mi∧
   ∃ v4 v5 v6,σ'=[some x,some mi,some (.int (n:Int)),some (.ref tl),v4,v5,v6]) ?_ ?_ ?_
  ·exact⟨s0,⟨[],g0,.nil⟩,y,Is.mono s0.ts _ _ hy,_,_,_,rfl⟩
  ·rintro i σ' H1 hi ⟨s1,⟨tvs,ht1,lt1⟩,mi,cm1,v4,v5,v6,rfl⟩
   obtain⟨ma,po,st,rfl,q,hs,hp⟩:=mom_un cm1
   refine⟨_,rfl,.inr (.inl ⟨ma,_,0,_,rfl,rfl,q,rfl,?_⟩)⟩
   refine⟨_,rfl,_,rfl,x,.ref ma,net,d9 net m i,rfl,Is.mono s1.ts _ _ hx,cm1,nok,momN_ok mok i,fun p p1 p2 H2 sm2 qp i1 q2=>?_⟩
   refine⟨p,_,rfl,qp,rfl,_,_,rfl,_,_,rfl,rfl,?_⟩
   have ht2:=sm2 _ _ ht1
   have ltk:=tk_len net (d9 net m i)
   have hn12:=nok.hi
   refine⟨_,rfl,.inl ⟨rfl,_,bM.of ht2⟩,?_⟩
   refine⟨_,rfl,p2,rfl,⟨_,q2⟩,lc_tup (K:=K) (a:=p2) (xs:=((d9 net m i).tk net).tip.map fun (k:Nat)=>V.int (k:Int))
    (fun D j rr σ' H'=>H2 D=none∧aK H2 H'∧H' D=some (.lst rr)∧IsL K H' (((((d9 net m i).tk net).tip.take j).map fun k=>((d9 net m i).tick,k)).map tipD) rr∧∃ u,σ'=[u,some (.int (d9 net m i).tick)])
    (fun D j rr σ' H' p=>p.2.1.tup q2) (fun D hD=>⟨hD,aK.new hD,aD,.nil,none,rfl⟩) ?_ ?_⟩
   rotate_left
   ·rintro D j x' rr σ' H3 hx ⟨hD,sm3,hDl,lr,u,rfl⟩
    rw[List.getElem?_map] at hx
    obtain⟨kk,hk,rfl⟩:=Option.map_eq_some_iff.mp hx
    have hjl:=(List.getElem?_eq_some_iff.mp hk).1
    have hrl:rr.length≤12:=by rw[lr.length];simp;omega
    refine cS ?_
    refine⟨_,rfl,_,rfl,(show 2≤sizeLine by decide),fun e he=>?_⟩
    have me:=aK.new (o:=HO.tup [.int (d9 net m i).tick,.int (kk:Int)]) he
    have nDe:D≠e:=aQ hDl he
    have muD:Mut (upd H3 e (.tup [.int (d9 net m i).tick,.int (kk:Int)]) D):=by rw[me _ _ hDl];exact trivial
    refine⟨me _ _ hDl,aZ (by omega),hD,(sm3.trans me).put hD,aD,?_,_,rfl⟩
    rw[bA hk,List.map_append,List.map_append]
    exact L2.IsL.snoc (Is.tupOf (ds:=[.int (d9 net m i).tick,.int (kk:Int)]) (cY.ts (K:=K) cY.upd muD _ _ (bT.of aD)) (.cons (Is.i _) (.cons (Is.i _) .nil))) (L2.IsL.mono (me.ts.trans (cY.ts cY.upd muD)) _ _ lr)
   ·rintro D rr σ' H3 ⟨hD,sm3,hDl,lr,_⟩
    rw[List.length_map,List.take_length] at lr
    have ht3:=sm3 _ _ ht2
    have l1:tvs.length≤12 * i:=by rw[lt1.length,List.length_map];exact tipN_len nok i
    have l2:rr.length≤12:=by rw[lr.length];simp;omega
    refine⟨tl,D,_,_,rfl,rfl,ht3,hDl,Nat.le_of_lt (eA (by omega)),?_⟩
    have mu3:Mut (H3 tl):=by rw[ht3];exact trivial
    have ts3:bL K H3 (upd H3 tl (.lst (tvs++rr))):=cY.ts cY.upd mu3
    have s13:=sm2.trans sm3
    refine⟨(s1.trans s13).put htl,⟨_,aD,?_⟩,p1,Is.mono ts3 _ _ (Is.mono sm3.ts _ _ i1),_,_,_,rfl⟩
    show IsL K _ ((cK net m i++tipsAt net (d9 net m i)).map tipD) _
    rw[List.map_append]
    exact IsL.app (L2.IsL.mono (s13.ts.trans ts3) _ _ lt1) (L2.IsL.mono ts3 _ _ lr)
  ·exact fun σ' H' p=>hD _ _ p
end
end Tw
namespace Tw
open PySem L2
section
variable {K:PySem.W.Frag}
theorem addTips_sz {B:Nat}:∀ (l:List (Int×Nat)) (ts:List (List Int)),(∀ x∈ts,x.length≤B)→∀ x∈l.foldl addTip ts,x.length≤B+l.length
 | [],ts,h,x,hx=>by have:=h x hx;simp;omega
 | t::l,ts,h,x,hx=>by
  have h2:∀ y∈addTip ts t,y.length≤B+1:=fun y hy=>by
   unfold addTip at hy
   rcases List.mem_or_eq_of_mem_set hy with hy | rfl
   ·have:=h y hy;omega
   ·rw[List.length_append,List.length_singleton]
    have:(ts.getD t.2 []).length≤B:=by
     rw[List.getD_eq_getElem?_getD]
     cases e:ts[t.2]? with
     | none=>simp
     | some z=>exact h z (List.mem_of_getElem? e)
    omega
  have:=addTips_sz (B:=B+1) l (addTip ts t) h2 x hx
  rw[List.length_cons]
  omega
theorem RunSz.pour {S:RunS}{B:Nat} (h:RunSz S B) (v a:Int):RunSz (S.pour v a) (B+1):=
 ⟨by have:=h.rows;show (S.rows++_).length≤_;rw[List.length_append,List.length_singleton];omega,by have:=h.pre;show (S.pre++_).length≤_;rw[List.length_append,List.length_singleton];omega,fun l hl=>by have:=h.tips l hl;omega⟩
theorem RunSz.go {S:RunS}{B:Nat} (h:RunSz S B) (nok:NetOk S.net) (k:Nat):RunSz (S.go k) (B+12 * k+1):=
 ⟨by have:=h.rows;show (S.rows++_).length≤_;rw[List.length_append,List.length_singleton];omega,by have:=h.pre;show (S.pre++_).length≤_;rw[List.length_append,List.length_singleton];omega,fun l hl=>by
  have h1:=addTips_sz (B:=B) _ _ h.tips l hl
  have h2:=tipN_len (m:=S.cur) nok k
  omega⟩
theorem run0_sz (net:Net):RunSz (run0 net) 0:=⟨Nat.le_refl _,Nat.le_refl _,fun l hl=>by
 have:=List.eq_of_mem_replicate (show l∈List.replicate net.vs.length [] from hl);subst this;exact Nat.le_refl _⟩
end
section
variable {P:Program}{w:World}{K:PySem.W.Frag}{mg:Str→Option Value}{base:Heap}{C:Addr}
noncomputable def spInit (K:PySem.W.Frag) (C:Addr):Sp:=fun vs H Q _=>∃ (r dx:Addr) (x:V) (net:Net),vs=[.ref r,x]∧H r=some (.ins C dx [])∧Is K H (netD net) x∧NetOk net∧NetFull net∧
 ∀ fp H',(∀ b∈fp,H b=none)→cY r H H'→cL K C H' r (run0 net) fp→Q .non H'
theorem sc_init:FnScope ["self","net"] ["self","net"] (aL (aV (top 43) 0)):=⟨rfl,rfl,rfl,by decide +kernel,rfl,by decide +kernel,by decide +kernel⟩
theorem ok_init {f f1 f2:Addr}{fd fd1 fd2:FuncData} (F:Fun K "__init__" "Run.__init__" (aV (top 43) 0) f fd) (T:Txt mg) (tx:RunTx K C)
  (G_is_net:Callee P w K mg base "is_net" ["thing"] 4 (spIsNet K) f1 fd1) (G_first_moment:Callee P w K mg base "first_moment" ["net"] 2 (spFirstMom K) f2 fd2) :
  FnOk P w K mg base CX0 5 f fd ["self","net"] (spInit K C):=by
 refine F.ok sc_init (fun vs H Q E h=>?_) (fun cdv A outer s H vs Q E hr h=>?_)
 ·obtain⟨r,dx,x,net,rfl,_⟩:=h;rfl
 ·obtain⟨r,dx,x,net,rfl,hi,hx,nok,nfu,k⟩:=h
  have sc:=sc_init
  refine⟨_,(aF (cF (dL (cU (cQ G_is_net hr (aA (pv 1) aE)))) (aO ps_dead) bH)
   (aF (ps_fldK (K:=K) rfl (pv 0) (pv 1) rfl)
   (aF (ps_fldK (K:=K) rfl (pv 0) (bY aE) rfl)
   (aF (ps_fldK (K:=K) rfl (pv 0) (bY (aA (cQ G_first_moment hr (aA (pv 1) aE)) aE)) rfl)
   (aO (ps_fldK (K:=K) rfl (pv 0) (pe_lc (fun _ _ h=>h) rfl (LcOk.mk (N':=["vessel"]) (fr:=[none]) rfl trivial rfl rfl rfl rfl rfl trivial) (dD (K:=K) rfl (aR (aM (K:=K) rfl) (pv 1) aG (fun _ _=>rfl))) (fun _ _ _=>(aJ (i:=0) (show (["vessel"]:List Str).Nodup by decide +kernel) rfl (Or.inl rfl) (Or.inr rfl))) (fun _ _ _=>cP) (fun _ _ _=>(bY aE))) rfl)))))),?_⟩
  refine⟨_,rfl,x,net,rfl,hx,nok,nfu,fun H1 sm1=>⟨_,rfl,dU ?_⟩⟩
  refine⟨_,rfl,_,rfl,r,C,dx,[],rfl,sm1 _ _ hi,tx.cls,tx.net,by decide,?_⟩
  have mu1:Mut (H1 r):=by rw[sm1 _ _ hi];exact trivial
  have i2:upd H1 r (.ins C dx (cI "net" x [])) r=some (.ins C dx (cI "net" x [])):=aD
  have b2:cY r H (upd H1 r (.ins C dx (cI "net" x []))):=sm1.but.trans cY.upd
  have hx2:Is K (upd H1 r (.ins C dx (cI "net" x []))) (netD net) x:=Is.mono (cY.ts cY.upd mu1) _ _ (Is.mono sm1.ts _ _ hx)
  generalize upd H1 r (.ins C dx (cI "net" x []))=H2 at i2 b2 hx2
  refine⟨Nat.zero_le _,fun R hR=>⟨_,rfl,r,C,dx,_,rfl,aK.new hR _ _ i2,tx.cls,tx.rows,(show 1 < 1000 by decide),?_⟩⟩
  have nRr:R≠r:=fun z=>by rw[z,i2] at hR;cases hR
  have fR:H R=none:=b2.free nRr hR
  have mu2:Mut (upd H2 R (.lst []) r):=by rw[aK.new hR _ _ i2];exact trivial
  have i3:upd (upd H2 R (.lst [])) r (.ins C dx (cI "rows" (.ref R) (cI "net" x []))) r=some (.ins C dx (cI "rows" (.ref R) (cI "net" x []))):=aD
  have b3:cY r H (upd (upd H2 R (.lst [])) r (.ins C dx (cI "rows" (.ref R) (cI "net" x [])))):=(b2.trans (aK.new hR).but).trans cY.upd
  have hx3:Is K (upd (upd H2 R (.lst [])) r (.ins C dx (cI "rows" (.ref R) (cI "net" x [])))) (netD net) x:=Is.mono (cY.ts cY.upd mu2) _ _ (Is.mono (aK.new hR).ts _ _ hx2)
  have hR3:upd (upd H2 R (.lst [])) r (.ins C dx (cI "rows" (.ref R) (cI "net" x []))) R=some (.lst []):=by rw[aP nRr];exact aD
  generalize upd (upd H2 R (.lst [])) r (.ins C dx (cI "rows" (.ref R) (cI "net" x [])))=H3 at i3 b3 hx3 hR3
  refine⟨_,rfl,x,net,rfl,hx3,nok,fun p H6 s36 cm=>⟨(show 1≤sizeLine by decide),fun M hM=>⟨_,rfl,r,C,dx,cI "rows" (.ref R) (cI "net" x []),rfl,aK.new hM _ _ (s36 _ _ i3),tx.cls,tx.moments,(show 2 < 1000 by decide),?_⟩⟩⟩
  have i6:=s36 _ _ i3
  have nMr:M≠r:=fun z=>by rw[z,i6] at hM;cases hM
  have nMR:M≠R:=fun z=>by rw[z,s36 _ _ hR3] at hM;cases hM
  have fM:H M=none:=(b3.trans s36.but).free nMr hM
  have mu6:Mut (upd H6 M (.lst [.ref p]) r):=by rw[aK.new hM _ _ i6];exact trivial
  have ts7:bL K H6 (upd (upd H6 M (.lst [.ref p])) r (.ins C dx (cI "moments" (.ref M) (cI "rows" (.ref R) (cI "net" x []))))):=(aK.new hM).ts.trans (cY.ts cY.upd mu6)
  have i7:upd (upd H6 M (.lst [.ref p])) r (.ins C dx (cI "moments" (.ref M) (cI "rows" (.ref R) (cI "net" x [])))) r=some (.ins C dx (cI "moments" (.ref M) (cI "rows" (.ref R) (cI "net" x [])))):=aD
  have b7:cY r H (upd (upd H6 M (.lst [.ref p])) r (.ins C dx (cI "moments" (.ref M) (cI "rows" (.ref R) (cI "net" x []))))):=((b3.trans s36.but).trans (aK.new hM).but).trans cY.upd
  have hM7:upd (upd H6 M (.lst [.ref p])) r (.ins C dx (cI "moments" (.ref M) (cI "rows" (.ref R) (cI "net" x [])))) M=some (.lst [.ref p]):=by rw[aP nMr];exact aD
  have hR7:upd (upd H6 M (.lst [.ref p])) r (.ins C dx (cI "moments" (.ref M) (cI "rows" (.ref R) (cI "net" x [])))) R=some (.lst []):=by rw[aP nRr];exact aK.new hM _ _ (s36 _ _ hR3)
  have hx7:=Is.mono ts7 _ _ (Is.mono s36.ts _ _ hx3)
  have cm7:=Is.mono ts7 _ _ cm
  generalize upd (upd H6 M (.lst [.ref p])) r (.ins C dx (cI "moments" (.ref M) (cI "rows" (.ref R) (cI "net" x []))))=H7 at i7 b7 hM7 hR7 hx7 cm7
  obtain⟨a,b,c,xs,ys,rfl,q,q1,l1,q2,l2⟩:=net_un hx7
  have exl:xs.length=net.vs.length:=by rw[l1.length,List.length_map]
  have n2:=nok.hi
  refine⟨_,rfl,.inr (.inl ⟨a,_,0,_,rfl,rfl,q,rfl,b,rfl,⟨_,q1⟩,lc_tup (K:=K) (a:=b) (xs:=xs) (fun D i rr σ' H'=>H7 D=none∧aK H7 H'∧H' D=some (.lst rr)∧(∃ ts:List Addr,rr=ts.map V.ref∧ts.length=i∧(D::ts).Nodup∧∀ t∈ts,H7 t=none∧H' t=some (.lst []))∧∃ u,σ'=[u])
   (fun D i rr σ' H' p=>p.2.1.tup q1) (fun D hD=>⟨hD,aK.new hD,aD,⟨[],rfl,rfl,by simp,fun t ht=>(nomatch ht)⟩,none,rfl⟩) ?_ ?_⟩)⟩
  rotate_left
  ·rintro D i v rr σ' H8 hv ⟨hD,sm,hDl,⟨ts,rfl,hts,hnd,hall⟩,u,rfl⟩
   have hil:=(List.getElem?_eq_some_iff.mp hv).1
   refine cS ?_
   refine⟨Nat.zero_le _,fun t ht=>⟨aK.new ht _ _ hDl,aZ (by simp;omega),hD,(sm.trans (aK.new ht)).put hD,aD,⟨ts++[t],by rw[List.map_append];rfl,by simp [hts],?_,?_⟩,_,rfl⟩⟩
   ·have nDt:D≠t:=fun z=>by rw[← z,hDl] at ht;cases ht
    have nts:t∉ts:=fun z=>by rw[(hall t z).2] at ht;cases ht
    rw[List.nodup_cons] at hnd ⊢
    refine⟨fun z=>?_,?_⟩
    ·rcases List.mem_append.1 z with z | z
     ·exact hnd.1 z
     ·exact nDt (by simpa using z)
    ·rw[List.nodup_append]
     exact⟨hnd.2,by simp,fun a ha b hb=>by rw[List.mem_singleton] at hb;subst hb;exact fun z=>nts (z ▸ ha)⟩
   ·intro t' ht'
    have nDt:t≠D:=fun z=>by rw[z,hDl] at ht;cases ht
    rcases List.mem_append.1 ht' with z | z
    ·have h1:=hall t' z
     have ne1:t'≠D:=fun z2=>by rw[List.nodup_cons] at hnd;exact hnd.1 (z2 ▸ z)
     exact⟨h1.1,by rw[aP ne1];exact aK.new ht _ _ h1.2⟩
    ·have:t'=t:=by simpa using z
     subst this
     exact⟨sm.free ht,by rw[aP nDt];exact aD⟩
  ·rintro D rr σ' H8 ⟨hD,sm,hDl,⟨ts,rfl,hts,hnd,hall⟩,_⟩
   refine⟨_,rfl,r,C,dx,_,rfl,sm _ _ i7,tx.cls,tx.tips,(show 3 < 1000 by decide),?_⟩
   have nDr:D≠r:=fun z=>by rw[z,i7] at hD;cases hD
   have nDR:D≠R:=fun z=>by rw[z,hR7] at hD;cases hD
   have nDM:D≠M:=fun z=>by rw[z,hM7] at hD;cases hD
   have ntr:∀ t∈ts,t≠r:=fun t ht z=>by have:=(hall t ht).1;rw[z,i7] at this;cases this
   have ntR:∀ t∈ts,t≠R:=fun t ht z=>by have:=(hall t ht).1;rw[z,hR7] at this;cases this
   have ntM:∀ t∈ts,t≠M:=fun t ht z=>by have:=(hall t ht).1;rw[z,hM7] at this;cases this
   have mu8:Mut (H8 r):=by rw[sm _ _ i7];exact trivial
   have ts8:bL K H7 (upd H8 r (.ins C dx (cI "tip_ticks" (.ref D) (cI "moments" (.ref M) (cI "rows" (.ref R) (cI "net" (.ref a) [])))))):=sm.ts.trans (cY.ts cY.upd mu8)
   refine k (R::M::D::ts) _ (fun y hy=>?_) ((b7.trans sm.but).trans cY.upd) ⟨dx,.ref a,R,M,D,ts,[],[],.ref p,?_,rfl⟩
   ·rcases List.mem_cons.1 hy with rfl | hy
    ·exact fR
    rcases List.mem_cons.1 hy with rfl | hy
    ·exact fM
    rcases List.mem_cons.1 hy with rfl | hy
    ·exact b7.free nDr hD
    exact b7.free (ntr y hy) (hall y hy).1
   ·exact {
     ins:=aD
     net:=Is.mono ts8 _ _ hx7
     hR:=by rw[aP nRr];exact sm _ _ hR7
     lR:=.nil
     hM:=by rw[aP nMr];exact sm _ _ hM7
     lM:=.nil
     cM:=Is.mono ts8 _ _ cm7
     hT:=by rw[aP nDr];exact hDl
     tl:=by rw[hts,exl];simp [run0]
     ti:=fun i t l h1 h2=>by
      have hm:=List.mem_of_getElem? h1
      have hl:=List.mem_of_getElem? h2
      have:=List.eq_of_mem_replicate (show l∈List.replicate net.vs.length [] from hl)
      subst this
      rw[aP (ntr t hm)];exact (hall t hm).2
     nd:=by
      rw[List.nodup_cons]
      refine⟨fun z=>?_,?_⟩
      ·rcases List.mem_cons.1 z with z | z
       ·exact nMR z.symm
       rcases List.mem_cons.1 z with z | z
       ·exact nDR z.symm
       exact ntR R z rfl
      rw[List.nodup_cons]
      refine⟨fun z=>?_,hnd⟩
      rcases List.mem_cons.1 z with z | z
      ·exact nDM z.symm
      exact ntM M z rfl
     ok:=run0_ok nok }
noncomputable def spTell (K:PySem.W.Frag) (C:Addr) (φ:RunS→V→Hp→Prop):Sp:=fun vs H Q _=>∃ (r:Addr) (S:RunS) (fp:List Addr),vs=[.ref r]∧cL K C H r S fp∧∀ v,φ S v H→Q v H
theorem sc_state:FnScope ["self"] ["self"] (aL (aV (top 43) 5)):=⟨rfl,rfl,rfl,by decide +kernel,rfl,by decide +kernel,by decide +kernel⟩
theorem ok_state {f:Addr}{fd:FuncData} (F:Fun K "state" "Run.state" (aV (top 43) 5) f fd) (T:Txt mg) (tx:RunTx K C):FnOk P w K mg base CX0 1 f fd ["self"] (spTell K C fun S v H=>Is K H (stD S.cur.held S.cur.coming S.cur.doors) v):=by
 refine F.ok sc_state (fun vs H Q E h=>?_) (fun cdv A outer s H vs Q E hr h=>?_)
 ·obtain⟨r,S,fp,rfl,_⟩:=h;rfl
 ·obtain⟨r,S,fp,rfl,⟨dx,np,R,M,T',ts,rs,ms,mv,c,rfl⟩,k⟩:=h
  have sc:=sc_state
  refine⟨_,(aO (aX (aR (aM (K:=K) rfl) (aR (aM (K:=K) rfl) (cZ (K:=K) rfl (pv 0) rfl) (pe_un un_neg aG) (fun _ _=>rfl)) aG (fun _ _=>rfl)))),?_⟩
  obtain⟨a,po,st,rfl,q,hs,hp⟩:=mom_un c.cM
  exact⟨_,rfl,r,C,dx,_,_,rfl,c.ins,tx.cls,tx.moments,dS,1,rfl,.inl ⟨M,_,-1,_,rfl,rfl,bM.of c.hM,eJ _ _,.inr (.inl ⟨a,_,1,_,rfl,rfl,q,rfl,k _ hs⟩)⟩⟩
theorem sc_came:FnScope ["self"] ["self"] (aL (aV (top 43) 7)):=⟨rfl,rfl,rfl,by decide +kernel,rfl,by decide +kernel,by decide +kernel⟩
theorem ok_came {f:Addr}{fd:FuncData} (F:Fun K "came" "Run.came" (aV (top 43) 7) f fd) (T:Txt mg) (tx:RunTx K C):FnOk P w K mg base CX0 1 f fd ["self"] (spTell K C fun S v H=>v=.int S.cur.came):=by
 refine F.ok sc_came (fun vs H Q E h=>?_) (fun cdv A outer s H vs Q E hr h=>?_)
 ·obtain⟨r,S,fp,rfl,_⟩:=h;rfl
 ·obtain⟨r,S,fp,rfl,⟨dx,np,R,M,T',ts,rs,ms,mv,c,rfl⟩,k⟩:=h
  have sc:=sc_came
  refine⟨_,(aO (aX (aR (aM (K:=K) rfl) (aR (aM (K:=K) rfl) (cZ (K:=K) rfl (pv 0) rfl) (pe_un un_neg aG) (fun _ _=>rfl)) aG (fun _ _=>rfl)))),?_⟩
  obtain⟨a,po,st,rfl,q,hs,hp⟩:=mom_un c.cM
  exact⟨_,rfl,r,C,dx,_,_,rfl,c.ins,tx.cls,tx.moments,dS,1,rfl,.inl ⟨M,_,-1,_,rfl,rfl,bM.of c.hM,eJ _ _,.inr (.inl ⟨a,_,3,_,rfl,rfl,q,rfl,k _ rfl⟩)⟩⟩
theorem sc_grounded:FnScope ["self"] ["self"] (aL (aV (top 43) 8)):=⟨rfl,rfl,rfl,by decide +kernel,rfl,by decide +kernel,by decide +kernel⟩
theorem ok_grounded {f:Addr}{fd:FuncData} (F:Fun K "grounded" "Run.grounded" (aV (top 43) 8) f fd) (T:Txt mg) (tx:RunTx K C):FnOk P w K mg base CX0 1 f fd ["self"] (spTell K C fun S v H=>v=.int S.cur.ground):=by
 refine F.ok sc_grounded (fun vs H Q E h=>?_) (fun cdv A outer s H vs Q E hr h=>?_)
 ·obtain⟨r,S,fp,rfl,_⟩:=h;rfl
 ·obtain⟨r,S,fp,rfl,⟨dx,np,R,M,T',ts,rs,ms,mv,c,rfl⟩,k⟩:=h
  have sc:=sc_grounded
  refine⟨_,(aO (aX (aR (aM (K:=K) rfl) (aR (aM (K:=K) rfl) (cZ (K:=K) rfl (pv 0) rfl) (pe_un un_neg aG) (fun _ _=>rfl)) aG (fun _ _=>rfl)))),?_⟩
  obtain⟨a,po,st,rfl,q,hs,hp⟩:=mom_un c.cM
  exact⟨_,rfl,r,C,dx,_,_,rfl,c.ins,tx.cls,tx.moments,dS,1,rfl,.inl ⟨M,_,-1,_,rfl,rfl,bM.of c.hM,eJ _ _,.inr (.inl ⟨a,_,4,_,rfl,rfl,q,rfl,k _ rfl⟩)⟩⟩
theorem sc_rtick:FnScope ["self"] ["self"] (aL (aV (top 43) 4)):=⟨rfl,rfl,rfl,by decide +kernel,rfl,by decide +kernel,by decide +kernel⟩
theorem ok_rtick {f:Addr}{fd:FuncData} (F:Fun K "tick" "Run.tick" (aV (top 43) 4) f fd) (T:Txt mg) (tx:RunTx K C):FnOk P w K mg base CX0 1 f fd ["self"] (spTell K C fun S v H=>v=.int S.cur.tick):=by
 refine F.ok sc_rtick (fun vs H Q E h=>?_) (fun cdv A outer s H vs Q E hr h=>?_)
 ·obtain⟨r,S,fp,rfl,_⟩:=h;rfl
 ·obtain⟨r,S,fp,rfl,⟨dx,np,R,M,T',ts,rs,ms,mv,c,rfl⟩,k⟩:=h
  have sc:=sc_rtick
  refine⟨_,(aO (aX (aR (aM (K:=K) rfl) (aR (aM (K:=K) rfl) (cZ (K:=K) rfl (pv 0) rfl) (pe_un un_neg aG) (fun _ _=>rfl)) aG (fun _ _=>rfl)))),?_⟩
  obtain⟨a,po,st,rfl,q,hs,hp⟩:=mom_un c.cM
  exact⟨_,rfl,r,C,dx,_,_,rfl,c.ins,tx.cls,tx.moments,dS,1,rfl,.inl ⟨M,_,-1,_,rfl,rfl,bM.of c.hM,eJ _ _,.inr (.inl ⟨a,_,0,_,rfl,rfl,q,rfl,k _ rfl⟩)⟩⟩
theorem sc_pour:FnScope ["self","vessel","amount"] ["self","vessel","amount"] (aL (aV (top 43) 1)):=⟨rfl,rfl,rfl,by decide +kernel,rfl,by decide +kernel,by decide +kernel⟩
end
end Tw
namespace Tw
open PySem L2
section
variable {K:PySem.W.Frag}{C r dx R M T:Addr}{H H':Hp}{S:RunS}{fp:List Addr}{np mv:V}{ts:List Addr}{rs ms:List V}
theorem nodup_at {α:Type}{xs:List α} (h:xs.Nodup) {i j:Nat}{x:α} (h1:xs[i]? = some x) (h2:xs[j]? = some x):i=j:=by
 obtain⟨a1,b1⟩:=List.getElem?_eq_some_iff.mp h1
 obtain⟨a2,b2⟩:=List.getElem?_eq_some_iff.mp h2
 exact (List.getElem_inj h (h₀:=a1) (h₁:=a2)).1 (b1.trans b2.symm)
theorem RunC.addTip (c:RunC K C H r S dx np R M T ts rs ms mv) {p:Int×Nat}{t:Addr}{l:List Int} (h1:ts[p.2]? = some t) (h2:S.tips[p.2]? = some l) :
  RunC K C (upd H t (.lst ((l++[p.1]).map V.int))) r { S with tips:=addTip S.tips p } dx np R M T ts rs ms mv:=by
 have hm:=List.mem_of_getElem? h1
 have ht:=c.ti _ _ _ h1 h2
 have mu:Mut (H t):=by rw[ht];exact trivial
 have tst:bL K H (upd H t (.lst ((l++[p.1]).map V.int))):=cY.ts cY.upd mu
 have nd:=c.nd
 rw[List.nodup_cons] at nd
 have nd2:=nd.2
 rw[List.nodup_cons] at nd2
 have nd3:=nd2.2
 rw[List.nodup_cons] at nd3
 have nR:R≠t:=fun z=>nd.1 (by rw[z];simp [hm])
 have nM:M≠t:=fun z=>nd2.1 (by rw[z];simp [hm])
 have nT:T≠t:=fun z=>nd3.1 (by rw[z];exact hm)
 have nr:r≠t:=fun z=>c.r_notin (by rw[z];simp [hm])
 have hlt:p.2 < S.tips.length:=(List.getElem?_eq_some_iff.mp h2).1
 have hgd:S.tips.getD p.2 []=l:=by rw[List.getD_eq_getElem?_getD,h2];rfl
 exact {
  ins:=by rw[aP nr];exact c.ins
  net:=Is.mono tst _ _ c.net
  hR:=by rw[aP nR];exact c.hR
  lR:=IsL.mono tst _ _ c.lR
  hM:=by rw[aP nM];exact c.hM
  lM:=IsL.mono tst _ _ c.lM
  cM:=Is.mono tst _ _ c.cM
  hT:=by rw[aP nT];exact c.hT
  tl:=by show _=(List.set S.tips p.2 _).length;rw[List.length_set];exact c.tl
  ti:=fun i t' l' e1 e2=>by
   by_cases hi:i=p.2
   ·subst hi
    rw[h1] at e1
    cases e1
    have e3:(S.tips.set p.2 (S.tips.getD p.2 []++[p.1]))[p.2]? = some l':=e2
    rw[hgd,List.getElem?_set_self hlt] at e3
    cases e3
    exact aD
   ·have e3:(S.tips.set p.2 (S.tips.getD p.2 []++[p.1]))[i]? = some l':=e2
    rw[List.getElem?_set_ne (Ne.symm hi)] at e3
    have ne:t'≠t:=fun z=>hi (nodup_at nd3.2 (by rw[← z];exact e1) h1)
    rw[aP ne]
    exact c.ti i t' l' e1 e3
  nd:=c.nd
  ok:=⟨c.ok.nok,c.ok.cur,by show (List.set S.tips p.2 _).length=_;rw[List.length_set];exact c.ok.tl⟩ }
end
section
variable {P:Program}{w:World}{K:PySem.W.Frag}{mg:Str→Option Value}{base:Heap}{C:Addr}
noncomputable def spGo (K:PySem.W.Frag) (C:Addr):Sp:=fun vs H Q _=>∃ (r:Addr) (S:RunS) (fp:List Addr) (k B:Nat),vs=[.ref r,.int (k:Int)]∧cL K C H r S fp∧RunSz S B∧B≤1000000∧k≤100000∧
 ∀ H',ButL fp H H'→cL K C H' r (S.go k) fp→Q .non H'
theorem sc_go:FnScope ["self","many","moment","tipped","tick","number"] ["self","many"] (aL (aV (top 43) 2)):=⟨rfl,rfl,rfl,by decide +kernel,rfl,by decide +kernel,by decide +kernel⟩
theorem ok_go {f f1:Addr}{fd fd1:FuncData} (F:Fun K "go" "Run.go" (aV (top 43) 2) f fd) (T:Txt mg) (tx:RunTx K C) (G_moment_gone:Callee P w K mg base "moment_gone" ["net","moment","many"] 6 (spMomGo K) f1 fd1) :
  FnOk P w K mg base CX0 7 f fd ["self","many"] (spGo K C):=by
 refine F.ok sc_go (fun vs H Q E h=>?_) (fun cdv A outer s H vs Q E hr h=>?_)
 ·obtain⟨r,S,fp,k,B,rfl,_⟩:=h;rfl
 ·obtain⟨r,S,fp,n,B,rfl,⟨dx,np,R,M,T',ts,rs,ms,mv,c,rfl⟩,sz,hB,hn,k⟩:=h
  have sc:=sc_go
  refine⟨_,(aF (cB (cQ G_moment_gone hr (aA (cZ (K:=K) rfl (pv 0) rfl) (aA (aR (aM (K:=K) rfl) (cZ (K:=K) rfl (pv 0) rfl) (pe_un un_neg aG) (fun _ _=>rfl)) (aA (pv 1) aE)))) (bF (K:=K) (n:=2) rfl rfl (aH (aJ (i:=2) sc.nd rfl (Or.inl rfl)) (aH (aJ (i:=3) sc.nd rfl (Or.inl rfl)) bD))))
   (aF (bZ (dY (K:=K) rfl PySem.F.plainAttrs_list PySem.F.slot_list_append PySem.F.type_list_append cD (cZ (K:=K) rfl (pv 0) rfl) (aA (pv 2) aE)))
   (aF (bZ (dY (K:=K) rfl PySem.F.plainAttrs_list PySem.F.slot_list_append PySem.F.type_list_append cD (cZ (K:=K) rfl (pv 0) rfl) (aA (bV (aA dM (aA (pv 1) (aA (pv 3) aE)))) aE)))
   (aO (dB PassesOwn.never rfl (dD (K:=K) rfl (pv 3)) (bF (K:=K) (n:=2) rfl rfl (aH (aJ (i:=4) sc.nd rfl (Or.inl rfl)) (aH (aJ (i:=5) sc.nd rfl (Or.inl rfl)) bD))) (aO (bZ (dY (K:=K) rfl PySem.F.plainAttrs_list PySem.F.slot_list_append PySem.F.type_list_append cD (aR (aM (K:=K) rfl) (cZ (K:=K) rfl (pv 0) rfl) (pv 5) (fun _ _=>rfl)) (aA (pv 4) aE))))))))),?_⟩
  have nok:=c.ok.nok
  have mok:=c.ok.cur
  have nd:=c.nd
  have lrs:rs.length≤B:=by rw[c.lR.length,List.length_map];exact sz.rows
  have lms:ms.length≤B:=by rw[c.lM.length,List.length_map];exact sz.pre
  refine⟨_,rfl,r,C,dx,_,_,rfl,c.ins,tx.cls,tx.net,lk_net,_,rfl,r,C,dx,_,_,rfl,c.ins,tx.cls,tx.moments,dS,1,rfl,.inl ⟨M,_,-1,_,rfl,rfl,bM.of c.hM,eJ _ _,_,rfl,np,mv,S.net,S.cur,n,rfl,c.net,c.cM,nok,mok,hn,fun pp mi tl tvs H1 s1 qpp cm1 qtl lt1=>?_⟩⟩
  refine⟨pp,_,rfl,qpp,rfl,_,_,rfl,_,_,rfl,rfl,?_⟩
  have ltv:tvs.length≤12 * n:=by rw[lt1.length,List.length_map];exact tipN_len nok n
  have nRM:R≠M:=fun z=>by rw[List.nodup_cons] at nd;exact nd.1 (by rw[z];simp)
  have ne_rM:r≠M:=fun z=>c.r_notin (by rw[z];simp)
  have ne_rR:r≠R:=fun z=>c.r_notin (by rw[z];simp)
  refine⟨_,rfl,r,C,dx,_,_,rfl,s1 _ _ c.ins,tx.cls,tx.moments,dS,.inl ⟨rfl,_,bM.of (s1 _ _ c.hM)⟩,_,rfl,M,_,_,rfl,rfl,s1 _ _ c.hM,eA (by simp;omega),?_⟩
  have muM:Mut (H1 M):=by rw[s1 _ _ c.hM];exact trivial
  have ts2:bL K H1 (upd H1 M (.lst (ms++[mv]++[mi]))):=cY.ts cY.upd muM
  have tl2:=ts2 _ _ qtl
  have k2:∀ (b:Addr) (o:HO),b≠M→H b=some o→upd H1 M (.lst (ms++[mv]++[mi])) b=some o:=fun b o h e=>by rw[aP h];exact s1 _ _ e
  have hM2:upd H1 M (.lst (ms++[mv]++[mi])) M=some (.lst (ms++[mv]++[mi])):=aD
  have tsH2:bL K H (upd H1 M (.lst (ms++[mv]++[mi]))):=s1.ts.trans ts2
  have cm2:=Is.mono ts2 _ _ cm1
  have lt2:=L2.IsL.mono ts2 _ _ lt1
  generalize upd H1 M (.lst (ms++[mv]++[mi]))=H2 at tl2 k2 hM2 tsH2 cm2 lt2
  refine⟨_,rfl,r,C,dx,_,_,rfl,k2 _ _ ne_rM c.ins,tx.cls,tx.rows,lk_rows,.inl ⟨rfl,_,bM.of (k2 _ _ nRM c.hR)⟩,?_⟩
  refine⟨_,rfl,_,rfl,(show 3≤sizeLine by decide),fun p3 hp3=>?_⟩
  have s24:aK H2 (upd H2 p3 (.tup [.str "go",.int (n:Int),.ref tl])):=aK.new hp3
  have row4:Is K (upd H2 p3 (.tup [.str "go",.int (n:Int),.ref tl])) (rowD (.go (n:Int) (cK S.net S.cur n))) (.ref p3):=
   Is.tupOf (ds:=[.str "go",.int (n:Int),.tup ((cK S.net S.cur n).map tipD)]) (bT.of aD) (.cons (Is.s _) (.cons (Is.i _) (.cons (Is.tupOf (s24.tup tl2) (L2.IsL.mono s24.ts _ _ lt2)) .nil)))
  generalize upd H2 p3 (.tup [.str "go",.int (n:Int),.ref tl])=H4 at row4 s24
  have hR4:=s24 _ _ (k2 _ _ nRM c.hR)
  refine⟨R,_,_,rfl,rfl,hR4,eA (by omega),?_⟩
  have muR:Mut (H4 R):=by rw[hR4];exact trivial
  have ts5:bL K H4 (upd H4 R (.lst (rs++[.ref p3]))):=cY.ts cY.upd muR
  have tsH5:bL K H (upd H4 R (.lst (rs++[.ref p3]))):=(tsH2.trans s24.ts).trans ts5
  have keep:∀ (b:Addr) (o:HO),b≠M→b≠R→H b=some o→upd H4 R (.lst (rs++[.ref p3])) b=some o:=fun b o h1 h2 e=>by
   rw[aP h2];exact s24 _ _ (k2 _ _ h1 e)
  have tl5:=ts5 _ _ (s24.tup tl2)
  have lt5:=L2.IsL.mono (s24.ts.trans ts5) _ _ lt2
  rw[List.nodup_cons] at nd
  have nd2:=nd.2
  rw[List.nodup_cons] at nd2
  have c5:RunC K C (upd H4 R (.lst (rs++[.ref p3]))) r { S with
   rows:=S.rows++[.go (n:Int) (cK S.net S.cur n)],pre:=S.pre++[S.cur],cur:=d9 S.net S.cur n } dx np R M T' ts (rs++[.ref p3]) (ms++[mv]) mi:={
   ins:=keep _ _ ne_rM ne_rR c.ins
   net:=Is.mono tsH5 _ _ c.net
   hR:=aD
   lR:=by
    show IsL K _ ((S.rows++[Row.go (n:Int) (cK S.net S.cur n)]).map rowD) _
    rw[List.map_append]
    exact L2.IsL.snoc (Is.mono ts5 _ _ row4) (L2.IsL.mono tsH5 _ _ c.lR)
   hM:=by rw[aP (Ne.symm nRM)];exact s24 _ _ hM2
   lM:=by
    show IsL K _ ((S.pre++[S.cur]).map momD) _
    rw[List.map_append]
    exact L2.IsL.snoc (Is.mono tsH5 _ _ c.cM) (L2.IsL.mono tsH5 _ _ c.lM)
   cM:=Is.mono (s24.ts.trans ts5) _ _ cm2
   hT:=keep _ _ (fun z=>nd2.1 (by rw[← z];simp)) (fun z=>nd.1 (by rw[← z];simp)) c.hT
   tl:=c.tl
   ti:=fun i t l h1 h2=>by
    have hm:=List.mem_of_getElem? h1
    exact keep _ _ (fun z=>nd2.1 (by rw[← z];simp [hm])) (fun z=>nd.1 (by rw[← z];simp [hm])) (c.ti i t l h1 h2)
   nd:=c.nd
   ok:=⟨c.ok.nok,momN_ok mok n,c.ok.tl⟩ }
  have b5:ButL (R::M::T'::ts) H (upd H4 R (.lst (rs++[.ref p3]))):=fun b o hb e=>keep b o (fun z=>hb (by rw[z];simp)) (fun z=>hb (by rw[z];simp)) e
  generalize upd H4 R (.lst (rs++[.ref p3]))=H5 at tl5 lt5 c5 b5
  refine⟨_,rfl,tl,rfl,⟨_,tl5⟩,for_tup (K:=K) (a:=tl) (xs:=tvs)
   (fun i σ' H'=>bT K H' tl tvs∧IsL K H' ((cK S.net S.cur n).map tipD) tvs∧ButL (R::M::T'::ts) H H'∧
    RunC K C H' r { S with rows:=S.rows++[.go (n:Int) (cK S.net S.cur n)],pre:=S.pre++[S.cur],cur:=d9 S.net S.cur n,tips:=((cK S.net S.cur n).take i).foldl addTip S.tips } dx np R M T' ts (rs++[V.ref p3]) (ms++[mv]) mi∧
    ∃ v4 v5,σ'=[some (.ref r),some (.int (n:Int)),some mi,some (.ref tl),v4,v5])
   ⟨tl5,lt5,b5,by rw[List.take_zero];exact c5,_,_,rfl⟩ (fun i σ' H' _ p=>p.1) ?_ ?_⟩
  ·rintro i x σ' H6 hx ⟨tl6,lt6,b6,c6,v4,v5,rfl⟩
   obtain⟨d,hd,ix⟩:=L2.IsL.get' lt6 hx
   rw[List.getElem?_map] at hd
   obtain⟨⟨tk,nu⟩,hp',rfl⟩:=Option.map_eq_some_iff.mp hd
   have hil:=(List.getElem?_eq_some_iff.mp hp').1
   have hnu:nu < S.net.vs.length:=tipN_lt n _ (List.mem_of_getElem? hp')
   obtain⟨e,zs,rfl,qe,le⟩:=(show Is K H6 (.tup [.int tk,.int (nu:Int)]) x from ix).un
   obtain⟨x1,rr,rfl,h1,le⟩:=le.un
   obtain⟨x2,rr,rfl,h2,le⟩:=le.un
   have:=le.un0
   subst this
   have:=h1.ui
   subst this
   have:=h2.ui
   subst this
   refine⟨e,_,rfl,qe,rfl,_,_,rfl,_,_,rfl,rfl,?_⟩
   have lt6':=c6.ok.tl
   have hts:nu < ts.length:=by rw[c.tl,c.ok.tl];exact hnu
   have htt:ts[nu]? = some ts[nu]:=by simp [hts]
   have hli:nu < (((cK S.net S.cur n).take i).foldl addTip S.tips).length:=by rw[addTips_len,c.ok.tl];exact hnu
   have hll:(((cK S.net S.cur n).take i).foldl addTip S.tips)[nu]? = some (((cK S.net S.cur n).take i).foldl addTip S.tips)[nu]:=by simp [hli]
   have hsz:=addTips_sz (B:=B) ((cK S.net S.cur n).take i) S.tips sz.tips _ (List.getElem_mem hli)
   generalize (((cK S.net S.cur n).take i).foldl addTip S.tips)[nu]=l at hll hsz
   have htk:=tipN_len (m:=S.cur) nok n
   rw[List.length_take] at hsz
   have hti:=c6.ti nu _ l htt hll
   refine⟨_,rfl,r,C,dx,_,_,rfl,c6.ins,tx.cls,tx.tips,lk_tips,_,rfl,.inl ⟨T',_,(nu:Int),.ref ts[nu],rfl,rfl,bM.of c6.hT,d5 (by rw[List.getElem?_map,htt];rfl),.inl ⟨rfl,_,bM.of hti⟩,_,rfl,ts[nu],_,_,rfl,rfl,hti,eA (by rw[List.length_map];omega),?_⟩⟩
   have c7:=c6.addTip (p:=(tk,nu)) htt hll
   have hmem:ts[nu]∈R::M::T'::ts:=by simp
   have mu6:Mut (H6 ts[nu]):=by rw[hti];exact trivial
   rw[List.map_append] at c7
   refine⟨cY.ts (K:=K) cY.upd mu6 _ _ tl6,L2.IsL.mono (cY.ts cY.upd mu6) _ _ lt6,b6.trans (ButL.upd hmem),?_,_,_,rfl⟩
   rw[bA hp',List.foldl_append]
   exact c7
  ·rintro σ' H6 ⟨tl6,lt6,b6,c6,_⟩
   have el:tvs.length=(cK S.net S.cur n).length:=by rw[lt1.length,List.length_map]
   rw[el,List.take_length] at c6
   exact k _ b6 ⟨dx,np,R,M,T',ts,_,_,_,c6,rfl⟩
end
end Tw
namespace L2
open PySem PySem.Spec PyProof.Rows TwZ
noncomputable def EqE (K:PySem.W.Frag) (H:Hp) (x y:V):Prop:=(∃ d:D,d.depth≤20∧Is K H d x∧Is K H d y)∨
 ∃ a b xs ys ds,x=.ref a∧y=.ref b∧bM K H a xs∧bM K H b ys∧IsL K H ds xs∧IsL K H ds ys∧bX ds≤20
noncomputable def SameLs (K:PySem.W.Frag) (H:Hp) (x y:V):Prop:=∃ a b xs ys,x=.ref a∧y=.ref b∧bM K H a xs∧bM K H b ys∧xs.length=ys.length∧∀ (i:Nat) u v,xs[i]? = some u→ys[i]? = some v→EqE K H u v
section
variable {X:Cx}{pins:List (Addr×Obj)}{σ:St}{H:Hp}{s:Shared}
theorem EqE.at (I:Inv X pins σ H s) {A:Around}{x y:V}{u v:Value} (hu:A.units+22 < cLine) (h:EqE X.K H x y) (rx:bO x u) (ry:bO y v):SeqAt.EqAt A s u v true:=by
 rcases h with ⟨d,hd,h1,h2⟩ | ⟨a,b,xs,ys,ds,rfl,rfl,q1,q2,l1,l2,hd⟩
 ·exact Is.eqAt I d A x y u v (by omega) h1 h2 rx ry
 ·cases rx
  cases ry
  by_cases hab:a=b
  ·subst hab;exact SeqAt.EqAt.same _
  ·obtain⟨us,r1,p1,_⟩:=I.list q1
   obtain⟨vs,r2,p2,_⟩:=I.list q2
   have e1:=r1.length
   have e2:=r2.length
   have e3:=l1.length
   have e4:=l2.length
   have hin:A.in1.units=A.units+1:=rfl
   have all:=IsL.eqAt I ds A.in1 xs ys us vs (by omega) l1 l2 r1 r2
   have:=SeqAt.RcAt.lists (A:=A) (s:=s) (e:=fun _=>true) p1.isList p2.isList (by simp;omega) (by omega) fun j h1 h2=>all j us.toArray[j] vs.toArray[j] (by simp) (by simp)
   have e5:((List.range us.toArray.size).all (fun _=>true))=true:=by simp
   rw[e5] at this
   exact SeqAt.EqAt.of_refs hab this
noncomputable def rEqSameL (K:PySem.W.Frag):R2:=fun x y H Q=>SameLs K H x y∧Q (.bl true) H
noncomputable def rNeSameL (K:PySem.W.Frag):R2:=fun x y H Q=>SameLs K H x y∧Q (.bl false) H
theorem op_eqSameL (hu:X.A.units+64 < cLine):OpR X (compareOp .Eq) (rEqSameL X.K):=by
 intro pins s σ H x y v u Q I rx ry h
 obtain⟨⟨a,b,xs,ys,rfl,rfl,q1,q2,hl,he⟩,q⟩:=h
 cases rx
 cases ry
 obtain⟨us,r1,p1,_⟩:=I.list q1
 obtain⟨vs,r2,p2,_⟩:=I.list q2
 have e1:=r1.length
 have e2:=r2.length
 have hin:X.A.in1.units=X.A.units+1:=rfl
 refine SeqAt.eq_listAt (e:=fun _=>true) p1.isList p2.isList (by simp;omega) (by omega) (fun j h1 h2=>?_) ?_
 ·have j1:j < xs.length:=by rw[e1];simpa using h1
  have j2:j < ys.length:=by rw[e2];simpa using h2
  obtain⟨w1,g1,t1⟩:=r1.get (i:=j) (x:=xs[j]) (by simp)
  obtain⟨w2,g2,t2⟩:=r2.get (i:=j) (x:=ys[j]) (by simp)
  have k1:us.toArray[j]=w1:=by
   have:us[j]? = some us.toArray[j]:=by simp
   rw[this] at g1;exact Option.some.inj g1
  have k2:vs.toArray[j]=w2:=by
   have:vs[j]? = some vs.toArray[j]:=by simp
   rw[this] at g2;exact Option.some.inj g2
  rw[k1,k2]
  exact (he j _ _ (by simp) (by simp)).at I (by omega) t1 t2
 ·have e5:((List.range us.toArray.size).all (fun _=>true))=true:=by simp
  rw[e5]
  exact⟨.bl true,H,I,rfl,q⟩
theorem op_neSameL (hu:X.A.units+64 < cLine):OpR X (compareOp .NotEq) (rNeSameL X.K):=by
 intro pins s σ H x y v u Q I rx ry h
 obtain⟨⟨a,b,xs,ys,rfl,rfl,q1,q2,hl,he⟩,q⟩:=h
 cases rx
 cases ry
 obtain⟨us,r1,p1,_⟩:=I.list q1
 obtain⟨vs,r2,p2,_⟩:=I.list q2
 have e1:=r1.length
 have e2:=r2.length
 have hin:X.A.in1.units=X.A.units+1:=rfl
 refine SeqAt.RcNeAt.lists (A:=X.A) (s:=s) (e:=fun _=>true) p1.isList p2.isList (by simp;omega) (by omega) (fun j h1 h2=>?_) X.prog X.w X.xe _ ?_
 ·have j1:j < xs.length:=by rw[e1];simpa using h1
  have j2:j < ys.length:=by rw[e2];simpa using h2
  obtain⟨w1,g1,t1⟩:=r1.get (i:=j) (x:=xs[j]) (by simp)
  obtain⟨w2,g2,t2⟩:=r2.get (i:=j) (x:=ys[j]) (by simp)
  have k1:us.toArray[j]=w1:=by
   have:us[j]? = some us.toArray[j]:=by simp
   rw[this] at g1;exact Option.some.inj g1
  have k2:vs.toArray[j]=w2:=by
   have:vs[j]? = some vs.toArray[j]:=by simp
   rw[this] at g2;exact Option.some.inj g2
  rw[k1,k2]
  exact (he j _ _ (by simp) (by simp)).at I (by omega) t1 t2
 ·have e5:((List.range us.toArray.size).all (fun _=>true))=true:=by simp
  rw[e5]
  exact⟨.bl false,H,I,rfl,q⟩
theorem op_eqSameLK {K:PySem.W.Frag} (hK:X.K=K) (hu:X.A.units+64 < cLine):OpR X (compareOp .Eq) (rEqSameL K):=by subst hK;exact op_eqSameL hu
theorem op_neSameLK {K:PySem.W.Frag} (hK:X.K=K) (hu:X.A.units+64 < cLine):OpR X (compareOp .NotEq) (rNeSameL K):=by subst hK;exact op_neSameL hu
end
section
variable {K:PySem.W.Frag}{H:Hp}
theorem SameLs.data {a b:Addr}{xs ys:List V}{ds:List D} (q1:bM K H a xs) (q2:bM K H b ys) (l1:IsL K H ds xs) (l2:IsL K H ds ys) (hd:bX ds≤20):SameLs K H (.ref a) (.ref b):=by
 refine⟨a,b,xs,ys,rfl,rfl,q1,q2,by rw[l1.length,l2.length],fun i u v h1 h2=>?_⟩
 obtain⟨d,hd1,i1⟩:=l1.get' h1
 obtain⟨v',hv',i2⟩:=l2.get hd1
 rw[h2] at hv'
 cases hv'
 refine .inl ⟨d,?_,i1,i2⟩
 have:∀ (ds:List D) (d:D),d∈ds→d.depth≤bX ds:=by
  intro ds
  induction ds with
  | nil=>intro d h;cases h
  | cons e r ih=>
   intro d h
   rw[bX]
   rcases List.mem_cons.1 h with rfl | h
   ·omega
   ·have:=ih d h;omega
 have:=this ds d (List.mem_of_getElem? hd1)
 omega
end
end L2
namespace L2
open PySem PySem.Spec PyProof.Rows TwZ
structure Fly (P:Program) (w:World) (stack:List Env) (H:Hp) (h:Heap) (ea:Addr) (cls a0:Value) (H':Hp) (h' B:Heap):Prop where
 fl:Heap.FlyingW B stack ea cls a0 h'
 keep:∀ b o,h.get? b=some o→H b=none→b∉frs stack→B.get? b=some o
 slot:∀ b o,h.get? b=some o→H b=none→b∈frs stack→∃ sl,h'.get? b=some { o with slots:=sl }
 free:∀ b o,h.get? b=some o→H b=none→H' b=none
 there:∀ b o,h.get? b=some o→b∉frs stack→∃ o',B.get? b=some o'
 tups:∀ b xs,H b=some (.tup xs)→H' b=some (.tup xs)
 frzs:∀ b o u,H b=some (.frz o u)→H' b=some (.frz o u)
 tbls:∀ b ps,H b=some (.tbl ps)→∃ more,H' b=some (.tbl (ps++more))
 hok:HOk P w H' B
noncomputable def CXR (P:Program) (w:World):CXT:=fun outer H s E e s'=>∃ (ea:Addr) (cls a0:Value) (H':Hp) (B:Heap),e=.ref ea∧s'.os=s.os∧AllBare s'.gens∧Fly P w outer H s.heap ea cls a0 H' s'.heap B∧E cls none H'
structure Leaves (X:Cx) (E:XK):Prop where
 stk:X.stack=X.env::X.outer
 fr:X.env.frame=some X.env.locals
 ex:X.ex=[]
 xe:∀ e s',wpAny (model X.prog X.w) X.A (leaving X.env e) (fun _ s''=>CXR X.prog X.w X.outer X.H₀ X.s₀ E e s'') (fun e' s''=>CXR X.prog X.w X.outer X.H₀ X.s₀ E e' s'') s'→X.xe e s'
section
variable {X:Cx}{pins:List (Addr×Obj)}{σ:St}{H H':Hp}{s s':Shared}{E:XK}
theorem mem_frs {l:List Env}{b:Addr}{env:Env} (he:env∈l) (hf:env.frame=some b):b∈frs l:=List.mem_filterMap.mpr ⟨env,he,hf⟩
theorem mem_frs_cons {l:List Env}{b L:Addr}{env:Env} (hf:env.frame=some L) (h:b∈frs (env::l)):b=L∨b∈frs l:=by
 unfold frs at h ⊢
 rw[List.filterMap_cons,hf] at h
 exact List.mem_cons.1 h
theorem raise_xe {h':Heap}{ea:Addr}{cls:Value}{vs:List Value} (L:Leaves X E) (I:Inv X pins σ H s) (hx:Heap.MadeExcOf s.heap h' ea cls vs) (hE:E cls none H):X.xe (.ref ea) { s with heap:=h' }:=by
 refine L.xe _ _ ?_
 have fr:X.A.frames=some (X.env::X.outer):=by rw[← L.stk];exact I.ok.frames
 have hs:s.heap.FunFrames X.base (X.env::X.outer):=by rw[← L.stk];exact I.stack
 have hfree:∀ b∈frs (X.env::X.outer),H b=none:=by rw[← L.stk];exact I.stkFree
 have nex:∀ b:Addr,b∉X.ex:=fun b z=>by rw[L.ex] at z;cases z
 have out:∀ b o,X.s₀.heap.get? b=some o→b∉frs X.outer→b∉frs (X.env::X.outer):=fun b o e hb z=>by
  rcases mem_frs_cons L.fr z with z | z
  ·exact absurd (Nat.lt_of_lt_of_le (Heap.lt_size e) I.ok.above) (by rw[z];exact Nat.lt_irrefl _)
  ·exact hb z
 refine wpAny_leaves_madeW (base:=PySem.W.hideAll s.heap (frs (X.env::X.outer))) fr L.fr (fun b o q=>PySem.W.of_hideAll _ q) (PySem.W.funFrames_hide hs fun env he a hf=>mem_frs he hf) hx fun h2 t x1 x2 x3 x4=>?_
 refine⟨ea,cls,.ref t,H,_,rfl,I.os,I.bare,⟨x1,fun b o e n hb=>?_,fun b o e n hb=>?_,fun b o e n=>I.base.free b o e n (nex b),fun b o e hb=>?_,I.base.tups,I.base.frzs,I.base.tbls,fun a o e=>?_⟩,hE⟩
 ·exact PySem.W.hideAll_get _ (I.base.keep b o e n hb (nex b)) (out b o e hb)
 ·obtain⟨sl,e1⟩:=I.base.slot b o e n hb (nex b)
  obtain⟨_,o',ho',hd⟩:=I.ok.funs.mem hb
  rw[e] at ho'
  cases ho'
  obtain⟨sl',e2⟩:=x4 b _ (hx.keeps _ _ e1) hd
  exact⟨sl',e2⟩
 ·obtain⟨o',e1⟩:=I.base.there b o e (nex b)
  exact⟨o',PySem.W.hideAll_get _ e1 (out b o e hb)⟩
 ·refine (I.hok a o e).stay (fun b u hb q=>PySem.W.hideAll_get _ q fun z=>?_) (fun _ q=>q) fun _ _ q=>q
  have:=hfree b z
  rcases hb with rfl | hb
  ·rw[e] at this;cases this
  ·rw[hb] at this;cases this
theorem pass_xe (L:Leaves X E):Passes (CXR X.prog X.w) X E:=by
 intro pins σ H s e s' I h
 obtain⟨ea,cls,a0,H',B,rfl,os,bare,F,hE⟩:=h
 refine L.xe _ _ ?_
 have fr:X.A.frames=some (X.env::X.outer):=by rw[← L.stk];exact I.ok.frames
 have nex:∀ b:Addr,b∉X.ex:=fun b z=>by rw[L.ex] at z;cases z
 have out:∀ b o,X.s₀.heap.get? b=some o→b∉frs X.outer→b∉frs X.stack:=fun b o e hb z=>by
  rw[L.stk] at z
  rcases mem_frs_cons L.fr z with z | z
  ·exact absurd (Nat.lt_of_lt_of_le (Heap.lt_size e) I.ok.above) (by rw[z];exact Nat.lt_irrefl _)
  ·exact hb z
 have inn:∀ b,b∈frs X.outer→b∈frs X.stack:=fun b hb=>by
  rw[L.stk];unfold frs at hb ⊢;rw[List.filterMap_cons,L.fr];exact List.mem_cons_of_mem _ hb
 refine wpAny_leaves_onW fr L.fr (by rw[← L.stk];exact F.fl) fun h2 x1 x2=>?_
 refine⟨ea,cls,a0,H',B,rfl,os.trans I.os,bare,⟨x1,fun b o e n hb=>?_,fun b o e n hb=>?_,fun b o e n=>?_,fun b o e hb=>?_,fun b xs e=>F.tups b xs (I.base.tups b xs e),fun b o u e=>F.frzs b o u (I.base.frzs b o u e),fun b ps e=>?_,F.hok⟩,hE⟩
 ·exact F.keep b o (I.base.keep b o e n hb (nex b)) (I.base.free b o e n (nex b)) (out b o e hb)
 ·obtain⟨sl,e1⟩:=I.base.slot b o e n hb (nex b)
  obtain⟨sl',e2⟩:=F.slot b _ e1 (I.base.free b o e n (nex b)) (inn b hb)
  obtain⟨_,o',ho',hd⟩:=I.ok.funs.mem hb
  rw[e] at ho'
  cases ho'
  obtain⟨sl'',e3⟩:=x2 b _ e2 hd
  exact⟨sl'',e3⟩
 ·obtain⟨o',e1⟩:=I.base.there b o e (nex b)
  exact F.free b o' e1 (I.base.free b o e n (nex b))
 ·obtain⟨o',e1⟩:=I.base.there b o e (nex b)
  exact F.there b o' e1 (out b o e hb)
 ·obtain⟨m1,e1⟩:=I.base.tbls b ps e
  obtain⟨m2,e2⟩:=F.tbls b _ e1
  exact⟨m1++m2,by rw[e2,Array.append_assoc]⟩
theorem passR0 {P:Program}{w:World}:Passes (CXR P w) X E0:=fun _ _ _ _ _ _ _ h=>by
 obtain⟨_,_,_,_,_,_,_,_,_,h⟩:=h
 exact h.elim
noncomputable def tRaise (E:XK) (C:Addr) (t:TA):TS:=fun _ σ H=>t σ H fun vs H1=>vs.length≤100∧E (.ref C) none H1
theorem ps_raise {x:Str}{C:Addr}{bm:List Value}{newId initId B:String}{np cpos pos:Pos}{e₀:Expr}{rest:List Expr}{t:TA} (L:Leaves X E) (hc:X.calm=true) (hg:Gl X x) (O:PySem.W.excIn X.K C bm newId=true) (hm:PySem.W.nsIn X.K mainGlobals x=some (some (.ref C))) (FB:ExcBaseFacts B newId initId bm) (ha:PA X (e₀::rest) t)
  (he:starEach (e₀::rest) X.env=(false,eval e₀ X.env)::starEach rest X.env:=by rfl) (hplain:(backTo cpos (starEach rest X.env)).any (·.1)=false:=by rfl) (hd:(x == ("__debug__" : Str))=false:=by decide) :
  PS X (.Raise (some (.Call (.Name x np) (e₀::rest) [] cpos)) none pos) (tRaise E C t):=by
 intro pins s σ H D I h
 have G:X.mg x=some (.ref C):=PySem.W.mg_of I.ok.mod.kin I.ok.mod.glob hm
 have ocl:OwnCls x C bm newId X.mg X.base:=by
  refine⟨G,?_⟩
  have q:=O
  unfold PySem.W.excIn at q
  split at q
  ·rename_i dd cd sl ho
   split at q
   ·rename_i C' bm' k0 k1 k2 k3 n k5 hm' hs
    simp only [Bool.and_eq_true,Bool.not_eq_true',beq_iff_eq] at q;obtain⟨⟨⟨⟨⟨rfl,rfl⟩,hdel⟩,ht⟩,hok⟩,hni⟩:=q
    obtain⟨nm,bs,mro,ns,qn,hd',sn,sub,ab,col,del⟩:=cd
    dsimp only at hm' hdel hok hni
    subst hm' hdel
    have hsl:sl = #[k0,k1,k2,k3,some (.builtin n),k5]:=by obtain⟨l⟩:=sl;simp only at hs;rw[hs]
    subst hsl
    exact⟨bm',ns,nm,qn,bs,hd',sn,sub,ab,col,dd,k0,k1,k2,k3,k5,_,I.ok.mod.kin _ _ ho,.of_isNs (PySem.W.isNs_of_in I.ok.mod.kin hok),PySem.W.nsMap_none_of_in I.ok.mod.kin hok hni,PySem.W.tail_of_in I.ok.mod.kin ht⟩
   ·cases q
  ·cases q
 obtain⟨tl,N,nm,q,bs,hdct,sn,sub,ab,col,dd,k0,k1,k2,k3,k5,mN,hC,hN,hni,T⟩:=ocl.obj
 refine wpAny_Raise_call_subT (C:=C) (nm:=nm) (q:=q) (N:=N) (bs:=bs) (bm:=tl) (hdct:=hdct) (sn:=sn) (sub:=sub) (ab:=ab) (col:=col) (dd:=dd) (k0:=k0) (k1:=k1) (k2:=k2) (k3:=k3) (k5:=k5) FB (mN:=mN) (T.hasType FB.hasBase) (I.ok.hd hc) (by rw[he];show (false || (backTo cpos (starEach rest X.env)).any (·.1))=false;rw[hplain];rfl) hni (ld_glob I hg G ⟨rfl,?_⟩ hd)
 have ha':=ha cpos pins s σ H _ I h
 rw[he] at ha' ⊢
 refine Calls.evalArgs_plain (wpAny_mono ha' (fun us s₂ ⟨vs,H1,I1,r1,hlen,hE⟩=>⟨rfl,?_,I1.bk _ _ hC,hN.keeps I1.bk,T.keeps I1.bk,fun h' e hme=>raise_xe L I1 hme hE⟩) fun _ _ y=>y)
 have:=r1.length
 show us.length≤sizeLine
 rw[sizeLine_eq];omega
end
end L2
namespace L2
open PySem PySem.Spec PyProof.Rows TwZ
noncomputable abbrev Cx.within (X:Cx) (pn:List (Addr×Obj)) (E:Value→Shared→Prop):Cx:={ X with pn:=pn,xe:=E }
section
variable {X:Cx}{pins:List (Addr×Obj)}{σ:St}{H:Hp}{s:Shared}{pn:List (Addr×Obj)}{E:Value→Shared→Prop}{ea:Addr}
theorem Cx.Ok.within (ok:X.Ok):(X.within pn E).Ok:=
 ⟨ok.mod,ok.kind,ok.glob,ok.blt,ok.above,ok.inj,ok.has,ok.cab,ok.hd,ok.frames,ok.stk,ok.exf,ok.bs,ok.bsz,ok.noex,ok.exfs,ok.funs,ok.frf⟩
theorem Cx.Ok.unwithin (ok:(X.within pn E).Ok):X.Ok:=
 ⟨ok.mod,ok.kind,ok.glob,ok.blt,ok.above,ok.inj,ok.has,ok.cab,ok.hd,ok.frames,ok.stk,ok.exf,ok.bs,ok.bsz,ok.noex,ok.exfs,ok.funs,ok.frf⟩
theorem Inv.within (I:Inv X pins σ H s):Inv (X.within (X.pn++pins) E) [] σ H s:=
 ⟨I.ok.within,I.os,I.bare,I.base,I.loc,I.cell,I.free,I.freeC,fun p hp=>I.pin p (by simpa using hp),I.hok,I.len⟩
theorem Inv.unwithin {p2:List (Addr×Obj)} (I:Inv (X.within (X.pn++pins) E) p2 σ H s):Inv X pins σ H s:=
 ⟨I.ok.unwithin,I.os,I.bare,I.base,I.loc,I.cell,I.free,I.freeC,fun p hp=>I.pin p (List.mem_append_left _ hp),I.hok,I.len⟩
end
end L2
namespace L2
open PySem PySem.Spec PyProof.Rows TwZ PySem.Builtin PySem.Builtin.ObjectAttr PySem.Builtin.Getset_descriptor
section
variable {prog:Program}{w:World}{K:PySem.W.Frag}{x D:Addr}
end
section
variable {X:Cx}
end
end L2
namespace L2
open PySem PySem.Spec PyProof.Rows TwZ
section
variable {X:Cx}{K:PySem.W.Frag}
noncomputable def rCatTZ (K:PySem.W.Frag):R2:=fun x y H Q=>∃ a b xs ys,x=.ref a∧y=.ref b∧bT K H a xs∧bT K H b ys∧xs.length+ys.length≤sizeLine∧∀ p H',aK H H'→bT K H' p (xs++ys)→Q (.ref p) H'
theorem op_catTZ:OpR X (binaryOp .Add) (rCatTZ X.K):=by
 intro pins s σ H x y v u Q I rx ry h
 obtain⟨a,b,xs,ys,rfl,rfl,ha,hb,hz,q⟩:=h
 by_cases hx:xs=[]
 ·subst hx
  cases rx
  cases ry
  obtain⟨its,r1,p1,_⟩:=I.tuple ha
  obtain⟨its2,r2,p2,_⟩:=I.tuple hb
  cases r1
  obtain⟨⟨cls,dd,data,sl⟩,ho,hc,n,hd⟩:=id p1
  obtain⟨⟨cls2,dd2,data2,sl2⟩,ho2,hc2,n2,hd2⟩:=id p2
  simp only at hc hd hc2 hd2
  subst hc hd hc2 hd2
  exact concat_meets ⟨_,ho,rfl⟩ ⟨_,ho2,rfl⟩ noFill_tuple_add seq_tuple_add PySem.F.slot_tuple_add PySem.F.entry_tuple_add (PySem.F.args_tuple_add_2 _ _) (tuple_addW0 a b _ its2.toArray n n2 dd dd2 sl sl2 (by simp)) ⟨ho,ho2,⟨.ref b,H,I,rfl,q b H (aK.refl H) hb⟩⟩
 ·refine op_catT pins s σ H _ _ v u Q I rx ry ⟨a,b,xs,ys,rfl,rfl,ha,hb,hx,hz,fun e=>?_,fun _ p hp=>?_⟩
  ·subst e
   exact q a H (aK.refl H) (by rw[List.append_nil];exact ha)
  ·exact q p _ (aK.new hp) (bT.of aD)
theorem op_catTZK (hK:X.K=K):OpR X (binaryOp .Add) (rCatTZ K):=by subst hK;exact op_catTZ
theorem sl_tupK (hK:X.K=K):SlR X (rSlT K):=by subst hK;exact sl_tup
end
end L2
namespace L2
open PySem PySem.Spec PyProof.Rows TwZ
section
variable {P:Program}{w:World}{K:PySem.W.Frag}{mg:Str→Option Value}{base:Heap}
theorem Fun.okR {x qual:Str}{st:Stmt}{f:Addr}{fd:FuncData}{N ps:List Str}{k:Nat}{sp:Sp} (F:Fun K x qual st f fd) (S:FnScope N ps (aL st)) (len:∀ vs H Q E,sp vs H Q E→vs.length=ps.length)
  (hbody:∀ (cdv:Value) (A:Around) (outer:List Env) (s:Shared) (H:Hp) (vs:List V) (Q:VK) (E:XK),Room k (A.deeper (envOfC qual (aL st) s.heap.objs.size f cdv))→sp vs H Q E→
   Leaves (cxOf (CXR P w) P w K mg base N qual (aL st) f cdv A outer s H E) E→
   ∃ t,PSs (cxOf (CXR P w) P w K mg base N qual (aL st) f cdv A outer s H E) (aW st) t∧t { nx:=fun _ H'=>Q .non H',rt:=Q } (start N vs) H):FnOk P w K mg base (CXR P w) (k+1) f fd ps sp:=by
 obtain⟨oc,od,kV,doc,pm,an,cdv,ct,osl,rfl,lk,hcd⟩:=F.ex
 exact fn_of lk hcd S len fun A outer s H vs Q E hr hsp=>hbody cdv A outer s H vs Q E hr hsp ⟨rfl,rfl,rfl,fun _ _ h=>h⟩
end
structure CalleeR (P:Program) (w:World) (K:PySem.W.Frag) (mg:Str→Option Value) (base:Heap) (x:Str) (ps:List Str) (k:Nat) (sp:Sp) (f:Addr) (fd:FuncData):Prop where
 ok:FnOk P w K mg base (CXR P w) k f fd ps sp
 mg:mg x=some (.ref f)
 kp:PySem.W.keepIn K (.ref f)=true
 bd:Binds K fd ps []
structure MCalR (P:Program) (w:World) (K:PySem.W.Frag) (mg:Str→Option Value) (base:Heap) (C:Addr) (m:Str) (ps:List Str) (k:Nat) (sp:Sp) (f:Addr) (fd:FuncData):Prop where
 cls:Cls K C
 mt:Meth K C m f
 ok:FnOk P w K mg base (CXR P w) k f fd ps sp
 bd:Binds K fd ps []
structure ExC (K:PySem.W.Frag) (x:Str) (C:Addr):Prop where
 ns:PySem.W.nsIn K mainGlobals x=some (some (.ref C))
 exc:PySem.W.excIn K C [.type "ValueError",.type "Exception",.type "BaseException",.type "object"] "ValueError.__new__" = true
end L2
namespace Tw
open PySem L2
theorem depth_str (i:Str):(L2.D.str i).depth=0:=by rw[L2.D.depth] <;> intros <;> (first | rfl | (intro z;cases z) | (rename_i z;cases z))
section
variable {P:Program}{w:World}{K:PySem.W.Frag}{mg:Str→Option Value}{base:Heap}{C c_TipError c_NoNet c_NoVessel c_TooLong c_TooMany c_TooMuch c_Nothing c_NoText c_NoRow:Addr}
noncomputable def spWholeI:Sp:=fun vs H Q _=>∃ (n lo hi:Int),vs=[.int n,.int lo,.int hi]∧Q (.bl (decide (lo≤n) && decide (n≤hi))) H
theorem ok_is_wholeI {f:Addr}{fd:FuncData} (F:Fun K "is_whole" "is_whole" (top 41) f fd) (T:Txt mg):FnOk P w K mg base CX0 1 f fd ["thing","least","most"] spWholeI:=by
 refine F.ok sc_is_whole (fun vs H Q E h=>?_) (fun cdv A outer s H vs Q E hr h=>?_)
 ·obtain⟨n,lo,hi,rfl,_⟩:=h;rfl
 ·obtain⟨n,lo,hi,rfl,k⟩:=h
  have sc:=sc_is_whole
  refine⟨_,(aO (aX (dZ (aS (eK (K:=K) rfl) rfl T.b_isinstance fA (aA (pv 0) (aA (pe_bltn (v:=.ty "int") rfl T.b_int bt_int rfl) aE))) (dZ (pe_not (aS (eK (K:=K) rfl) rfl T.b_isinstance fA (aA (pv 0) (aA (pe_bltn (v:=.ty "bool") rfl T.b_bool bt_bool rfl) aE)))) (eS (pe_chain op_le op_le (pv 1) (pv 0) (pv 2))))))),?_⟩
  refine⟨_,rfl,_,"int",_,true,rfl,.inl (.int _),kit_ii K,_,rfl,eT ?_⟩
  refine⟨_,rfl,_,"bool",_,false,rfl,.inl (.int _),kit_ib K,_,rfl,_,rfl,eT ?_⟩
  refine⟨_,rfl,_,rfl,_,_,rfl,rfl,_,rfl,eX (fun h1=>?_) fun h1=>?_⟩
  ·rw[h1,Bool.true_and] at k
   exact⟨_,rfl,_,_,rfl,rfl,k⟩
  ·rw[Bool.not_eq_true] at h1
   rw[h1,Bool.false_and] at k
   exact k
noncomputable def spNeedR (K:PySem.W.Frag) (cV:Addr):Sp:=fun vs H Q E=>∃ (x:V) (net:Net) (v:Int),vs=[x,.int v]∧Is K H (netD net) x∧((0≤v∧v < net.vs.length∧Q .non H)∨(¬ (0≤v∧v < net.vs.length)∧E (.ref cV) none H))
theorem ok_need_vesselR {f f1:Addr}{fd fd1:FuncData} (F:Fun K "need_vessel" "need_vessel" (top 39) f fd) (T:Txt mg) (XC_NoVessel:ExC K "NoVessel" c_NoVessel) (G_is_whole:Callee P w K mg base "is_whole" ["thing","least","most"] 1 spWholeI f1 fd1) :
  FnOk P w K mg base (CXR P w) 2 f fd ["net","number"] (spNeedR K c_NoVessel):=by
 refine F.okR sc_need_vessel (fun vs H Q E h=>?_) (fun cdv A outer s H vs Q E hr h L=>?_)
 ·obtain⟨x,net,v,rfl,_⟩:=h;rfl
 ·obtain⟨x,net,v,rfl,hx,k⟩:=h
  have sc:=sc_need_vessel
  refine⟨_,(aF (cB (pv 0) (bF (K:=K) (n:=2) rfl rfl (aH (aJ (i:=2) sc.nd rfl (Or.inl rfl)) (aH (aJ (i:=3) sc.nd rfl (Or.inl rfl)) bD))))
   (aO (cF (dL (cU (cQ G_is_whole hr (aA (pv 1) (aA aG (aA (b0 dN (aS (bK (K:=K) rfl) rfl T.b_len PySem.boot_len (aA (pv 2) aE)) aG) aE)))))) (aO (ps_raise L rfl rfl XC_NoVessel.exc XC_NoVessel.ns PySem.F.excBase_ValueError (aA dM aE))) bH))),?_⟩
  obtain⟨a,b,c,xs,ys,rfl,q,q1,l1,q2,l2⟩:=net_un hx
  have exl:xs.length=net.vs.length:=by rw[l1.length,List.length_map]
  refine⟨_,rfl,a,_,rfl,q,rfl,_,_,rfl,_,_,rfl,rfl,?_⟩
  refine⟨_,rfl,_,rfl,b,xs,rfl,.inr q1,_,_,rfl,rfl,v,0,_,rfl,_,rfl,?_⟩
  rcases k with ⟨h0,h1,k⟩ | ⟨hn,k⟩
  ·rw[decide_eq_true h0,decide_eq_true (show v≤((xs.length:Nat):Int) - 1 by omega)]
   exact dU k
  ·have:(decide (0≤v) && decide (v≤((xs.length:Nat):Int) - 1))=false:=by
    rw[Bool.eq_false_iff]
    intro z
    rw[Bool.and_eq_true,decide_eq_true_eq,decide_eq_true_eq] at z
    exact hn ⟨z.1,by omega⟩
   rw[this]
   exact eT ⟨by show 1≤100;decide,k⟩
end
end Tw
namespace Tw
open PySem L2
section
variable {P:Program}{w:World}{K:PySem.W.Frag}{mg:Str→Option Value}{base:Heap}{C c_TipError c_NoNet c_NoVessel c_TooLong c_TooMany c_TooMuch c_Nothing c_NoText c_NoRow:Addr}
noncomputable def spPourR (K:PySem.W.Frag) (C cV:Addr):Sp:=fun vs H Q E=>∃ (r:Addr) (S:RunS) (fp:List Addr) (v a:Int) (B:Nat),vs=[.ref r,.int v,.int a]∧cL K C H r S fp∧RunSz S B∧B≤1000000∧
 ((0≤v∧v < S.net.vs.length∧∀ H',ButL fp H H'→cL K C H' r (S.pour v a) fp→Q .non H')∨(¬ (0≤v∧v < S.net.vs.length)∧E (.ref cV) none H))
theorem ok_pourR {f f1 f2:Addr}{fd fd1 fd2:FuncData} (F:Fun K "pour" "Run.pour" (aV (top 43) 1) f fd) (T:Txt mg) (tx:RunTx K C) (G_need_vessel:CalleeR P w K mg base "need_vessel" ["net","number"] 2 (spNeedR K c_NoVessel) f1 fd1)
  (G_moment_poured:Callee P w K mg base "moment_poured" ["moment","vessel","amount"] 1 (spMomPour K) f2 fd2):FnOk P w K mg base (CXR P w) 3 f fd ["self","vessel","amount"] (spPourR K C c_NoVessel):=by
 refine F.okR sc_pour (fun vs H Q E h=>?_) (fun cdv A outer s H vs Q E hr h L=>?_)
 ·obtain⟨r,S,fp,v,a,B,rfl,_⟩:=h;rfl
 ·obtain⟨r,S,fp,v,a,B,rfl,⟨dx,np,R,M,T',ts,rs,ms,mv,c,rfl⟩,sz,hB,k⟩:=h
  have sc:=sc_pour
  refine⟨_,(aF (bZ (pe_call G_need_vessel.ok (hr.mono (by decide)) rfl G_need_vessel.mg G_need_vessel.kp G_need_vessel.bd .nil (pass_xe L) (aA (cZ (K:=K) rfl (pv 0) rfl) (aA (pv 1) aE))))
   (aF (bZ (dY (K:=K) rfl PySem.F.plainAttrs_list PySem.F.slot_list_append PySem.F.type_list_append cD (cZ (K:=K) rfl (pv 0) rfl) (aA (cQ G_moment_poured hr (aA (aR (aM (K:=K) rfl) (cZ (K:=K) rfl (pv 0) rfl) (pe_un un_neg aG) (fun _ _=>rfl)) (aA (pv 1) (aA (pv 2) aE)))) aE)))
   (aO (bZ (dY (K:=K) rfl PySem.F.plainAttrs_list PySem.F.slot_list_append PySem.F.type_list_append cD (cZ (K:=K) rfl (pv 0) rfl) (aA (bV (aA dM (aA (pv 1) (aA (pv 2) aE)))) aE)))))),?_⟩
  obtain⟨ma,po,st,rfl,q,hs,hp⟩:=mom_un c.cM
  have pl:=c.ok.cur.pl
  have nd:=c.nd
  have nRM:R≠M:=fun z=>by rw[List.nodup_cons] at nd;exact nd.1 (by rw[z];simp)
  have hnh:=c.ok.nok.hi
  have lrs:rs.length≤B:=by rw[c.lR.length,List.length_map];exact sz.rows
  have lms:ms.length≤B:=by rw[c.lM.length,List.length_map];exact sz.pre
  refine⟨_,rfl,r,C,dx,_,_,rfl,c.ins,tx.cls,tx.net,lk_net,_,rfl,np,S.net,v,rfl,c.net,?_⟩
  rcases k with ⟨v0,v1,k⟩ | ⟨hn,k⟩
  rotate_left
  ·exact .inr ⟨hn,k⟩
  refine .inl ⟨v0,v1,?_⟩
  refine⟨_,rfl,r,C,dx,_,_,rfl,c.ins,tx.cls,tx.moments,dS,.inl ⟨rfl,_,bM.of c.hM⟩,?_⟩
  refine⟨_,rfl,r,C,dx,_,_,rfl,c.ins,tx.cls,tx.moments,dS,1,rfl,.inl ⟨M,_,-1,_,rfl,rfl,bM.of c.hM,eJ _ _,_,rfl,_,rfl,.ref ma,S.net.vs.length,S.cur,v,a,rfl,c.cM,pl,hnh,v0,v1,fun p2 H2 s2 cm2=>?_⟩⟩
  refine⟨M,_,_,rfl,rfl,s2 _ _ c.hM,eA (by simp;omega),?_⟩
  have muM:Mut (H2 M):=by rw[s2 _ _ c.hM];exact trivial
  have ts3:bL K H2 (upd H2 M (.lst (ms++[V.ref ma]++[.ref p2]))):=cY.ts cY.upd muM
  have ne_rM:r≠M:=fun z=>c.r_notin (by rw[z];simp)
  have ne_rR:r≠R:=fun z=>c.r_notin (by rw[z];simp)
  refine⟨_,rfl,r,C,dx,_,_,rfl,by rw[aP ne_rM];exact s2 _ _ c.ins,tx.cls,tx.rows,lk_rows,.inl ⟨rfl,_,bM.of (by rw[aP nRM];exact s2 _ _ c.hR)⟩,?_⟩
  refine⟨_,rfl,_,rfl,(show 3≤sizeLine by decide),fun p3 hp3=>?_⟩
  have m4:aK (upd H2 M (.lst (ms++[V.ref ma]++[.ref p2]))) (upd (upd H2 M (.lst (ms++[V.ref ma]++[.ref p2]))) p3 (.tup [.str "pour",.int v,.int a])):=aK.new hp3
  have hR4:upd (upd H2 M (.lst (ms++[V.ref ma]++[.ref p2]))) p3 (.tup [.str "pour",.int v,.int a]) R=some (.lst rs):=m4 _ _ (by rw[aP nRM];exact s2 _ _ c.hR)
  refine⟨R,_,_,rfl,rfl,hR4,eA (by omega),?_⟩
  have muR:Mut (upd (upd H2 M (.lst (ms++[V.ref ma]++[.ref p2]))) p3 (.tup [.str "pour",.int v,.int a]) R):=by rw[hR4];exact trivial
  have ts5:bL K (upd (upd H2 M (.lst (ms++[V.ref ma]++[.ref p2]))) p3 (.tup [.str "pour",.int v,.int a])) (upd (upd (upd H2 M (.lst (ms++[V.ref ma]++[.ref p2]))) p3 (.tup [.str "pour",.int v,.int a])) R (.lst (rs++[.ref p3]))):=cY.ts cY.upd muR
  have tsH:bL K H (upd (upd (upd H2 M (.lst (ms++[V.ref ma]++[.ref p2]))) p3 (.tup [.str "pour",.int v,.int a])) R (.lst (rs++[.ref p3]))):=((s2.ts.trans ts3).trans m4.ts).trans ts5
  have keep:∀ (b:Addr) (o:HO),b≠M→b≠R→H b=some o→upd (upd (upd H2 M (.lst (ms++[V.ref ma]++[.ref p2]))) p3 (.tup [.str "pour",.int v,.int a])) R (.lst (rs++[.ref p3])) b=some o:=fun b o h1 h2 e=>by
   rw[aP h2];exact m4 _ _ (by rw[aP h1];exact s2 _ _ e)
  refine k _ (fun b o hb e=>keep b o (fun z=>hb (by rw[z];simp)) (fun z=>hb (by rw[z];simp)) e) ⟨dx,np,R,M,T',ts,rs++[.ref p3],ms++[.ref ma],.ref p2,?_,rfl⟩
  rw[List.nodup_cons] at nd
  have nd2:=nd.2
  rw[List.nodup_cons] at nd2
  exact {
   ins:=keep _ _ ne_rM ne_rR c.ins
   net:=Is.mono tsH _ _ c.net
   hR:=aD
   lR:=by
    show IsL K _ ((S.rows++[Row.pour v a]).map rowD) _
    rw[List.map_append]
    exact L2.IsL.snoc (Is.tupOf (ds:=[.str "pour",.int v,.int a]) (ts5 _ _ (bT.of aD)) (.cons (Is.s _) (.cons (Is.i _) (.cons (Is.i _) .nil)))) (L2.IsL.mono tsH _ _ c.lR)
   hM:=by rw[aP (Ne.symm nRM)];exact m4 _ _ aD
   lM:=by
    show IsL K _ ((S.pre++[S.cur]).map momD) _
    rw[List.map_append]
    exact L2.IsL.snoc (Is.mono tsH _ _ c.cM) (L2.IsL.mono tsH _ _ c.lM)
   cM:=Is.mono ((ts3.trans m4.ts).trans ts5) _ _ cm2
   hT:=keep _ _ (fun z=>nd2.1 (by rw[← z];simp)) (fun z=>nd.1 (by rw[← z];simp)) c.hT
   tl:=c.tl
   ti:=fun i t l h1 h2=>by
    have hm:=List.mem_of_getElem? h1
    exact keep _ _ (fun z=>nd2.1 (by rw[← z];simp [hm])) (fun z=>nd.1 (by rw[← z];simp [hm])) (c.ti i t l h1 h2)
   nd:=c.nd
   ok:=c.ok.pour v a }
end
end Tw
namespace Tw
open PySem L2
theorem sum_set:∀ (l:List Int) (i:Nat) (a:Int),i < l.length→(l.set i (l.getD i 0+a)).sum=l.sum+a
 | [],i,a,h=>by simp at h
 | x::l,0,a,_=>by simp;omega
 | x::l,i+1,a,h=>by
  have:=sum_set l i a (by simpa using h)
  simp only [List.set_cons_succ,List.sum_cons,List.getD_cons_succ]
  omega
theorem fillL_sum {n:Nat}:∀ (ss:List Spt) (ds:List Bool) (has:List Int),has.length=n→(∀ s∈ss,0≤s.1∧s.1 < n)→(eB has ss ds).sum=has.sum+dH ss ds
 | [],ds,has,_,_=>by cases ds <;> simp [eB,dH]
 | s::ss,[],has,_,_=>by simp [eB,dH]
 | s::ss,d::ds,has,hl,h=>by
  have h1:=h s List.mem_cons_self
  show (eB (fill1 has s d) ss ds).sum=has.sum+((if d=true then s.2.1 else 0)+dH ss ds)
  rw[fillL_sum (n:=n) ss ds (fill1 has s d) (by rw[fill1_len];exact hl) fun s hs=>h s (List.mem_cons_of_mem _ hs)]
  unfold fill1
  by_cases e:d=true
  ·rw[if_pos e,if_pos e,sum_set _ _ _ (by omega)];omega
  ·rw[if_neg e,if_neg e];omega
theorem add3_sum:∀ {a b c:List Int}{n:Nat},a.length=n→b.length=n→c.length=n→(add3 a b c).sum=a.sum+b.sum+c.sum
 | [],b,c,n,h,h2,h3=>by
  simp at h;subst h
  have:=List.eq_nil_of_length_eq_zero h2
  have:=List.eq_nil_of_length_eq_zero h3
  subst b c;rfl
 | x::a,[],c,n,h1,h2,_=>by simp at h1 h2;omega
 | x::a,y::b,[],n,h1,_,h3=>by simp at h1 h3;omega
 | x::a,y::b,z::c,n,h1,h2,h3=>by
  simp at h1 h2 h3
  show x+y+z+(add3 a b c).sum=_
  rw[add3_sum (n:=n - 1) (by omega) (by omega) (by omega)]
  simp only [List.sum_cons]
  omega
theorem has_sum {net:Net}{m:Mom} (nok:NetOk net) (mok:MomOk net m):(aU net m.held m.coming m.poured m.doors).sum=m.held.sum+m.coming.sum+m.poured.sum+dH net.sps m.doors:=by
 unfold aU
 rw[fillL_sum (n:=net.vs.length) _ _ _ (add3_len mok.st.h mok.st.c mok.pl) nok.sps,add3_sum mok.st.h mok.st.c mok.pl]
end Tw
namespace Tw
open PySem L2
section
variable {K:PySem.W.Frag}{t sl:Addr}{σ:St}{H0:Hp}
end
theorem lk_m {np:V}{R M T:Addr} (m:Str) (h:(flds np R M T).lookup m=none):(flds np R M T).lookup m=none:=h
section
variable {K:PySem.W.Frag}{C:Addr}{H:Hp}{r:Addr}{S:RunS}{fp:List Addr}
theorem cL.ins (c:cL K C H r S fp):∃ dx np R M T,H r=some (.ins C dx (flds np R M T)):=by
 obtain⟨dx,np,R,M,T,ts,rs,ms,mv,c,_⟩:=c
 exact⟨dx,np,R,M,T,c.ins⟩
theorem cL.butL {H':Hp}{fq:List Addr} (c:cL K C H r S fp) (s:ButL fq H H') (hm:∀ b∈fq,Mut (H b)) (h1:r∉fq) (h2:∀ b∈fp,b∉fq):cL K C H' r S fp:=by
 obtain⟨dx,np,R,M,T,ts,rs,ms,mv,c,rfl⟩:=c
 refine⟨dx,np,R,M,T,ts,rs,ms,mv,c.keep (s.ts hm) fun b hb=>?_,rfl⟩
 rcases List.mem_cons.1 hb with rfl | hb
 ·rw[s _ _ h1 c.ins,c.ins]
 ·obtain⟨xs,e⟩:=c.lists b hb
  rw[s _ _ (h2 b hb) e,e]
end
end Tw
namespace Tw
open PySem L2
section
variable {P:Program}{w:World}{K:PySem.W.Frag}{mg:Str→Option Value}{base:Heap}
noncomputable def Sq2 (K:PySem.W.Frag) (H:Hp) (a:Addr) (xs:List V):Prop:=bT K H a xs∨bM K H a xs
theorem Sq2.same {H H':Hp}{a:Addr}{xs:List V} (h:Sq2 K H a xs) (s:aK H H'):Sq2 K H' a xs:=h.elim (fun h=>.inl (s.tup h)) fun h=>.inr (s.seq h)
theorem ix2 {H:Hp}{z:Addr}{xs:List V}{i:Int}{v:V}{Q:VK} (h:Sq2 K H z xs) (e:atI xs i=some v) (k:Q v H):rIx K (.ref z) (.int i) H Q:=h.elim (fun h=>.inr (.inl ⟨z,xs,i,v,rfl,rfl,h,e,k⟩)) fun h=>.inl ⟨z,xs,i,v,rfl,rfl,h,e,k⟩
noncomputable def spFilledL (K:PySem.W.Frag):Sp:=fun args H Q _=>∃ (x y:V) (z:Addr) (net:Net) (held coming poured:List Int) (doors:List Bool),args=[x,y,.ref z]∧Is K H (netD net) x∧Is K H (stD held coming doors) y∧Sq2 K H z (poured.map V.int)∧
 NetOk net∧StOk net held coming doors∧poured.length=net.vs.length∧∀ p H',aK H H'→H p=none→H' p=some (.lst ((aU net held coming poured doors).map V.int))→Q (.ref p) H'
theorem sc__law_filled:FnScope ["net","state","poured","has","k"] ["net","state","poured"] (aL (top 55)):=⟨rfl,rfl,rfl,by decide +kernel,rfl,by decide +kernel,by decide +kernel⟩
theorem ok__law_filled {f:Addr}{fd:FuncData} (F:Fun K "_law_filled" "_law_filled" (top 55) f fd) (T:Txt mg):FnOk P w K mg base CX0 1 f fd ["net","state","poured"] (spFilledL K):=by
 refine F.ok sc__law_filled (fun vs H Q E h=>?_) (fun cdv A outer s H vs Q E hr h=>?_)
 ·obtain⟨x,y,z,net,held,coming,poured,doors,rfl,_⟩:=h;rfl
 ·obtain⟨x,y,z,net,held,coming,poured,doors,rfl,hx,hy,qz,nok,sok,hpl,k⟩:=h
  have sc:=sc__law_filled
  refine⟨_,(aF (ps_set_lc (i:=3) sc.nd rfl rfl (fun _ _ h=>h) rfl (LcOk.mk (N':=["k","poured","state"]) (fr:=[none,some 2,some 1]) rfl ⟨rfl,rfl,trivial⟩ rfl rfl rfl rfl rfl ⟨⟨_,rfl,rfl,rfl,rfl⟩,⟨_,rfl,rfl,rfl,rfl⟩,trivial⟩) (cG rfl T.b_range (aA (aS (bK (K:=K) rfl) rfl T.b_len PySem.boot_len (aA (aR (aM (K:=K) rfl) (pv 0) aG (fun _ _=>rfl)) aE)) aE)) (fun _ _ _=>(aJ (i:=0) (show (["k","poured","state"]:List Str).Nodup by decide +kernel) rfl (Or.inl rfl) (Or.inr rfl))) (fun _ _ _=>cP) (fun _ _ _=>(b0 cO (b0 cO (aR (aM (K:=K) rfl) (aR (aM (K:=K) rfl) (pv 2) aG (fun _ _=>rfl)) (pv 0) (fun _ _=>rfl)) (aR (aM (K:=K) rfl) (aR (aM (K:=K) rfl) (pv 2) aG (fun _ _=>rfl)) (pv 0) (fun _ _=>rfl))) (aR (aM (K:=K) rfl) (pv 1) (pv 0) (fun _ _=>rfl)))))
   (aF (dB PassesOwn.never rfl (cG rfl T.b_range (aA (aS (bK (K:=K) rfl) rfl T.b_len PySem.boot_len (aA (aR (aM (K:=K) rfl) (pv 0) aG (fun _ _=>rfl)) aE)) aE)) (aJ (i:=4) sc.nd rfl (Or.inl rfl)) (aO (cF (cU (aR (aM (K:=K) rfl) (aR (aM (K:=K) rfl) (pv 1) aG (fun _ _=>rfl)) (pv 4) (fun _ _=>rfl))) (aO (cB (b0 cO (aR (aM (K:=K) rfl) (pv 3) (aR (aM (K:=K) rfl) (aR (aM (K:=K) rfl) (aR (aM (K:=K) rfl) (pv 0) aG (fun _ _=>rfl)) (pv 4) (fun _ _=>rfl)) aG (fun _ _=>rfl)) (fun _ _=>rfl)) (aR (aM (K:=K) rfl) (aR (aM (K:=K) rfl) (aR (aM (K:=K) rfl) (pv 0) aG (fun _ _=>rfl)) (pv 4) (fun _ _=>rfl)) aG (fun _ _=>rfl))) (pg_sub (pv 3) (aR (aM (K:=K) rfl) (aR (aM (K:=K) rfl) (aR (aM (K:=K) rfl) (pv 0) aG (fun _ _=>rfl)) (pv 4) (fun _ _=>rfl)) aG (fun _ _=>rfl)) eV))) bH)))
   (aO (aX (pv 3))))),?_⟩
  obtain⟨a,b,c,xs,ys,rfl,q,q1,l1,q2,l2⟩:=net_un hx
  obtain⟨ay,a1,a2,a3,rfl,qy,p1,p2,p3⟩:=st_un hy
  have exl:xs.length=net.vs.length:=by rw[l1.length,List.length_map]
  have eyl:ys.length=net.sps.length:=by rw[l2.length,List.length_map]
  have n1:=nok.lo
  have n2:=nok.hi
  have n3:=nok.sp
  have la:=add3_len sok.h sok.c hpl
  refine⟨_,rfl,.inr (.inl ⟨a,_,0,_,rfl,rfl,q,rfl,b,xs,rfl,.inr q1,_,rfl,by omega,by omega,?_⟩)⟩
  have hn:((xs.length:Nat):Int).toNat=net.vs.length:=by rw[exl];simp
  rw[hn]
  refine lc_range (n:=net.vs.length) (fun D i r σ' H'=>H D=none∧aK H H'∧H' D=some (.lst r)∧r=((add3 held coming poured).take i).map V.int∧∃ v,σ'=[v,some (.ref z),some (.ref ay)])
   (fun D hD=>⟨hD,aK.new hD,aD,by simp,none,rfl⟩) ?_ ?_
  rotate_left
  ·rintro D i r σ' H' hi ⟨hD,sm,hDl,rfl,v,rfl⟩
   refine cS ?_
   have g1:held[i]? = some (held[i]'(by rw[sok.h];exact hi)):=by simp
   have g2:coming[i]? = some (coming[i]'(by rw[sok.c];exact hi)):=by simp
   have g3:poured[i]? = some (poured[i]'(by rw[hpl];exact hi)):=by simp
   have g4:=add3_get g1 g2 g3
   have m1:∀ {l:List Int}{u:Int},l[i]? = some u→(l.map V.int)[i]? = some (.int u):=fun e=>by rw[List.getElem?_map,e];rfl
   refine⟨_,rfl,.inr (.inl ⟨ay,_,0,_,rfl,rfl,sm.tup qy,rfl,_,rfl,.inr (.inl ⟨a1,_,(i:Int),_,rfl,rfl,sm.tup p1,d5 (m1 g1),?_⟩)⟩)⟩
   refine⟨_,rfl,.inr (.inl ⟨ay,_,1,_,rfl,rfl,sm.tup qy,rfl,_,rfl,.inr (.inl ⟨a2,_,(i:Int),_,rfl,rfl,sm.tup p2,d5 (m1 g2),?_⟩)⟩)⟩
   refine⟨_,_,rfl,rfl,_,rfl,_,rfl,ix2 (qz.same sm) (d5 (m1 g3)) ⟨_,_,rfl,rfl,hDl,aZ (by simp;omega),hD,sm.put hD,aD,?_,_,rfl⟩⟩
   rw[bA g4,List.map_append];rfl
  rintro D r σ' H1 ⟨hD,sm,hDl,rfl,_⟩
  rw[← la,List.take_length] at hDl
  refine⟨_,rfl,.inr (.inl ⟨a,_,1,_,rfl,rfl,sm.tup q,rfl,c,ys,rfl,.inr (sm.tup q2),_,rfl,by omega,by omega,?_⟩)⟩
  have hm:((ys.length:Nat):Int).toNat=net.sps.length:=by rw[eyl];simp
  rw[hm]
  refine dO (lo:=0) (n:=net.sps.length) (fun i σ' H'=>aK H H'∧H' D=some (.lst ((eB (add3 held coming poured) (net.sps.take i) (doors.take i)).map V.int))∧
   ∃ v4,σ'=[some (.ref a),some (.ref ay),some (.ref z),some (.ref D),v4]) ⟨sm,by cases net.sps <;> exact hDl,none,rfl⟩ ?_ ?_
  ·rintro i σ' H2 hi ⟨sm2,h2,v4,rfl⟩
   rw[Int.zero_add]
   have hsi:net.sps[i]? = some net.sps[i]:=by simp [hi]
   have hdi:doors[i]? = some (doors[i]'(by rw[sok.d];exact hi)):=by simp
   obtain⟨xv,hxv,ixv⟩:=l2.get (i:=i) (d:=spD net.sps[i]) (by rw[List.getElem?_map,hsi];rfl)
   obtain⟨sp,hsi',sa,rfl,qs⟩:=sps_at l2 hxv
   rw[hsi] at hsi'
   cases hsi'
   have snoc:=fillL_snoc net.sps doors i (add3 held coming poured) _ _ hsi hdi
   have hs:=nok.sps net.sps[i] (List.getElem_mem hi)
   have hdm:(doors.map V.bl)[i]? = some (.bl (doors[i]'(by rw[sok.d];exact hi))):=by rw[List.getElem?_map,hdi];rfl
   refine⟨_,rfl,.inr (.inl ⟨ay,_,2,_,rfl,rfl,sm2.tup qy,rfl,_,rfl,.inr (.inl ⟨a3,_,(i:Int),_,rfl,rfl,sm2.tup p3,d5 hdm,_,rfl,?_⟩)⟩)⟩
   cases hdr:(doors[i]'(by rw[sok.d];exact hi)) with
   | false=>
    rw[hdr] at snoc
    refine dU ?_
    exact⟨sm2,by rw[snoc];exact h2,_,rfl⟩
   | true=>
    rw[hdr] at snoc
    refine eT ?_
    have hlen:(eB (add3 held coming poured) (net.sps.take i) (doors.take i)).length=net.vs.length:=by rw[fillL_len,la]
    have hlt:net.sps[i].1.toNat < (eB (add3 held coming poured) (net.sps.take i) (doors.take i)).length:=by rw[hlen];omega
    have hg:((eB (add3 held coming poured) (net.sps.take i) (doors.take i)).map V.int)[net.sps[i].1.toNat]? = some (.int ((eB (add3 held coming poured) (net.sps.take i) (doors.take i)).getD net.sps[i].1.toNat 0)):=by
     rw[List.getElem?_map,List.getD_eq_getElem?_getD];simp [hlt]
    refine⟨_,rfl,_,rfl,.inr (.inl ⟨a,_,1,_,rfl,rfl,sm2.tup q,rfl,_,rfl,.inr (.inl ⟨c,ys,(i:Int),_,rfl,rfl,sm2.tup q2,d5 hxv,.inr (.inl ⟨sa,_,0,_,rfl,rfl,sm2.tup qs,rfl,.inl ⟨D,_,_,_,rfl,rfl,bM.of h2,atI_int hs.1 hg,?_⟩⟩)⟩)⟩)⟩
    refine⟨_,rfl,.inr (.inl ⟨a,_,1,_,rfl,rfl,sm2.tup q,rfl,_,rfl,.inr (.inl ⟨c,ys,(i:Int),_,rfl,rfl,sm2.tup q2,d5 hxv,.inr (.inl ⟨sa,_,1,_,rfl,rfl,sm2.tup qs,rfl,_,_,rfl,rfl,?_⟩)⟩)⟩)⟩
    refine⟨_,rfl,_,rfl,.inr (.inl ⟨a,_,1,_,rfl,rfl,sm2.tup q,rfl,_,rfl,.inr (.inl ⟨c,ys,(i:Int),_,rfl,rfl,sm2.tup q2,d5 hxv,.inr (.inl ⟨sa,_,0,_,rfl,rfl,sm2.tup qs,rfl,D,_,_,net.sps[i].1.toNat,rfl,rfl,h2,ixN_nat hs.1 (by rw[List.length_map,hlen];omega),?_⟩)⟩)⟩)⟩
    refine⟨sm2.put hD,?_,_,rfl⟩
    rw[aD,snoc,fill1,if_pos rfl,List.map_set]
  ·rintro σ' H2 ⟨sm2,h2,v4,rfl⟩
   rw[← sok.d,List.take_length,sok.d,List.take_length] at h2
   exact⟨_,rfl,k D H2 sm2 hD h2⟩
end
end Tw
namespace L2
open PySem PySem.Spec PyProof.Rows
theorem cf_at:∀ (names:List (Str×NameKind)) (h:Heap) (acc:List (Str×Addr)) (x:Str) (c:Addr),(cellsFrom h.objs.size names acc).lookup x=some c→
  (h.objs.size≤c∧(x,NameKind.cell)∈names∧(pushCells h names).IsCell c none)∨acc.lookup x=some c
 | [],h,acc,x,c,e=>.inr e
 | (name,kind)::r,h,acc,x,c,e=>by
  unfold cellsFrom at e
  unfold pushCells
  cases hk:kind == NameKind.cell with
  | true=>
   rw[hk,if_pos rfl] at e
   rw[if_pos rfl]
   have hk':kind=.cell:=by simpa using hk
   have ih:=cf_at r (h.push { cls:=.type "cell",data:=.cell none }) ((name,h.objs.size)::acc) x c (by rw[Heap.size_push];exact e)
   rw[Heap.size_push] at ih
   rcases ih with ⟨a,b,d⟩ | ih
   ·exact .inl ⟨Nat.le_of_succ_le a,List.mem_cons_of_mem _ b,d⟩
   ·cases hx:x == name with
    | true=>
     simp only [List.lookup_cons,hx] at ih
     cases ih
     have e':x=name:=by simpa using hx
     subst e' hk'
     exact .inl ⟨Nat.le_refl _,List.mem_cons_self,_,pushCells_keeps _ _ _ _ (Heap.get?_push_size _ rfl),rfl⟩
    | false=>
     simp only [List.lookup_cons,hx] at ih
     exact .inr ih
  | false=>
   rw[hk,if_neg Bool.false_ne_true] at e
   rw[if_neg Bool.false_ne_true]
   rcases cf_at r h acc x c e with ⟨a,b,d⟩ | ih
   ·exact .inl ⟨a,List.mem_cons_of_mem _ b,d⟩
   ·exact .inr ih
theorem cf_own:∀ (names:List (Str×NameKind)) (n m:Nat) (acc:List (Str×Addr)) (x:Str),m≤n→((x,NameKind.cell)∈names∨∃ c,m≤c∧acc.lookup x=some c)→∃ c,m≤c∧(cellsFrom n names acc).lookup x=some c
 | [],n,m,acc,x,_,h=>by
  rcases h with h | h
  ·simp at h
  ·exact h
 | (name,kind)::r,n,m,acc,x,hm,h=>by
  unfold cellsFrom
  cases hk:kind == NameKind.cell with
  | true=>
   rw[if_pos rfl]
   have hk':kind=.cell:=by simpa using hk
   refine cf_own r (n+1) m _ x (by omega) ?_
   cases hx:x == name with
   | true=>exact .inr ⟨n,hm,by simp only [List.lookup_cons,hx]⟩
   | false=>
    have ne:x≠name:=fun z=>by rw[z] at hx;simp at hx
    rcases h with h | ⟨c,h1,h2⟩
    ·rcases List.mem_cons.mp h with h | h
     ·exact absurd (by injection h) ne
     ·exact .inl h
    ·exact .inr ⟨c,h1,by simp only [List.lookup_cons,hx];exact h2⟩
  | false=>
   rw[if_neg Bool.false_ne_true]
   refine cf_own r n m _ x hm ?_
   rcases h with h | h
   ·rcases List.mem_cons.mp h with h | h
    ·injection h with h1 h2
     rw[← h2] at hk;simp at hk
    ·exact .inl h
   ·exact .inr h
theorem cf_acc:∀ (names:List (Str×NameKind)) (n:Nat) (acc:List (Str×Addr)) (x:Str),(x,NameKind.cell)∉names→(cellsFrom n names acc).lookup x=acc.lookup x
 | [],_,_,_,_=>rfl
 | (name,kind)::r,n,acc,x,h=>by
  unfold cellsFrom
  have hr:(x,NameKind.cell)∉r:=fun z=>h (List.mem_cons_of_mem _ z)
  cases hk:kind == NameKind.cell with
  | true=>
   rw[if_pos rfl,cf_acc r (n+1) _ x hr]
   have hk':kind=.cell:=by simpa using hk
   have hx:(x == name)=false:=by
    cases hx:x == name with
    | false=>rfl
    | true=>
     have e':x=name:=by simpa using hx
     subst e' hk'
     exact absurd List.mem_cons_self h
   simp only [List.lookup_cons,hx]
  | false=>rw[if_neg Bool.false_ne_true,cf_acc r n _ x hr]
theorem cf_inj:∀ (names:List (Str×NameKind)) (n:Nat) (acc:List (Str×Addr)),(∀ x y c,acc.lookup x=some c→acc.lookup y=some c→x=y)→(∀ x c,acc.lookup x=some c→c < n)→
  ∀ x y c,(cellsFrom n names acc).lookup x=some c→(cellsFrom n names acc).lookup y=some c→x=y
 | [],_,_,h,_=>h
 | (name,kind)::r,n,acc,h,hb=>by
  unfold cellsFrom
  split
  ·refine cf_inj r (n+1) _ (fun x y c e1 e2=>?_) fun x c e=>?_
   ·cases hx:x == name <;> cases hy:y == name <;> simp only [List.lookup_cons,hx,hy] at e1 e2
    ·exact h x y c e1 e2
    ·cases e2;exact absurd (hb x _ e1) (Nat.lt_irrefl _)
    ·cases e1;exact absurd (hb y _ e2) (Nat.lt_irrefl _)
    ·have a:x=name:=by simpa using hx
     have b:y=name:=by simpa using hy
     rw[a,b]
   ·cases hx:x == name <;> simp only [List.lookup_cons,hx] at e
    ·exact Nat.lt_succ_of_lt (hb x c e)
    ·cases e;exact Nat.lt_succ_self _
  ·exact cf_inj r n acc h hb
section
variable {M:Model}{A:Around}{E:Value→Shared→Prop}{s:Shared}
theorem wpAny_newEnvC {scope:Scope}{globals:Addr}{cl:List (Str×Addr)}{qual:Str}{func:Option Addr}{code:Value}{env:Env}{builtins:Addr}{Q:Env→Shared→Prop}
  (h:Q { scope,locals:=s.heap.objs.size,globals,cells:=cellsFrom (s.heap.objs.size+1) scope.names cl,qual,func,code:=env.code,frame:=env.frame,builtins:=env.builtins }
   { s with heap:=pushCells (s.heap.push { cls:=.type "dict",data:=.dict #[] }) scope.names }):wpAny M A (newFunctionEnv scope globals cl [] qual func code (some env) builtins) Q E s:=by
 simp only [newFunctionEnv,Option.isSome_some,if_true]
 refine wpAny_bind (wpAny_alloc ?_)
 refine wpAny_bind (wpAny_layCells _ (fun name kind cells=>by cases hkc:kind == NameKind.cell <;> simp [hkc]) _ _ _ _ ?_)
 rw[show ({ s with heap:=s.heap.push { cls:=.type "dict",data:=.dict #[] } }:Shared).heap.objs.size=s.heap.objs.size+1 from Heap.size_push ..]
 rw[List.forIn_nil]
 exact wpAny_bind (wpAny_pure (wpAny_pure h))
end
structure LcOk2 (X:Cx) (scope:Scope) (cl:List (Str×Addr)) (N':List Str) (fr:List (Option Nat)):Prop where
 clos:closureFor scope X.env=pure cl
 cls:ClOk X.env cl
 kind:scope.kind=.function
 owns:(scope.names.all fun p=>p.2 != NameKind.cell || scope.names.lookup p.1 == some NameKind.cell)=true
 locs:(scope.names.all fun p=>p.2 != NameKind.local || scope.names.lookup p.1 == some NameKind.local)=true
 frees:(scope.names.all fun p=>p.2 != NameKind.free || (cl.lookup p.1).isSome)=true
 len:fr.length=N'.length
 fr:FrOk X scope N' fr 0
noncomputable def cxD (X:Cx) (N':List Str) (scope:Scope) (cl:List (Str×Addr)) (fp:List Addr) (s:Shared) (H:Hp):Cx:=
 { X with N:=N',s₀:=s,H₀:=H,env:=compEnvC scope (cellsFrom (s.heap.objs.size+1) scope.names cl) s.heap.objs.size X.env,outer:=X.stack,ex:=fp,fn:=fun x=>scope.names.lookup x == some .cell,pn:=[] }
section
variable {X:Cx}
theorem LcOk2.cells {scope:Scope}{cl:List (Str×Addr)}{N':List Str}{fr:List (Option Nat)} (S:LcOk2 X scope cl N' fr) {s:Shared}{o:Obj}{x:Str}{c:Addr} (e:(cellsFrom (s.heap.objs.size+1) scope.names cl).lookup x=some c) :
  (s.heap.objs.size < c∧(x,NameKind.cell)∈scope.names∧(pushCells (s.heap.push o) scope.names).IsCell c none)∨X.env.cells.lookup x=some c:=by
 have:=cf_at scope.names (s.heap.push o) cl x c (by rw[Heap.size_push];exact e)
 rw[Heap.size_push] at this
 rcases this with ⟨a,b,d⟩ | h
 ·exact .inl ⟨a,b,d⟩
 ·exact .inr (S.cls.get x c h)
theorem LcOk2.invC {scope:Scope}{cl:List (Str×Addr)}{N':List Str}{fr:List (Option Nat)}{pins:List (Addr×Obj)}{σ:St}{H:Hp}{s:Shared}{o:Obj}{fp:List Addr}{m1:Str→Option Value}{tk:Nat}
  (S:LcOk2 X scope cl N' fr) (I:Inv X pins σ H s) (hf:∀ b∈fp,FpOk X pins H b) (hfo:∀ b∈fp,b < s.heap.objs.size)
  (hn:(pushCells (s.heap.push o) scope.names).Ns s.heap.objs.size m1):Inv (cxD X N' scope cl fp s H) [] (frσ fr σ) H { s with heap:=pushCells (s.heap.push o) scope.names,toks:=tk }:=by
 have hfree:=S.frees
 have hown:=S.owns
 rw[List.all_eq_true] at hfree hown
 have k:∀ b o',s.heap.get? b=some o'→(pushCells (s.heap.push o) scope.names).get? b=some o':=fun b o' e=>pushCells_keeps _ _ b o' (Heap.get?_push_of_some _ e)
 have fresh:H s.heap.objs.size=none:=I.hok.fresh (Nat.le_refl _)
 have clg:=S.cls.get
 have cg:=fun x c e=>S.cells (s:=s) (o:=o) (x:=x) (c:=c) e
 have clt:∀ x c,cl.lookup x=some c→c < s.heap.objs.size:=fun x c e=>by
  obtain⟨v,oc,hoc,hd⟩:=I.cell x c (clg x c e)
  exact Heap.lt_size hoc
 have notown:∀ x,scope.names.lookup x=some .free→(x,NameKind.cell)∉scope.names:=fun x e hm=>by
  have:=hown _ hm
  simp only [bne_self_eq_false,Bool.false_or,beq_iff_eq] at this
  rw[e] at this;cases this
 refine⟨⟨I.ok.mod,S.kind,I.ok.glob,I.ok.blt,Nat.le_refl _,cf_inj scope.names _ cl (fun x y c e1 e2=>I.ok.inj x y c (clg x c e1) (clg y c e2)) (fun x c e=>Nat.lt_succ_of_lt (clt x c e)),fun x hx=>?_,fun x c e1 e2=>?_,I.ok.hd,I.ok.frames,.inl rfl,fun b hb=>⟨Nat.ne_of_lt (hfo b hb),fun x c e=>?_⟩,
  I.bs,Nat.le_trans I.ok.bsz I.sz,fun b o e hb=>?_,fun b hb hz=>?_,I.stack,I.stkFree⟩,rfl,I.bare,Un.kept k,⟨m1,hn,fun i x v e1 e2 e3=>?_⟩,fun x c e=>?_,fresh,fun x c e=>?_,fun p hp=>absurd (show p∈([]:List (Addr×Obj)) from hp) (by simp),I.hok.kept k,?_⟩
 ·
  have hm:∃ k',(x,k')∈scope.names∧(k'=NameKind.free∨k'=NameKind.cell):=by
   have hx':(relabel scope X.env).names.lookup x=some .cell∨(relabel scope X.env).names.lookup x=some .free:=hx
   obtain⟨k',e,hk'⟩:∃ k',(relabel scope X.env).names.lookup x=some k'∧(k'=.cell∨k'=.free):=by
    rcases hx' with e | e
    ·exact⟨_,e,.inl rfl⟩
    ·exact⟨_,e,.inr rfl⟩
   have hmem:=PySem.mem_of_lookup e
   obtain⟨⟨n,kn⟩,hp,he⟩:=List.mem_map.mp hmem
   dsimp only at he
   split at he
   ·rename_i hc
    cases he
    have:kn=.free:=by
     simp only [Bool.and_eq_true,beq_iff_eq] at hc
     exact hc.1.1
    exact⟨kn,hp,.inl this⟩
   ·cases he
    rcases hk' with e' | e'
    ·exact⟨_,hp,.inr e'⟩
    ·exact⟨_,hp,.inl e'⟩
  obtain⟨k',hp,hk'⟩:=hm
  by_cases hc:(x,NameKind.cell)∈scope.names
  ·obtain⟨c,_,e⟩:=cf_own scope.names (s.heap.objs.size+1) 0 cl x (Nat.zero_le _) (.inl hc)
   exact⟨c,e⟩
  ·rcases hk' with rfl | rfl
   ·have:=hfree _ hp
    simp only [bne_self_eq_false,Bool.false_or] at this
    obtain⟨c,e⟩:=Option.isSome_iff_exists.mp this
    exact⟨c,by show (cellsFrom _ _ _).lookup x=_;rw[cf_acc _ _ _ _ hc];exact e⟩
   ·exact absurd hp hc
 ·have e1':scope.names.lookup x=some .cell:=by simpa using (show (scope.names.lookup x == some NameKind.cell)=true from e1)
  obtain⟨c',hc',e'⟩:=cf_own scope.names (s.heap.objs.size+1) (s.heap.objs.size+1) cl x (Nat.le_refl _) (.inl (PySem.mem_of_lookup e1'))
  have e2':(cellsFrom (s.heap.objs.size+1) scope.names cl).lookup x=some c:=e2
  rw[e'] at e2'
  cases e2'
  exact Nat.le_of_succ_le hc'
 ·rcases cg x c e with ⟨a,_⟩ | e'
  ·exact Ne.symm (Nat.ne_of_lt (Nat.lt_trans (hfo b hb) a))
  ·exact (hf b hb).2.2.2.2.1 x c e'
 ·rcases (hf b hb).2.2.2.1 with z | z
  ·exact I.ok.noex b o e z
  ·have:=Heap.lt_size e
   exact absurd (Nat.lt_of_lt_of_le this (Nat.le_trans I.ok.bsz z)) (Nat.lt_irrefl _)
 ·obtain⟨_,f1,f2,_⟩:=hf b hb
  rcases List.mem_cons.mp (I.stkSub b hz) with e | e
  ·exact f1 e
  ·exact f2 e
 ·
  unfold frσ at e2
  rw[List.getElem?_map] at e2
  cases ef:fr[i]? with
  | none=>rw[ef] at e2;cases e2
  | some o=>
   rw[ef] at e2
   cases o with
   | none=>simp at e2
   | some j=>
    have e2':(σ[j]?).join=some v:=by simpa using e2
    obtain⟨x',h1',h2',h3',h4'⟩:=S.fr.get i j ef
    rw[Nat.zero_add] at h1'
    have ex:x'=x:=by
     have:N'[i]? = some x:=e1
     rw[h1'] at this
     exact Option.some.inj this
    subst ex
    have e2'':σ[j]? = some (some v):=by
     cases q:σ[j]? with
     | none=>rw[q] at e2';cases e2'
     | some z=>rw[q] at e2';simp at e2';rw[e2']
    obtain⟨m,hm,hl⟩:=I.loc
    obtain⟨u,r,lk⟩:=hl j x' v h2' e2'' (.inr (.inl h4'))
    refine⟨u,r,?_⟩
    rcases lk with ⟨q,_⟩ | ⟨_,c,hc,z⟩
    ·rw[h4'] at q;cases q
    ·have hcl:∃ c',cl.lookup x'=some c':=by
      have:=hfree _ (PySem.mem_of_lookup h3')
      simp only [bne_self_eq_false,Bool.false_or] at this
      exact Option.isSome_iff_exists.mp this
     obtain⟨c',hc'⟩:=hcl
     have e':=clg x' c' hc'
     rw[hc] at e'
     cases e'
     obtain⟨oc,hoc,hd⟩:=z
     refine .inr ⟨.inl ?_,c,?_,oc,k c oc hoc,hd⟩
     ·exact eP I.ok.kind h3' h4'
     ·show (cellsFrom _ _ _).lookup x'=_
      rw[cf_acc _ _ _ _ (notown x' h3')];exact hc'
 ·rcases cg x c e with ⟨_,_,z⟩ | e'
  ·exact⟨_,z⟩
  ·obtain⟨v,oc,hoc,hd⟩:=I.cell x c e'
   exact⟨v,oc,k c oc hoc,hd⟩
 ·rcases cg x c e with ⟨a,_⟩ | e'
  ·exact I.hok.fresh (Nat.le_of_lt a)
  ·exact I.freeC x c e'
 ·show (frσ fr σ).length=N'.length
  unfold frσ
  rw[List.length_map,S.len]
theorem Inv.outD {scope:Scope}{cl:List (Str×Addr)}{N':List Str}{pins pins':List (Addr×Obj)}{σ σ':St}{H H':Hp}{s s':Shared}{fp:List Addr} (I:Inv X pins σ H s) (J:Inv (cxD X N' scope cl fp s H) pins' σ' H' s')
  (hf:∀ b∈fp,FpOk X pins H b):Inv X pins σ H' s':=
 I.call' (ch:=fp) J.os J.base J.hok J.bare fun b hb=>by
  obtain⟨_,f1,_,f3,f4,f5⟩:=hf b hb
  exact⟨f3,f1,f4,f5⟩
theorem lc_blockD {elt tg iter:Expr}{ifs:List Expr}{scope:Scope}{pos:Pos}{N':List Str}{fr:List (Option Nat)}{cl:List (Str×Addr)}{g:TG}{tc:TT}{te:TE}
  {pins:List (Addr×Obj)}{σ:St}{H:Hp}{s:Shared}{J:It}{fp:List Addr}{it:Addr}{tn:Nat→Heap→Prop}{Q:Addr→Hp→Prop}{RR:Value→Addr→Result→Shared→Prop}{E:Value→Shared→Prop}
  (hx:∀ e s,¬ X.xe e s) (hc:X.calm=true) (S:LcOk2 X scope cl N' fr)
  (hg:∀ fp s H,PG (cxD X N' scope cl fp s H) tg g) (ht:∀ fp s H,PIf (cxD X N' scope cl fp s H) ifs tc) (he:∀ fp s H,PE (cxD X N' scope cl fp s H) elt te)
  (I:Inv X pins σ H s) (T:Turn X.prog X.w X.K tg J fp it tn) (st:tn 0 s.heap) (hf:∀ b∈fp,FpOk X pins H b) (h:lcRest J g tc te fr σ H Q)
  (hRR:∀ D C H' s' m',Inv X pins σ H' s'→Q D H'→s'.heap.Ns C m'→FpOk X pins H' C→RR (.ref D) C (.ok .next) s') :
  wpAny (model X.prog X.w) X.A (newList []) (fun acc s₃=>wpAny (model X.prog X.w) X.A (newFunctionEnv scope X.env.globals cl [] X.env.qual none .none (some X.env)) (fun cenv s₄=>
   codeAny (model X.prog X.w) X.A (.compStart (.ListComp elt [⟨tg,iter,ifs,0⟩] scope pos) 0 (.ref it) acc { cenv with scope:=relabel scope X.env }) (RR acc cenv.locals) s₄) E s₃) E s:=by
 refine wpAny_newObj_type (wpAny_newEnvC ?_)
 dsimp only
 have fresh:H s.heap.objs.size=none:=I.hok.fresh (Nat.le_refl _)
 have I3:Inv X pins σ (upd H s.heap.objs.size (.lst [])) { s with heap:=s.heap.push { cls:=.type "list",data:=.seq ([]:List Value).toArray },toks:=s.toks }:=I.lnew (ys:=[]) (its:=[]) .nil (Nat.zero_le _)
 have hf3:∀ b∈fp,FpOk X pins (upd H s.heap.objs.size (.lst [])) b:=fun b hb=>by
  obtain⟨o,ho,_⟩:=T.obj _ _ st b hb
  exact⟨by rw[aP (Nat.ne_of_lt (Heap.lt_size ho))];exact (hf b hb).1,(hf b hb).2⟩
 generalize hs3:({ s with heap:=s.heap.push { cls:=.type "list",data:=.seq ([]:List Value).toArray },toks:=s.toks }:Shared)=s3 at I3
 have e3:s3.heap=s.heap.push { cls:=.type "list",dict:=none,data:=.seq ([]:List Value).toArray }:=by rw[← hs3]
 have e3s:({ s with heap:=s.heap.push { cls:=.type "list",dict:=none,data:=.seq ([]:List Value).toArray } }:Shared)=s3:=hs3
 have hsz3:s3.heap.objs.size=s.heap.objs.size+1:=by rw[e3,Heap.size_push]
 have hfo:∀ b∈fp,b < s3.heap.objs.size:=fun b hb=>by
  obtain⟨o,ho,_⟩:=T.obj _ _ st b hb
  rw[hsz3]
  exact Nat.lt_succ_of_lt (Heap.lt_size ho)
 rw[← e3]
 generalize hh1:pushCells (s3.heap.push { cls:=.type "dict",data:=.dict #[] }) scope.names=h₁
 have hns₁:(pushCells (s3.heap.push { cls:=.type "dict",data:=.dict #[] }) scope.names).Ns s3.heap.objs.size (fun _=>none):=(Heap.Ns.new s3.heap (.type "dict")).keeps (pushCells_keeps _ _)
 have old3:∀ b o,s3.heap.get? b=some o→h₁.get? b=some o:=fun b o e=>by rw[← hh1];exact pushCells_keeps _ _ b o (Heap.get?_push_of_some _ e)
 have old:∀ b o,s.heap.get? b=some o→s3.heap.get? b=some o:=fun b o e=>by rw[e3];exact Heap.get?_push_of_some _ e
 have I4:=S.invC (tk:=s3.toks) I3 hf3 hfo hns₁
 rw[hh1] at I4
 obtain⟨W,⟨m0,w0⟩,turn⟩:=h s.heap.objs.size fresh
 have stat:∀ {H':Hp},(∀ b∈fp,H' b=none)→∀ b∈fp,FpOk (cxD X N' scope cl fp s3 (upd H s.heap.objs.size (.lst []))) [] H' b:=fun hn b hb=>by
  refine⟨hn b hb,Nat.ne_of_lt (hfo b hb),?_,.inl hb,fun x c e=>?_,fun p hp=>absurd (show p∈([]:List (Addr×Obj)) from hp) (by simp)⟩
  ·intro hz
   obtain⟨_,f1,f2,_⟩:=hf b hb
   rcases List.mem_cons.mp (I.stkSub b hz) with e | e
   ·exact f1 e
   ·exact f2 e
  ·rcases S.cells (s:=s3) (o:={ cls:=.type "dict",data:=.dict #[] }) e with ⟨a,_⟩ | e'
   ·exact Ne.symm (Nat.ne_of_lt (Nat.lt_trans (hfo b hb) a))
   ·exact (hf b hb).2.2.2.2.1 x c e'
 have loop:∀ s4:Shared,s4={ s3 with heap:=h₁,toks:=s3.toks }→
   codeAny (model X.prog X.w) X.A (.compLoop (.ListComp elt [⟨tg,iter,ifs,0⟩] scope pos) 0 (.ref it) (.ref s.heap.objs.size) (compEnvC scope (cellsFrom (s3.heap.objs.size+1) scope.names cl) s3.heap.objs.size X.env)) (RR (.ref s.heap.objs.size) s3.heap.objs.size) s4:=by
  intro s4 hs4
  refine compLoop_any (fun n s'=>∃ i ys σ' H',Inv (cxD X N' scope cl fp s3 (upd H s.heap.objs.size (.lst []))) [] σ' H' s'∧tn i s'.heap∧(∀ b∈fp,H' b=none)∧W i n ys σ' H') ?_ m0
   ⟨0,[],frσ fr σ,_,by rw[hs4];exact I4,by rw[hs4];exact T.keep _ _ _ st fun b _ o e=>old3 b o (old b o e),fun b hb=>(hf3 b hb).1,w0⟩
  rintro n s5 ⟨i,ys,σ5,H5,I5,st5,fr5,w5⟩
  rcases turn i n ys σ5 H5 w5 with ⟨stop,qn⟩ | ⟨go,N,hN,step⟩
  ·refine d8 (T.done (cxD X N' scope cl fp s3 (upd H s.heap.objs.size (.lst []))) rfl rfl rfl hc i [] s5 σ5 H5 _ I5 (stat fr5) st5 stop) fun r s6 ⟨hr,I6⟩=>?_
   subst hr
   obtain⟨m',hm',_⟩:=I6.loc
   exact hRR _ _ H5 s6 m' (I3.outD I6 hf3) qn hm' (I3.fpOk (Nat.le_refl _) I6.free)
  ·refine d8 (T.item (cxD X N' scope cl fp s3 (upd H s.heap.objs.size (.lst []))) rfl rfl rfl hc i [] s5 σ5 H5 _ I5 (stat fr5) st5 go) fun r s6 ⟨u,hr,h6⟩=>?_
   subst hr
   refine d8 h6 fun _ s7 ⟨x,H7,I7,r7,y7,st7,fr7⟩=>?_
   have I7':=I7.pinned (stat fr7) (T.obj _ _ st7)
   refine wpAny_mono (hg fp s3 _ _ s7 σ5 H7 x u _ I7' r7 (step x H7 y7)) (fun _ s8 ⟨σ8,H8,I8,q8⟩=>?_) fun e s' z=>(hx e s' z).elim
   refine wpAny_mono (ht fp s3 _ _ s8 σ8 H8 _ I8 q8) (fun ok s9 ⟨H9,I9,q9⟩=>?_) fun e s' z=>(hx e s' z).elim
   have again:∀ {s10:Shared}{H10:Hp}{ys':List V},Inv (cxD X N' scope cl fp s3 (upd H s.heap.objs.size (.lst []))) ([]++pinsAt fp s7.heap) σ8 H10 s10→N ys' σ8 H10→
     ∃ m,m < n∧∃ i ys σ' H',Inv (cxD X N' scope cl fp s3 (upd H s.heap.objs.size (.lst []))) [] σ' H' s10∧tn i s10.heap∧(∀ b∈fp,H' b=none)∧W i m ys σ' H':=fun {s10 H10 ys'} I10 n10=>by
    obtain⟨m',hm,w10⟩:=hN ys' σ8 H10 n10
    refine⟨m',hm,i+1,ys',σ8,H10,I10.unpinned,T.keep _ _ _ st7 fun b hb o e=>(I10.pin (b,o) (List.mem_append_right _ (List.mem_append_right _ (mem_pinsAt hb e)))).1,fun b hb=>?_,w10⟩
    obtain⟨o,e,d⟩:=T.obj _ _ st7 b hb
    exact (I10.pin (b,o) (List.mem_append_right _ (List.mem_append_right _ (mem_pinsAt hb e)))).2.1
   cases ok with
   | false=>
    rw[if_neg Bool.false_ne_true] at q9 ⊢
    exact again I9 q9
   | true=>
    rw[if_pos rfl] at q9 ⊢
    refine wpAny_mono (he fp s3 _ _ s9 σ8 H9 _ I9 q9) (fun y s10 ⟨yv,H10,I10,r10,hD,hlen,q10⟩=>?_) fun e s' z=>(hx e s' z).elim
    refine wpAny_mono (cD (X:=cxD X N' scope cl fp s3 (upd H s.heap.objs.size (.lst []))) _ s10 σ8 H10 (.ref s.heap.objs.size) [yv] (.ref s.heap.objs.size) [y] (fun _ H11=>H11=upd H10 s.heap.objs.size (.lst (ys++[yv]))) I10 rfl (.cons r10 .nil)
     ⟨_,ys,yv,rfl,rfl,hD,hlen,rfl⟩) (fun _ s11 ⟨_,H11,I11,_,e11⟩=>?_) fun e s' z=>(hx e s' z).elim
    subst e11
    exact again I11 q10
 exact codeAny_compStart_list (loop _ (by rw[← e3s])) (T.self X.A 0 _ _ _ (T.keep _ _ _ st fun b _ o e=>old3 b o (old b o e)) (loop _ (by rw[← e3s])))
theorem pe_lcD {elt tg iter:Expr}{ifs:List Expr}{scope:Scope}{pos:Pos}{N':List Str}{fr:List (Option Nat)}{cl:List (Str×Addr)}{wi:TI}{g:TG}{tc:TT}{te:TE}
  (hx:∀ e s,¬ X.xe e s) (hc:X.calm=true) (S:LcOk2 X scope cl N' fr) (hi:PI X tg iter wi)
  (hg:∀ fp s H,PG (cxD X N' scope cl fp s H) tg g) (ht:∀ fp s H,PIf (cxD X N' scope cl fp s H) ifs tc) (he:∀ fp s H,PE (cxD X N' scope cl fp s H) elt te)
  (hs:∀ x,foldedSetIterable iter X.env x=pure x:=by intro _;rfl):PE X (.ListComp elt [⟨tg,iter,ifs,0⟩] scope pos) (tLC wi fr g tc te):=by
 intro pins s σ H Q I h
 have hloc:=S.locs
 rw[List.all_eq_true] at hloc
 rw[eval_ListComp]
 refine wpAny_comprehension_free (use:=none) rfl hs S.clos S.kind (fun x hx' hl=>by have:=hloc x hx';rw[hl] at this;simpa using this) (d8 (hi pins s σ H _ I h) fun v s1 h1=>d8 h1 fun itv s2 h2=>?_)
 obtain⟨it,fp,tn,J,H2,e,I2,T,st2,f2,rest⟩:=h2
 subst e
 refine lc_blockD (RR:=fun acc C=>compPost (model X.prog X.w) X.A X.xe none (EP X pins σ Q) acc C) hx hc S hg ht he I2 T st2 f2 rest ?_
 intro D C H' s' m' I' q hn f
 exact⟨m',hn,fun h' hsb=>⟨.ref D,H',I'.letgo f hsb,rfl,q⟩⟩
theorem ps_set_lcD {i:Nat}{y:Str}{py:Pos}{spos:Pos}{elt tg iter:Expr}{ifs:List Expr}{scope:Scope}{pos:Pos}{N':List Str}{fr:List (Option Nat)}{cl:List (Str×Addr)}{wi:TI}{g:TG}{tc:TT}{te:TE}
  (hN:X.N.Nodup) (hy:X.N[i]? = some y) (hk:X.env.scope.names.lookup y=some .local)
  (hx:∀ e s,¬ X.xe e s) (hc:X.calm=true) (S:LcOk2 X scope cl N' fr) (hi:PI X tg iter wi)
  (hg:∀ fp s H,PG (cxD X N' scope cl fp s H) tg g) (ht:∀ fp s H,PIf (cxD X N' scope cl fp s H) ifs tc) (he:∀ fp s H,PE (cxD X N' scope cl fp s H) elt te)
  (hsw:swapsWith (.ListComp elt [⟨tg,iter,ifs,0⟩] scope pos) (some (.Name y py)) spos.line X.env=pure true:=by rfl)
  (hs:∀ x,foldedSetIterable iter X.env x=pure x:=by intro _;rfl):PS X (.Assign [.Name y py] (.ListComp elt [⟨tg,iter,ifs,0⟩] scope pos) spos) (tAsg (tLC wi fr g tc te) (eZ i)):=by
 intro pins s σ H D I h
 have hloc:=S.locs
 rw[List.all_eq_true] at hloc
 rw[exec_Assign_Name_used _ _ _ _ hsw]
 refine wpAny_bind (wpAny_standAt (wpAny_bind ?_))
 show wpAny _ X.A (do let _ ← comprehension (.ListComp elt [⟨tg,iter,ifs,0⟩] scope pos) scope X.env _ (newList []) false (eval iter X.env) (some (assign (.Name y py) X.env))) _ _ s
 refine wpAny_bind (wpAny_mono (wpAny_comprehension_free (use:=some (assign (.Name y py) X.env)) (Q:=fun _ s'=>SP X pins D .next s') rfl hs S.clos S.kind (fun x hx' hl=>by have:=hloc x hx';rw[hl] at this;simpa using this)
  (d8 (hi pins s σ H _ I h) fun v s1 h1=>d8 h1 fun itv s2 h2=>?_)) (fun _ s' hq=>wpAny_pure (wpAny_pure hq)) fun _ _ e=>e)
 obtain⟨it,fp,tn,J,H2,e,I2,T,st2,f2,rest⟩:=h2
 subst e
 refine lc_blockD (RR:=fun acc C=>compPost (model X.prog X.w) X.A X.xe (some (assign (.Name y py) X.env)) (fun _ s'=>SP X pins D .next s') acc C) hx hc S hg ht he I2 T st2 f2 rest ?_
 intro Da C H' s' m' I' q hn f
 show wpAny _ X.A (assign (.Name y py) X.env (.ref Da)) _ _ _
 refine wpAny_assign_Name (store_ok2 I' hN hy (.inl hk) (v:=.ref Da) rfl (fun s'' I'' hch=>?_) (.inr hk))
 obtain⟨a,hsb,ha⟩:=hch
 have haC:a≠C:=by
  rcases ha with e | e
  ·rw[e];exact Ne.symm f.2.1
  ·exact f.2.2.2.2.1 _ _ e
 exact⟨m',hn.sameBut hsb (Ne.symm haC),fun h' hs'=>⟨_,H',I''.letgo f hs',q⟩⟩
end
end L2
namespace Tw
open PySem L2
noncomputable def amts (k:Option Int) (gs:List (Option Int×Int)):List Int:=(gs.filter fun g=>decide (g.1=k)).map (·.2)
theorem amts_sum (k:Option Int):∀ gs:List (Option Int×Int),(amts k gs).sum=dF k gs
 | []=>rfl
 | g::r=>by
  have ih:=amts_sum k r
  unfold amts at ih ⊢
  unfold dF
  by_cases h:g.1=k
  ·simp [h,← ih]
  ·simp [h,← ih]
theorem amts_snoc (k:Option Int) (gs:List (Option Int×Int)) (g:Option Int×Int):amts k (gs++[g])=amts k gs++(if g.1=k then [g.2] else []):=by
 unfold amts
 rw[List.filter_append,List.map_append]
 by_cases h:g.1=k <;> simp [h]
theorem amts_len (k:Option Int) (gs:List (Option Int×Int)):(amts k gs).length≤gs.length:=by
 unfold amts;rw[List.length_map];exact List.length_filter_le _ _
section
variable {P:Program}{w:World}{K:PySem.W.Frag}{mg:Str→Option Value}{base:Heap}
theorem word_ix {wd:Str} (h:wd = "open" ∨ wd = "shut" ∨ wd = "turn"):∃ j:Nat,j < 3∧(∀ z,[V.str "turn",V.str "open",V.str "shut"][j]? = some z→eqV z (.str wd)=true)∧(∀ i z,i < j→[V.str "turn",V.str "open",V.str "shut"][i]? = some z→eqV z (.str wd)=false)∧
  ∀ old:Bool,[V.bl (!old),V.bl true,V.bl false][j]? = some (.bl (if wd = "open" then true else if wd = "turn" then !old else false)):=by
 rcases h with rfl | rfl | rfl
 ·refine⟨1,by decide,fun z hz=>by cases hz;rfl,fun i z hi hz=>?_,fun old=>rfl⟩
  have:i=0:=by omega
  subst this;cases hz;rfl
 ·refine⟨2,by decide,fun z hz=>by cases hz;rfl,fun i z hi hz=>?_,fun old=>rfl⟩
  rcases (show i=0∨i=1 by omega) with rfl | rfl <;> cases hz <;> rfl
 ·exact⟨0,by decide,fun z hz=>by cases hz;rfl,fun i z hi hz=>absurd hi (Nat.not_lt_zero _),fun old=>rfl⟩
theorem IsL.append {H:Hp}:∀ {ds es:List L2.D}{xs ys:List V},L2.IsL K H ds xs→L2.IsL K H es ys→L2.IsL K H (ds++es) (xs++ys)
 | [],es,xs,ys,h1,h2=>by rw[h1.un0];exact h2
 | d::ds,es,xs,ys,h1,h2=>by
  obtain⟨x,r,rfl,hx,hr⟩:=h1.un
  exact .cons hx (IsL.append hr h2)
theorem goes_put {H1 H2:Hp}{gl gq:Addr}{gs:List (Option Int×Int)}{gxs:List V} (sm:aK H1 H2) (fg:H1 gl=none) (hg:H2 gl=some (.lst gxs)) (ig:L2.IsL K H2 (gs.map outD) gxs) (hq:H2 gq=none) (t:Option Int) (n:Int) :
  aK H1 (upd (upd H2 gq (.tup [tgV t,.int n])) gl (.lst (gxs++[.ref gq])))∧upd (upd H2 gq (.tup [tgV t,.int n])) gl (.lst (gxs++[.ref gq])) gl=some (.lst (gxs++[.ref gq]))∧
  L2.IsL K (upd (upd H2 gq (.tup [tgV t,.int n])) gl (.lst (gxs++[.ref gq]))) ((gs++[(t,n)]).map outD) (gxs++[.ref gq])∧∀ p o,p≠gl→H2 p=some o→upd (upd H2 gq (.tup [tgV t,.int n])) gl (.lst (gxs++[.ref gq])) p=some o:=by
 have nq:gl≠gq:=aQ hg hq
 have mt:Mut (upd H2 gq (.tup [tgV t,.int n]) gl):=by rw[aP nq,hg];exact trivial
 refine⟨fun b o e=>by rw[aP (aQ e fg)];exact aK.new hq b o (sm b o e),aD,?_,fun p o hp e=>by rw[aP hp];exact aK.new hq p o e⟩
 rw[List.map_append]
 exact L2.IsL.snoc (Is.tupOf (ds:=[tgD t,.int n]) (bL.put (bL.refl _) (.inr mt) _ _ (bT.of aD)) (.cons (Is.tgOf _) (.cons (Is.i _) .nil))) (L2.IsL.mono (bL.put (aK.new hq).ts (.inr mt)) _ _ ig)
noncomputable def spTickL (K:PySem.W.Frag):Sp:=fun args H Q _=>∃ (x y:V) (z:Addr) (net:Net) (held coming poured:List Int) (doors:List Bool),args=[x,y,.ref z,.non]∧Is K H (netD net) x∧Is K H (stD held coming doors) y∧Sq2 K H z (poured.map V.int)∧
 NetOk net∧StOk net held coming doors∧poured.length=net.vs.length∧∀ (l:Addr) (p1 p2:V) H',aK H H'→H' l=some (.lst [p1,p2,.int (tickOf net held coming poured doors).ground])→
  Is K H' (stD (tickOf net held coming poured doors).held (tickOf net held coming poured doors).coming (tickOf net held coming poured doors).doors) p1→
  Is K H' (.tup ((tickOf net held coming poured doors).tip.map fun (i:Nat)=>D.int (i:Int))) p2→Q (.ref l) H'
theorem sc__law_tick:FnScope ["net","state","poured","fast","has","goes","tipped","stays","number","size","brim","outs","holds","spill","acts","here","whole","doors","word","spout","later","ground"] ["net","state","poured","fast"] (aL (top 56)):=⟨rfl,rfl,rfl,by decide +kernel,rfl,by decide +kernel,by decide +kernel⟩
theorem ok__law_tick {f fF:Addr}{fd fdF:FuncData} (F:Fun K "_law_tick" "_law_tick" (top 56) f fd) (T:Txt mg) (G__law_filled:Callee P w K mg base "_law_filled" ["net","state","poured"] 1 (spFilledL K) fF fdF):FnOk P w K mg base CX0 2 f fd ["net","state","poured","fast"] (spTickL K):=by
 refine F.ok sc__law_tick (fun vs H Q E h=>?_) (fun cdv A outer s H vs Q E hr h=>?_)
 ·obtain⟨x,y,z,net,held,coming,poured,doors,rfl,_⟩:=h;rfl
 ·obtain⟨x,y,z,net,held,coming,poured,doors,rfl,hx,hy,qz,nok,sok,hpl,k⟩:=h
  have sc:=sc__law_tick
  refine⟨_,(aF (bE (i:=4) sc.nd rfl (Or.inl rfl) (cQ G__law_filled hr (aA (pv 0) (aA (pv 1) (aA (pv 2) aE)))))
   (aF (bE (i:=5) sc.nd rfl (Or.inr rfl) (bY aE))
   (aF (bE (i:=6) sc.nd rfl (Or.inl rfl) (bY aE))
   (aF (bE (i:=7) sc.nd rfl (Or.inl rfl) (bY aE))
   (aF (dB PassesOwn.never rfl (cG rfl T.b_range (aA (aS (bK (K:=K) rfl) rfl T.b_len PySem.boot_len (aA (aR (aM (K:=K) rfl) (pv 0) aG (fun _ _=>rfl)) aE)) aE)) (aJ (i:=8) sc.nd rfl (Or.inl rfl)) (aF (cB (aR (aM (K:=K) rfl) (aR (aM (K:=K) rfl) (pv 0) aG (fun _ _=>rfl)) (pv 8) (fun _ _=>rfl)) (bF (K:=K) (n:=6) rfl rfl (aH (aJ (i:=9) sc.nd rfl (Or.inl rfl)) (aH (aJ (i:=10) sc.nd rfl (Or.inl rfl)) (aH (aJ (i:=11) sc.nd rfl (Or.inl rfl)) (aH (aJ (i:=12) sc.nd rfl (Or.inl rfl)) (aH (aJ (i:=13) sc.nd rfl (Or.inl rfl)) (aH (aJ (i:=14) sc.nd rfl (Or.inl rfl)) bD))))))))
   (aF (bE (i:=15) sc.nd rfl (Or.inr rfl) (aS (call_min2 rfl) rfl T.b_min PyProof.Rows.boot_min (aA (aR (aM (K:=K) rfl) (pv 4) (pv 8) (fun _ _=>rfl)) (aA (pv 10) aE))))
   (aF (bZ (dY (K:=K) rfl PySem.F.plainAttrs_list PySem.F.slot_list_append PySem.F.type_list_append cD (pv 5) (aA (bV (aA (pv 13) (aA (b0 dN (aR (aM (K:=K) rfl) (pv 4) (pv 8) (fun _ _=>rfl)) (pv 15)) aE))) aE)))
   (aF (cF (PW.pt (pw_and (bU op_ge (pv 15) (pv 9) (bW _)) (pw_and1 (bU op_ne (pv 8) (pv 3) (bW _))))) (aF (bE (i:=16) sc.nd rfl (Or.inr rfl) (aS (dX (K:=K) rfl rfl) rfl T.b_sum PyProof.Rows.boot_sum (aA (pe_lc (fun _ _ h=>h) rfl (LcOk.mk (N':=["target","parts"]) (fr:=[none,none]) rfl trivial rfl rfl rfl rfl rfl trivial) (dD (K:=K) rfl (pv 11)) (fun _ _ _=>(bF (K:=K) (n:=2) rfl rfl (aH (aJ (i:=0) (show (["target","parts"]:List Str).Nodup by decide +kernel) rfl (Or.inl rfl) (Or.inr rfl)) (aH (aJ (i:=1) (show (["target","parts"]:List Str).Nodup by decide +kernel) rfl (Or.inl rfl) (Or.inr rfl)) bD)))) (fun _ _ _=>cP) (fun _ _ _=>(pv 1))) aE)))
   (aF (bE (i:=5) sc.nd rfl (Or.inr rfl) (b0 op_cat (pv 5) (pe_lc (fun _ _ h=>h) rfl (LcOk.mk (N':=["target","parts","here","whole"]) (fr:=[none,none,some 15,some 16]) rfl ⟨rfl,rfl,trivial⟩ rfl rfl rfl rfl rfl ⟨⟨_,rfl,rfl,rfl,rfl⟩,⟨_,rfl,rfl,rfl,rfl⟩,trivial⟩) (dD (K:=K) rfl (pv 11)) (fun _ _ _=>(bF (K:=K) (n:=2) rfl rfl (aH (aJ (i:=0) (show (["target","parts","here","whole"]:List Str).Nodup by decide +kernel) rfl (Or.inl rfl) (Or.inr rfl)) (aH (aJ (i:=1) (show (["target","parts","here","whole"]:List Str).Nodup by decide +kernel) rfl (Or.inl rfl) (Or.inr rfl)) bD)))) (fun _ _ _=>cP) (fun _ _ _=>(bV (aA (pv 0) (aA (b0 op_mul (b0 op_fdiv (pv 2) (pv 3)) (pv 1)) aE)))))))
   (aF (bE (i:=15) sc.nd rfl (Or.inr rfl) (b0 op_mod (pv 15) (pv 16)))
   (aF (bZ (dY (K:=K) rfl PySem.F.plainAttrs_list PySem.F.slot_list_append PySem.F.type_list_append cD (pv 6) (aA (pv 8) aE)))
   (aO (cF (dL (cU (pv 12))) (aF (bZ (dY (K:=K) rfl PySem.F.plainAttrs_list PySem.F.slot_list_append PySem.F.type_list_append cD (pv 5) (aA (bV (aA eO (aA (pv 15) aE))) aE)))
   (aO (bE (i:=15) sc.nd rfl (Or.inr rfl) aG))) bH)))))) bH)
   (aO (bZ (dY (K:=K) rfl PySem.F.plainAttrs_list PySem.F.slot_list_append PySem.F.type_list_append cD (pv 7) (aA (pv 15) aE)))))))))
   (aF (bE (i:=17) sc.nd rfl (Or.inl rfl) (bG (call_lstK (K:=K) rfl) rfl T.b_list bt_list (aA (aR (aM (K:=K) rfl) (pv 1) aG (fun _ _=>rfl)) aE)))
   (aF (dB PassesOwn.never rfl (pi_listK (K:=K) rfl (pv 6)) (aJ (i:=8) sc.nd rfl (Or.inl rfl)) (aO (dB PassesOwn.never rfl (dD (K:=K) rfl (aR (aM (K:=K) rfl) (aR (aM (K:=K) rfl) (aR (aM (K:=K) rfl) (pv 0) aG (fun _ _=>rfl)) (pv 8) (fun _ _=>rfl)) aG (fun _ _=>rfl))) (bF (K:=K) (n:=2) rfl rfl (aH (aJ (i:=18) sc.nd rfl (Or.inl rfl)) (aH (aJ (i:=19) sc.nd rfl (Or.inl rfl)) bD))) (aO (cB (aR (aM (K:=K) rfl) (bY (aA (pe_not (aR (aM (K:=K) rfl) (pv 17) (pv 19) (fun _ _=>rfl))) (aA eL (aA eL aE)))) (dY (K:=K) rfl PySem.F.plainAttrs_list PySem.F.slot_list_index PySem.F.type_list_index mt_index (bY (aA dM (aA dM (aA dM aE)))) (aA (pv 18) aE)) (fun _ _=>rfl)) (pg_sub (pv 17) (pv 19) eV))))))
   (aF (ps_set_lcD (i:=20) sc.nd rfl rfl (fun _ _ h=>h) rfl (LcOk2.mk (N':=["k","goes"]) (fr:=[none,some 5]) rfl ⟨rfl,trivial⟩ rfl rfl rfl rfl rfl ⟨⟨_,rfl,rfl,rfl,rfl⟩,trivial⟩) (cG rfl T.b_range (aA (aS (bK (K:=K) rfl) rfl T.b_len PySem.boot_len (aA (aR (aM (K:=K) rfl) (pv 0) aG (fun _ _=>rfl)) aE)) aE)) (fun _ _ _=>(aJ (i:=0) (show (["k","goes"]:List Str).Nodup by decide +kernel) rfl (Or.inr rfl) (Or.inl rfl))) (fun _ _ _=>cP) (fun _ _ _=>(aS (dX (K:=K) rfl rfl) rfl T.b_sum PyProof.Rows.boot_sum (aA (pe_lc (fun _ _ h=>h) rfl (LcOk.mk (N':=["target","amount","k"]) (fr:=[none,none,some 0]) rfl ⟨rfl,trivial⟩ rfl rfl rfl rfl rfl ⟨⟨_,rfl,rfl,rfl,rfl⟩,trivial⟩) (pi_listK (K:=K) rfl (pv 1)) (fun _ _ _=>(bF (K:=K) (n:=2) rfl rfl (aH (aJ (i:=0) (show (["target","amount","k"]:List Str).Nodup by decide +kernel) rfl (Or.inl rfl) (Or.inr rfl)) (aH (aJ (i:=1) (show (["target","amount","k"]:List Str).Nodup by decide +kernel) rfl (Or.inl rfl) (Or.inr rfl)) bD)))) (fun _ _ _=>pif_one (bU op_eq (pv 0) (pv 2) (bW _))) (fun _ _ _=>(pv 1))) aE))))
   (aF (bE (i:=21) sc.nd rfl (Or.inl rfl) (aS (dX (K:=K) rfl rfl) rfl T.b_sum PyProof.Rows.boot_sum (aA (pe_lc (fun _ _ h=>h) rfl (LcOk.mk (N':=["target","amount"]) (fr:=[none,none]) rfl trivial rfl rfl rfl rfl rfl trivial) (pi_listK (K:=K) rfl (pv 5)) (fun _ _ _=>(bF (K:=K) (n:=2) rfl rfl (aH (aJ (i:=0) (show (["target","amount"]:List Str).Nodup by decide +kernel) rfl (Or.inl rfl) (Or.inr rfl)) (aH (aJ (i:=1) (show (["target","amount"]:List Str).Nodup by decide +kernel) rfl (Or.inl rfl) (Or.inr rfl)) bD)))) (fun _ _ _=>pif_one (bU op_isN (pv 0) eO (bW _))) (fun _ _ _=>(pv 1))) aE)))
   (aO (aX (bY (aA (bV (aA (bG (cH (K:=K) rfl) rfl T.b_tuple cJ (aA (pv 7) aE)) (aA (bG (cH (K:=K) rfl) rfl T.b_tuple cJ (aA (pv 20) aE)) (aA (bG (cH (K:=K) rfl) rfl T.b_tuple cJ (aA (pv 17) aE)) aE)))) (aA (bG (cH (K:=K) rfl) rfl T.b_tuple cJ (aA (pv 6) aE)) (aA (pv 21) aE))))))))))))))),?_⟩
  obtain⟨a,b,c,xs,ys,rfl,q,q1,l1,q2,l2⟩:=net_un hx
  obtain⟨ay,a1,a2,a3,rfl,qy,p1,p2,p3⟩:=st_un hy
  have exl:xs.length=net.vs.length:=by rw[l1.length,List.length_map]
  have n1:=nok.lo
  have n2:=nok.hi
  have n3:=nok.sp
  have hn:((xs.length:Nat):Int).toNat=net.vs.length:=by rw[exl];simp
  have hsl:(aU net held coming poured doors).length=net.vs.length:=by
   unfold aU;rw[fillL_len,add3_len sok.h sok.c hpl]
  have hgl60:(cT net.vs (aU net held coming poured doors)).length≤60:=by
   have:=goesL_len net.vs (aU net held coming poured doors) nok.vs;omega
  have hgt:∀ i,(cT (net.vs.take i) ((aU net held coming poured doors).take i)).length≤60:=fun i=>by
   have h1:=goesL_len (net.vs.take i) ((aU net held coming poured doors).take i) fun v hv=>nok.vs v (List.mem_of_mem_take hv)
   have h2:(net.vs.take i).length≤12:=by rw[List.length_take];omega
   omega
  have htt:∀ i,(bQ 0 (net.vs.take i) ((aU net held coming poured doors).take i)).length≤12:=fun i=>by
   have h1:=tipsL_len (net.vs.take i) ((aU net held coming poured doors).take i) 0
   have h2:(net.vs.take i).length≤12:=by rw[List.length_take];omega
   omega
  have hst:∀ i,(dR (net.vs.take i) ((aU net held coming poured doors).take i)).length≤12:=fun i=>by
   rw[staysL_len _ _ (by rw[List.length_take,List.length_take,hsl]),List.length_take];omega
  refine⟨_,rfl,_,rfl,_,rfl,.ref a,.ref ay,z,net,held,coming,poured,doors,rfl,hx,hy,qz,nok,sok,hpl,fun hl H1 sm1 fr1 hH1=>?_⟩
  refine⟨Nat.zero_le _,fun gl hgl=>⟨Nat.zero_le _,fun tl htl=>⟨Nat.zero_le _,fun sl hsl'=>?_⟩⟩⟩
  have ft:H1 tl=none:=aK.free (aK.new hgl) htl
  have fs:H1 sl=none:=aK.free (aK.new hgl) (aK.free (aK.new htl) hsl')
  have nts:tl≠sl:=aQ (show upd _ tl (.lst []) tl=_ from aD) hsl'
  have ngt:gl≠tl:=aQ (show upd H1 gl (.lst []) gl=_ from aD) htl
  have ngs:gl≠sl:=aQ (show upd (upd H1 gl (.lst [])) tl (.lst []) gl=some (.lst []) by rw[aP ngt];exact aD) hsl'
  refine⟨_,rfl,.inr (.inl ⟨a,_,0,_,rfl,rfl,((((sm1.trans (aK.new hgl)).trans (aK.new htl)).trans (aK.new hsl')).tup q),rfl,b,xs,rfl,.inr ((((sm1.trans (aK.new hgl)).trans (aK.new htl)).trans (aK.new hsl')).tup q1),_,rfl,by omega,by omega,?_⟩)⟩
  rw[hn]
  refine dO (lo:=0) (n:=net.vs.length) (fun i σ' H'=>aK H1 H'∧H' tl=some (.lst ((bQ 0 (net.vs.take i) ((aU net held coming poured doors).take i)).map fun (j:Nat)=>V.int (j:Int)))∧
   H' sl=some (.lst ((dR (net.vs.take i) ((aU net held coming poured doors).take i)).map V.int))∧∃ (gl:Addr) (gxs:List V),H1 gl=none∧gl≠tl∧gl≠sl∧H' gl=some (.lst gxs)∧L2.IsL K H' ((cT (net.vs.take i) ((aU net held coming poured doors).take i)).map outD) gxs∧
   ∃ v8 v9 v10 v11 v12 v13 v14 v15 v16,σ'=[some (.ref a),some (.ref ay),some (.ref z),some .non,some (.ref hl),some (.ref gl),some (.ref tl),some (.ref sl),v8,v9,v10,v11,v12,v13,v14,v15,v16,none,none,none,none,none]) ?_ ?_ ?_
  ·refine⟨((aK.new hgl).trans (aK.new htl)).trans (aK.new hsl'),by rw[aP nts,aD];simp [bQ],by rw[aD];simp [dR],gl,[],hgl,ngt,ngs,by rw[aP ngs,aP ngt,aD],?_,none,none,none,none,none,none,none,none,none,rfl⟩
   simp only [List.take_zero,cT,List.map_nil];exact .nil
  ·rintro i σ' H2 hi ⟨sm,ht2,hs2,gl,gxs,fg,ngt,ngs,hg2,ig2,v8,v9,v10,v11,v12,v13,v14,v15,v16,rfl⟩
   rw[Int.zero_add]
   have hv:net.vs[i]? = some net.vs[i]:=by simp [hi]
   have vok:=nok.vs net.vs[i] (List.getElem_mem hi)
   have hil:i < (aU net held coming poured doors).length:=by rw[hsl];exact hi
   have hhi:(aU net held coming poured doors)[i]? = some ((aU net held coming poured doors)[i]'hil):=by simp
   generalize hh:(aU net held coming poured doors)[i]'hil=h at hhi
   have hhm:((aU net held coming poured doors).map V.int)[i]? = some (.int h):=by rw[List.getElem?_map,hhi];rfl
   have sA:aK H H2:=sm1.trans sm
   have s1:=staysL_snoc net.vs (aU net held coming poured doors) i _ _ hv hhi
   have s2:=tipsL_snoc net.vs (aU net held coming poured doors) i 0 _ _ hv hhi
   have s3:=goesL_snoc net.vs (aU net held coming poured doors) i _ _ hv hhi
   generalize hvv:net.vs[i]=v at hv vok s1 s2 s3
   obtain⟨xv,hxv,ixv⟩:=l1.get (i:=i) (d:=vsD v) (by rw[List.getElem?_map,hv];rfl)
   obtain⟨va,o,cc,rfl,qv,ho,hc⟩:=vs_un ixv
   obtain⟨oa,os,rfl,qo,lo⟩:=ho.un
   have eol:os.length=v.outs.length:=by rw[lo.length,List.length_map]
   have hw1:=whole_pos vok.ne vok.outs
   have hw2:=whole_le vok.outs
   have ho3:=vok.o3
   refine⟨_,rfl,.inr (.inl ⟨a,_,0,_,rfl,rfl,sA.tup q,rfl,_,rfl,.inr (.inl ⟨b,xs,(i:Int),_,rfl,rfl,sA.tup q1,d5 hxv,va,_,rfl,sA.tup qv,rfl,_,_,rfl,_,_,rfl,_,_,rfl,_,_,rfl,_,_,rfl,_,_,rfl,rfl,?_⟩)⟩)⟩
   refine⟨_,rfl,_,rfl,.inl ⟨hl,_,(i:Int),_,rfl,rfl,bM.of (sm _ _ hH1),d5 hhm,_,rfl,_,_,rfl,?_⟩⟩
   have eh:(if v.brim < h then v.brim else h)=cA v h:=by unfold cA;split <;> omega
   rw[eh]
   refine⟨_,rfl,.inl ⟨rfl,_,bM.of hg2⟩,_,rfl,_,rfl,_,rfl,.inl ⟨hl,_,(i:Int),_,rfl,rfl,bM.of (sm _ _ hH1),d5 hhm,_,rfl,_,_,rfl,rfl,(show 2≤sizeLine by decide),fun gq hgq=>?_⟩⟩
   have ngq:gl≠gq:=aQ hg2 hgq
   have hgxl:gxs.length=(cT (net.vs.take i) ((aU net held coming poured doors).take i)).length:=by rw[ig2.length,List.length_map]
   have hg60:=hgt i
   refine⟨gl,gxs,_,rfl,rfl,by rw[aP ngq];exact hg2,aZ (by omega),?_⟩
   obtain⟨sm3,hg3,ig3,kp3⟩:=goes_put sm fg hg2 ig2 hgq v.spill (h - cA v h)
   have ht3:=kp3 tl _ (Ne.symm ngt) ht2
   have hs3:=kp3 sl _ (Ne.symm ngs) hs2
   generalize upd (upd H2 gq (.tup [tgV v.spill,.int (h - cA v h)])) gl (.lst (gxs++[.ref gq]))=H3 at sm3 hg3 ig3 kp3 ht3 hs3 ⊢
   have sA3:aK H H3:=sm1.trans sm3
   dsimp only [tSeq,tAsg,tC,eZ]
   refine if_by (fun σ' H'=>aK H1 H'∧H' tl=some (.lst ((bQ 0 (net.vs.take (i+1)) ((aU net held coming poured doors).take (i+1))).map fun (j:Nat)=>V.int (j:Int)))∧
    H' sl=some (.lst ((dR (net.vs.take i) ((aU net held coming poured doors).take i)).map V.int))∧∃ (gl:Addr) (gxs:List V),H1 gl=none∧gl≠tl∧gl≠sl∧H' gl=some (.lst gxs)∧L2.IsL K H' ((cT (net.vs.take (i+1)) ((aU net held coming poured doors).take (i+1))).map outD) gxs∧
    ∃ v8 v9 v10 v11 v12 v13 v14 v16,σ'=[some (.ref a),some (.ref ay),some (.ref z),some .non,some (.ref hl),some (.ref gl),some (.ref tl),some (.ref sl),v8,v9,v10,v11,v12,v13,v14,some (.int (vStay v h)),v16,none,none,none,none,none]) (fun D' hD=>?_) ?_
   ·refine⟨_,rfl,_,rfl,_,_,rfl,rfl,_,rfl,?_⟩
    refine eX (fun hge=>?_) (fun hlt=>dU ?_)
    ·have tips:vTips v h=true:=hge
     refine⟨_,rfl,_,rfl,rfl,_,rfl,?_⟩
     refine eX (fun _=>?_) (fun hne=>absurd (by simp) hne)
     refine⟨_,rfl,oa,rfl,⟨_,sA3.tup qo⟩,lc_tup (K:=K) (a:=oa) (xs:=os) (fun D j ys σ' H'=>H3 D=none∧aK H3 H'∧H' D=some (.lst ys)∧ys=(v.outs.take j).map (fun x=>V.int x.2)∧∃ x y,σ'=[x,y])
      (fun D j ys σ' H' p=>p.2.1.tup (sA3.tup qo)) (fun D hD=>⟨hD,aK.new hD,aD,by simp,none,none,rfl⟩) ?_ ?_⟩
     rotate_left
     ·rintro D j x ys σ' H' hx ⟨hD,smx,hDl,rfl,v1,v2,rfl⟩
      obtain⟨ot,hot,oq,rfl,qa⟩:=outs_at lo hx
      have hjl:=(List.getElem?_eq_some_iff.mp hot).1
      refine⟨oq,_,rfl,smx.tup (sA3.tup qa),rfl,_,_,rfl,_,_,rfl,rfl,?_⟩
      refine yes_of ⟨_,rfl,hDl,aZ (by simp;omega),hD,smx.put hD,aD,?_,_,_,rfl⟩
      rw[bA hot];simp
     rintro D ys σ' H4 ⟨hD4,sm4,hDl,rfl,_⟩
     rw[eol,List.take_length] at hDl
     refine⟨false,D,v.outs.map (·.2),rfl,bM.of (by rw[List.map_map];exact hDl),?_⟩
     have ew:(v.outs.map (·.2)).sum=whole v.outs:=rfl
     rw[ew]
     have sA4:aK H H4:=sA3.trans sm4
     refine⟨_,rfl,_,rfl,oa,rfl,⟨_,sA4.tup qo⟩,lc_tup (K:=K) (a:=oa) (xs:=os) (fun D j ys σ' H'=>H4 D=none∧aK H4 H'∧H' D=some (.lst ys)∧L2.IsL K H' (((shared v (cA v h)).take j).map outD) ys∧∃ x y,σ'=[x,y,some (.int (cA v h)),some (.int (whole v.outs))])
      (fun D j ys σ' H' p=>p.2.1.tup (sA4.tup qo)) (fun D hD=>⟨hD,aK.new hD,aD,by simp only [List.take_zero,List.map_nil];exact .nil,none,none,rfl⟩) ?_ ?_⟩
     rotate_left
     ·rintro D j x ys σ' H' hx ⟨hD,smx,hDl,hys,v1,v2,rfl⟩
      obtain⟨ot,hot,oq,rfl,qa⟩:=outs_at lo hx
      have hjl:=(List.getElem?_eq_some_iff.mp hot).1
      have hom:=vok.outs ot (List.mem_of_getElem? hot)
      refine⟨oq,_,rfl,smx.tup (sA4.tup qa),rfl,_,_,rfl,_,_,rfl,rfl,?_⟩
      refine yes_of ⟨_,rfl,_,rfl,_,rfl,_,_,rfl,rfl,⟨by omega,by omega⟩,_,rfl,_,_,rfl,rfl,.inr ⟨by have:=hom.lo;omega,by have:=hom.hi;omega⟩,(show 2≤sizeLine by decide),fun tq htq=>?_⟩
      have nD:D≠tq:=aQ hDl htq
      have hysl:ys.length≤3:=by rw[hys.length,List.length_map,List.length_take];unfold shared;rw[List.length_map];omega
      have mt:Mut (upd H' tq (.tup [tgV ot.1,.int (cA v h / whole v.outs * ot.2)]) D):=by rw[aP nD,hDl];exact trivial
      have hsh:(shared v (cA v h))[j]? = some (ot.1,cA v h / whole v.outs * ot.2):=by unfold shared;rw[List.getElem?_map,hot];rfl
      refine⟨by rw[aP nD];exact hDl,aZ (by omega),hD,fun b o e=>by rw[aP (aQ e hD)];exact aK.new htq b o (smx b o e),aD,?_,_,_,rfl⟩
      rw[bA hsh,List.map_append]
      exact L2.IsL.snoc (Is.tupOf (ds:=[tgD ot.1,.int (cA v h / whole v.outs * ot.2)]) (bL.put (bL.refl _) (.inr mt) _ _ (bT.of aD)) (.cons (Is.tgOf _) (.cons (Is.i _) .nil))) (L2.IsL.mono (bL.put (aK.new htq).ts (.inr mt)) _ _ hys)
     rintro D2 ys σ' H5 ⟨hD5,sm5,hD5l,hys,_⟩
     have esh:(shared v (cA v h)).length=os.length:=by unfold shared;rw[List.length_map,eol]
     rw[List.take_of_length_le (Nat.le_of_eq esh)] at hys
     have hysl:ys.length≤3:=by rw[hys.length,List.length_map,esh,eol];exact ho3
     have hg5:=sm5 _ _ (sm4 _ _ hg3)
     refine⟨gl,D2,gxs++[.ref gq],ys,rfl,rfl,hg5,hD5l,Nat.le_of_lt (aZ (by simp;omega)),fun gl2 hgl2=>?_⟩
     have fg2:H1 gl2=none:=aK.free (sm3.trans (sm4.trans sm5)) hgl2
     have ht5:=sm5 _ _ (sm4 _ _ ht3)
     have hs5:=sm5 _ _ (sm4 _ _ hs3)
     have ngt2:gl2≠tl:=Ne.symm (aQ ht5 hgl2)
     have ngs2:gl2≠sl:=Ne.symm (aQ hs5 hgl2)
     have m6:aK H5 (upd H5 gl2 (.lst (gxs++[.ref gq]++ys))):=aK.new hgl2
     have ig6:L2.IsL K (upd H5 gl2 (.lst (gxs++[.ref gq]++ys))) ((cT (net.vs.take i) ((aU net held coming poured doors).take i)++[(v.spill,h - cA v h)]++shared v (cA v h)).map outD) (gxs++[.ref gq]++ys):=by
      rw[List.map_append]
      exact IsL.append (L2.IsL.mono m6.ts _ _ (L2.IsL.mono sm5.ts _ _ (L2.IsL.mono sm4.ts _ _ ig3))) (L2.IsL.mono m6.ts _ _ hys)
     have hg6:upd H5 gl2 (.lst (gxs++[.ref gq]++ys)) gl2=some (.lst (gxs++[.ref gq]++ys)):=aD
     have sm6:aK H1 (upd H5 gl2 (.lst (gxs++[.ref gq]++ys))):=(sm3.trans (sm4.trans sm5)).trans m6
     have ht6:=m6 _ _ ht5
     have hs6:=m6 _ _ hs5
     generalize upd H5 gl2 (.lst (gxs++[.ref gq]++ys))=H6 at sm6 hg6 ig6 ht6 hs6 ⊢
     refine⟨_,rfl,_,rfl,_,_,rfl,rfl,(show 0 < whole v.outs by omega),?_⟩
     have htl:=htt i
     refine⟨_,rfl,.inl ⟨rfl,_,bM.of ht6⟩,_,rfl,tl,_,_,rfl,rfl,ht6,aZ (by rw[List.length_map];omega),?_⟩
     have mtt:Mut (H6 tl):=by rw[ht6];exact trivial
     rw[tips,if_pos rfl,Nat.zero_add] at s2
     have hg7:upd H6 tl (.lst (((bQ 0 (net.vs.take i) ((aU net held coming poured doors).take i)).map fun (j:Nat)=>V.int (j:Int))++[.int (i:Int)])) gl2=some (.lst (gxs++[.ref gq]++ys)):=by rw[aP ngt2];exact hg6
     have ig7:=L2.IsL.mono (bL.put (o:=HO.lst (((bQ 0 (net.vs.take i) ((aU net held coming poured doors).take i)).map fun (j:Nat)=>V.int (j:Int))++[.int (i:Int)])) (bL.refl H6) (.inr mtt)) _ _ ig6
     have sm7:aK H1 (upd H6 tl (.lst (((bQ 0 (net.vs.take i) ((aU net held coming poured doors).take i)).map fun (j:Nat)=>V.int (j:Int))++[.int (i:Int)]))):=sm6.put ft
     have ht7:upd H6 tl (.lst (((bQ 0 (net.vs.take i) ((aU net held coming poured doors).take i)).map fun (j:Nat)=>V.int (j:Int))++[.int (i:Int)])) tl=some (.lst ((bQ 0 (net.vs.take (i+1)) ((aU net held coming poured doors).take (i+1))).map fun (j:Nat)=>V.int (j:Int))):=by
      rw[aD,s2,List.map_append];rfl
     have hs7:upd H6 tl (.lst (((bQ 0 (net.vs.take i) ((aU net held coming poured doors).take i)).map fun (j:Nat)=>V.int (j:Int))++[.int (i:Int)])) sl=_:=(aP (Ne.symm nts)).trans hs6
     generalize upd H6 tl (.lst (((bQ 0 (net.vs.take i) ((aU net held coming poured doors).take i)).map fun (j:Nat)=>V.int (j:Int))++[.int (i:Int)]))=H7 at hg7 ig7 sm7 ht7 hs7 ⊢
     refine⟨_,rfl,_,rfl,?_⟩
     cases hhd:v.holds with
     | true=>
      refine dU ?_
      have es:cA v h % whole v.outs=vStay v h:=by unfold vStay;rw[tips,hhd];rfl
      refine hD _ _ ⟨sm7,ht7,hs7,gl2,_,fg2,ngt2,ngs2,hg7,?_,_,_,_,_,_,_,_,_,by rw[← es];rfl⟩
      have eg:vGoes v h=[(v.spill,h - cA v h)]++shared v (cA v h):=by unfold vGoes;rw[tips,hhd];simp
      rw[s3,eg,← List.append_assoc]
      exact ig7
     | false=>
      refine eT ?_
      refine⟨_,rfl,.inl ⟨rfl,_,bM.of hg7⟩,_,rfl,(show 2≤sizeLine by decide),fun gq2 hgq2=>?_⟩
      have ngq2:gl2≠gq2:=aQ hg7 hgq2
      refine⟨gl2,_,_,rfl,rfl,by rw[aP ngq2];exact hg7,aZ (by simp;omega),?_⟩
      obtain⟨sm8,hg8,ig8,kp8⟩:=goes_put sm7 fg2 hg7 ig7 hgq2 none (cA v h % whole v.outs)
      have es:vStay v h=0:=by unfold vStay;rw[tips,hhd];rfl
      refine hD _ _ ⟨sm8,kp8 tl _ (Ne.symm ngt2) ht7,kp8 sl _ (Ne.symm ngs2) hs7,gl2,_,fg2,ngt2,ngs2,hg8,?_,_,_,_,_,_,_,_,_,by rw[es];rfl⟩
      have eg:vGoes v h=[(v.spill,h - cA v h)]++shared v (cA v h)++[(none,cA v h % whole v.outs)]:=by unfold vGoes;rw[tips,hhd];simp
      rw[s3,eg,← List.append_assoc,← List.append_assoc]
      exact ig8
    ·have tips:vTips v h=false:=by
      cases e:vTips v h with
      | false=>rfl
      | true=>exact absurd e hlt
     have es:cA v h=vStay v h:=by unfold vStay;rw[tips];rfl
     have eg:vGoes v h=[(v.spill,h - cA v h)]:=by unfold vGoes;rw[tips];rfl
     rw[tips,if_neg Bool.false_ne_true,List.append_nil] at s2
     refine hD _ _ ⟨sm3,by rw[s2];exact ht3,hs3,gl,_,fg,ngt,ngs,hg3,by rw[s3,eg];exact ig3,_,_,_,_,_,_,_,_,by rw[← es];rfl⟩
   rintro σ3 H4 ⟨sm4,ht4,hs4,gl,gxs,fg,ngt,ngs,hg4,ig4,v8,v9,v10,v11,v12,v13,v14,v16,rfl⟩
   have hsl2:=hst i
   refine⟨_,rfl,.inl ⟨rfl,_,bM.of hs4⟩,_,rfl,sl,_,_,rfl,rfl,hs4,aZ (by rw[List.length_map];omega),?_⟩
   refine⟨sm4.put fs,by rw[aP nts];exact ht4,by rw[aD,s1,List.map_append];rfl,gl,gxs,fg,ngt,ngs,by rw[aP ngs];exact hg4,L2.IsL.mono (bL.put (bL.refl _) (.inr (by rw[hs4];exact trivial))) _ _ ig4,_,_,_,_,_,_,_,_,_,rfl⟩
  ·rintro σ' H2 ⟨sm,ht2,hs2,gl,gxs,fg,ngt,ngs,hg2,ig2,v8,v9,v10,v11,v12,v13,v14,v15,v16,rfl⟩
   have ek:net.vs.take net.vs.length=net.vs:=List.take_length
   have ek2:(aU net held coming poured doors).take net.vs.length=aU net held coming poured doors:=by rw[← hsl,List.take_length]
   rw[ek,ek2] at ht2 hs2 ig2
   have sA:aK H H2:=sm1.trans sm
   have etl:(bQ 0 net.vs (aU net held coming poured doors)).length≤12:=by have:=tipsL_len net.vs (aU net held coming poured doors) 0;omega
   refine⟨_,rfl,.inr (.inl ⟨ay,_,2,_,rfl,rfl,sA.tup qy,rfl,a3,_,rfl,.inr (sA.tup p3),fun dl hdl=>?_⟩)⟩
   have m3:aK H2 (upd H2 dl (.lst (doors.map V.bl))):=aK.new hdl
   refine⟨_,rfl,tl,rfl,⟨_,bM.of (m3 _ _ ht2)⟩,for_list (K:=K) (a:=tl) (xs:=(bQ 0 net.vs (aU net held coming poured doors)).map fun (j:Nat)=>V.int (j:Int))
    (fun i σ' H'=>aK H2 H'∧H' dl=some (.lst ((cX net.vs doors ((bQ 0 net.vs (aU net held coming poured doors)).take i)).map V.bl))∧
     ∃ v8 v9 v10 v11 v12 v13 v14 v15 v16 v18 v19,σ'=[some (.ref a),some (.ref ay),some (.ref z),some .non,some (.ref hl),some (.ref gl),some (.ref tl),some (.ref sl),v8,v9,v10,v11,v12,v13,v14,v15,v16,some (.ref dl),v18,v19,none,none])
    ⟨m3,aD,_,_,_,_,_,_,_,_,_,_,_,rfl⟩ (fun i σ' H' _ p=>bM.of (p.1 _ _ ht2)) ?_ ?_⟩
   ·rintro i x σ' H3 hx' ⟨sm3,hd3,v8,v9,v10,v11,v12,v13,v14,v15,v16,v18,v19,rfl⟩
    rw[List.getElem?_map] at hx'
    obtain⟨j,hj,rfl⟩:=Option.map_eq_some_iff.mp hx'
    have hjv:j < net.vs.length:=by have:=tipsL_lt _ _ _ _ (List.mem_of_getElem? hj);omega
    have hv:net.vs[j]? = some net.vs[j]:=by simp [hjv]
    have vok:=nok.vs net.vs[j] (List.getElem_mem hjv)
    have dsn:=doorsL_snoc net.vs doors ((bQ 0 net.vs (aU net held coming poured doors)).take i) j net.vs[j] hv
    generalize hvv:net.vs[j]=v at hv vok dsn
    obtain⟨xv,hxv,ixv⟩:=l1.get (i:=j) (d:=vsD v) (by rw[List.getElem?_map,hv];rfl)
    obtain⟨va,o,cc,rfl,qv,ho,hc⟩:=vs_un ixv
    obtain⟨ca,cs,rfl,qc,lc⟩:=hc.un
    have ecs:cs.length=v.acts.length:=by rw[lc.length,List.length_map]
    have sA3:aK H H3:=sA.trans sm3
    refine⟨_,rfl,.inr (.inl ⟨a,_,0,_,rfl,rfl,sA3.tup q,rfl,_,rfl,.inr (.inl ⟨b,xs,(j:Int),_,rfl,rfl,sA3.tup q1,d5 hxv,.inr (.inl ⟨va,_,5,_,rfl,rfl,sA3.tup qv,rfl,ca,rfl,⟨_,sA3.tup qc⟩,for_tup (K:=K) (a:=ca) (xs:=cs)
     (fun l σ' H'=>aK H2 H'∧H' dl=some (.lst ((eM (cX net.vs doors ((bQ 0 net.vs (aU net held coming poured doors)).take i)) (v.acts.take l)).map V.bl))∧
      ∃ v8 v9 v10 v11 v12 v13 v14 v15 v16 v18 v19,σ'=[some (.ref a),some (.ref ay),some (.ref z),some .non,some (.ref hl),some (.ref gl),some (.ref tl),some (.ref sl),v8,v9,v10,v11,v12,v13,v14,v15,v16,some (.ref dl),v18,v19,none,none])
     ⟨sm3,hd3,_,_,_,_,_,_,_,_,_,_,_,rfl⟩ (fun l σ' H' _ p=>(sA.trans p.1).tup qc) ?_ ?_⟩)⟩)⟩)⟩
    ·rintro l x σ' H4 hl' ⟨sm4,hd4,v8,v9,v10,v11,v12,v13,v14,v15,v16,v18,v19,rfl⟩
     obtain⟨at',hat,aa,rfl,qa⟩:=acts_at lc hl'
     have aok:=vok.acts at' (List.mem_of_getElem? hat)
     refine⟨aa,_,rfl,(sA.trans sm4).tup qa,rfl,_,_,rfl,_,_,rfl,rfl,?_⟩
     have asn:=actsL_snoc (cX net.vs doors ((bQ 0 net.vs (aU net held coming poured doors)).take i)) (v.acts.take l) at'
     have hdl':(eM (cX net.vs doors ((bQ 0 net.vs (aU net held coming poured doors)).take i)) (v.acts.take l)).length=doors.length:=by rw[actsL_len,doorsL_len]
     generalize eM (cX net.vs doors ((bQ 0 net.vs (aU net held coming poured doors)).take i)) (v.acts.take l)=DS at hd4 asn hdl'
     have hsp:at'.2.toNat < DS.length:=by rw[hdl',sok.d];have:=aok.lo;have:=aok.hi;omega
     have hg:(DS.map V.bl)[at'.2.toNat]? = some (.bl (DS.getD at'.2.toNat false)):=by
      rw[List.getElem?_map,List.getD_eq_getElem?_getD];simp [hsp]
     obtain⟨jj,hj3,w1,w2,w3⟩:=word_ix aok.word
     refine⟨_,rfl,_,rfl,.inl ⟨dl,_,at'.2,_,rfl,rfl,bM.of hd4,atI_int aok.lo hg,_,rfl,(show 3≤sizeLine by decide),fun b1 hb1=>⟨(show 3≤sizeLine by decide),fun b2 hb2=>⟨.inl ⟨rfl,_,bM.of aD⟩,_,rfl,?_⟩⟩⟩⟩
     have m5:aK H4 (upd H4 b1 (.lst [.bl (!DS.getD at'.2.toNat false),.bl true,.bl false])):=aK.new hb1
     have m6:aK (upd H4 b1 (.lst [.bl (!DS.getD at'.2.toNat false),.bl true,.bl false])) (upd (upd H4 b1 (.lst [.bl (!DS.getD at'.2.toNat false),.bl true,.bl false])) b2 (.lst [.str "turn",.str "open",.str "shut"])):=aK.new hb2
     refine⟨b2,_,_,jj,rfl,rfl,aD,rfl,rfl,hj3,w1,w2,.inl ⟨b1,_,(jj:Int),_,rfl,rfl,bM.of (m6 _ _ aD),d5 (w3 _),?_⟩⟩
     refine⟨_,rfl,_,rfl,dl,_,at'.2,at'.2.toNat,rfl,rfl,m6 _ _ (m5 _ _ hd4),ixN_nat aok.lo (by rw[List.length_map];have:=aok.lo;omega),?_⟩
     refine⟨((sm4.trans m5).trans m6).put hdl,?_,_,_,_,_,_,_,_,_,_,_,_,rfl⟩
     rw[aD,bA hat,asn,act1,List.map_set]
    ·rintro σ' H4 ⟨sm4,hd4,v8,v9,v10,v11,v12,v13,v14,v15,v16,v18,v19,rfl⟩
     rw[ecs,List.take_length] at hd4
     refine⟨sm4,?_,_,_,_,_,_,_,_,_,_,_,_,rfl⟩
     rw[bA hj,dsn]
     exact hd4
   ·rintro σ' H3 ⟨sm3,hd3,v8,v9,v10,v11,v12,v13,v14,v15,v16,v18,v19,rfl⟩
    rw[List.length_map,List.take_length] at hd3
    have sA3:aK H H3:=sA.trans sm3
    have hg3:=sm3 _ _ hg2
    have ig3:=L2.IsL.mono sm3.ts _ _ ig2
    have hgxl:gxs.length=(cT net.vs (aU net held coming poured doors)).length:=by rw[ig2.length,List.length_map]
    refine⟨_,rfl,.inr (.inl ⟨a,_,0,_,rfl,rfl,sA3.tup q,rfl,b,xs,rfl,.inr (sA3.tup q1),_,rfl,by omega,by omega,?_⟩)⟩
    rw[hn]
    refine lc_range (n:=net.vs.length) (fun D i r σ' H'=>H3 D=none∧aK H3 H'∧H' D=some (.lst r)∧r=((eI net.vs.length (cT net.vs (aU net held coming poured doors))).take i).map V.int∧∃ v,σ'=[v,some (.ref gl)])
     (fun D hD=>⟨hD,aK.new hD,aD,by simp,none,rfl⟩) ?_ ?_
    rotate_left
    ·rintro D i r σ' H4 hi ⟨hD,sm4,hDl,rfl,v,rfl⟩
     refine cS ?_
     refine⟨_,rfl,gl,rfl,⟨_,bM.of (sm4 _ _ hg3)⟩,lc_list (K:=K) (a:=gl) (xs:=gxs) (fun D' j r' σ' H'=>H4 D'=none∧aK H4 H'∧H' D'=some (.lst r')∧r'=(amts (some (i:Int)) ((cT net.vs (aU net held coming poured doors)).take j)).map V.int∧∃ u1 u2,σ'=[u1,u2,some (.int (i:Int))])
      (fun D' j r' σ' H' p=>bM.of (p.2.1 _ _ (sm4 _ _ hg3))) (fun D' hD'=>⟨hD',aK.new hD',aD,by simp [amts],none,none,rfl⟩) ?_ ?_⟩
     rotate_left
     ·rintro D' j x r' σ' H5 hx' ⟨hD',sm5,hD'l,rfl,u1,u2,rfl⟩
      obtain⟨g,hg,ga,rfl,qg⟩:=outs_at (L2.IsL.mono sm4.ts _ _ ig3) hx'
      refine⟨ga,_,rfl,sm5.tup qg,rfl,_,_,rfl,_,_,rfl,rfl,?_⟩
      have hsc:scal (tgV g.1) (.int (i:Int))=true:=by cases g.1 <;> rfl
      have hiff:tgV g.1=.int (i:Int)↔g.1=some (i:Int):=by cases g.1 <;> simp [tgV]
      have hal:=amts_len (some (i:Int)) ((cT net.vs (aU net held coming poured doors)).take j)
      rw[List.length_take] at hal
      refine⟨_,rfl,_,rfl,hsc,_,rfl,?_⟩
      refine eX (fun ht=>?_) (fun hf=>?_)
      ·refine⟨_,rfl,hD'l,aZ (by rw[List.length_map];omega),hD',sm5.put hD',aD,?_,_,_,rfl⟩
       rw[bA hg,amts_snoc,if_pos (hiff.mp (of_decide_eq_true ht)),List.map_append];rfl
      ·refine⟨hD',sm5,hD'l,?_,_,_,rfl⟩
       rw[bA hg,amts_snoc,if_neg (fun e=>hf (decide_eq_true (hiff.mpr e))),List.append_nil]
     rintro D' r' σ' H5 ⟨hD',sm5,hD'l,rfl,_⟩
     rw[hgxl,List.take_length] at hD'l
     refine⟨false,D',_,rfl,bM.of hD'l,sm5 _ _ hDl,aZ (by simp [eI];omega),hD,(sm4.trans sm5).put hD,aD,?_,_,rfl⟩
     have e:(eI net.vs.length (cT net.vs (aU net held coming poured doors)))[i]? = some (dF (some (i:Int)) (cT net.vs (aU net held coming poured doors))):=by
      unfold eI;simp [hi]
     rw[bA e,List.map_append,amts_sum];rfl
    rintro D r σ' H4 ⟨hD,sm4,hDl,rfl,_⟩
    have ll:(eI net.vs.length (cT net.vs (aU net held coming poured doors))).length=net.vs.length:=by unfold eI;simp
    rw[List.take_of_length_le (Nat.le_of_eq ll)] at hDl
    refine⟨_,rfl,gl,rfl,⟨_,bM.of (sm4 _ _ hg3)⟩,lc_list (K:=K) (a:=gl) (xs:=gxs) (fun D' j r' σ' H'=>H4 D'=none∧aK H4 H'∧H' D'=some (.lst r')∧r'=(amts none ((cT net.vs (aU net held coming poured doors)).take j)).map V.int∧∃ u1 u2,σ'=[u1,u2])
     (fun D' j r' σ' H' p=>bM.of (p.2.1 _ _ (sm4 _ _ hg3))) (fun D' hD'=>⟨hD',aK.new hD',aD,by simp [amts],none,none,rfl⟩) ?_ ?_⟩
    rotate_left
    ·rintro D' j x r' σ' H5 hx' ⟨hD',sm5,hD'l,rfl,u1,u2,rfl⟩
     obtain⟨g,hg,ga,rfl,qg⟩:=outs_at (L2.IsL.mono sm4.ts _ _ ig3) hx'
     refine⟨ga,_,rfl,sm5.tup qg,rfl,_,_,rfl,_,_,rfl,rfl,?_⟩
     have hiff:tgV g.1=.non↔g.1=none:=by cases g.1 <;> simp [tgV]
     have hal:=amts_len none ((cT net.vs (aU net held coming poured doors)).take j)
     rw[List.length_take] at hal
     refine⟨_,rfl,rfl,_,rfl,?_⟩
     refine eX (fun ht=>?_) (fun hf=>?_)
     ·refine⟨_,rfl,hD'l,aZ (by rw[List.length_map];omega),hD',sm5.put hD',aD,?_,_,_,rfl⟩
      rw[bA hg,amts_snoc,if_pos (hiff.mp (of_decide_eq_true ht)),List.map_append];rfl
     ·refine⟨hD',sm5,hD'l,?_,_,_,rfl⟩
      rw[bA hg,amts_snoc,if_neg (fun e=>hf (decide_eq_true (hiff.mpr e))),List.append_nil]
    rintro D' r' σ' H5 ⟨hD',sm5,hD'l,rfl,_⟩
    rw[hgxl,List.take_length] at hD'l
    refine⟨false,D',_,rfl,bM.of hD'l,?_⟩
    rw[amts_sum]
    have c1:=sm5 _ _ (sm4 _ _ (sm3 _ _ hs2))
    have c2:=sm5 _ _ hDl
    have c3:=sm5 _ _ (sm4 _ _ hd3)
    have c4:=sm5 _ _ (sm4 _ _ (sm3 _ _ ht2))
    refine⟨_,rfl,sl,_,rfl,.inl ⟨bM.of c1,fun t1 ht1=>?_⟩⟩
    have m1:=aK.new (o:=HO.tup ((dR net.vs (aU net held coming poured doors)).map V.int)) ht1
    refine⟨_,rfl,D,_,rfl,.inl ⟨bM.of (m1 _ _ c2),fun t2 ht2=>?_⟩⟩
    have m2:=aK.new (o:=HO.tup ((eI net.vs.length (cT net.vs (aU net held coming poured doors))).map V.int)) ht2
    refine⟨_,rfl,dl,_,rfl,.inl ⟨bM.of (m2 _ _ (m1 _ _ c3)),fun t3 ht3=>?_⟩⟩
    have m3:=aK.new (o:=HO.tup ((cX net.vs doors (bQ 0 net.vs (aU net held coming poured doors))).map V.bl)) ht3
    refine⟨(show 3≤sizeLine by decide),fun t4 ht4=>?_⟩
    have m4:=aK.new (o:=HO.tup [.ref t1,.ref t2,.ref t3]) ht4
    refine⟨_,rfl,tl,_,rfl,.inl ⟨bM.of (m4 _ _ (m3 _ _ (m2 _ _ (m1 _ _ c4)))),fun t5 ht5=>?_⟩⟩
    have m5:=aK.new (o:=HO.tup ((bQ 0 net.vs (aU net held coming poured doors)).map fun (j:Nat)=>V.int (j:Int))) ht5
    refine⟨_,rfl,(show 3≤sizeLine by decide),fun t6 ht6=>?_⟩
    have m6:aK _ _:=aK.new (o:=HO.lst [.ref t4,.ref t5,.int (dF none (cT net.vs (aU net held coming poured doors)))]) ht6
    refine k t6 (.ref t4) (.ref t5) _ (((((((((sA3.trans sm4).trans sm5).trans m1).trans m2).trans m3).trans m4).trans m5)).trans m6) aD ?_ ?_
    ·exact Is.mono m6.ts _ _ (Is.mono m5.ts _ _ (st_of (bT.of aD) (m4.tup (m3.tup (m2.tup (bT.of aD)))) (m4.tup (m3.tup (bT.of aD))) (m4.tup (bT.of aD))))
    ·refine Is.mono m6.ts _ _ (Is.tupOf (bT.of aD) ?_)
     show L2.IsL K _ ((bQ 0 net.vs (aU net held coming poured doors)).map fun (i:Nat)=>L2.D.int (i:Int)) _
     have e1:((bQ 0 net.vs (aU net held coming poured doors)).map fun (i:Nat)=>L2.D.int (i:Int))=((bQ 0 net.vs (aU net held coming poured doors)).map fun (i:Nat)=>(i:Int)).map L2.D.int:=by rw[List.map_map];rfl
     have e2:((bQ 0 net.vs (aU net held coming poured doors)).map fun (i:Nat)=>V.int (i:Int))=((bQ 0 net.vs (aU net held coming poured doors)).map fun (i:Nat)=>(i:Int)).map V.int:=by rw[List.map_map];rfl
     rw[e1,e2]
     exact L2.IsL.of_ints _
end
end Tw
namespace Tw
open PySem L2
noncomputable def dW (l:List (Int×Nat)) (i:Nat):List Int:=(l.filter fun p=>decide (p.2=i)).map (·.1)
theorem forV_snoc (l:List (Int×Nat)) (p:Int×Nat) (i:Nat):dW (l++[p]) i=dW l i++(if p.2=i then [p.1] else []):=by
 unfold dW
 rw[List.filter_append,List.map_append]
 by_cases h:p.2=i
 ·simp [h]
 ·simp [h]
theorem forV_len (l:List (Int×Nat)) (i:Nat):(dW l i).length≤l.length:=by
 unfold dW;rw[List.length_map];exact List.length_filter_le _ _
theorem addTips_get:∀ (l:List (Int×Nat)) (ts:List (List Int)) (i:Nat) (x:List Int),ts[i]? = some x→(l.foldl addTip ts)[i]? = some (x++dW l i)
 | [],ts,i,x,h=>by simpa [dW] using h
 | p::l,ts,i,x,h=>by
  have hi:=(List.getElem?_eq_some_iff.mp h).1
  show (l.foldl addTip (addTip ts p))[i]? = _
  by_cases e:p.2=i
  ·have h2:(addTip ts p)[i]? = some (x++[p.1]):=by
    unfold addTip
    rw[e,List.getElem?_set_self hi,List.getD_eq_getElem?_getD,h];rfl
   rw[addTips_get l _ i _ h2]
   unfold dW
   rw[List.filter_cons,if_pos (by simpa using e)];simp
  ·have h2:(addTip ts p)[i]? = some x:=by
    unfold addTip
    rw[List.getElem?_set_ne e];exact h
   rw[addTips_get l _ i _ h2]
   unfold dW
   rw[List.filter_cons,if_neg (by simpa using e)]
structure KeptC (K:PySem.W.Frag) (H:Hp) (A:Addr→Prop) (S:RunS) (a:Addr) (st:V) (ha tl bl:Addr) (ts:List Addr) (bs:List V):Prop where
 tup:bT K H a [st,.ref ha,.int S.cur.tick,.ref tl,.int S.cur.came,.int S.cur.ground,.ref bl]
 hst:Is K H (stD S.cur.held S.cur.coming S.cur.doors) st
 hha:bT K H ha (S.cur.poured.map V.int)
 hT:H tl=some (.lst (ts.map V.ref))
 len:ts.length=S.tips.length
 ti:∀ (i:Nat) (t:Addr) (l:List Int),ts[i]? = some t→S.tips[i]? = some l→H t=some (.lst (l.map V.int))
 hB:H bl=some (.lst bs)
 lB:IsL K H (S.rows.map rowD) bs
 aT:A tl
 aB:A bl
 aI:∀ t∈ts,A t
noncomputable def Kept (K:PySem.W.Frag) (H:Hp) (A:Addr→Prop) (S:RunS) (v:V):Prop:=∃ a st ha tl bl ts bs,v=.ref a∧KeptC K H A S a st ha tl bl ts bs
section
variable {K:PySem.W.Frag}{H H':Hp}{A A':Addr→Prop}{S:RunS}{v:V}{a ha tl bl:Addr}{st:V}{ts:List Addr}{bs:List V}
theorem KeptC.keep (c:KeptC K H A S a st ha tl bl ts bs) (t:bL K H H') (k:∀ b o,A b→H b=some o→H' b=some o):KeptC K H' A S a st ha tl bl ts bs where
 tup:=t _ _ c.tup
 hst:=Is.mono t _ _ c.hst
 hha:=t _ _ c.hha
 hT:=k _ _ c.aT c.hT
 len:=c.len
 ti:=fun i t l h1 h2=>k _ _ (c.aI t (List.mem_of_getElem? h1)) (c.ti i t l h1 h2)
 hB:=k _ _ c.aB c.hB
 lB:=L2.IsL.mono t _ _ c.lB
 aT:=c.aT
 aB:=c.aB
 aI:=c.aI
theorem Kept.keep (c:Kept K H A S v) (t:bL K H H') (k:∀ b o,A b→H b=some o→H' b=some o):Kept K H' A S v:=by
 obtain⟨a,st,ha,tl,bl,ts,bs,rfl,c⟩:=c
 exact⟨a,st,ha,tl,bl,ts,bs,rfl,c.keep t k⟩
theorem Kept.same (c:Kept K H A S v) (s:aK H H'):Kept K H' A S v:=c.keep s.ts fun b o _ e=>s b o e
theorem Kept.imp (c:Kept K H A S v) (h:∀ b,A b→A' b):Kept K H A' S v:=by
 obtain⟨a,st,ha,tl,bl,ts,bs,rfl,c⟩:=c
 exact⟨a,st,ha,tl,bl,ts,bs,rfl,{ c with aT:=h _ c.aT,aB:=h _ c.aB,aI:=fun t ht=>h _ (c.aI t ht) }⟩
end
inductive Deed where
 | pour (v a:Int)
 | go (k:Nat)
noncomputable def deedD:Deed→L2.D
 | .pour v a=>.tup [.str "pour",.int v,.int a]
 | .go k=>.tup [.str "go",.int (k:Int)]
noncomputable def RunS.deed (S:RunS):Deed→RunS
 | .pour v a=>S.pour v a
 | .go k=>S.go k
section
variable {K:PySem.W.Frag}{H:Hp}
theorem pour_un {v a:Int}{x:V} (h:Is K H (deedD (.pour v a)) x):∃ d,x=.ref d∧bT K H d [.str "pour",.int v,.int a]:=by
 obtain⟨d,xs,rfl,q,l⟩:=(show Is K H (.tup [.str "pour",.int v,.int a]) x from h).un
 obtain⟨x1,r,rfl,h1,l⟩:=l.un
 obtain⟨x2,r,rfl,h2,l⟩:=l.un
 obtain⟨x3,r,rfl,h3,l⟩:=l.un
 have:=l.un0
 subst this
 rw[h1.us,h2.ui,h3.ui] at q
 exact⟨d,rfl,q⟩
theorem go_un {k:Nat}{x:V} (h:Is K H (deedD (.go k)) x):∃ d,x=.ref d∧bT K H d [.str "go",.int (k:Int)]:=by
 obtain⟨d,xs,rfl,q,l⟩:=(show Is K H (.tup [.str "go",.int (k:Int)]) x from h).un
 obtain⟨x1,r,rfl,h1,l⟩:=l.un
 obtain⟨x2,r,rfl,h2,l⟩:=l.un
 have:=l.un0
 subst this
 rw[h1.us,h2.ui] at q
 exact⟨d,rfl,q⟩
end
theorem momN_tick (net:Net) (m:Mom):∀ k,(d9 net m k).tick=m.tick+k
 | 0=>by simp [d9]
 | k+1=>by
  show (d9 net m k).tick+1=_
  rw[momN_tick net m k];omega
section
variable {P:Program}{w:World}{K:PySem.W.Frag}{mg:Str→Option Value}{base:Heap}{C c_TipError c_NoNet c_NoVessel c_TooLong c_TooMany c_TooMuch c_Nothing c_NoText c_NoRow:Addr}
noncomputable def spTipsR (K:PySem.W.Frag) (C cV:Addr):Sp:=fun vs H Q E=>∃ (r:Addr) (S:RunS) (fp:List Addr) (v:Int),vs=[.ref r,.int v]∧cL K C H r S fp∧
 ((0≤v∧v < S.net.vs.length∧∀ l p,S.tips[v.toNat]? = some l→H p=none→Q (.ref p) (upd H p (.lst (l.map V.int))))∨(¬ (0≤v∧v < S.net.vs.length)∧E (.ref cV) none H))
theorem sc_tips:FnScope ["self","vessel"] ["self","vessel"] (aL (aV (top 43) 6)):=⟨rfl,rfl,rfl,by decide +kernel,rfl,by decide +kernel,by decide +kernel⟩
theorem ok_tipsR {f f1:Addr}{fd fd1:FuncData} (F:Fun K "tips" "Run.tips" (aV (top 43) 6) f fd) (T:Txt mg) (tx:RunTx K C) (G_need_vessel:CalleeR P w K mg base "need_vessel" ["net","number"] 2 (spNeedR K c_NoVessel) f1 fd1) :
  FnOk P w K mg base (CXR P w) 3 f fd ["self","vessel"] (spTipsR K C c_NoVessel):=by
 refine F.okR sc_tips (fun vs H Q E h=>?_) (fun cdv A outer s H vs Q E hr h L=>?_)
 ·obtain⟨r,S,fp,v,rfl,_⟩:=h;rfl
 ·obtain⟨r,S,fp,v,rfl,⟨dx,np,R,M,T',ts,rs,ms,mv,c,rfl⟩,k⟩:=h
  have sc:=sc_tips
  refine⟨_,(aF (bZ (pe_call G_need_vessel.ok (hr.mono (by decide)) rfl G_need_vessel.mg G_need_vessel.kp G_need_vessel.bd .nil (pass_xe L) (aA (cZ (K:=K) rfl (pv 0) rfl) (aA (pv 1) aE))))
   (aO (aX (bG (call_lstK (K:=K) rfl) rfl T.b_list bt_list (aA (aR (aM (K:=K) rfl) (cZ (K:=K) rfl (pv 0) rfl) (pv 1) (fun _ _=>rfl)) aE))))),?_⟩
  refine⟨_,rfl,r,C,dx,_,_,rfl,c.ins,tx.cls,tx.net,lk_net,_,rfl,np,S.net,v,rfl,c.net,?_⟩
  rcases k with ⟨v0,v1,k⟩ | ⟨hn,k⟩
  rotate_left
  ·exact .inr ⟨hn,k⟩
  refine .inl ⟨v0,v1,?_⟩
  have hlt':v.toNat < S.tips.length:=by rw[c.ok.tl];omega
  have hl:S.tips[v.toNat]? = some S.tips[v.toNat]:=by simp [hlt']
  have hlt:v.toNat < ts.length:=by rw[c.tl];exact hlt'
  have htt:ts[v.toNat]? = some ts[v.toNat]:=by simp [hlt]
  have hti:=c.ti _ _ _ htt hl
  exact⟨_,rfl,r,C,dx,_,_,rfl,c.ins,tx.cls,tx.tips,lk_tips,_,rfl,.inl ⟨T',_,v,.ref ts[v.toNat],rfl,rfl,bM.of c.hT,atI_int v0 (by rw[List.getElem?_map,htt];rfl),ts[v.toNat],_,rfl,.inl (bM.of hti),fun p hp=>k _ p hl hp⟩⟩
end
end Tw
namespace Tw
open PySem L2
section
variable {P:Program}{w:World}{K:PySem.W.Frag}{mg:Str→Option Value}{base:Heap}{C c_TipError c_NoNet c_NoVessel c_TooLong c_TooMany c_TooMuch c_Nothing c_NoText c_NoRow:Addr}
noncomputable def spBookFirst (K:PySem.W.Frag):Sp:=fun vs H Q _=>∃ (x:V) (net:Net),vs=[x]∧Is K H (netD net) x∧NetOk net∧∀ u H',aK H H'→Kept K H' (fun b=>H b=none) (run0 net) u→Q u H'
theorem sc__law_book_first:FnScope ["net"] ["net"] (aL (top 59)):=⟨rfl,rfl,rfl,by decide +kernel,rfl,by decide +kernel,by decide +kernel⟩
theorem ok__law_book_first {f f1:Addr}{fd fd1:FuncData} (F:Fun K "_law_book_first" "_law_book_first" (top 59) f fd) (T:Txt mg) (G__law_first:Callee P w K mg base "_law_first" ["net"] 1 (spFirst K) f1 fd1) :
  FnOk P w K mg base CX0 2 f fd ["net"] (spBookFirst K):=by
 refine F.ok sc__law_book_first (fun vs H Q E h=>?_) (fun cdv A outer s H vs Q E hr h=>?_)
 ·obtain⟨x,net,rfl,_⟩:=h;rfl
 ·obtain⟨x,net,rfl,hx,nok,k⟩:=h
  have sc:=sc__law_book_first
  refine⟨_,(aO (aX (bV (aA (cQ G__law_first hr (aA (pv 0) aE)) (aA (b0 (op_repTK (K:=K) rfl) (bV (aA aG aE)) (aS (bK (K:=K) rfl) rfl T.b_len PySem.boot_len (aA (aR (aM (K:=K) rfl) (pv 0) aG (fun _ _=>rfl)) aE))) (aA aG (aA (pe_lc (fun _ _ h=>h) rfl (LcOk.mk (N':=["vessel"]) (fr:=[none]) rfl trivial rfl rfl rfl rfl rfl trivial) (dD (K:=K) rfl (aR (aM (K:=K) rfl) (pv 0) aG (fun _ _=>rfl))) (fun _ _ _=>(aJ (i:=0) (show (["vessel"]:List Str).Nodup by decide +kernel) rfl (Or.inl rfl) (Or.inr rfl))) (fun _ _ _=>cP) (fun _ _ _=>(bY aE))) (aA aG (aA aG (aA (bY aE) aE)))))))))),?_⟩
  have n1:=nok.lo
  have n2:=nok.hi
  refine⟨_,rfl,x,net,rfl,hx,nok,fun st H1 sm1 hst=>?_⟩
  obtain⟨a,b,c,xs,ys,rfl,q,q1,l1,q2,l2⟩:=net_un (Is.mono sm1.ts _ _ hx)
  have exl:xs.length=net.vs.length:=by rw[l1.length,List.length_map]
  refine⟨(show 1≤sizeLine by decide),fun o ho=>?_⟩
  have so:=aK.new (o:=HO.tup [.int 0]) ho
  refine⟨_,rfl,.inr (.inl ⟨a,_,0,_,rfl,rfl,so.tup q,rfl,b,xs,rfl,.inr (so.tup q1),o,_,[.int 0],rfl,rfl,bT.of aD,by omega,by omega,by simp,by decide,fun z H2 sm2 qz=>?_⟩)⟩
  have en:((xs.length:Nat):Int).toNat=net.vs.length:=by rw[exl];simp
  rw[en,rep0] at qz
  have s2:=so.trans sm2
  refine⟨_,rfl,.inr (.inl ⟨a,_,0,_,rfl,rfl,s2.tup q,rfl,b,rfl,⟨_,s2.tup q1⟩,lc_tup (K:=K) (a:=b) (xs:=xs) (fun D i rr σ' H'=>H2 D=none∧aK H2 H'∧H' D=some (.lst rr)∧(∃ ts:List Addr,rr=ts.map V.ref∧ts.length=i∧∀ t∈ts,H2 t=none∧t≠D∧H' t=some (.lst []))∧∃ u,σ'=[u])
   (fun D i rr σ' H' p=>p.2.1.tup (s2.tup q1)) (fun D hD=>⟨hD,aK.new hD,aD,⟨[],rfl,rfl,fun t ht=>(nomatch ht)⟩,none,rfl⟩) ?_ ?_⟩)⟩
  rotate_left
  ·rintro D i v rr σ' H8 hv ⟨hD,sm,hDl,⟨ts,rfl,hts,hall⟩,u,rfl⟩
   have hil:=(List.getElem?_eq_some_iff.mp hv).1
   refine cS ?_
   refine⟨Nat.zero_le _,fun t ht=>⟨aK.new ht _ _ hDl,aZ (by simp;omega),hD,(sm.trans (aK.new ht)).put hD,aD,⟨ts++[t],by rw[List.map_append];rfl,by simp [hts],fun t' ht'=>?_⟩,_,rfl⟩⟩
   have nDt:t≠D:=fun z=>by rw[z,hDl] at ht;cases ht
   rcases List.mem_append.1 ht' with z | z
   ·have h1:=hall t' z
    exact⟨h1.1,h1.2.1,by rw[aP h1.2.1];exact aK.new ht _ _ h1.2.2⟩
   ·have:t'=t:=by simpa using z
    subst this
    exact⟨sm.free ht,nDt,by rw[aP nDt];exact aD⟩
  ·rintro D rr σ' H3 ⟨hD,sm3,hDl,⟨ts,rfl,hts,hall⟩,_⟩
   refine⟨Nat.zero_le _,fun bl hbl=>⟨(show 7≤sizeLine by decide),fun p hp=>?_⟩⟩
   have s3:=(aK.new (o:=HO.lst []) hbl)
   have s4:=(aK.new (o:=HO.tup [st,.ref z,.int 0,.ref D,.int 0,.int 0,.ref bl]) hp)
   have s24:=(sm3.trans s3).trans s4
   have s1:=sm1.trans s2
   have s04:=s1.trans s24
   refine k _ _ s04 ⟨p,st,z,D,bl,ts,[],rfl,?_⟩
   exact {
    tup:=bT.of aD
    hst:=Is.mono (s2.trans s24).ts _ _ hst
    hha:=s24.tup qz
    hT:=s4 _ _ (s3 _ _ hDl)
    len:=by rw[hts,exl];simp [run0]
    ti:=fun i t l h1 h2=>by
     have hl:=List.mem_of_getElem? h2
     have:=List.eq_of_mem_replicate (show l∈List.replicate net.vs.length [] from hl)
     subst this
     exact s4 _ _ (s3 _ _ (hall t (List.mem_of_getElem? h1)).2.2)
    hB:=s4 _ _ aD
    lB:=.nil
    aT:=s1.free hD
    aB:=(s1.trans sm3).free hbl
    aI:=fun t ht=>s1.free (hall t ht).1 }
noncomputable def DeedOk (S:RunS):Deed→Prop
 | .pour v _=>0≤v∧v < S.net.vs.length
 | .go k=>k≤10000
noncomputable def spGone (K:PySem.W.Frag):Sp:=fun vs H Q _=>∃ (x kv dv:V) (S:RunS) (d:Deed) (A:Addr→Prop) (B:Nat),vs=[x,kv,dv]∧Is K H (netD S.net) x∧RunOk S∧Kept K H A S kv∧RunSz S B∧B≤1000000∧Is K H (deedD d) dv∧DeedOk S d∧
 ∀ u H',aK H H'→Kept K H' (fun b=>A b∨H b=none) (S.deed d) u→Q u H'
theorem sc__law_book_gone:FnScope ["net","kept","deed","state","hand","tick","tips","came","ground","book","pairs","k","tipped","lost"] ["net","kept","deed"] (aL (top 58)):=⟨rfl,rfl,rfl,by decide +kernel,rfl,by decide +kernel,by decide +kernel⟩
theorem set_cut {l:List V}{j:Nat} (x:V) (h:j < l.length):l.take j++[x]++l.drop (j+1)=l.set j x:=by
 rw[List.set_eq_take_append_cons_drop,if_pos h,List.append_assoc];rfl
theorem ok__law_book_gone {f f1 f2:Addr}{fd fd1 fd2:FuncData} (F:Fun K "_law_book_gone" "_law_book_gone" (top 58) f fd) (T:Txt mg)
  (G__law_filled:Callee P w K mg base "_law_filled" ["net","state","poured"] 1 (spFilledL K) f1 fd1) (G__law_tick:Callee P w K mg base "_law_tick" ["net","state","poured","fast"] 2 (spTickL K) f2 fd2) :
  FnOk P w K mg base CX0 3 f fd ["net","kept","deed"] (spGone K):=by
 refine F.ok sc__law_book_gone (fun vs H Q E h=>?_) (fun cdv A outer s H vs Q E hr h=>?_)
 ·obtain⟨x,kv,dv,S,d,Al,B,rfl,_⟩:=h;rfl
 ·obtain⟨x,kv,dv,S,d,Al,B,rfl,hx,sok,⟨a,st,ha,tl,bl,ts,bs,rfl,c⟩,sz,hB,hd,dok,k⟩:=h
  have sc:=sc__law_book_gone
  refine⟨_,(aF (cB (pv 1) (bF (K:=K) (n:=7) rfl rfl (aH (aJ (i:=3) sc.nd rfl (Or.inl rfl)) (aH (aJ (i:=4) sc.nd rfl (Or.inl rfl)) (aH (aJ (i:=5) sc.nd rfl (Or.inr rfl)) (aH (aJ (i:=6) sc.nd rfl (Or.inr rfl)) (aH (aJ (i:=7) sc.nd rfl (Or.inl rfl)) (aH (aJ (i:=8) sc.nd rfl (Or.inl rfl)) (aH (aJ (i:=9) sc.nd rfl (Or.inl rfl)) bD)))))))))
   (aF (cF (bU op_eq (aR (aM (K:=K) rfl) (pv 2) aG (fun _ _=>rfl)) dM (bW _)) (aF (bE (i:=4) sc.nd rfl (Or.inl rfl) (b0 (op_catTZK (K:=K) rfl) (b0 (op_catTZK (K:=K) rfl) (pe_slice (sl_tupK (K:=K) rfl) (pv 4) po_none (po_some (aR (aM (K:=K) rfl) (pv 2) aG (fun _ _=>rfl)))) (bV (aA (b0 cO (aR (aM (K:=K) rfl) (pv 4) (aR (aM (K:=K) rfl) (pv 2) aG (fun _ _=>rfl)) (fun _ _=>rfl)) (aR (aM (K:=K) rfl) (pv 2) aG (fun _ _=>rfl))) aE))) (pe_slice (sl_tupK (K:=K) rfl) (pv 4) (po_some (b0 cO (aR (aM (K:=K) rfl) (pv 2) aG (fun _ _=>rfl)) aG)) po_none)))
   (aO (aX (bV (aA (pv 3) (aA (pv 4) (aA (pv 5) (aA (pv 6) (aA (pv 7) (aA (pv 8) (aA (b0 op_cat (pv 9) (bY (aA (pv 2) aE))) aE))))))))))) bH)
   (aF (bE (i:=10) sc.nd rfl (Or.inr rfl) (bY aE))
   (aF (dB PassesOwn.never rfl (cG rfl T.b_range (aA (aR (aM (K:=K) rfl) (pv 2) aG (fun _ _=>rfl)) aE)) (aJ (i:=11) sc.nd rfl (Or.inl rfl)) (aF (bE (i:=7) sc.nd rfl (Or.inl rfl) (b0 dN (b0 dN (b0 cO (pv 7) (aS (dX (K:=K) rfl rfl) rfl T.b_sum PyProof.Rows.boot_sum (aA (cQ G__law_filled hr (aA (pv 0) (aA (pv 3) (aA (pv 4) aE)))) aE))) (aS (dX (K:=K) rfl rfl) rfl T.b_sum PyProof.Rows.boot_sum (aA (aR (aM (K:=K) rfl) (pv 3) aG (fun _ _=>rfl)) aE))) (aS (dX (K:=K) rfl rfl) rfl T.b_sum PyProof.Rows.boot_sum (aA (aR (aM (K:=K) rfl) (pv 3) aG (fun _ _=>rfl)) aE))))
   (aF (cB (cQ G__law_tick hr (aA (pv 0) (aA (pv 3) (aA (pv 4) (aA eO aE))))) (pg_lstK (K:=K) (n:=3) rfl rfl (aH (aJ (i:=3) sc.nd rfl (Or.inl rfl)) (aH (aJ (i:=12) sc.nd rfl (Or.inl rfl)) (aH (aJ (i:=13) sc.nd rfl (Or.inl rfl)) bD)))))
   (aF (bE (i:=4) sc.nd rfl (Or.inl rfl) (b0 (op_repTK (K:=K) rfl) (bV (aA aG aE)) (aS (bK (K:=K) rfl) rfl T.b_len PySem.boot_len (aA (pv 4) aE))))
   (aF (bE (i:=10) sc.nd rfl (Or.inr rfl) (b0 op_cat (pv 10) (pe_lc (fun _ _ h=>h) rfl (LcOk.mk (N':=["number","tick"]) (fr:=[none,some 5]) rfl ⟨rfl,trivial⟩ rfl rfl rfl rfl rfl ⟨⟨_,rfl,rfl,rfl,rfl⟩,trivial⟩) (dD (K:=K) rfl (pv 12)) (fun _ _ _=>(aJ (i:=0) (show (["number","tick"]:List Str).Nodup by decide +kernel) rfl (Or.inl rfl) (Or.inr rfl))) (fun _ _ _=>cP) (fun _ _ _=>(bV (aA (pv 1) (aA (pv 0) aE)))))))
   (aF (bE (i:=8) sc.nd rfl (Or.inl rfl) (b0 cO (pv 8) (pv 13)))
   (aO (bE (i:=5) sc.nd rfl (Or.inr rfl) (b0 cO (pv 5) aG)))))))))
   (aF (bE (i:=6) sc.nd rfl (Or.inr rfl) (pe_lcD (fun _ _ h=>h) rfl (LcOk2.mk (N':=["k","tips","pairs"]) (fr:=[none,some 6,some 10]) rfl ⟨rfl,rfl,trivial⟩ rfl rfl rfl rfl rfl ⟨⟨_,rfl,rfl,rfl,rfl⟩,⟨_,rfl,rfl,rfl,rfl⟩,trivial⟩) (cG rfl T.b_range (aA (aS (bK (K:=K) rfl) rfl T.b_len PySem.boot_len (aA (pv 6) aE)) aE)) (fun _ _ _=>(aJ (i:=0) (show (["k","tips","pairs"]:List Str).Nodup by decide +kernel) rfl (Or.inr rfl) (Or.inl rfl))) (fun _ _ _=>cP) (fun _ _ _=>(b0 op_cat (aR (aM (K:=K) rfl) (pv 1) (pv 0) (fun _ _=>rfl)) (pe_lc (fun _ _ h=>h) rfl (LcOk.mk (N':=["pair","k"]) (fr:=[none,some 0]) rfl ⟨rfl,trivial⟩ rfl rfl rfl rfl rfl ⟨⟨_,rfl,rfl,rfl,rfl⟩,trivial⟩) (pi_listK (K:=K) rfl (pv 2)) (fun _ _ _=>(aJ (i:=0) (show (["pair","k"]:List Str).Nodup by decide +kernel) rfl (Or.inl rfl) (Or.inr rfl))) (fun _ _ _=>pif_one (bU op_eq (aR (aM (K:=K) rfl) (pv 0) aG (fun _ _=>rfl)) (pv 1) (bW _))) (fun _ _ _=>(aR (aM (K:=K) rfl) (pv 0) aG (fun _ _=>rfl))))))))
   (aO (aX (bV (aA (pv 3) (aA (pv 4) (aA (pv 5) (aA (pv 6) (aA (pv 7) (aA (pv 8) (aA (b0 op_cat (pv 9) (bY (aA (bV (aA dM (aA (aR (aM (K:=K) rfl) (pv 2) aG (fun _ _=>rfl)) (aA (bG (cH (K:=K) rfl) rfl T.b_tuple cJ (aA (pv 10) aE)) aE)))) aE))) aE))))))))))))))),?_⟩
  have nok:=sok.nok
  have n1:=nok.lo
  have n2:=nok.hi
  have pl:=sok.cur.pl
  have hbsl:bs.length≤B:=by rw[c.lB.length,List.length_map];exact sz.rows
  refine⟨_,rfl,a,_,rfl,c.tup,rfl,_,_,rfl,_,_,rfl,_,_,rfl,_,_,rfl,_,_,rfl,_,_,rfl,_,_,rfl,rfl,?_⟩
  cases d with
  | pour v am=>
   obtain⟨v0,v1⟩:=(show 0≤v∧v < S.net.vs.length from dok)
   obtain⟨j,rfl⟩:=Int.eq_ofNat_of_zero_le v0
   obtain⟨d,rfl,qd⟩:=pour_un hd
   refine⟨_,rfl,.inr (.inl ⟨d,_,0,_,rfl,rfl,qd,rfl,rfl,_,rfl,eX (fun _=>?_) fun z=>absurd (decide_eq_true rfl) z⟩)⟩
   generalize hps:S.cur.poured.map V.int=ps at *
   have hpl:ps.length=S.net.vs.length:=by rw[← hps,List.length_map];exact pl
   have hjl:j < ps.length:=by omega
   have hq:=c.hha
   rw[hps] at hq
   have hjp:j < S.cur.poured.length:=by omega
   have hg:S.cur.poured[j]? = some (S.cur.poured.getD j 0):=by rw[List.getD_eq_getElem?_getD,List.getElem?_eq_getElem hjp];rfl
   have hgp:ps[j]? = some (.int (S.cur.poured.getD j 0)):=by rw[← hps,List.getElem?_map,hg];rfl
   have hc1:cutV ps none (some (j:Int))=ps.take j:=by
    unfold cutV
    rw[HT.sIx_none,HT.sIx_nat,List.drop_zero,Nat.sub_zero,Nat.min_eq_left (by omega)]
   have hc2:cutV ps (some ((j:Int)+1)) none=ps.drop (j+1):=by
    unfold cutV
    rw[HT.sIx_none,show ((j:Int)+1)=((j+1:Nat):Int) by omega,HT.sIx_nat,Nat.min_eq_left (by omega)]
    exact List.take_of_length_le (by rw[List.length_drop];omega)
   refine⟨_,rfl,_,rfl,.inr (.inl ⟨d,_,1,_,rfl,rfl,qd,rfl,_,rfl,ha,ps,rfl,hq,?_,fun p1 hp1=>?_⟩)⟩
   ·rintro⟨_,z⟩
    rw[HT.sIx_nat,Nat.min_eq_left (by omega)] at z;omega
   rw[hc1]
   have s1:=aK.new (o:=HO.tup (ps.take j)) hp1
   have t1:bT K (upd H p1 (.tup (ps.take j))) p1 (ps.take j):=bT.of aD
   generalize upd H p1 (.tup (ps.take j))=H1 at s1 t1
   refine⟨_,rfl,_,rfl,.inr (.inl ⟨d,_,1,_,rfl,rfl,s1.tup qd,rfl,.inr (.inl ⟨ha,ps,(j:Int),_,rfl,rfl,s1.tup hq,d5 hgp,_,rfl,.inr (.inl ⟨d,_,2,_,rfl,rfl,s1.tup qd,rfl,_,_,rfl,rfl,(show 1≤sizeLine by decide),fun p2 hp2=>?_⟩)⟩)⟩)⟩
   have s2:=aK.new (o:=HO.tup [.int (S.cur.poured.getD j 0+am)]) hp2
   have t2:bT K (upd H1 p2 (.tup [.int (S.cur.poured.getD j 0+am)])) p2 [.int (S.cur.poured.getD j 0+am)]:=bT.of aD
   generalize upd H1 p2 (.tup [.int (S.cur.poured.getD j 0+am)])=H2 at s2 t2
   refine⟨p1,p2,_,_,rfl,rfl,s2.tup t1,t2,Nat.le_of_lt (aZ (by rw[List.length_take,List.length_singleton];omega)),fun p3 H3 s3 t3=>?_⟩
   have s02:=s1.trans s2
   have s03:=s02.trans s3
   refine⟨_,rfl,_,rfl,.inr (.inl ⟨d,_,1,_,rfl,rfl,s03.tup qd,rfl,_,_,rfl,rfl,_,rfl,ha,ps,rfl,s03.tup hq,?_,fun p4 hp4=>?_⟩)⟩
   ·rintro⟨z,_⟩
    rw[show ((j:Int)+1)=((j+1:Nat):Int) by omega,HT.sIx_nat] at z;omega
   rw[hc2]
   have s4:=aK.new (o:=HO.tup (ps.drop (j+1))) hp4
   have t4:bT K (upd H3 p4 (.tup (ps.drop (j+1)))) p4 (ps.drop (j+1)):=bT.of aD
   generalize upd H3 p4 (.tup (ps.drop (j+1)))=H4 at s4 t4
   refine⟨p3,p4,_,_,rfl,rfl,s4.tup t3,t4,Nat.le_of_lt (aZ (by rw[List.length_append,List.length_take,List.length_drop,List.length_singleton];omega)),fun p5 H5 s5 t5=>?_⟩
   rw[set_cut _ hjl] at t5
   have s05:=(s03.trans s4).trans s5
   have hB5:=s05 _ _ c.hB
   refine⟨_,rfl,_,rfl,_,rfl,_,rfl,_,rfl,_,rfl,_,rfl,_,rfl,(show 1≤sizeLine by decide),fun e he=>?_⟩
   have s6:=aK.new (o:=HO.lst [.ref d]) he
   refine⟨bl,e,bs,_,rfl,rfl,s6 _ _ hB5,aD,Nat.le_of_lt (eA (by rw[List.length_singleton];omega)),fun nb hnb=>⟨(show 7≤sizeLine by decide),fun p hp=>?_⟩⟩
   have s7:=aK.new (o:=HO.lst (bs++[.ref d])) hnb
   have s8:=aK.new (o:=HO.tup [st,.ref p5,.int S.cur.tick,.ref tl,.int S.cur.came,.int S.cur.ground,.ref nb]) hp
   have s58:=(s6.trans s7).trans s8
   have s08:=s05.trans s58
   refine k _ _ s08 ⟨p,st,p5,tl,nb,ts,bs++[.ref d],rfl,?_⟩
   exact {
    tup:=bT.of aD
    hst:=Is.mono s08.ts _ _ c.hst
    hha:=by
     have e:((S.deed (.pour (j:Int) am)).cur.poured.map V.int)=ps.set j (.int (S.cur.poured.getD j 0+am)):=by
      show ((S.cur.poured.set (j:Int).toNat (S.cur.poured.getD (j:Int).toNat 0+am)).map V.int)=_
      rw[Int.toNat_natCast,List.map_set,hps]
     rw[e]
     exact s58.tup t5
    hT:=s08 _ _ c.hT
    len:=c.len
    ti:=fun i t l h1 h2=>s08 _ _ (c.ti i t l h1 h2)
    hB:=s8 _ _ aD
    lB:=by
     show IsL K _ ((S.rows++[Row.pour (j:Int) am]).map rowD) _
     rw[List.map_append]
     exact L2.IsL.snoc (Is.mono s08.ts _ _ hd) (L2.IsL.mono s08.ts _ _ c.lB)
    aT:=.inl c.aT
    aB:=.inr ((s05.trans s6).free hnb)
    aI:=fun t ht=>.inl (c.aI t ht) }
  | go kk=>
   have hkk:kk≤10000:=dok
   obtain⟨d,rfl,qd⟩:=go_un hd
   refine⟨_,rfl,.inr (.inl ⟨d,_,0,_,rfl,rfl,qd,rfl,rfl,_,rfl,eX (fun z=>absurd (of_decide_eq_true z) (by decide)) fun _=>?_⟩)⟩
   refine⟨Nat.zero_le _,fun pl0 hpl0=>?_⟩
   have s0:=aK.new (o:=HO.lst []) hpl0
   have g0:upd H pl0 (.lst []) pl0=some (.lst []):=aD
   generalize upd H pl0 (.lst [])=H0 at s0 g0
   refine⟨_,rfl,.inr (.inl ⟨d,_,1,_,rfl,rfl,s0.tup qd,rfl,_,rfl,by omega,by omega,?_⟩)⟩
   rw[Int.toNat_natCast]
   refine dO (lo:=0) (n:=kk) (fun i σ' H'=>aK H H'∧∃ (st':V) (ha' pp:Addr) (pxs:List V),Is K H' (stD (d9 S.net S.cur i).held (d9 S.net S.cur i).coming (d9 S.net S.cur i).doors) st'∧bT K H' ha' ((d9 S.net S.cur i).poured.map V.int)∧
    H' pp=some (.lst pxs)∧IsL K H' ((cK S.net S.cur i).map tipD) pxs∧∃ v11 v12 v13,σ'=[some x,some (.ref a),some (.ref d),some st',some (.ref ha'),some (.int (d9 S.net S.cur i).tick),some (.ref tl),some (.int (d9 S.net S.cur i).came),some (.int (d9 S.net S.cur i).ground),some (.ref bl),some (.ref pp),v11,v12,v13]) ?_ ?_ ?_
   ·exact⟨s0,st,ha,pl0,[],Is.mono s0.ts _ _ c.hst,s0.tup c.hha,g0,.nil,_,_,_,rfl⟩
   ·rintro i σ' H1 hi ⟨s1,st',ha',pp,pxs,hst',hha',hpp,lpp,v11,v12,v13,rfl⟩
    generalize hm:d9 S.net S.cur i=m at *
    have mok:MomOk S.net m:=by rw[← hm];exact momN_ok sok.cur i
    have e1:d9 S.net S.cur (i+1)=m.step S.net:=by rw[← hm];rfl
    have e2:cK S.net S.cur (i+1)=cK S.net S.cur i++tipsAt S.net m:=by rw[← hm];rfl
    have hx1:=Is.mono s1.ts _ _ hx
    obtain⟨ay,a1,a2,a3,rfl,qy,p1,p2,p3⟩:=st_un hst'
    refine⟨_,rfl,_,rfl,_,rfl,_,rfl,x,.ref ay,ha',S.net,_,_,_,_,rfl,hx1,hst',.inl hha',nok,mok.st,mok.pl,fun hl H2 s2 hl0 hhl=>?_⟩
    refine⟨false,hl,_,rfl,bM.of hhl,_,_,rfl,rfl,_,rfl,.inr (.inl ⟨ay,_,0,_,rfl,rfl,s2.tup qy,rfl,true,a1,_,rfl,s2.tup p1,_,_,rfl,rfl,_,rfl,.inr (.inl ⟨ay,_,1,_,rfl,rfl,s2.tup qy,rfl,true,a2,_,rfl,s2.tup p2,_,_,rfl,rfl,?_⟩)⟩)⟩
    have ecame:m.came+(aU S.net m.held m.coming m.poured m.doors).sum - m.held.sum - m.coming.sum=(m.step S.net).came:=by
     rw[has_sum nok mok]
     show _=m.came+(m.poured.sum+dH S.net.sps m.doors)
     omega
    dsimp only
    rw[ecame]
    refine⟨_,rfl,_,rfl,_,rfl,x,.ref ay,ha',S.net,_,_,_,_,rfl,Is.mono s2.ts _ _ hx1,Is.mono s2.ts _ _ hst',.inl (s2.tup hha'),nok,mok.st,mok.pl,fun l q1 q2 H3 s3 hl3 i1 i2=>?_⟩
    refine⟨l,_,rfl,bM.of hl3,rfl,_,_,rfl,_,_,rfl,_,_,rfl,rfl,?_⟩
    have s13:=s2.trans s3
    refine⟨(show 1≤sizeLine by decide),fun o ho=>?_⟩
    have so:=aK.new (o:=HO.tup [.int 0]) ho
    have hpl:(m.poured.map V.int).length=S.net.vs.length:=by rw[List.length_map];exact mok.pl
    refine⟨_,rfl,ha',_,rfl,.inr (so.tup (s13.tup hha')),o,_,[.int 0],rfl,rfl,bT.of aD,by omega,by omega,by simp,by decide,fun z H4 s4 qz=>?_⟩
    have en:(((m.poured.map V.int).length:Nat):Int).toNat=S.net.vs.length:=by rw[hpl];simp
    rw[en,rep0] at qz
    have s34:=so.trans s4
    have s14:=s13.trans s34
    obtain⟨ta,txs,rfl,qt,lt⟩:=(Is.mono s34.ts _ _ i2).un
    have hlt:txs.length=(m.tk S.net).tip.length:=by rw[lt.length,List.length_map];rfl
    have htl:=tk_len S.net m
    refine⟨_,rfl,_,rfl,ta,rfl,⟨_,qt⟩,lc_tup (K:=K) (a:=ta) (xs:=txs) (fun D n rr σ' H'=>H4 D=none∧aK H4 H'∧H' D=some (.lst rr)∧IsL K H' (((tipsAt S.net m).take n).map tipD) rr∧∃ u,σ'=[u,some (.int m.tick)])
     (fun D n rr σ' H' p=>p.2.1.tup qt) (fun D hD=>⟨hD,aK.new hD,aD,.nil,none,rfl⟩) ?_ ?_⟩
    rotate_left
    ·rintro D n y rr σ' H5 hy ⟨hD,s5,hDl,lr,u,rfl⟩
     have hnl:=(List.getElem?_eq_some_iff.mp hy).1
     obtain⟨dd,hdd,iy⟩:=L2.IsL.get' lt hy
     rw[List.getElem?_map] at hdd
     obtain⟨num,hnum,rfl⟩:=Option.map_eq_some_iff.mp hdd
     have:=iy.ui
     subst this
     have hrl:rr.length≤12:=by rw[lr.length,List.length_map,List.length_take];omega
     refine cS ?_
     refine⟨_,rfl,_,rfl,(show 2≤sizeLine by decide),fun e he=>⟨aK.new he _ _ hDl,aZ (by omega),hD,(s5.trans (aK.new he)).put hD,aD,?_,_,rfl⟩⟩
     have ht:(tipsAt S.net m)[n]? = some (m.tick,num):=by unfold tipsAt;rw[List.getElem?_map,show (m.tk S.net).tip[n]? = some num from hnum];rfl
     rw[bA ht,List.map_append]
     have mu:Mut (upd H5 e (.tup [.int m.tick,.int (num:Int)]) D):=by rw[aK.new he _ _ hDl];exact trivial
     have ts6:bL K (upd H5 e (.tup [.int m.tick,.int (num:Int)])) (upd (upd H5 e (.tup [.int m.tick,.int (num:Int)])) D (.lst (rr++[.ref e]))):=cY.ts cY.upd mu
     exact L2.IsL.snoc (Is.tupOf (ds:=[.int m.tick,.int (num:Int)]) (ts6 _ _ (bT.of aD)) (.cons (Is.i _) (.cons (Is.i _) .nil))) (L2.IsL.mono ((aK.new he).ts.trans ts6) _ _ lr)
    ·rintro D rr σ' H5 ⟨hD,s5,hDl,lr,_⟩
     have hta:txs.length=(tipsAt S.net m).length:=by unfold tipsAt;rw[List.length_map];exact hlt
     rw[hta,List.take_length] at lr
     have hpx:pxs.length≤12 * i:=by rw[lpp.length,List.length_map];exact tipN_len nok i
     have hrl:rr.length≤12:=by rw[lr.length,List.length_map];unfold tipsAt;rw[List.length_map];omega
     have s15:=s14.trans s5
     refine⟨pp,D,pxs,rr,rfl,rfl,s15 _ _ hpp,hDl,Nat.le_of_lt (eA (by omega)),fun np hnp=>?_⟩
     have s6:=aK.new (o:=HO.lst (pxs++rr)) hnp
     have s56:=s5.trans s6
     have s16:=s15.trans s6
     refine⟨_,rfl,_,rfl,_,_,rfl,rfl,_,rfl,_,_,rfl,rfl,?_⟩
     rw[e1,e2]
     refine⟨s1.trans s16,q1,z,np,pxs++rr,Is.mono (s34.trans s56).ts _ _ i1,s56.tup qz,aD,?_,_,_,_,rfl⟩
     rw[List.map_append]
     exact IsL.app (L2.IsL.mono s16.ts _ _ lpp) (L2.IsL.mono s6.ts _ _ lr)
   ·rintro σ' H1 ⟨s1,st',ha',pp,pxs,hst',hha',hpp,lpp,v11,v12,v13,rfl⟩
    generalize hm:d9 S.net S.cur kk=m at *
    have hpx:pxs.length≤12 * kk:=by rw[lpp.length,List.length_map];exact tipN_len nok kk
    have hT1:=s1 _ _ c.hT
    have hts:ts.length=S.net.vs.length:=by rw[c.len];exact sok.tl
    refine⟨_,rfl,tl,_,rfl,.inl (bM.of hT1),_,rfl,by omega,by rw[List.length_map];omega,?_⟩
    have en:(((ts.map V.ref).length:Nat):Int).toNat=S.net.vs.length:=by rw[List.length_map,hts];simp
    rw[en]
    refine lc_range (n:=S.net.vs.length) (fun D n rr σ' H'=>H1 D=none∧aK H1 H'∧H' D=some (.lst rr)∧(∃ ns:List Addr,rr=ns.map V.ref∧ns.length=n∧(∀ t∈ns,H1 t=none∧t≠D)∧∀ i t l,ns[i]? = some t→S.tips[i]? = some l→H' t=some (.lst ((l++dW (cK S.net S.cur kk) i).map V.int)))∧
     ∃ u,σ'=[u,some (.ref tl),some (.ref pp)]) (fun D hD=>⟨hD,aK.new hD,aD,⟨[],rfl,rfl,fun t ht=>(nomatch ht),fun i t l h=>by simp at h⟩,none,rfl⟩) ?_ ?_
    rotate_left
    ·rintro D n rr σ' H2 hn ⟨hD,s2,hDl,⟨ns,rfl,hns,hfr,hti⟩,u,rfl⟩
     refine cS ?_
     have hnt:ts[n]? = some (ts[n]'(by omega)):=by simp
     have hnl:S.tips[n]? = some (S.tips[n]'(by rw[sok.tl];exact hn)):=by simp
     generalize ts[n]'(by omega)=tn at hnt
     generalize S.tips[n]'(by rw[sok.tl];exact hn)=ln at hnl
     have htn:=s1 _ _ (c.ti n tn ln hnt hnl)
     have hln:ln.length≤B:=sz.tips ln (List.mem_of_getElem? hnl)
     refine⟨_,rfl,_,rfl,.inl ⟨tl,_,(n:Int),_,rfl,rfl,bM.of (s2 _ _ hT1),d5 (by rw[List.getElem?_map,hnt];rfl),?_⟩⟩
     refine⟨_,rfl,pp,rfl,⟨_,bM.of (s2 _ _ hpp)⟩,lc_list (K:=K) (a:=pp) (xs:=pxs) (fun D2 i2 r2 σ' H'=>H2 D2=none∧aK H2 H'∧H' D2=some (.lst r2)∧r2=(dW ((cK S.net S.cur kk).take i2) n).map V.int∧∃ u,σ'=[u,some (.int (n:Int))])
      (fun D2 i2 r2 σ' H' p=>bM.of (p.2.1 _ _ (s2 _ _ hpp))) (fun D2 hD2=>⟨hD2,aK.new hD2,aD,rfl,none,rfl⟩) ?_ ?_⟩
     rotate_left
     ·rintro D2 i2 y r2 σ' H3 hy ⟨hD2,s3,hD2l,rfl,u,rfl⟩
      obtain⟨dd,hdd,iy⟩:=L2.IsL.get' lpp hy
      rw[List.getElem?_map] at hdd
      obtain⟨pr,hpr,rfl⟩:=Option.map_eq_some_iff.mp hdd
      obtain⟨ya,yxs,rfl,qy,ly⟩:=(show Is K H1 (.tup [.int pr.1,.int (pr.2:Int)]) y from iy).un
      obtain⟨y1,r,rfl,h1,ly⟩:=ly.un
      obtain⟨y2,r,rfl,h2,ly⟩:=ly.un
      have:=ly.un0
      subst this
      rw[h1.ui,h2.ui] at qy
      have s13:=s2.trans s3
      have hil:=(List.getElem?_eq_some_iff.mp hy).1
      have hfl:=forV_len ((cK S.net S.cur kk).take i2) n
      rw[List.length_take] at hfl
      refine⟨_,rfl,.inr (.inl ⟨ya,_,1,_,rfl,rfl,s13.tup qy,rfl,_,rfl,rfl,_,rfl,?_⟩)⟩
      have snoc:=forV_snoc ((cK S.net S.cur kk).take i2) pr n
      rw[← bA hpr] at snoc
      by_cases e:pr.2=n
      ·rw[if_pos e] at snoc
       have:decide (V.int (pr.2:Int)=V.int (n:Int))=true:=by rw[e];simp
       refine (show (if decide (V.int (pr.2:Int)=V.int (n:Int))=true then _ else _) from ?_)
       rw[if_pos this]
       refine⟨_,rfl,.inr (.inl ⟨ya,_,0,_,rfl,rfl,s13.tup qy,rfl,hD2l,eA (by rw[List.length_map];omega),hD2,s3.put hD2,aD,?_,_,rfl⟩)⟩
       rw[snoc,List.map_append];rfl
      ·rw[if_neg e,List.append_nil] at snoc
       have:¬ decide (V.int (pr.2:Int)=V.int (n:Int))=true:=by
        intro z
        have:=of_decide_eq_true z
        injection this with this
        omega
       refine (show (if decide (V.int (pr.2:Int)=V.int (n:Int))=true then _ else _) from ?_)
       rw[if_neg this]
       exact⟨hD2,s3,hD2l,by rw[snoc],_,rfl⟩
     ·rintro D2 r2 σ' H3 ⟨hD2,s3,hD2l,rfl,_⟩
      have hpxl:pxs.length=(cK S.net S.cur kk).length:=by rw[lpp.length,List.length_map]
      rw[hpxl,List.take_length] at hD2l
      have hfl:=forV_len (cK S.net S.cur kk) n
      refine⟨tn,D2,_,_,rfl,rfl,s3 _ _ (s2 _ _ htn),hD2l,Nat.le_of_lt (eA (by rw[List.length_map,List.length_map];omega)),fun nt hnt'=>?_⟩
      have s4:=aK.new (o:=HO.lst (ln.map V.int++(dW (cK S.net S.cur kk) n).map V.int)) hnt'
      have hDl4:=s4 _ _ (s3 _ _ hDl)
      have ntD:nt≠D:=fun z=>by rw[z,s3 _ _ hDl] at hnt';cases hnt'
      have s24:=s3.trans s4
      refine⟨hDl4,aZ (by rw[List.length_map];omega),hD,(s2.trans s24).put hD,aD,⟨ns++[nt],by rw[List.map_append];rfl,by simp [hns],fun t ht=>?_,fun i t l h1 h2=>?_⟩,_,rfl⟩
      ·rcases List.mem_append.1 ht with z | z
       ·exact hfr t z
       ·have:t=nt:=by simpa using z
        subst this
        exact⟨(s2.trans s3).free hnt',ntD⟩
      ·have hil:=(List.getElem?_eq_some_iff.mp h1).1
       rw[List.length_append,List.length_singleton] at hil
       by_cases e:i < n
       ·rw[List.getElem?_append_left (by omega)] at h1
        rw[aP (hfr t (List.mem_of_getElem? h1)).2]
        exact s24 _ _ (hti i t l h1 h2)
       ·have:i=n:=by omega
        subst this
        rw[List.getElem?_append_right (by omega)] at h1
        rw[hns,Nat.sub_self] at h1
        have:nt=t:=by simpa using h1
        subst this
        rw[hnl] at h2
        cases h2
        rw[aP ntD,List.map_append]
        exact aD
    ·rintro D rr σ' H2 ⟨hD,s2,hDl,⟨ns,rfl,hns,hfr,hti⟩,_⟩
     have s12:=s1.trans s2
     refine⟨_,rfl,_,rfl,_,rfl,_,rfl,_,rfl,_,rfl,_,rfl,_,rfl,.inr (.inl ⟨d,_,1,_,rfl,rfl,s12.tup qd,rfl,_,rfl,pp,_,rfl,.inl ⟨bM.of (s2 _ _ hpp),fun tp htp=>⟨(show 3≤sizeLine by decide),fun rw' hrw=>⟨(show 1≤sizeLine by decide),fun e he=>?_⟩⟩⟩⟩)⟩
     have s3:=aK.new (o:=HO.tup pxs) htp
     have s4:=aK.new (o:=HO.tup [.str "go",.int (kk:Int),.ref tp]) hrw
     have s5:=aK.new (o:=HO.lst [.ref rw']) he
     have s15:=((s12.trans s3).trans s4).trans s5
     refine⟨bl,e,bs,_,rfl,rfl,s15 _ _ c.hB,aD,Nat.le_of_lt (eA (by rw[List.length_singleton];omega)),fun nb hnb=>⟨(show 7≤sizeLine by decide),fun p hp=>?_⟩⟩
     have s6:=aK.new (o:=HO.lst (bs++[.ref rw'])) hnb
     have s7:=aK.new (o:=HO.tup [st',.ref ha',.int m.tick,.ref D,.int m.came,.int m.ground,.ref nb]) hp
     have s57:=(s5.trans s6).trans s7
     have s27:=((s2.trans s3).trans s4).trans s57
     have s07:=s1.trans s27
     refine k _ _ s07 ⟨p,st',ha',D,nb,ns,bs++[.ref rw'],rfl,?_⟩
     have ecur:(S.deed (.go kk)).cur=m:=hm
     exact {
      tup:=by rw[ecur];exact bT.of aD
      hst:=by rw[ecur];exact Is.mono s27.ts _ _ hst'
      hha:=by rw[ecur];exact s27.tup hha'
      hT:=s7 _ _ (s6 _ _ (s5 _ _ (s4 _ _ (s3 _ _ hDl))))
      len:=by
       show ns.length=(List.foldl addTip S.tips (cK S.net S.cur kk)).length
       rw[addTips_len,hns];exact sok.tl.symm
      ti:=fun i t l h1 h2=>by
       have hil:i < S.tips.length:=by rw[sok.tl,← hns];exact (List.getElem?_eq_some_iff.mp h1).1
       have hl:S.tips[i]? = some S.tips[i]:=by simp [hil]
       have h3:=addTips_get (cK S.net S.cur kk) S.tips i _ hl
       have h4:some l=some (S.tips[i]++dW (cK S.net S.cur kk) i):=h2.symm.trans h3
       cases h4
       exact s7 _ _ (s6 _ _ (s5 _ _ (s4 _ _ (s3 _ _ (hti i t _ h1 hl)))))
      hB:=s7 _ _ aD
      lB:=by
       show IsL K _ ((S.rows++[Row.go (kk:Int) (cK S.net S.cur kk)]).map rowD) _
       rw[List.map_append]
       refine L2.IsL.snoc ?_ (L2.IsL.mono s07.ts _ _ c.lB)
       refine Is.tupOf (ds:=[.str "go",.int (kk:Int),.tup ((cK S.net S.cur kk).map tipD)]) (s57.tup (bT.of aD)) (.cons (Is.s _) (.cons (Is.i _) (.cons ?_ .nil)))
       exact Is.tupOf ((s4.trans s57).tup (bT.of aD)) (L2.IsL.mono s27.ts _ _ lpp)
      aT:=.inr (s1.free hD)
      aB:=.inr (s15.free hnb)
      aI:=fun t ht=>.inr (s1.free (hfr t ht).1) }
end
end Tw
namespace Tw
open PySem L2
theorem depth_tip (t:Int×Nat):(tipD t).depth=1:=by
 show (L2.D.tup [.int t.1,.int (t.2:Int)]).depth=1
 rw[L2.D.depth,bX,bX,bX,depth_int,depth_int];rfl
theorem depth_tips:∀ l:List (Int×Nat),bX (l.map tipD)≤1
 | []=>by rw[List.map_nil,bX];decide
 | t::l=>by
  rw[List.map_cons,bX,depth_tip]
  have:=depth_tips l
  omega
theorem depth_row (r:Row):(rowD r).depth≤3:=by
 cases r with
 | pour v a=>
  show (L2.D.tup [.str "pour",.int v,.int a]).depth≤3
  rw[L2.D.depth,bX,bX,bX,bX,depth_int,depth_int,depth_str];decide
 | go n ts=>
  show (L2.D.tup [.str "go",.int n,.tup (ts.map tipD)]).depth≤3
  have:=depth_tips ts
  rw[L2.D.depth,bX,bX,bX,bX,depth_int,depth_str,L2.D.depth];omega
theorem depth_rows:∀ l:List Row,bX (l.map rowD)≤3
 | []=>by rw[List.map_nil,bX];decide
 | t::l=>by
  rw[List.map_cons,bX]
  have:=depth_row t
  have:=depth_rows l
  omega
theorem depth_ints:∀ l:List Int,bX (l.map L2.D.int)=0
 | []=>by rw[List.map_nil,bX]
 | t::l=>by rw[List.map_cons,bX,depth_int,depth_ints l];rfl
theorem kit_ll (K:PySem.W.Frag):PySem.W.kitOne K (.type "list") (.type "list")=some true:=by
 unfold PySem.W.kitOne
 rw[if_pos (by decide +kernel)]
section
variable {P:Program}{w:World}{K:PySem.W.Frag}{mg:Str→Option Value}{base:Heap}{C c_TipError c_NoNet c_NoVessel c_TooLong c_TooMany c_TooMuch c_Nothing c_NoText c_NoRow:Addr}
noncomputable def spBook (K:PySem.W.Frag) (C:Addr):Sp:=fun vs H Q _=>∃ (r:Addr) (S:RunS) (fp:List Addr),vs=[.ref r]∧cL K C H r S fp∧∀ p xs,H p=none→IsL K H (S.rows.map rowD) xs→Q (.ref p) (upd H p (.lst xs))
theorem sc_book:FnScope ["self"] ["self"] (aL (aV (top 43) 9)):=⟨rfl,rfl,rfl,by decide +kernel,rfl,by decide +kernel,by decide +kernel⟩
theorem ok_book {f:Addr}{fd:FuncData} (F:Fun K "book" "Run.book" (aV (top 43) 9) f fd) (T:Txt mg) (tx:RunTx K C):FnOk P w K mg base CX0 1 f fd ["self"] (spBook K C):=by
 refine F.ok sc_book (fun vs H Q E h=>?_) (fun cdv A outer s H vs Q E hr h=>?_)
 ·obtain⟨r,S,fp,rfl,_⟩:=h;rfl
 ·obtain⟨r,S,fp,rfl,⟨dx,np,R,M,T',ts,rs,ms,mv,c,rfl⟩,k⟩:=h
  have sc:=sc_book
  refine⟨_,(aO (aX (bG (call_lstK (K:=K) rfl) rfl T.b_list bt_list (aA (cZ (K:=K) rfl (pv 0) rfl) aE)))),?_⟩
  exact⟨_,rfl,r,C,dx,_,_,rfl,c.ins,tx.cls,tx.rows,lk_rows,R,_,rfl,.inl (bM.of c.hR),fun p hp=>k p rs hp c.lR⟩
theorem m_tell1 {σ:St}{H:Hp}{Q:VK}{i:Nat}{r:Addr}{S:RunS}{fp:List Addr}{f:Str}{φ:RunS→V→Hp→Prop} (h:σ[i]? = some (some (.ref r))) (lk:∀ np R M T,(flds np R M T).lookup f=none) (ra:cL K C H r S fp) (k:∀ v,φ S v H→Q v H):tMeth C f (spTell K C φ) [] E0 (d6 i) tNil σ H Q:=by
 obtain⟨dx,np,R,M,T,ei⟩:=ra.ins
 exact⟨_,h,r,dx,_,rfl,ei,lk _ _ _ _,r,S,fp,rfl,ra,k⟩
noncomputable def spRight (K:PySem.W.Frag) (C:Addr):Sp:=fun vs H Q _=>∃ (r:Addr) (kv:V) (S:RunS) (fp:List Addr) (A:Addr→Prop) (B:Nat),vs=[.ref r,kv]∧cL K C H r S fp∧Kept K H A S kv∧RunSz S B∧B≤1000000∧∀ H',aK H H'→Q (.bl true) H'
theorem sc__law_run_right:FnScope ["run","kept","state","hand","tick","tips","came","ground","book","found"] ["run","kept"] (aL (top 60)):=⟨rfl,rfl,rfl,by decide +kernel,rfl,by decide +kernel,by decide +kernel⟩
theorem ok__law_run_right {f f1 f2 f3 f4 f5 f6:Addr}{fd fd1 fd2 fd3 fd4 fd5 fd6:FuncData} (F:Fun K "_law_run_right" "_law_run_right" (top 60) f fd) (T:Txt mg)
  (G_Run_state:MCal P w K mg base C "state" ["self"] 1 (spTell K C fun S v H=>Is K H (stD S.cur.held S.cur.coming S.cur.doors) v) f1 fd1)
  (G_Run_tick:MCal P w K mg base C "tick" ["self"] 1 (spTell K C fun S v H=>v=.int S.cur.tick) f2 fd2)
  (G_Run_came:MCal P w K mg base C "came" ["self"] 1 (spTell K C fun S v H=>v=.int S.cur.came) f3 fd3)
  (G_Run_grounded:MCal P w K mg base C "grounded" ["self"] 1 (spTell K C fun S v H=>v=.int S.cur.ground) f4 fd4)
  (G_Run_tips:MCalR P w K mg base C "tips" ["self","vessel"] 3 (spTipsR K C c_NoVessel) f5 fd5)
  (G_Run_book:MCal P w K mg base C "book" ["self"] 1 (spBook K C) f6 fd6) :
  FnOk P w K mg base CX0 4 f fd ["run","kept"] (spRight K C):=by
 refine F.ok sc__law_run_right (fun vs H Q E h=>?_) (fun cdv A outer s H vs Q E hr h=>?_)
 ·obtain⟨r,kv,S,fp,Al,B,rfl,_⟩:=h;rfl
 ·obtain⟨r,kv,S,fp,Al,B,rfl,ra,⟨a,st,ha,tl,bl,ts,bs,rfl,c⟩,sz,hB,k⟩:=h
  have sc:=sc__law_run_right
  refine⟨_,(aF (cB (pv 1) (bF (K:=K) (n:=7) rfl rfl (aH (aJ (i:=2) sc.nd rfl (Or.inl rfl)) (aH (aJ (i:=3) sc.nd rfl (Or.inl rfl)) (aH (aJ (i:=4) sc.nd rfl (Or.inl rfl)) (aH (aJ (i:=5) sc.nd rfl (Or.inl rfl)) (aH (aJ (i:=6) sc.nd rfl (Or.inl rfl)) (aH (aJ (i:=7) sc.nd rfl (Or.inl rfl)) (aH (aJ (i:=8) sc.nd rfl (Or.inl rfl)) bD)))))))))
   (aF (cF (PW.pt (pw_or (bU (op_neSameK (K:=K) rfl hr.units) (eW (pv 0) G_Run_state.cls G_Run_state.mt G_Run_state.ok (hr.mono (by decide)) G_Run_state.bd .nil pass0) (pv 2) (bW _)) (pw_or (bU op_ne (eW (pv 0) G_Run_tick.cls G_Run_tick.mt G_Run_tick.ok (hr.mono (by decide)) G_Run_tick.bd .nil pass0) (pv 4) (bW _)) (pw_or (bU op_ne (eW (pv 0) G_Run_came.cls G_Run_came.mt G_Run_came.ok (hr.mono (by decide)) G_Run_came.bd .nil pass0) (pv 6) (bW _)) (pw_or1 (bU op_ne (eW (pv 0) G_Run_grounded.cls G_Run_grounded.mt G_Run_grounded.ok (hr.mono (by decide)) G_Run_grounded.bd .nil pass0) (pv 7) (bW _))))))) (aO (aX eL)) bH)
   (aF (cF (bU (op_neSameLK (K:=K) rfl hr.units) (pe_lc (fun _ _ h=>h) rfl (LcOk.mk (N':=["k","run"]) (fr:=[none,some 0]) rfl ⟨rfl,trivial⟩ rfl rfl rfl rfl rfl ⟨⟨_,rfl,rfl,rfl,rfl⟩,trivial⟩) (cG rfl T.b_range (aA (aS (bK (K:=K) rfl) rfl T.b_len PySem.boot_len (aA (pv 5) aE)) aE)) (fun _ _ _=>(aJ (i:=0) (show (["k","run"]:List Str).Nodup by decide +kernel) rfl (Or.inl rfl) (Or.inr rfl))) (fun _ _ _=>cP) (fun _ _ _=>(pe_meth (pv 1) G_Run_tips.cls G_Run_tips.mt G_Run_tips.ok (hr.mono (by decide)) G_Run_tips.bd .nil passR0 (aA (pv 0) aE)))) (pv 5) (bW _)) (aO (aX eL)) bH)
   (aF (bE (i:=9) sc.nd rfl (Or.inl rfl) (eW (pv 0) G_Run_book.cls G_Run_book.mt G_Run_book.ok (hr.mono (by decide)) G_Run_book.bd .nil pass0))
   (aF (cF (PW.pt (pw_or (dL (cU (aS (eK (K:=K) rfl) rfl T.b_isinstance fA (aA (pv 9) (aA (pe_bltn (v:=.ty "list") rfl T.b_list bt_list rfl) aE))))) (pw_or1 (bU (op_neSameLK (K:=K) rfl hr.units) (pv 9) (pv 8) (bW _))))) (aO (aX eL)) bH)
   (aF (bZ (dY (K:=K) rfl PySem.F.plainAttrs_list PySem.F.slot_list_append PySem.F.type_list_append cD (pv 9) (aA eO aE)))
   (aO (aX (pe_cmpR (op_eqSameLK (K:=K) rfl hr.units) (eW (pv 0) G_Run_book.cls G_Run_book.mt G_Run_book.ok (hr.mono (by decide)) G_Run_book.bd .nil pass0) (pv 8) (bW _)))))))))),?_⟩
  have sok:=ra.ok
  have nok:=sok.nok
  have n1:=nok.lo
  have n2:=nok.hi
  have hts:ts.length=S.net.vs.length:=by rw[c.len];exact sok.tl
  refine⟨_,rfl,a,_,rfl,c.tup,rfl,_,_,rfl,_,_,rfl,_,_,rfl,_,_,rfl,_,_,rfl,_,_,rfl,_,_,rfl,rfl,?_⟩
  refine m_tell1 rfl (fun _ _ _ _=>rfl) ra fun v hv=>?_
  refine⟨_,rfl,[.tup (S.cur.held.map L2.D.int),.tup (S.cur.coming.map L2.D.int),.tup (S.cur.doors.map L2.D.bl)],(show 3≤1000 by decide),by rw[depth_st];decide,hv,c.hst,_,rfl,dU ?_⟩
  refine m_tell1 rfl (fun _ _ _ _=>rfl) ra fun v hv=>?_
  subst hv
  refine⟨_,rfl,rfl,_,rfl,iteNS rfl ?_⟩
  refine m_tell1 rfl (fun _ _ _ _=>rfl) ra fun v hv=>?_
  subst hv
  refine⟨_,rfl,rfl,_,rfl,iteNS rfl ?_⟩
  refine m_tell1 rfl (fun _ _ _ _=>rfl) ra fun v hv=>?_
  subst hv
  refine⟨_,rfl,rfl,_,rfl,iteNS rfl ?_⟩
  refine⟨_,rfl,tl,_,rfl,.inl (bM.of c.hT),_,rfl,by omega,by rw[List.length_map];omega,?_⟩
  have en:(((ts.map V.ref).length:Nat):Int).toNat=S.net.vs.length:=by rw[List.length_map,hts];simp
  rw[en]
  refine lc_range (n:=S.net.vs.length) (fun D n rr σ' H'=>H D=none∧aK H H'∧H' D=some (.lst rr)∧(∃ ns:List Addr,rr=ns.map V.ref∧ns.length=n∧(∀ t∈ns,t≠D)∧∀ (i:Nat) (t:Addr) (l:List Int),ns[i]? = some t→S.tips[i]? = some l→H' t=some (.lst (l.map V.int)))∧
   ∃ u,σ'=[u,some (.ref r)]) (fun D hD=>⟨hD,aK.new hD,aD,⟨[],rfl,rfl,fun t ht=>(nomatch ht),fun i t l h=>by simp at h⟩,none,rfl⟩) ?_ ?_
  rotate_left
  ·rintro D n rr σ' H2 hn ⟨hD,s2,hDl,⟨ns,rfl,hns,hfr,hti⟩,u,rfl⟩
   refine cS ?_
   have ra2:=ra.same s2
   obtain⟨dx,np,R,M,T',ei⟩:=ra2.ins
   refine⟨_,rfl,r,dx,_,rfl,ei,lk_m "tips" rfl,_,rfl,r,S,fp,(n:Int),rfl,ra2,.inl ⟨by omega,by omega,fun l nt hl hnt=>?_⟩⟩
   rw[Int.toNat_natCast] at hl
   have s4:=aK.new (o:=HO.lst (l.map V.int)) hnt
   have ntD:nt≠D:=fun z=>by rw[z,hDl] at hnt;cases hnt
   refine⟨s4 _ _ hDl,aZ (by rw[List.length_map];omega),hD,(s2.trans s4).put hD,aD,⟨ns++[nt],by rw[List.map_append];rfl,by simp [hns],fun t ht=>?_,fun i t l' h1 h2=>?_⟩,_,rfl⟩
   ·rcases List.mem_append.1 ht with z | z
    ·exact hfr t z
    ·have:t=nt:=by simpa using z
     subst this
     exact ntD
   ·have hil:=(List.getElem?_eq_some_iff.mp h1).1
    rw[List.length_append,List.length_singleton] at hil
    by_cases e:i < n
    ·rw[List.getElem?_append_left (by omega)] at h1
     rw[aP (hfr t (List.mem_of_getElem? h1))]
     exact s4 _ _ (hti i t l' h1 h2)
    ·have:i=n:=by omega
     subst this
     rw[List.getElem?_append_right (by omega)] at h1
     rw[hns,Nat.sub_self] at h1
     have:nt=t:=by simpa using h1
     subst this
     rw[hl] at h2
     cases h2
     rw[aP ntD]
     exact aD
  ·rintro D rr σ' H2 ⟨hD,s2,hDl,⟨ns,rfl,hns,hfr,hti⟩,_⟩
   have c2:=c.keep s2.ts fun b o _ e=>s2 b o e
   have ra2:=ra.same s2
   refine⟨_,rfl,⟨D,tl,_,_,rfl,rfl,bM.of hDl,bM.of c2.hT,by rw[List.length_map,List.length_map,hns,hts],fun i u v hu hv=>?_⟩,_,rfl,dU ?_⟩
   ·rw[List.getElem?_map] at hu hv
    obtain⟨t1,h1,rfl⟩:=Option.map_eq_some_iff.mp hu
    obtain⟨t2,h2,rfl⟩:=Option.map_eq_some_iff.mp hv
    have hil:i < S.tips.length:=by rw[sok.tl,← hns];exact (List.getElem?_eq_some_iff.mp h1).1
    have hl:S.tips[i]? = some S.tips[i]:=by simp [hil]
    exact .inr ⟨t1,t2,_,_,S.tips[i].map L2.D.int,rfl,rfl,bM.of (hti i t1 _ h1 hl),bM.of (c2.ti i t2 _ h2 hl),L2.IsL.of_ints _,L2.IsL.of_ints _,by rw[depth_ints];decide⟩
   obtain⟨dx,np,R,M,T',ei⟩:=ra2.ins
   refine⟨_,rfl,r,dx,_,rfl,ei,lk_m "book" rfl,r,S,fp,rfl,ra2,fun p xs hp lx=>?_⟩
   have s3:=aK.new (o:=HO.lst xs) hp
   have hp3:upd H2 p (.lst xs) p=some (.lst xs):=aD
   generalize upd H2 p (.lst xs)=H3 at s3 hp3
   have c3:=c2.keep s3.ts fun b o _ e=>s3 b o e
   have ra3:=ra2.same s3
   refine⟨_,rfl,_,"list",_,true,rfl,.inl (.lst hp3),kit_ll K,_,rfl,dU ?_⟩
   have hdr:=depth_rows S.rows
   refine⟨_,rfl,_,rfl,SameLs.data (bM.of hp3) (bM.of c3.hB) (L2.IsL.mono s3.ts _ _ lx) c3.lB (by omega),_,rfl,dU ?_⟩
   have hxl:xs.length≤B:=by rw[lx.length,List.length_map];exact sz.rows
   refine⟨_,rfl,.inl ⟨rfl,_,bM.of hp3⟩,p,xs,_,rfl,rfl,hp3,eA (by omega),?_⟩
   have mu:Mut (H3 p):=by rw[hp3];exact trivial
   have s4:aK H2 (upd H3 p (.lst (xs++[.non]))):=s3.put hp
   have c4:=c2.keep s4.ts fun b o _ e=>s4 b o e
   have ra4:=ra2.same s4
   generalize upd H3 p (.lst (xs++[.non]))=H4 at s4 c4 ra4
   obtain⟨dx,np,R,M,T',ei⟩:=ra4.ins
   refine⟨_,rfl,r,dx,_,rfl,ei,lk_m "book" rfl,r,S,fp,rfl,ra4,fun p' xs' hp' lx'=>?_⟩
   have s5:=aK.new (o:=HO.lst xs') hp'
   have c5:=c4.keep s5.ts fun b o _ e=>s5 b o e
   exact⟨_,rfl,SameLs.data (bM.of aD) (bM.of c5.hB) (L2.IsL.mono s5.ts _ _ lx') c5.lB (by omega),k _ ((s2.trans s4).trans s5)⟩
theorem sc__law_book_deed:FnScope ["tape","net","hand","left","vessel","amount"] ["tape","net","hand","left"] (aL (top 57)):=⟨rfl,rfl,rfl,by decide +kernel,rfl,by decide +kernel,by decide +kernel⟩
end
end Tw
namespace Tw
open PySem L2
section
variable {K:PySem.W.Frag}{C:Addr}{σ:St}{H:Hp}{Q:VK}{t sl r rl na nb:Addr}{S:RunS}{fp:List Addr}{i j l:Nat}{n m v x:Int}{xs ys:List V}{u:V}
theorem seq1_by {s1 R:TS}{D:Ends} (I:St→Hp→Prop) (h1:∀ R':TS,(∀ σ' H',I σ' H'→R' D σ' H')→tSeq s1 R' D σ H) (h2:∀ σ' H',I σ' H'→R D σ' H'):tSeq s1 R D σ H:=h1 R h2
end
end Tw
namespace L2
open PySem PySem.Spec PyProof.Rows TwZ
section
variable {X:Cx}
theorem ps_calm {st:Stmt}{t:TS} (h:∀ pn:List (Addr×Obj),PS (X.within pn fun _ _=>False) st t):PS X st t:=by
 intro pins s σ H D I h1
 refine wpAny_mono (h (X.pn++pins) [] s σ H D I.within h1) (fun f s₁ hf=>?_) fun _ _ z=>z.elim
 cases f with
 | next=>obtain⟨σ',H',J,q⟩:=hf;exact⟨σ',H',J.unwithin,q⟩
 | brk=>obtain⟨σ',H',J,q⟩:=hf;exact⟨σ',H',J.unwithin,q⟩
 | cont=>obtain⟨σ',H',J,q⟩:=hf;exact⟨σ',H',J.unwithin,q⟩
 | ret u=>obtain⟨v,σ',H',J,r,q⟩:=hf;exact⟨v,σ',H',J.unwithin,r,q⟩
end
end L2
namespace L2
open PySem PySem.Spec PyProof.Rows TwZ
section
variable {X:Cx}{K:PySem.W.Frag}
noncomputable def tTru (K:PySem.W.Frag) (ta:TE):TT:=fun σ H Q=>ta σ H fun x H'=>∃ k,TruV K x H' k∧Q k H'
theorem pt_truthK {a:Expr}{ta:TE} (hK:X.K=K) (ha:PE X a ta) (he:∀ whole,isTrue a X.env whole=(do let v ← whole;standAt a.pos;holding [v] (truthy v))):PT X a (tTru K ta):=by subst hK;exact pt_truth ha he
theorem pe_bm0K {o:Expr}{to:TE}{name:Str}{apos cpos:Pos}{T id:String}{r:V→List V→Hp→VK→Prop} (hK:X.K=K) (pa:PlainAttrs T) (slot:Slot T name id) (hty:typeOf (.builtin id)=pure (.type "method_descriptor")) (hm:MtR X id r) (ho:PE X o to)
  (hbase:attributeBase o name X.env (eval o X.env)=eval o X.env:=by rfl) (hline:(apos.endLine == cpos.line)=true:=by rfl):PE X (.Call (.Attribute o name apos) [] [] cpos) (tBM0 K T r to):=by subst hK;exact pe_bm0 pa slot hty hm ho hbase hline
theorem IsL.unsnoc {H:Hp}{ds:List D}{d:D}:∀ {xs:List V},IsL K H (ds++[d]) xs→∃ ys y,xs=ys++[y]∧IsL K H ds ys∧Is K H d y:=by
 induction ds with
 | nil=>
  intro xs h
  obtain⟨x,r,rfl,h1,h2⟩:=(show IsL K H [d] xs from h).un
  have:=h2.un0
  subst this
  exact⟨[],x,rfl,.nil,h1⟩
 | cons e ds ih=>
  intro xs h
  obtain⟨x,r,rfl,h1,h2⟩:=(show IsL K H (e::(ds++[d])) xs from h).un
  obtain⟨ys,y,rfl,h3,h4⟩:=ih h2
  exact⟨x::ys,y,rfl,.cons h1 h3,h4⟩
end
end L2
namespace Tw
open PySem L2
theorem forV_app (a b:List (Int×Nat)) (i:Nat):dW (a++b) i=dW a i++dW b i:=by unfold dW;rw[List.filter_append,List.map_append]
theorem take_pop {α:Type} (L:List α) (m:Nat) (h:m≤L.length):(L.take m).dropLast=L.take (m - 1):=by
 rw[List.dropLast_eq_take,List.length_take,Nat.min_eq_left h,List.take_take,Nat.min_eq_left (by omega)]
theorem last_at {α:Type} (xs:List α) (x:α):(xs++[x])[(xs++[x]).length - 1]? = some x:=by simp
section
variable {P:Program}{w:World}{K:PySem.W.Frag}{mg:Str→Option Value}{base:Heap}{C c_TipError c_NoNet c_NoVessel c_TooLong c_TooMany c_TooMuch c_Nothing c_NoText c_NoRow:Addr}
noncomputable def spBackR (K:PySem.W.Frag) (C cN:Addr):Sp:=fun vs H Q E=>∃ (r:Addr) (S:RunS) (fp:List Addr),vs=[.ref r]∧cL K C H r S fp∧
 ((S.rows=[]∧E (.ref cN) none H)∨∃ S0 d,S=RunS.deed S0 d∧RunOk S0∧∀ H',ButL fp H H'→cL K C H' r S0 fp→Q .non H')
theorem sc_back:FnScope ["self","word","what","last","tick","number"] ["self"] (aL (aV (top 43) 3)):=⟨rfl,rfl,rfl,by decide +kernel,rfl,by decide +kernel,by decide +kernel⟩
theorem ok_backR {f:Addr}{fd:FuncData} (F:Fun K "back" "Run.back" (aV (top 43) 3) f fd) (T:Txt mg) (tx:RunTx K C) (XC_Nothing:ExC K "Nothing" c_Nothing) :
  FnOk P w K mg base (CXR P w) 2 f fd ["self"] (spBackR K C c_Nothing):=by
 refine F.okR sc_back (fun vs H Q E h=>?_) (fun cdv A outer s H vs Q E hr h L=>?_)
 ·obtain⟨r,S,fp,rfl,_⟩:=h;rfl
 ·obtain⟨r,S,fp,rfl,⟨dx,np,R,M,T',ts,rs,ms,mv,c,rfl⟩,k⟩:=h
  have sc:=sc_back
  refine⟨_,(aF (cF (dL (pt_truthK (K:=K) rfl (cZ (K:=K) rfl (pv 0) rfl) (fun _=>rfl))) (aO (ps_raise L rfl rfl XC_Nothing.exc XC_Nothing.ns PySem.F.excBase_ValueError (aA dM aE))) bH)
   (aF (bZ (pe_bm0K (K:=K) rfl PySem.F.plainAttrs_list PySem.F.slot_list_pop PySem.F.type_list_pop mt_pop (cZ (K:=K) rfl (pv 0) rfl)))
   (aF (cB (pe_bm0K (K:=K) rfl PySem.F.plainAttrs_list PySem.F.slot_list_pop PySem.F.type_list_pop mt_pop (cZ (K:=K) rfl (pv 0) rfl)) (bF (K:=K) (n:=3) rfl rfl (aH (aJ (i:=1) sc.nd rfl (Or.inl rfl)) (aH (aJ (i:=2) sc.nd rfl (Or.inl rfl)) (aH (aJ (i:=3) sc.nd rfl (Or.inl rfl)) bD)))))
   (aO (cF (bU op_eq (pv 1) dM (bW _)) (aO (ps_calm fun pn=>(dB PassesOwn.never rfl (dD (K:=K) rfl (pv 3)) (bF (K:=K) (n:=2) rfl rfl (aH (aJ (i:=4) sc.nd rfl (Or.inl rfl)) (aH (aJ (i:=5) sc.nd rfl (Or.inl rfl)) bD))) (aO (bZ (pe_bm0K (K:=K) rfl PySem.F.plainAttrs_list PySem.F.slot_list_pop PySem.F.type_list_pop mt_pop (aR (aM (K:=K) rfl) (cZ (K:=K) rfl (pv 0) rfl) (pv 5) (fun _ _=>rfl)))))))) bH))))),?_⟩
  have nd:=c.nd
  have nRM:R≠M:=fun z=>by rw[List.nodup_cons] at nd;exact nd.1 (by rw[z];simp)
  rw[List.nodup_cons] at nd
  have nd2:=nd.2
  rw[List.nodup_cons] at nd2
  have nd3:=nd2.2
  rw[List.nodup_cons] at nd3
  have nTM:T'≠M:=fun z=>nd2.1 (by rw[z];simp)
  have nTR:T'≠R:=fun z=>nd.1 (by rw[z];simp)
  have ne_rM:r≠M:=fun z=>c.r_notin (by rw[z];simp)
  have ne_rR:r≠R:=fun z=>c.r_notin (by rw[z];simp)
  have ntM:∀ t∈ts,t≠M:=fun t ht z=>nd2.1 (by rw[← z];simp [ht])
  have ntR:∀ t∈ts,t≠R:=fun t ht z=>nd.1 (by rw[← z];simp [ht])
  have nTt:T'∉ts:=nd3.1
  have nrt:r∉ts:=fun z=>c.r_notin (by simp [z])
  have nRt:R∉ts:=fun z=>nd.1 (by simp [z])
  have nMt:M∉ts:=fun z=>nd2.1 (by simp [z])
  rcases k with ⟨h0,k⟩ | ⟨S0,d,rfl,sok,k⟩
  ·have:rs=[]:=by
    have:=c.lR
    rw[h0] at this
    exact this.un0
   subst this
   refine⟨_,rfl,r,C,dx,_,_,rfl,c.ins,tx.cls,tx.rows,lk_rows,false,.inl ⟨[],bM.of c.hR,rfl⟩,eT ?_⟩
   exact⟨by show 1≤100;decide,k⟩
  ·
   obtain⟨row,erow⟩:∃ row,(RunS.deed S0 d).rows=S0.rows++[row]:=by cases d <;> exact⟨_,rfl⟩
   have epre:(RunS.deed S0 d).pre=S0.pre++[S0.cur]:=by cases d <;> rfl
   have enet:(RunS.deed S0 d).net=S0.net:=by cases d <;> rfl
   have lR:=c.lR
   rw[erow,List.map_append] at lR
   obtain⟨rs0,rv,rfl,lR0,irv⟩:=L2.IsL.unsnoc lR
   have lM:=c.lM
   rw[epre,List.map_append] at lM
   obtain⟨ms0,mv0,rfl,lM0,imv⟩:=L2.IsL.unsnoc lM
   refine⟨_,rfl,r,C,dx,_,_,rfl,c.ins,tx.cls,tx.rows,lk_rows,true,.inl ⟨rs0++[rv],bM.of c.hR,by simp⟩,dU ?_⟩
   refine⟨_,rfl,r,C,dx,_,_,rfl,c.ins,tx.cls,tx.moments,dS,.inl ⟨rfl,_,bM.of c.hM⟩,M,_,mv,rfl,rfl,c.hM,last_at _ _,?_⟩
   rw[List.dropLast_concat]
   have mu1:Mut (H M):=by rw[c.hM];exact trivial
   have b1:cY M H (upd H M (.lst (ms0++[mv0]))):=cY.upd
   have ts1:=b1.ts (K:=K) mu1
   have hM1:upd H M (.lst (ms0++[mv0])) M=some (.lst (ms0++[mv0])):=aD
   generalize upd H M (.lst (ms0++[mv0]))=H1 at b1 ts1 hM1
   have hR1:=b1 _ _ nRM c.hR
   refine⟨_,rfl,r,C,dx,_,_,rfl,b1 _ _ ne_rM c.ins,tx.cls,tx.rows,lk_rows,.inl ⟨rfl,_,bM.of hR1⟩,R,_,rv,rfl,rfl,hR1,last_at _ _,?_⟩
   rw[List.dropLast_concat]
   have mu2:Mut (H1 R):=by rw[hR1];exact trivial
   have b2:cY R H1 (upd H1 R (.lst rs0)):=cY.upd
   have ts2:=ts1.trans (b2.ts (K:=K) mu2)
   have hR2:upd H1 R (.lst rs0) R=some (.lst rs0):=aD
   generalize upd H1 R (.lst rs0)=H2 at b2 ts2 hR2
   have hM2:=b2 _ _ (Ne.symm nRM) hM1
   have k12:∀ b o,b≠M→b≠R→H b=some o→H2 b=some o:=fun b o h1 h2 e=>b2 _ _ h2 (b1 _ _ h1 e)
   have hT2:=k12 _ _ nTM nTR c.hT
   have ins2:=k12 _ _ ne_rM ne_rR c.ins
   have fin:∀ H',ButL ts H2 H'→(∀ (i:Nat) (t:Addr) (l:List Int),ts[i]? = some t→S0.tips[i]? = some l→H' t=some (.lst (l.map V.int)))→ts.length=S0.tips.length→Q .non H':=by
    intro H' b3 hti hl
    have mut3:∀ b∈ts,Mut (H2 b):=fun b hb=>by
     obtain⟨xs,e⟩:=c.lists b (by simp [hb])
     rw[k12 b _ (ntM b hb) (ntR b hb) e];exact trivial
    have ts3:bL K H2 H':=by
     intro b xs h
     have ne:∀ {o:HO},H2 b=some o→¬ Mut (some o)→b∉ts:=fun e n z=>by have:=mut3 b z;rw[e] at this;exact n this
     rcases h with (h | ⟨o,h⟩) | h
     ·exact .inl (.inl (b3 _ _ (ne h (fun z=>z)) h))
     ·exact .inl (.inr ⟨o,b3 _ _ (ne h (fun z=>z)) h⟩)
     ·exact .inr h
    have tsA:=ts2.trans ts3
    refine k H' (fun b o hb e=>b3 _ _ (fun z=>hb (by simp [z])) (k12 b o (fun z=>hb (by simp [z])) (fun z=>hb (by simp [z])) e)) ⟨dx,np,R,M,T',ts,rs0,ms0,mv0,?_,rfl⟩
    exact {
     ins:=b3 _ _ nrt ins2
     net:=by have:=c.net;rw[enet] at this;exact Is.mono tsA _ _ this
     hR:=b3 _ _ nRt hR2
     lR:=L2.IsL.mono tsA _ _ lR0
     hM:=b3 _ _ nMt hM2
     lM:=L2.IsL.mono tsA _ _ lM0
     cM:=Is.mono tsA _ _ imv
     hT:=b3 _ _ nTt hT2
     tl:=hl
     ti:=hti
     nd:=c.nd
     ok:=sok }
   cases d with
   | pour v a=>
    cases (List.append_cancel_left (show S0.rows++[Row.pour v a]=S0.rows++[row] from erow))
    obtain⟨da,dxs,rfl,qd,ld⟩:=(show Is K H (.tup [.str "pour",.int v,.int a]) rv from irv).un
    obtain⟨x1,rr,rfl,h1,ld⟩:=ld.un
    obtain⟨x2,rr,rfl,h2,ld⟩:=ld.un
    obtain⟨x3,rr,rfl,h3,ld⟩:=ld.un
    have:=ld.un0
    subst this
    rw[h1.us,h2.ui,h3.ui] at qd
    refine⟨da,_,rfl,ts2 _ _ qd,rfl,_,_,rfl,_,_,rfl,_,_,rfl,rfl,?_⟩
    refine⟨_,rfl,rfl,_,rfl,eX (fun z=>absurd (of_decide_eq_true z) (by decide)) fun _=>?_⟩
    exact fin H2 (fun _ _ _ e=>e) (fun i t l h1 h2=>k12 _ _ (ntM t (List.mem_of_getElem? h1)) (ntR t (List.mem_of_getElem? h1)) (c.ti i t l h1 h2)) c.tl
   | go kk=>
    cases (List.append_cancel_left (show S0.rows++[Row.go (kk:Int) (cK S0.net S0.cur kk)]=S0.rows++[row] from erow))
    generalize htl:cK S0.net S0.cur kk=tl at irv
    have htlt:∀ p∈tl,p.2 < S0.net.vs.length:=fun p hp=>by rw[← htl] at hp;exact tipN_lt kk p hp
    have etips:(RunS.deed S0 (.go kk)).tips=tl.foldl addTip S0.tips:=by rw[← htl];rfl
    have hts:ts.length=S0.tips.length:=by have:=c.tl;rw[etips,addTips_len] at this;exact this
    have ctl:=sok.tl
    obtain⟨da,dxs,rfl,qd,ld⟩:=(show Is K H (.tup [.str "go",.int (kk:Int),.tup (tl.map tipD)]) rv from irv).un
    obtain⟨x1,rr,rfl,h1,ld⟩:=ld.un
    obtain⟨x2,rr,rfl,h2,ld⟩:=ld.un
    obtain⟨x3,rr,rfl,h3,ld⟩:=ld.un
    have:=ld.un0
    subst this
    rw[h1.us,h2.ui] at qd
    obtain⟨la,lxs,rfl,ql,ll⟩:=h3.un
    refine⟨da,_,rfl,ts2 _ _ qd,rfl,_,_,rfl,_,_,rfl,_,_,rfl,rfl,?_⟩
    refine⟨_,rfl,rfl,_,rfl,eX (fun _=>?_) fun z=>absurd (decide_eq_true rfl) z⟩
    have mut2:∀ b∈ts,Mut (H2 b):=fun b hb=>by
     obtain⟨xs,e⟩:=c.lists b (by simp [hb])
     rw[k12 b _ (ntM b hb) (ntR b hb) e];exact trivial
    have tst:∀ {H':Hp},ButL ts H2 H'→bL K H2 H':=by
     intro H' b3 b xs h
     have ne:∀ {o:HO},H2 b=some o→¬ Mut (some o)→b∉ts:=fun e n z=>by have:=mut2 b z;rw[e] at this;exact n this
     rcases h with (h | ⟨o,h⟩) | h
     ·exact .inl (.inl (b3 _ _ (ne h (fun z=>z)) h))
     ·exact .inl (.inr ⟨o,b3 _ _ (ne h (fun z=>z)) h⟩)
     ·exact .inr h
    refine⟨_,rfl,la,rfl,⟨_,ts2 _ _ ql⟩,for_tup (K:=K) (a:=la) (xs:=lxs)
     (fun i σ' H'=>ButL ts H2 H'∧(∀ (v:Nat) (t:Addr) (l0:List Int),ts[v]? = some t→S0.tips[v]? = some l0→H' t=some (.lst (((l0++dW tl v).take ((l0++dW tl v).length - (dW (tl.take i) v).length)).map V.int)))∧
      ∃ v4 v5,σ'=[some (.ref r),some (.str "go"),some (.int (kk:Int)),some (.ref la),v4,v5]) ?_ ?_ ?_ ?_⟩
    ·refine⟨fun _ _ _ e=>e,fun v t l0 h1 h2=>?_,_,_,rfl⟩
     have h3:=addTips_get tl S0.tips v l0 h2
     have h4:=c.ti v t _ h1 (by rw[etips];exact h3)
     rw[List.take_zero,show (dW [] v).length=0 from rfl,Nat.sub_zero,List.take_length]
     exact k12 _ _ (ntM t (List.mem_of_getElem? h1)) (ntR t (List.mem_of_getElem? h1)) h4
    ·exact fun i σ' H' _ p=>tst p.1 _ _ (ts2 _ _ ql)
    ·rintro i x σ' H3 hx ⟨b3,hti,v4,v5,rfl⟩
     obtain⟨dd,hdd,ix⟩:=L2.IsL.get' ll hx
     rw[List.getElem?_map] at hdd
     obtain⟨pr,hpr,rfl⟩:=Option.map_eq_some_iff.mp hdd
     obtain⟨tk,num⟩:=pr
     obtain⟨ya,yxs,rfl,qy,ly⟩:=(show Is K H (.tup [.int tk,.int (num:Int)]) x from ix).un
     obtain⟨y1,rr,rfl,h1,ly⟩:=ly.un
     obtain⟨y2,rr,rfl,h2,ly⟩:=ly.un
     have:=ly.un0
     subst this
     rw[h1.ui,h2.ui] at qy
     refine⟨ya,_,rfl,tst b3 _ _ (ts2 _ _ qy),rfl,_,_,rfl,_,_,rfl,rfl,?_⟩
     have hnl:num < S0.net.vs.length:=htlt _ (List.mem_of_getElem? hpr)
     have hnt:num < ts.length:=by rw[hts,ctl];exact hnl
     have e1:ts[num]? = some ts[num]:=by simp [hnt]
     have e2:S0.tips[num]? = some (S0.tips[num]'(by rw[← hts];exact hnt)):=by simp
     generalize ts[num]=t at e1
     generalize S0.tips[num]'(by rw[← hts];exact hnt)=l0 at e2
     have ht:=hti num t l0 e1 e2
     have hsn:dW (tl.take (i+1)) num=dW (tl.take i) num++[tk]:=by rw[bA hpr,forV_snoc,if_pos rfl]
     have hle:(dW (tl.take (i+1)) num).length≤(dW tl num).length:=by
      have:=forV_app (tl.take (i+1)) (tl.drop (i+1)) num
      rw[List.take_append_drop] at this
      rw[this,List.length_append];omega
     rw[hsn,List.length_append,List.length_singleton] at hle
     have hLl:(l0++dW tl num).length=l0.length+(dW tl num).length:=List.length_append
     generalize hm:(l0++dW tl num).length - (dW (tl.take i) num).length=m at ht
     have hm1:1≤m∧m≤(l0++dW tl num).length:=by omega
     have hlen:(((l0++dW tl num).take m).map V.int).length=m:=by rw[List.length_map,List.length_take];omega
     obtain⟨y,hy⟩:∃ y,(((l0++dW tl num).take m).map V.int)[(((l0++dW tl num).take m).map V.int).length - 1]? = some y:=by
      rw[hlen];exact⟨_,List.getElem?_eq_getElem (by rw[hlen];omega)⟩
     refine⟨_,rfl,r,C,dx,_,_,rfl,b3 _ _ nrt ins2,tx.cls,tx.tips,lk_tips,_,rfl,.inl ⟨T',_,(num:Int),.ref t,rfl,rfl,bM.of (b3 _ _ nTt hT2),d5 (by rw[List.getElem?_map,e1];rfl),.inl ⟨rfl,_,bM.of ht⟩,t,_,y,rfl,rfl,ht,hy,?_⟩⟩
     have htm:=List.mem_of_getElem? e1
     refine⟨fun b o hb e=>by rw[aP (fun z=>hb (by rw[z];exact htm))];exact b3 _ _ hb e,fun v' t' l' g1 g2=>?_,_,_,rfl⟩
     by_cases e:v'=num
     ·subst e
      rw[e1] at g1
      cases g1
      rw[e2] at g2
      cases g2
      have e3:(dW (tl.take (i+1)) v').length=(dW (tl.take i) v').length+1:=by rw[hsn,List.length_append];rfl
      rw[aD,← List.map_dropLast,take_pop _ _ hm1.2,e3]
      rw[show (l0++dW tl v').length - ((dW (tl.take i) v').length+1)=m - 1 by omega]
     ·have ntt:t'≠t:=fun z=>e (nodup_at nd3.2 g1 (by rw[z];exact e1))
      have:dW (tl.take (i+1)) v'=dW (tl.take i) v':=by
       rw[bA hpr,forV_snoc,if_neg (fun z=>e z.symm),List.append_nil]
      rw[aP ntt,this]
      exact hti v' t' l' g1 g2
    ·rintro σ' H3 ⟨b3,hti,v4,v5,rfl⟩
     refine fin H3 b3 (fun v t l g1 g2=>?_) hts
     have:=hti v t l g1 g2
     have hll:lxs.length=tl.length:=by rw[ll.length,List.length_map]
     rw[hll,List.take_length,List.length_append,Nat.add_sub_cancel,List.take_left'  rfl] at this
     exact this
end
end Tw
namespace Tw
open PySem L2
structure TxtB (mg:Str→Option Value):Prop where
 g_MOST_POURED:∃ u,mg "MOST_POURED" = some u∧bO (.int 1000) u
 g_MOST_TICKS:∃ u,mg "MOST_TICKS" = some u∧bO (.int 3000) u
noncomputable def rowGo (net:Net) (m:Mom):Row→Option Mom
 | .pour v a=>some (m.pour v a)
 | .go n ts=>if ts=cK net m n.toNat then some (d9 net m n.toNat) else none
noncomputable def lieOf (net:Net):Mom→List Row→Option Nat
 | _,[]=>none
 | m,r::rs=>match rowGo net m r with
  | none=>some 0
  | some m'=>(lieOf net m' rs).map (· + 1)
theorem lieOf_no {net:Net}{m:Mom}{r:Row}{rs:List Row} (e:rowGo net m r=none):lieOf net m (r::rs)=some 0:=by rw[lieOf,e]
theorem lieOf_yes {net:Net}{m m':Mom}{r:Row}{rs:List Row} (e:rowGo net m r=some m'):lieOf net m (r::rs)=(lieOf net m' rs).map (· + 1):=by rw[lieOf,e]
noncomputable def RowOk (net:Net) (m:Mom):Row→Prop
 | .pour v a=>0≤v∧v < net.vs.length∧0≤a∧m.poured.getD v.toNat 0+a≤1000
 | .go n ts=>0≤n∧m.tick+n≤3000∧0≤m.tick
noncomputable def RowsOk (net:Net):Mom→List Row→Prop
 | _,[]=>True
 | m,r::rs=>RowOk net m r∧∀ m',rowGo net m r=some m'→RowsOk net m' rs
noncomputable def lieV:Option Nat→V
 | none=>.non
 | some i=>.int (i:Int)
theorem rowGo_yes {net:Net}{m:Mom}{n:Int}{ts:List (Int×Nat)} (h:ts=cK net m n.toNat):rowGo net m (.go n ts)=some (d9 net m n.toNat):=if_pos h
theorem rowGo_no {net:Net}{m:Mom}{n:Int}{ts:List (Int×Nat)} (h:¬ ts=cK net m n.toNat):rowGo net m (.go n ts)=none:=if_neg h
theorem MomOk.row {net:Net}{m m':Mom}{r:Row} (h:MomOk net m) (e:rowGo net m r=some m'):MomOk net m':=by
 cases r with
 | pour v a=>cases (show some (m.pour v a)=some m' from e);exact h.pour v a
 | go n ts=>
  by_cases q:ts=cK net m n.toNat
  ·rw[rowGo_yes q] at e;cases e;exact momN_ok h _
  ·rw[rowGo_no q] at e;cases e
theorem row_un {K:PySem.W.Frag}{H:Hp}{r:Row}{x:V} (h:Is K H (rowD r) x):∃ (a:Addr) (w:Str) (n:Int) (y:V),x=.ref a∧bT K H a [.str w,.int n,y]∧
  ((∃ m,r=.pour n m∧w = "pour" ∧ y=.int m)∨∃ (ts:List (Int×Nat)) (b:Addr) (ys:List V),r=.go n ts∧w = "go" ∧ y=.ref b∧bT K H b ys∧IsL K H (ts.map tipD) ys):=by
 cases r with
 | pour v a=>
  obtain⟨d,xs,rfl,q,l⟩:=(show Is K H (.tup [.str "pour",.int v,.int a]) x from h).un
  obtain⟨x1,r,rfl,h1,l⟩:=l.un
  obtain⟨x2,r,rfl,h2,l⟩:=l.un
  obtain⟨x3,r,rfl,h3,l⟩:=l.un
  have:=l.un0
  subst this
  rw[h1.us,h2.ui,h3.ui] at q
  exact⟨d,_,_,_,rfl,q,.inl ⟨a,rfl,rfl,rfl⟩⟩
 | go n ts=>
  obtain⟨d,xs,rfl,q,l⟩:=(show Is K H (.tup [.str "go",.int n,.tup (ts.map tipD)]) x from h).un
  obtain⟨x1,r,rfl,h1,l⟩:=l.un
  obtain⟨x2,r,rfl,h2,l⟩:=l.un
  obtain⟨x3,r,rfl,h3,l⟩:=l.un
  have:=l.un0
  subst this
  rw[h1.us,h2.ui] at q
  obtain⟨b,ys,rfl,q3,l3⟩:=h3.un
  exact⟨d,_,_,_,rfl,q,.inr ⟨ts,b,ys,rfl,rfl,rfl,q3,l3⟩⟩
theorem tip_un {K:PySem.W.Frag}{H:Hp}{t:Int×Nat}{x:V} (h:Is K H (tipD t) x):∃ a,x=.ref a∧bT K H a [.int t.1,.int (t.2:Int)]:=by
 obtain⟨d,xs,rfl,q,l⟩:=(show Is K H (.tup [.int t.1,.int (t.2:Int)]) x from h).un
 obtain⟨x1,r,rfl,h1,l⟩:=l.un
 obtain⟨x2,r,rfl,h2,l⟩:=l.un
 have:=l.un0
 subst this
 rw[h1.ui,h2.ui] at q
 exact⟨d,rfl,q⟩
section
variable {P:Program}{w:World}{K:PySem.W.Frag}{mg:Str→Option Value}{base:Heap}{C c_TipError c_NoNet c_NoVessel c_TooLong c_TooMany c_TooMuch c_Nothing c_NoText c_NoRow:Addr}
noncomputable def spTupB (K:PySem.W.Frag):Sp:=fun vs H Q _=>∃ (a:Addr) (xs:List V) (lo hi:Int),vs=[.ref a,.int lo,.int hi]∧bT K H a xs∧Q (.bl (decide (lo≤(xs.length:Int)) && decide ((xs.length:Int)≤hi))) H
theorem ok_is_tupleB {f:Addr}{fd:FuncData} (F:Fun K "is_tuple" "is_tuple" (top 40) f fd) (T:Txt mg):FnOk P w K mg base CX0 1 f fd ["thing","least","most"] (spTupB K):=by
 refine F.ok sc_is_tuple (fun vs H Q E h=>?_) (fun cdv A outer s H vs Q E hr h=>?_)
 ·obtain⟨a,xs,lo,hi,rfl,_⟩:=h;rfl
 ·obtain⟨a,xs,lo,hi,rfl,q,k⟩:=h
  have sc:=sc_is_tuple
  refine⟨_,(aO (aX (dZ (aS (eK (K:=K) rfl) rfl T.b_isinstance fA (aA (pv 0) (aA (pe_bltn (v:=.ty "tuple") rfl T.b_tuple cJ rfl) aE))) (eS (pe_chain op_le op_le (pv 1) (aS (bK (K:=K) rfl) rfl T.b_len PySem.boot_len (aA (pv 0) aE)) (pv 2)))))),?_⟩
  refine⟨_,rfl,_,"tuple",_,true,rfl,.inr ⟨a,xs,rfl,q,rfl⟩,kit_tt K,_,rfl,eT ?_⟩
  refine⟨_,rfl,_,rfl,a,xs,rfl,.inr q,_,_,rfl,rfl,_,rfl,eX (fun h1=>?_) fun h1=>?_⟩
  ·rw[h1,Bool.true_and] at k
   exact⟨_,rfl,_,_,rfl,rfl,k⟩
  ·rw[Bool.not_eq_true] at h1
   rw[h1,Bool.false_and] at k
   exact k
noncomputable def spMostPour (K:PySem.W.Frag):Sp:=fun vs H Q _=>∃ (x:V) (m:Mom) (v:Int),vs=[x,.int v]∧Is K H (momD m) x∧0≤v∧v < m.poured.length∧Q (.int (1000 - m.poured.getD v.toNat 0)) H
theorem sc_most_to_pour:FnScope ["moment","vessel"] ["moment","vessel"] (aL (top 22)):=⟨rfl,rfl,rfl,by decide +kernel,rfl,by decide +kernel,by decide +kernel⟩
theorem ok_most_to_pour {f:Addr}{fd:FuncData} (F:Fun K "most_to_pour" "most_to_pour" (top 22) f fd) (T:Txt mg) (U:TxtB mg):FnOk P w K mg base CX0 1 f fd ["moment","vessel"] (spMostPour K):=by
 refine F.ok sc_most_to_pour (fun vs H Q E h=>?_) (fun cdv A outer s H vs Q E hr h=>?_)
 ·obtain⟨x,m,v,rfl,_⟩:=h;rfl
 ·obtain⟨x,m,v,rfl,hx,v0,v1,k⟩:=h
  have sc:=sc_most_to_pour
  refine⟨_,(aO (aX (b0 dN (eG rfl U.g_MOST_POURED) (aR (aM (K:=K) rfl) (aR (aM (K:=K) rfl) (pv 0) aG (fun _ _=>rfl)) (pv 1) (fun _ _=>rfl))))),?_⟩
  obtain⟨ma,po,st,rfl,q,hs,hp⟩:=mom_un hx
  have hlt:v.toNat < m.poured.length:=by omega
  have hg:m.poured[v.toNat]? = some (m.poured.getD v.toNat 0):=by rw[List.getD_eq_getElem?_getD,List.getElem?_eq_getElem hlt];rfl
  exact⟨_,rfl,.inr (.inl ⟨ma,_,2,_,rfl,rfl,q,rfl,_,rfl,.inr (.inl ⟨po,_,v,_,rfl,rfl,hp,atI_int v0 (by rw[List.getElem?_map,hg];rfl),_,_,rfl,rfl,k⟩)⟩)⟩
noncomputable def spMostGo (K:PySem.W.Frag):Sp:=fun vs H Q _=>∃ (x:V) (m:Mom),vs=[x]∧Is K H (momD m) x∧Q (.int (3000 - m.tick)) H
theorem sc_most_to_go:FnScope ["moment"] ["moment"] (aL (top 23)):=⟨rfl,rfl,rfl,by decide +kernel,rfl,by decide +kernel,by decide +kernel⟩
theorem ok_most_to_go {f:Addr}{fd:FuncData} (F:Fun K "most_to_go" "most_to_go" (top 23) f fd) (T:Txt mg) (U:TxtB mg):FnOk P w K mg base CX0 1 f fd ["moment"] (spMostGo K):=by
 refine F.ok sc_most_to_go (fun vs H Q E h=>?_) (fun cdv A outer s H vs Q E hr h=>?_)
 ·obtain⟨x,m,rfl,_⟩:=h;rfl
 ·obtain⟨x,m,rfl,hx,k⟩:=h
  have sc:=sc_most_to_go
  refine⟨_,(aO (aX (b0 dN (eG rfl U.g_MOST_TICKS) (aR (aM (K:=K) rfl) (pv 0) aG (fun _ _=>rfl))))),?_⟩
  obtain⟨ma,po,st,rfl,q,hs,hp⟩:=mom_un hx
  exact⟨_,rfl,.inr (.inl ⟨ma,_,0,_,rfl,rfl,q,rfl,_,_,rfl,rfl,k⟩)⟩
noncomputable def spMayPour (K:PySem.W.Frag):Sp:=fun vs H Q _=>∃ (x y:V) (net:Net) (m:Mom) (v a:Int),vs=[x,y,.int v,.int a]∧Is K H (netD net) x∧Is K H (momD m) y∧MomOk net m∧RowOk net m (.pour v a)∧Q (.bl true) H
theorem sc_may_pour:FnScope ["net","moment","vessel","amount"] ["net","moment","vessel","amount"] (aL (top 47)):=⟨rfl,rfl,rfl,by decide +kernel,rfl,by decide +kernel,by decide +kernel⟩
theorem ok_may_pour {f f1 f2:Addr}{fd fd1 fd2:FuncData} (F:Fun K "may_pour" "may_pour" (top 47) f fd) (T:Txt mg) (G_is_whole:Callee P w K mg base "is_whole" ["thing","least","most"] 1 spWhole f1 fd1)
  (G_most_to_pour:Callee P w K mg base "most_to_pour" ["moment","vessel"] 1 (spMostPour K) f2 fd2):FnOk P w K mg base CX0 2 f fd ["net","moment","vessel","amount"] (spMayPour K):=by
 refine F.ok sc_may_pour (fun vs H Q E h=>?_) (fun cdv A outer s H vs Q E hr h=>?_)
 ·obtain⟨x,y,net,m,v,a,rfl,_⟩:=h;rfl
 ·obtain⟨x,y,net,m,v,a,rfl,hx,hy,mok,⟨v0,v1,a0,a1⟩,k⟩:=h
  have sc:=sc_may_pour
  refine⟨_,(aO (aX (dZ (cQ G_is_whole hr (aA (pv 2) (aA aG (aA (b0 dN (aS (bK (K:=K) rfl) rfl T.b_len PySem.boot_len (aA (aR (aM (K:=K) rfl) (pv 0) aG (fun _ _=>rfl)) aE)) aG) aE)))) (eS (cQ G_is_whole hr (aA (pv 3) (aA aG (aA (cQ G_most_to_pour hr (aA (pv 1) (aA (pv 2) aE))) aE)))))))),?_⟩
  obtain⟨na,nb,nc,xs,ys,rfl,q,q1,l1,q2,l2⟩:=net_un hx
  have exl:xs.length=net.vs.length:=by rw[l1.length,List.length_map]
  have pl:=mok.pl
  refine⟨_,rfl,_,rfl,.inr (.inl ⟨na,_,0,_,rfl,rfl,q,rfl,nb,xs,rfl,.inr q1,_,_,rfl,rfl,v,0,_,rfl,v0,by omega,_,rfl,eT ?_⟩)⟩
  exact⟨_,rfl,_,rfl,_,rfl,y,m,v,rfl,hy,v0,by omega,a,0,_,rfl,a0,by omega,k⟩
noncomputable def spJust (K:PySem.W.Frag):Sp:=fun vs H Q _=>∃ (a b:Addr) (xs ys:List V) (ts us:List (Int×Nat)),vs=[.ref a,.ref b]∧bT K H a xs∧IsL K H (ts.map tipD) xs∧bT K H b ys∧IsL K H (us.map tipD) ys∧us.length≤1000000∧∀ H',aK H H'→Q (.bl (decide (ts=us))) H'
noncomputable def eqs:List (Int×Nat)→List (Int×Nat)→List Bool
 | a::as,b::bs=>decide (a=b)::eqs as bs
 | _,_=>[]
theorem eqs_snoc:∀ (as bs:List (Int×Nat)) (a b:Int×Nat),as.length=bs.length→eqs (as++[a]) (bs++[b])=eqs as bs++[decide (a=b)]
 | [],[],a,b,_=>rfl
 | c::as,d::bs,a,b,h=>by
  show decide (c=d)::eqs (as++[a]) (bs++[b])=decide (c=d)::(eqs as bs++[decide (a=b)])
  rw[eqs_snoc as bs a b (by simpa using h)]
 | [],_::_,_,_,h=>by simp at h
 | _::_,[],_,_,h=>by simp at h
theorem eqs_len:∀ (as bs:List (Int×Nat)),(eqs as bs).length≤bs.length
 | [],_=>by simp [eqs]
 | _::_,[]=>by simp [eqs]
 | a::as,b::bs=>by simp only [eqs,List.length_cons];have:=eqs_len as bs;omega
theorem eqs_all:∀ (as bs:List (Int×Nat)),as.length=bs.length→(eqs as bs).all id=decide (as=bs)
 | [],[],_=>by simp [eqs]
 | c::as,d::bs,h=>by
  show (decide (c=d) && (eqs as bs).all id)=_
  rw[eqs_all as bs (by simpa using h),Bool.eq_iff_iff]
  simp
 | [],_::_,h=>by simp at h
 | _::_,[],h=>by simp at h
theorem sc_is_just:FnScope ["thing","tipped"] ["thing","tipped"] (aL (top 48)):=⟨rfl,rfl,rfl,by decide +kernel,rfl,by decide +kernel,by decide +kernel⟩
theorem ok_is_just {f f1 f2:Addr}{fd fd1 fd2:FuncData} (F:Fun K "is_just" "is_just" (top 48) f fd) (T:Txt mg) (G_is_tuple:Callee P w K mg base "is_tuple" ["thing","least","most"] 1 (spTupB K) f1 fd1)
  (G_is_whole:Callee P w K mg base "is_whole" ["thing","least","most"] 1 spWholeI f2 fd2):FnOk P w K mg base CX0 2 f fd ["thing","tipped"] (spJust K):=by
 refine F.ok sc_is_just (fun vs H Q E h=>?_) (fun cdv A outer s H vs Q E hr h=>?_)
 ·obtain⟨a,b,xs,ys,ts,us,rfl,_⟩:=h;rfl
 ·obtain⟨a,b,xs,ys,ts,us,rfl,qa,la,qb,lb,hus,k⟩:=h
  have sc:=sc_is_just
  refine⟨_,(aO (aX (dZ (cQ G_is_tuple hr (aA (pv 0) (aA (aS (bK (K:=K) rfl) rfl T.b_len PySem.boot_len (aA (pv 1) aE)) (aA (aS (bK (K:=K) rfl) rfl T.b_len PySem.boot_len (aA (pv 1) aE)) aE)))) (eS (aS (call_allK (K:=K) rfl rfl) rfl T.b_all PyProof.Rows.boot_all (aA (pe_lc (fun _ _ h=>h) rfl (LcOk.mk (N':=["pair","tick","number"]) (fr:=[none,none,none]) rfl trivial rfl rfl rfl rfl rfl trivial) (pi_zip2K (K:=K) rfl rfl T.b_zip (aA (pv 0) (aA (pv 1) aE))) (fun _ _ _=>(bF (K:=K) (n:=2) rfl rfl (aH (aJ (i:=0) (show (["pair","tick","number"]:List Str).Nodup by decide +kernel) rfl (Or.inl rfl) (Or.inr rfl)) (aH (bF (K:=K) (n:=2) rfl rfl (aH (aJ (i:=1) (show (["pair","tick","number"]:List Str).Nodup by decide +kernel) rfl (Or.inl rfl) (Or.inr rfl)) (aH (aJ (i:=2) (show (["pair","tick","number"]:List Str).Nodup by decide +kernel) rfl (Or.inl rfl) (Or.inr rfl)) bD))) bD)))) (fun _ _ _=>cP) (fun _ _ _=>(dZ (cQ G_is_tuple hr (aA (pv 0) (aA aG (aA aG aE)))) (dZ (cQ G_is_whole hr (aA (aR (aM (K:=K) rfl) (pv 0) aG (fun _ _=>rfl)) (aA (pv 1) (aA (pv 1) aE)))) (eS (cQ G_is_whole hr (aA (aR (aM (K:=K) rfl) (pv 0) aG (fun _ _=>rfl)) (aA (pv 2) (aA (pv 2) aE))))))))) aE)))))),?_⟩
  have exl:xs.length=ts.length:=by rw[la.length,List.length_map]
  have eyl:ys.length=us.length:=by rw[lb.length,List.length_map]
  refine⟨_,rfl,_,rfl,b,ys,rfl,.inr qb,_,rfl,b,ys,rfl,.inr qb,a,xs,_,_,rfl,qa,_,rfl,eX (fun hT=>?_) fun hF=>?_⟩
  rotate_left
  ·have hne:¬ ts=us:=fun e=>hF (by rw[exl,eyl,e];simp)
   have:=k H (aK.refl H)
   rw[decide_eq_false hne] at this
   exact this
  ·have hl:ts.length=us.length:=by
    rw[exl,eyl,Bool.and_eq_true,decide_eq_true_eq,decide_eq_true_eq] at hT;omega
   refine⟨_,rfl,_,rfl,true,true,a,b,rfl,⟨_,qa⟩,⟨_,qb⟩,lc_zip2 (K:=K) (t1:=true) (t2:=true) (xs:=xs) (ys:=ys) (n:=us.length) (by omega) eyl
    (fun D i r σ' H'=>H D=none∧aK H H'∧H' D=some (.lst r)∧r=(eqs (ts.take i) (us.take i)).map V.bl∧∃ u1 u2 u3,σ'=[u1,u2,u3])
    (fun D i r σ' H' p=>⟨p.2.1.tup qa,p.2.1.tup qb⟩) (fun D hD=>⟨hD,aK.new hD,aD,rfl,none,none,none,rfl⟩) ?_ ?_⟩
   rotate_left
   ·rintro D i x y r σ' H2 Tt hx hy ⟨hD,sm,hDl,rfl,u1,u2,u3,rfl⟩ hT
    obtain⟨d,hd,ix⟩:=la.get' hx
    rw[List.getElem?_map] at hd
    obtain⟨t,ht,rfl⟩:=Option.map_eq_some_iff.mp hd
    obtain⟨d,hd,iy⟩:=lb.get' hy
    rw[List.getElem?_map] at hd
    obtain⟨u,hu,rfl⟩:=Option.map_eq_some_iff.mp hd
    obtain⟨xa,rfl,qx⟩:=tip_un ix
    obtain⟨ya,rfl,qy⟩:=tip_un iy
    have hil:=(List.getElem?_eq_some_iff.mp hu).1
    have mT:=aK.new (o:=HO.tup [.ref xa,.ref ya]) hT
    have smT:=sm.trans mT
    have qx2:=smT.tup qx
    have qy2:=smT.tup qy
    refine⟨Tt,_,rfl,bT.of aD,rfl,_,_,rfl,_,_,rfl,ya,_,rfl,qy2,rfl,_,_,rfl,_,_,rfl,rfl,rfl,?_⟩
    refine yes_of ?_
    have hs:eqs (ts.take (i+1)) (us.take (i+1))=eqs (ts.take i) (us.take i)++[decide (t=u)]:=by
     rw[List.take_succ,List.take_succ,ht,hu]
     exact eqs_snoc _ _ t u (by rw[List.length_take,List.length_take];omega)
    have hlen:((eqs (ts.take i) (us.take i)).map V.bl).length < sizeLine:=by
     rw[List.length_map]
     have:=eqs_len (ts.take i) (us.take i)
     rw[List.length_take] at this
     exact eA (by omega)
    have fin:∀ c:Bool,c=decide (t=u)→H D=none∧aK H (upd (upd H2 Tt (.tup [.ref xa,.ref ya])) D (.lst ((eqs (ts.take i) (us.take i)).map V.bl++[.bl c])))∧upd (upd H2 Tt (.tup [.ref xa,.ref ya])) D (.lst ((eqs (ts.take i) (us.take i)).map V.bl++[.bl c])) D=some (.lst ((eqs (ts.take i) (us.take i)).map V.bl++[.bl c]))∧(eqs (ts.take i) (us.take i)).map V.bl++[.bl c]=(eqs (ts.take (i+1)) (us.take (i+1))).map V.bl:=fun c hc=>by
     subst hc
     exact⟨hD,smT.put hD,aD,by rw[hs,List.map_append];rfl⟩
    refine⟨_,rfl,xa,_,2,2,rfl,qx2,_,rfl,eT ?_⟩
    refine⟨_,rfl,.inr (.inl ⟨xa,_,0,_,rfl,rfl,qx2,rfl,_,rfl,_,rfl,_,_,_,rfl,_,rfl,eX (fun h1=>?_) fun h1=>?_⟩)⟩
    ·refine⟨_,rfl,.inr (.inl ⟨xa,_,1,_,rfl,rfl,qx2,rfl,_,rfl,_,rfl,_,_,_,rfl,mT _ _ hDl,hlen,?_⟩)⟩
     have e1:t.1=u.1:=by rw[Bool.and_eq_true,decide_eq_true_eq,decide_eq_true_eq] at h1;omega
     obtain⟨g1,g2,g3,g4⟩:=fin (decide ((u.2:Int)≤(t.2:Int)) && decide ((t.2:Int)≤(u.2:Int))) (by
      rw[Bool.eq_iff_iff,Bool.and_eq_true,decide_eq_true_eq,decide_eq_true_eq,decide_eq_true_eq]
      constructor
      ·intro h;exact Prod.ext e1 (by omega)
      ·intro h;rw[h];exact⟨Int.le_refl _,Int.le_refl _⟩)
     exact⟨g1,g2,g3,g4,_,_,_,rfl⟩
    ·obtain⟨g1,g2,g3,g4⟩:=fin false (by
      symm;rw[decide_eq_false_iff_not]
      intro h;exact h1 (by rw[h];simp))
     exact⟨mT _ _ hDl,hlen,g1,g2,g3,g4,_,_,_,rfl⟩
   ·rintro D r σ' H2 ⟨hD,sm,hDl,rfl,_⟩
    rw[List.take_of_length_le (Nat.le_of_eq hl),List.take_of_length_le (Nat.le_refl _)] at hDl
    refine⟨false,D,_,rfl,bM.of hDl,?_⟩
    rw[eqs_all _ _ hl]
    exact k _ sm
noncomputable def spMomTold (K:PySem.W.Frag):Sp:=fun vs H Q _=>∃ (x y z:V) (net:Net) (m:Mom) (r:Row),vs=[x,y,z]∧Is K H (netD net) x∧Is K H (momD m) y∧Is K H (rowD r) z∧NetOk net∧MomOk net m∧RowOk net m r∧
 (rowGo net m r=none→∀ H',aK H H'→Q .non H')∧∀ m',rowGo net m r=some m'→∀ p H',aK H H'→Is K H' (momD m') (.ref p)→Q (.ref p) H'
theorem sc_moment_told:FnScope ["net","moment","row","word","what","last","behind","tipped"] ["net","moment","row"] (aL (top 46)):=⟨rfl,rfl,rfl,by decide +kernel,rfl,by decide +kernel,by decide +kernel⟩
theorem ok_moment_told {f f1 f2 f3 f4 f5 f6 f7:Addr}{fd fd1 fd2 fd3 fd4 fd5 fd6 fd7:FuncData} (F:Fun K "moment_told" "moment_told" (top 46) f fd) (T:Txt mg) (G_is_tuple:Callee P w K mg base "is_tuple" ["thing","least","most"] 1 (spTupB K) f1 fd1)
  (G_may_pour:Callee P w K mg base "may_pour" ["net","moment","vessel","amount"] 2 (spMayPour K) f2 fd2) (G_moment_poured:Callee P w K mg base "moment_poured" ["moment","vessel","amount"] 1 (spMomPour K) f3 fd3) (G_is_whole:Callee P w K mg base "is_whole" ["thing","least","most"] 1 spWholeI f4 fd4)
  (G_most_to_go:Callee P w K mg base "most_to_go" ["moment"] 1 (spMostGo K) f5 fd5) (G_moment_gone:Callee P w K mg base "moment_gone" ["net","moment","many"] 6 (spMomGo K) f6 fd6) (G_is_just:Callee P w K mg base "is_just" ["thing","tipped"] 2 (spJust K) f7 fd7) :
  FnOk P w K mg base CX0 7 f fd ["net","moment","row"] (spMomTold K):=by
 refine F.ok sc_moment_told (fun vs H Q E h=>?_) (fun cdv A outer s H vs Q E hr h=>?_)
 ·obtain⟨x,y,z,net,m,r,rfl,_⟩:=h;rfl
 ·obtain⟨x,y,z,net,m,r,rfl,hx,hy,hz,nok,mok,rok,k0,k1⟩:=h
  have sc:=sc_moment_told
  refine⟨_,(aF (cF (dL (cU (cQ G_is_tuple hr (aA (pv 2) (aA aG (aA aG aE)))))) (aO (aX eO)) bH)
   (aF (cB (pv 2) (bF (K:=K) (n:=3) rfl rfl (aH (aJ (i:=3) sc.nd rfl (Or.inl rfl)) (aH (aJ (i:=4) sc.nd rfl (Or.inl rfl)) (aH (aJ (i:=5) sc.nd rfl (Or.inl rfl)) bD)))))
   (aF (cF (PW.pt (pw_and (bU op_eq (pv 3) dM (bW _)) (pw_and1 (cU (cQ G_may_pour hr (aA (pv 0) (aA (pv 1) (aA (pv 4) (aA (pv 5) aE))))))))) (aO (aX (cQ G_moment_poured hr (aA (pv 1) (aA (pv 4) (aA (pv 5) aE)))))) bH)
   (aF (cF (PW.pt (pw_and (bU op_eq (pv 3) dM (bW _)) (pw_and1 (cU (cQ G_is_whole hr (aA (pv 4) (aA aG (aA (cQ G_most_to_go hr (aA (pv 1) aE)) aE)))))))) (aF (cB (cQ G_moment_gone hr (aA (pv 0) (aA (pv 1) (aA (pv 4) aE)))) (bF (K:=K) (n:=2) rfl rfl (aH (aJ (i:=6) sc.nd rfl (Or.inl rfl)) (aH (aJ (i:=7) sc.nd rfl (Or.inl rfl)) bD))))
   (aO (aX (pe_ifExp (cU (cQ G_is_just hr (aA (pv 5) (aA (pv 7) aE)))) (pv 6) eO)))) bH)
   (aO (aX eO)))))),?_⟩
  obtain⟨a,wd,n,u,rfl,q,hr'⟩:=row_un hz
  refine⟨_,rfl,a,_,3,3,rfl,q,_,rfl,dU ?_⟩
  refine⟨_,rfl,a,_,rfl,q,rfl,_,_,rfl,_,_,rfl,_,_,rfl,rfl,?_⟩
  rcases hr' with ⟨am,rfl,rfl,rfl⟩ | ⟨ts,b,ys,rfl,rfl,rfl,qb,lb⟩
  ·refine⟨_,rfl,rfl,_,rfl,iteD rfl ?_⟩
   refine⟨_,rfl,_,rfl,_,rfl,_,rfl,x,y,net,m,n,am,rfl,hx,hy,mok,rok,_,rfl,eT ?_⟩
   obtain⟨v0,v1,a0,a1⟩:=rok
   exact⟨_,rfl,_,rfl,_,rfl,y,_,m,n,am,rfl,hy,mok.pl,nok.hi,v0,v1,fun p H' s ip=>k1 _ rfl p H' s ip⟩
  ·refine⟨_,rfl,rfl,_,rfl,eX (fun z=>absurd (of_decide_eq_true z) (by decide)) fun _=>dU ?_⟩
   obtain⟨n0,n1,t0⟩:=rok
   obtain⟨nn,rfl⟩:=Int.eq_ofNat_of_zero_le n0
   refine⟨_,rfl,rfl,_,rfl,iteD rfl ?_⟩
   refine⟨_,rfl,_,rfl,y,m,rfl,hy,_,_,_,rfl,_,rfl,?_⟩
   refine eX (fun _=>?_) fun z=>absurd (by rw[Bool.and_eq_true,decide_eq_true_eq,decide_eq_true_eq];constructor <;> omega) z
   refine⟨_,rfl,_,rfl,_,rfl,x,y,net,m,nn,rfl,hx,hy,nok,mok,by omega,fun p p1 p2 tvs H1 s1 qp ip qt lt=>?_⟩
   refine⟨p,_,rfl,qp,rfl,_,_,rfl,_,_,rfl,rfl,?_⟩
   have htl:=tipN_len (m:=m) nok nn
   refine⟨_,rfl,_,rfl,b,p2,ys,tvs,ts,_,rfl,s1.tup qb,L2.IsL.mono s1.ts _ _ lb,qt,lt,by omega,fun H2 s2=>⟨_,rfl,eX (fun hT=>?_) fun hF=>?_⟩⟩
   ·obtain⟨pa,_,_,rfl,_⟩:=mom_un ip
    exact⟨_,rfl,k1 _ (rowGo_yes (by simpa using hT)) pa _ (s1.trans s2) (Is.mono s2.ts _ _ ip)⟩
   ·exact k0 (rowGo_no (by simpa using hF)) _ (s1.trans s2)
noncomputable def spLie (K:PySem.W.Frag):Sp:=fun vs H Q _=>∃ (x:V) (l:Addr) (net:Net) (rows:List Row) (xs:List V),vs=[x,.ref l]∧Is K H (netD net) x∧NetOk net∧H l=some (.lst xs)∧IsL K H (rows.map rowD) xs∧RowsOk net (mom0 net) rows∧
 ∀ H',aK H H'→Q (lieV (lieOf net (mom0 net) rows)) H'
theorem sc_first_lie:FnScope ["net","book","moment","place","row"] ["net","book"] (aL (top 45)):=⟨rfl,rfl,rfl,by decide +kernel,rfl,by decide +kernel,by decide +kernel⟩
theorem ok_first_lie {f f1 f2:Addr}{fd fd1 fd2:FuncData} (F:Fun K "first_lie" "first_lie" (top 45) f fd) (T:Txt mg) (G_first_moment:Callee P w K mg base "first_moment" ["net"] 2 (spFirstMom K) f1 fd1)
  (G_moment_told:Callee P w K mg base "moment_told" ["net","moment","row"] 7 (spMomTold K) f2 fd2):FnOk P w K mg base CX0 8 f fd ["net","book"] (spLie K):=by
 refine F.ok sc_first_lie (fun vs H Q E h=>?_) (fun cdv A outer s H vs Q E hr h=>?_)
 ·obtain⟨x,l,net,rows,xs,rfl,_⟩:=h;rfl
 ·obtain⟨x,l,net,rows,xs,rfl,hx,nok,hl,lx,rok,k⟩:=h
  have sc:=sc_first_lie
  refine⟨_,(aF (bE (i:=2) sc.nd rfl (Or.inl rfl) (cQ G_first_moment hr (aA (pv 0) aE)))
   (aF (dB PassesOwn.never rfl (pi_enumK (K:=K) rfl rfl T.b_enumerate (aA (pv 1) aE)) (bF (K:=K) (n:=2) rfl rfl (aH (aJ (i:=3) sc.nd rfl (Or.inl rfl)) (aH (aJ (i:=4) sc.nd rfl (Or.inl rfl)) bD))) (aF (bE (i:=2) sc.nd rfl (Or.inl rfl) (cQ G_moment_told hr (aA (pv 0) (aA (pv 2) (aA (pv 4) aE)))))
   (aO (cF (bU op_isN (pv 2) eO (bW _)) (aO (aX (pv 3))) bH))))
   (aO (aX eO)))),?_⟩
  have exl:xs.length=rows.length:=by rw[lx.length,List.length_map]
  refine⟨_,rfl,x,net,rfl,hx,nok,fun p H1 s1 ip=>?_⟩
  refine⟨_,rfl,false,l,rfl,⟨_,bM.of (s1 _ _ hl)⟩,for_enum (K:=K) (t:=false) (a:=l) (xs:=xs)
   (fun i σ' H'=>aK H H'∧∃ (m:Mom) (p:Addr),MomOk net m∧RowsOk net m (rows.drop i)∧lieOf net (mom0 net) rows=(lieOf net m (rows.drop i)).map (· + i)∧Is K H' (momD m) (.ref p)∧∃ v3 v4,σ'=[some x,some (.ref l),some (.ref p),v3,v4])
   (fun i σ' H' p=>bM.of (p.1 _ _ hl)) ⟨s1,mom0 net,p,mom0_ok net,rok,by rw[List.drop_zero];cases lieOf net (mom0 net) rows <;> rfl,ip,none,none,rfl⟩ ?_ ?_⟩
  rotate_left
  ·rintro i y σ' H2 Tt hy ⟨sm,m,p,mok,rk,el,ip,v3,v4,rfl⟩ hT
   obtain⟨d,hd,iy⟩:=lx.get' hy
   rw[List.getElem?_map] at hd
   obtain⟨r,hr1,rfl⟩:=Option.map_eq_some_iff.mp hd
   have hil:=(List.getElem?_eq_some_iff.mp hr1).1
   have hdr:rows.drop i=r::rows.drop (i+1):=by
    rw[List.drop_eq_getElem_cons hil]
    congr 1
    rw[List.getElem?_eq_getElem hil] at hr1
    cases hr1;rfl
   rw[hdr] at rk el
   obtain⟨rk1,rk2⟩:=rk
   have mT:=aK.new (o:=HO.tup [.int (i:Int),y]) hT
   have sm2:=sm.trans mT
   refine⟨Tt,_,rfl,bT.of aD,rfl,_,_,rfl,_,_,rfl,rfl,?_⟩
   refine⟨_,rfl,_,rfl,_,rfl,x,_,y,net,m,r,rfl,Is.mono sm2.ts _ _ hx,Is.mono mT.ts _ _ ip,Is.mono sm2.ts _ _ iy,nok,mok,rk1,fun e0 H3 s3=>?_,fun m' e1 p' H3 s3 ip'=>?_⟩
   ·refine⟨_,rfl,rfl,_,rfl,eT ?_⟩
    have:lieOf net (mom0 net) rows=some i:=by
     rw[el,lieOf_no e0];simp
    have kk:=k H3 (sm2.trans s3)
    rw[this] at kk
    exact⟨_,rfl,kk⟩
   ·refine⟨_,rfl,rfl,_,rfl,dU ?_⟩
    refine⟨sm2.trans s3,m',p',mok.row e1,rk2 m' e1,?_,ip',_,_,rfl⟩
    rw[el,lieOf_yes e1,Option.map_map]
    cases lieOf net m' (rows.drop (i+1)) with
    | none=>rfl
    | some j=>show some (j+1+i)=some (j+(i+1));congr 1;omega
  ·rintro σ' H2 ⟨sm,m,p,mok,rk,el,ip,v3,v4,rfl⟩
   rw[exl,List.drop_length] at el
   have kk:=k H2 sm
   rw[el] at kk
   exact kk
end
end Tw
namespace L2
open PySem PySem.Spec PyProof.Rows TwZ
inductive G where
 | non
 | bl (b:Bool)
 | int (i:Int)
 | str (z:Str)
 | tup (gs:List G)
 | lst (gs:List G)
mutual
noncomputable def eqG:G→G→Bool
 | .non,.non=>true
 | .bl a,.bl b=>a == b
 | .bl a,.int b=>(if a then 1 else 0) == b
 | .int a,.bl b=>a == (if b then 1 else 0)
 | .int a,.int b=>a == b
 | .str a,.str b=>a == b
 | .tup a,.tup b=>eqGL a b
 | .lst a,.lst b=>eqGL a b
 | _,_=>false
noncomputable def eqGL:List G→List G→Bool
 | [],[]=>true
 | a::as,b::bs=>eqG a b && eqGL as bs
 | _,_=>false
end
mutual
theorem eqG_refl:∀ g:G,eqG g g=true
 | .non=>by rw[eqG]
 | .bl b=>by rw[eqG];simp
 | .int i=>by rw[eqG];simp
 | .str z=>by rw[eqG];simp
 | .tup gs=>by rw[eqG];exact eqGL_refl gs
 | .lst gs=>by rw[eqG];exact eqGL_refl gs
theorem eqGL_refl:∀ gs:List G,eqGL gs gs=true
 | []=>by rw[eqGL]
 | g::gs=>by rw[eqGL,eqG_refl g,eqGL_refl gs];rfl
end
section
variable {X:Cx}{pins:List (Addr×Obj)}{σ:St}{H:Hp}{s:Shared}
end
section
variable {X:Cx}{pins:List (Addr×Obj)}{σ:St}{H:Hp}{s:Shared}
end
section
variable {K:PySem.W.Frag}{H:Hp}
mutual
noncomputable def toG:D→G
 | .non=>.non
 | .bl b=>.bl b
 | .int i=>.int i
 | .str z=>.str z
 | .tup ds=>.tup (toGL ds)
noncomputable def toGL:List D→List G
 | []=>[]
 | d::ds=>toG d::toGL ds
end
end
end L2
namespace Tw
open PySem L2
noncomputable def Deed.few:Deed→Prop
 | .pour _ _=>True
 | .go k=>k≤41
theorem RunSz.up {S:RunS}{B B':Nat} (h:RunSz S B) (hb:B≤B'):RunSz S B':=⟨Nat.le_trans h.rows hb,Nat.le_trans h.pre hb,fun l hl=>Nat.le_trans (h.tips l hl) hb⟩
theorem deed_sz {S:RunS}{d:Deed}{B:Nat} (h:RunSz S B) (nok:NetOk S.net) (fw:d.few):RunSz (S.deed d) (B+600):=by
 cases d with
 | pour v a=>exact (h.pour v a).up (by omega)
 | go k=>
  have:k≤41:=fw
  exact (h.go nok k).up (by omega)
theorem deed_ok {S:RunS} (h:RunOk S) (d:Deed):RunOk (S.deed d):=by
 cases d with
 | pour v a=>exact h.pour v a
 | go k=>exact h.go k
theorem deed_net (S:RunS) (d:Deed):(S.deed d).net=S.net:=by cases d <;> rfl
section
variable {K:PySem.W.Frag}{C:Addr}{H:Hp}{r:Addr}{S:RunS}{fp:List Addr}
variable {t sl kl:Addr}{p:V}{net:Net}{l:List RunS}
theorem butL_ts {H':Hp}{fq:List Addr} (s:ButL fq H H') (hm:∀ b∈fq,Mut (H b)):bL K H H':=by
 intro b xs h
 have ne:∀ {o:HO},H b=some o→¬ Mut (some o)→b∉fq:=fun e n z=>by have:=hm b z;rw[e] at this;exact n this
 rcases h with (h | ⟨o,h⟩) | h
 ·exact .inl (.inl (s _ _ (ne h (fun z=>z)) h))
 ·exact .inl (.inr ⟨o,s _ _ (ne h (fun z=>z)) h⟩)
 ·exact .inr h
end
section
variable {K:PySem.W.Frag}{t sl:Addr}{σ:St}{H0:Hp}{a:TE}
end
end Tw
namespace Tw
open PySem L2
noncomputable def eN (net:Net) (ds:List Deed):RunS:=ds.foldl RunS.deed (run0 net)
theorem runD_snoc (net:Net) (ds:List Deed) (d:Deed):eN net (ds++[d])=(eN net ds).deed d:=by unfold eN;rw[List.foldl_append];rfl
noncomputable def bR (net:Net):Mom→List Deed→List Row
 | _,[]=>[]
 | m,.pour v a::ds=>.pour v a::bR net (m.pour v a) ds
 | m,.go k::ds=>.go (k:Int) (cK net m k)::bR net (d9 net m k) ds
noncomputable def momFrom (net:Net):Mom→List Deed→Mom
 | m,[]=>m
 | m,.pour v a::ds=>momFrom net (m.pour v a) ds
 | m,.go k::ds=>momFrom net (d9 net m k) ds
theorem fold_rows:∀ (ds:List Deed) (S:RunS),(ds.foldl RunS.deed S).rows=S.rows++bR S.net S.cur ds
 | [],S=>by simp [bR]
 | .pour v a::ds,S=>by
  rw[List.foldl_cons,fold_rows ds]
  show (S.rows++[Row.pour v a])++bR S.net (S.cur.pour v a) ds=S.rows++(Row.pour v a::bR S.net (S.cur.pour v a) ds)
  rw[List.append_assoc];rfl
 | .go k::ds,S=>by
  rw[List.foldl_cons,fold_rows ds]
  show (S.rows++[Row.go (k:Int) (cK S.net S.cur k)])++bR S.net (d9 S.net S.cur k) ds=S.rows++(Row.go (k:Int) (cK S.net S.cur k)::bR S.net (d9 S.net S.cur k) ds)
  rw[List.append_assoc];rfl
theorem runD_rows (net:Net) (ds:List Deed):(eN net ds).rows=bR net (mom0 net) ds:=by unfold eN;rw[fold_rows];rfl
theorem eqGL_tips:∀ ts us:List (Int×Nat),eqGL (toGL (ts.map tipD)) (toGL (us.map tipD))=true↔ts=us
 | [],[]=>by simp [toGL,eqGL]
 | [],_::_=>by simp [toGL,eqGL]
 | _::_,[]=>by simp [toGL,eqGL]
 | t::ts,u::us=>by
  rw[List.map_cons,List.map_cons,toGL,toGL,eqGL,Bool.and_eq_true,eqGL_tips ts us]
  have e:eqG (toG (tipD t)) (toG (tipD u))=true↔t=u:=by
   unfold tipD
   rw[toG,toG,eqG,toGL,toGL,toGL,toGL,toGL,toGL,toG,toG,toG,toG,eqGL,eqGL,eqGL,eqG,eqG,Bool.and_true,Bool.and_eq_true,beq_iff_eq,beq_iff_eq]
   constructor
   ·rintro⟨h1,h2⟩;exact Prod.ext h1 (by omega)
   ·intro h;rw[h];exact⟨rfl,rfl⟩
  rw[e]
  constructor
  ·rintro⟨rfl,rfl⟩;rfl
  ·intro h;cases h;exact⟨rfl,rfl⟩
noncomputable def rowEq (a b:Row):Bool:=eqG (toG (rowD a)) (toG (rowD b))
theorem rowEq_refl (a:Row):rowEq a a=true:=eqG_refl _
theorem rowEq_go {n:Int}{ts us:List (Int×Nat)}:rowEq (.go n ts) (.go n us)=true↔ts=us:=by
 unfold rowEq
 show eqG (toG (.tup [.str "go",.int n,.tup (ts.map tipD)])) (toG (.tup [.str "go",.int n,.tup (us.map tipD)]))=true↔_
 rw[← eqGL_tips ts us]
 simp [toG,toGL,eqG,eqGL]
noncomputable def offAt (A B:List Row) (i:Nat):Bool:=match A[i]?,B[i]? with
 | some a,some b=>!rowEq a b
 | _,_=>false
noncomputable def offs (A B:List Row):List Nat:=(List.range A.length).filter (offAt A B)
theorem offs_cons (a b:Row) (A B:List Row):offs (a::A) (b::B)=(if rowEq a b=true then [] else [0])++(offs A B).map (· + 1):=by
 unfold offs
 rw[List.length_cons,List.range_succ_eq_map,List.filter_cons,List.filter_map]
 have e0:offAt (a::A) (b::B) 0 = !rowEq a b:=rfl
 have e1:(offAt (a::A) (b::B) ∘ Nat.succ)=offAt A B:=by
  funext i
  unfold offAt
  show (match (a::A)[i+1]?,(b::B)[i+1]? with | some a,some b=>!rowEq a b | _,_=>false)=_
  rw[List.getElem?_cons_succ,List.getElem?_cons_succ]
 rw[e0,e1]
 cases rowEq a b <;> rfl
theorem lie_offs (net net':Net):∀ (ds:List Deed) (m m':Mom),lieOf net' m' (bR net m ds)=(offs (bR net m ds) (bR net' m' ds)).head?
 | [],m,m'=>rfl
 | .pour v a::ds,m,m'=>by
  have e:rowGo net' m' (.pour v a)=some (m'.pour v a):=rfl
  show lieOf net' m' (.pour v a::bR net (m.pour v a) ds)=(offs (.pour v a::bR net (m.pour v a) ds) (.pour v a::bR net' (m'.pour v a) ds)).head?
  rw[lieOf_yes e,offs_cons,if_pos (rowEq_refl _),List.nil_append,List.head?_map,lie_offs net net' ds]
 | .go k::ds,m,m'=>by
  show lieOf net' m' (.go (k:Int) (cK net m k)::bR net (d9 net m k) ds)=(offs (.go (k:Int) (cK net m k)::bR net (d9 net m k) ds) (.go (k:Int) (cK net' m' k)::bR net' (d9 net' m' k) ds)).head?
  rw[offs_cons]
  by_cases h:cK net m k=cK net' m' k
  ·have e:rowGo net' m' (.go (k:Int) (cK net m k))=some (d9 net' m' k):=rowGo_yes (by rw[Int.toNat_natCast];exact h)
   rw[lieOf_yes e,if_pos (rowEq_go.2 h),List.nil_append,List.head?_map,lie_offs net net' ds]
  ·have e:rowGo net' m' (.go (k:Int) (cK net m k))=none:=rowGo_no (by rw[Int.toNat_natCast];exact h)
   rw[lieOf_no e,if_neg (fun z=>h (rowEq_go.1 z))];rfl
theorem offAt_self (A:List Row) (i:Nat):offAt A A i=false:=by
 unfold offAt
 cases A[i]? with
 | none=>rfl
 | some a=>show (!rowEq a a)=false;rw[rowEq_refl];rfl
theorem offs_self (A:List Row):offs A A=[]:=by
 unfold offs
 rw[List.filter_eq_nil_iff]
 intro i _ h
 rw[offAt_self] at h;cases h
theorem getD_set (l:List Int) (i j:Nat) (x:Int):(l.set i x).getD j 0=if i=j∧i < l.length then x else l.getD j 0:=by
 rw[List.getD_eq_getElem?_getD,List.getD_eq_getElem?_getD,List.getElem?_set]
 by_cases h:i=j
 ·subst h
  by_cases h2:i < l.length
  ·rw[if_pos rfl,if_pos h2,if_pos ⟨rfl,h2⟩];rfl
  ·rw[if_pos rfl,if_neg h2,if_neg (fun z=>h2 z.2),List.getElem?_eq_none (by omega)]
 ·rw[if_neg h,if_neg (fun z=>h z.1)]
theorem zeros_getD (n i:Nat):(zeros n).getD i 0=0:=by
 unfold zeros
 rw[List.getD_eq_getElem?_getD,List.getElem?_replicate]
 split <;> rfl
end Tw
namespace Tw
open PySem L2
end Tw
namespace L2
open PySem PySem.Spec PyProof.Rows TwZ
section
variable {X:Cx}
end
end L2
namespace Tw
open PySem L2
section
variable {K:PySem.W.Frag}{H:Hp}
end
section
variable {P:Program}{w:World}{K:PySem.W.Frag}{mg:Str→Option Value}{base:Heap}{C:Addr}
end
end Tw
namespace Tw
open PySem L2
section
variable {K:PySem.W.Frag}{C:Addr}{H:Hp}
end
section
variable {P:Program}{w:World}{K:PySem.W.Frag}{mg:Str→Option Value}{base:Heap}{C:Addr}
end
end Tw
namespace Tw
open PySem L2
section
variable {K:PySem.W.Frag}{C:Addr}{H H':Hp}
variable {r h tt:Addr}{ts fp:List Addr}{st p:V}{net:Net}{S:RunS}
end
end Tw
namespace Tw
open PySem L2
noncomputable def bI (b:Bool):Int:=if b then 1 else 0
noncomputable def two {α:Type} (f:Bool→α):List α:=[f false,f true]
noncomputable def put {α:Type} (f:Bool→α) (b:Bool) (x:α):Bool→α:=fun c=>if c=b then x else f c
theorem put_same {α:Type}{f:Bool→α}{b:Bool}{x:α}:put f b x b=x:=if_pos rfl
theorem put_ne {α:Type}{f:Bool→α}{b c:Bool}{x:α} (h:c≠b):put f b x c=f c:=if_neg h
theorem cR (f:Bool→V) (b:Bool):atI (two f) (bI b)=some (f b):=by cases b <;> rfl
theorem bI_of {n:Int} (h0:0≤n) (h1:n < 2):∃ b,n=bI b:=by
 rcases (show n=0∨n=1 by omega) with rfl | rfl
 ·exact⟨false,rfl⟩
 ·exact⟨true,rfl⟩
theorem ne_not {b c:Bool} (h:c≠b):c = !b:=by cases b <;> cases c <;> simp_all
section
variable {K:PySem.W.Frag}{C:Addr}{H H':Hp}{t sl nl rl ql hl gl cl tl ol:Addr}{r h tt:Bool→Addr}{ts fp:Bool→List Addr}{st p:Bool→V}{net:Bool→Net}{S:Bool→RunS}{B:Nat}
end
section
variable {K:PySem.W.Frag}{H:Hp}
theorem lc_two {te:TE}{fr:List (Option Nat)}{σ:St}{Q:Addr→Hp→Prop}{nl:Addr}{x y:V} (hfr:frσ fr σ=[none]) (hl:H nl=some (.lst [x,y]))
  (k:∀ D,H D=none→te [some x] (upd H D (.lst [])) fun y0 H5=>H5 D=some (.lst [])∧0 < sizeLine∧bM K (upd H5 D (.lst [y0])) nl [x,y]∧([some x]:St)=[some x]∧
   te [some y] (upd H5 D (.lst [y0])) fun y1 H6=>H6 D=some (.lst [y0])∧1 < sizeLine∧bM K (upd H6 D (.lst [y0,y1])) nl [x,y]∧Q D (upd H6 D (.lst [y0,y1]))) :
  lcRest (Itl K nl) (eZ 0) tYes te fr σ H Q:=by
 refine lc_list (K:=K) (a:=nl) (xs:=[x,y]) (fun D i ys σ' H'=>bM K H' nl [x,y]∧match i with
   | 0=>H D=none∧ys=[]∧σ'=[none]∧H'=upd H D (.lst [])
   | 1=>σ'=[some x]∧te [some y] H' fun y1 H6=>H6 D=some (.lst ys)∧ys.length < sizeLine∧bM K (upd H6 D (.lst (ys++[y1]))) nl [x,y]∧Q D (upd H6 D (.lst (ys++[y1])))
   | _=>Q D H') (fun _ _ _ _ _ p=>p.1) ?_ ?_ ?_
 ·intro D hD
  exact⟨bM.of (aK.new hD _ _ hl),hD,rfl,hfr,rfl⟩
 ·rintro D ys σ' H' ⟨_,q⟩
  exact q
 ·rintro D i z ys σ' H' hz ⟨q,p⟩
  rcases i with _ | _ | i
  ·obtain⟨hD,rfl,rfl,rfl⟩:=p
   cases hz
   refine cS ?_
   exact k D hD
  ·obtain⟨rfl,p⟩:=p
   cases hz
   refine cS ?_
   exact p
  ·cases hz
end
end Tw
namespace Tw
open PySem L2
noncomputable def Gr (H H':Hp):Prop:=∀ x o,H x=some o→∃ o',H' x=some o'
theorem Gr.refl (H:Hp):Gr H H:=fun x o e=>⟨o,e⟩
theorem Gr.trans {H H1 H2:Hp} (a:Gr H H1) (b:Gr H1 H2):Gr H H2:=fun x o e=>by obtain⟨o',e'⟩:=a x o e;exact b x o' e'
theorem Gr.of {H H':Hp} (s:aK H H'):Gr H H':=fun x o e=>⟨o,s x o e⟩
theorem Gr.upd {H:Hp}{a:Addr}{o:HO}:Gr H (upd H a o):=fun x o' e=>by
 by_cases z:x=a
 ·subst z;exact⟨o,aD⟩
 ·exact⟨o',by rw[aP z];exact e⟩
theorem Gr.free {H H':Hp} (s:Gr H H') {x:Addr} (h:H' x=none):H x=none:=by
 cases q:H x with
 | none=>rfl
 | some o=>obtain⟨o',e⟩:=s x o q;rw[h] at e;cases e
structure Fr (H0 H:Hp) (G:List (List Addr)):Prop where
 sm:Gr H0 H
 nw:∀ g∈G,∀ x∈g,H0 x=none∧∃ o,H x=some o
 dj:G.Pairwise fun a b=>∀ x∈a,x∉b
theorem Fr.nil (H:Hp):Fr H H []:=⟨Gr.refl H,fun g h=>(nomatch h),.nil⟩
theorem Fr.same {H0 H H':Hp}{G:List (List Addr)} (f:Fr H0 H G) (s:Gr H H'):Fr H0 H' G:=⟨f.sm.trans s,fun g hg x hx=>⟨(f.nw g hg x hx).1,by obtain⟨o,e⟩:=(f.nw g hg x hx).2;exact s _ _ e⟩,f.dj⟩
theorem Fr.add {H0 H H':Hp}{G:List (List Addr)}{g:List Addr} (f:Fr H0 H G) (s:Gr H H') (hg:∀ x∈g,H x=none∧∃ o,H' x=some o):Fr H0 H' (g::G):=by
 refine⟨f.sm.trans s,fun a ha x hx=>?_,.cons (fun b hb x hx hxb=>?_) f.dj⟩
 ·rcases List.mem_cons.1 ha with rfl | ha
  ·exact⟨f.sm.free (hg x hx).1,(hg x hx).2⟩
  ·exact (f.same s).nw a ha x hx
 ·obtain⟨o,e⟩:=(f.nw b hb x hxb).2
  rw[(hg x hx).1] at e;cases e
theorem Fr.old {H0 H:Hp}{G:List (List Addr)}{g:List Addr} (f:Fr H0 H G) {x:Addr}{o:HO} (hx:H0 x=some o) (hg:g∈G):x∉g:=fun z=>by
 rw[(f.nw g hg x z).1] at hx;cases hx
theorem pw_at {α:Type}{R:α→α→Prop}:∀ {G:List α}{i j:Nat}{a b:α},G.Pairwise R→i < j→G[i]? = some a→G[j]? = some b→R a b
 | [],i,j,a,b,_,_,h,_=>by simp at h
 | c::G,0,j+1,a,b,.cons hc _,_,h1,h2=>by
  have:c=a:=by simpa using h1
  subst this
  exact hc b (List.mem_of_getElem? (show G[j]? = some b from by simpa using h2))
 | c::G,i+1,j+1,a,b,.cons _ hp,hij,h1,h2=>pw_at (i:=i) (j:=j) hp (by omega) (by simpa using h1) (by simpa using h2)
theorem Fr.at {H0 H:Hp}{G:List (List Addr)}{i j:Nat}{a b:List Addr} (f:Fr H0 H G) (hij:i≠j) (h1:G[i]? = some a) (h2:G[j]? = some b):∀ x∈a,x∉b:=by
 intro x hx hxb
 rcases Nat.lt_or_gt_of_ne hij with h | h
 ·exact pw_at f.dj h h1 h2 x hx hxb
 ·exact pw_at f.dj h h2 h1 x hxb hx
section
variable {K:PySem.W.Frag}{C:Addr}
theorem mk_run {U:Hp}{D:Addr}{x:V}{net:Net}{ys:List V}{Q:VK} (hx:Is K U (netD net) x) (nok:NetOk net) (nfu:NetFull net) (hD:U D=some (.lst ys))
  (k:∀ r fp H5,U r=none→(∀ b∈fp,U b=none)→aK U H5→cL K C H5 r (run0 net) fp→D≠r→D∉fp→Q (.ref r) H5):tMake C (spInit K C) [] E0 (dQ (d6 0) tNil) [some x] U Q:=by
 refine⟨_,rfl,fun r dx hr hdx ndx=>?_⟩
 have m1:aK U (upd (upd U dx (.own r)) r (.ins C dx [])):=fun b o e=>by
  rw[aP (aQ e hr),aP (aQ e hdx)];exact e
 refine⟨r,dx,x,net,rfl,aD,Is.mono m1.ts _ _ hx,nok,nfu,fun fp H5 hfp bt ra=>⟨rfl,?_⟩⟩
 have ff:∀ b∈fp,U b=none:=fun b hb=>m1.free (hfp b hb)
 exact k r fp H5 hr ff (fun b o e=>bt b o (aQ e hr) (m1 b o e)) ra (aQ hD hr) fun z=>by rw[ff D z] at hD;cases hD
end
noncomputable def sel {α:Type} (a b:α):Bool→α:=fun c=>if c then b else a
section
variable {K:PySem.W.Frag}{H:Hp}
theorem lc_twoS {te:TE}{fr:List (Option Nat)}{σ:St}{Q:Addr→Hp→Prop}{nl:Addr}{p:Bool→V} (A:Bool→V→Hp→Hp→Prop) (hfr:frσ fr σ=[none]) (hl:H nl=some (.lst (two p)))
  (ke:∀ (b:Bool) (U:Hp) (Q1:VK),aK H U→(∀ w U',aK U U'→A b w U U'→Q1 w U')→te [some (p b)] U Q1)
  (k:∀ (D:Addr) (y0 y1:V) (U0 H5 U1 H6 H':Hp),H D=none→U0=upd H D (.lst [])→aK U0 H5→A false y0 U0 H5→U1=upd H5 D (.lst [y0])→aK U1 H6→A true y1 U1 H6→H'=upd H6 D (.lst [y0,y1])→aK H H'→Q D H') :
  lcRest (Itl K nl) (eZ 0) tYes te fr σ H Q:=by
 refine lc_two (x:=p false) (y:=p true) hfr hl fun D hD=>?_
 have sU:=aK.new (o:=HO.lst []) hD
 have gU:upd H D (.lst []) D=some (.lst []):=aD
 refine ke false _ _ sU fun y0 H5 s5 a0=>?_
 have g5:=s5 _ _ gU
 have s5':aK H (upd H5 D (.lst [y0])):=(sU.trans s5).put hD
 have g5':upd H5 D (.lst [y0]) D=some (.lst [y0]):=aD
 refine⟨g5,by decide,bM.of (s5' _ _ hl),rfl,?_⟩
 refine ke true _ _ s5' fun y1 H6 s6 a1=>?_
 have g6:=s6 _ _ g5'
 have s6':aK H (upd H6 D (.lst [y0,y1])):=(s5'.trans s6).put hD
 exact⟨g6,by decide,bM.of (s6' _ _ hl),k D y0 y1 _ H5 _ H6 _ hD rfl s5 a0 rfl s6 a1 rfl s6'⟩
end
section
variable {K:PySem.W.Frag}{C:Addr}{H H':Hp}{t sl nl rl ql hl gl cl tl ol:Addr}{r h tt:Bool→Addr}{ts fp:Bool→List Addr}{st p:Bool→V}{net:Bool→Net}{S:Bool→RunS}{B:Nat}
end
end Tw
namespace Tw
open PySem L2
theorem fold_cur:∀ (ds:List Deed) (S:RunS),(ds.foldl RunS.deed S).cur=momFrom S.net S.cur ds
 | [],S=>rfl
 | .pour v a::ds,S=>by rw[List.foldl_cons,fold_cur ds];rfl
 | .go k::ds,S=>by rw[List.foldl_cons,fold_cur ds];rfl
theorem runD_cur (net:Net) (ds:List Deed):(eN net ds).cur=momFrom net (mom0 net) ds:=by unfold eN;rw[fold_cur];rfl
noncomputable def rowOf (net:Net) (m:Mom):Deed→Row
 | .pour v a=>.pour v a
 | .go k=>.go (k:Int) (cK net m k)
noncomputable def momOf (net:Net) (m:Mom):Deed→Mom
 | .pour v a=>m.pour v a
 | .go k=>d9 net m k
theorem rowGo_own (net:Net) (m:Mom) (d:Deed):rowGo net m (rowOf net m d)=some (momOf net m d):=by
 cases d with
 | pour v a=>rfl
 | go k=>exact rowGo_yes (n:=(k:Int)) (by rw[Int.toNat_natCast])
theorem eQ (net:Net) (m:Mom) (d:Deed) (ds:List Deed):bR net m (d::ds)=rowOf net m d::bR net (momOf net m d) ds:=by cases d <;> rfl
theorem momFrom_cons (net:Net) (m:Mom) (d:Deed) (ds:List Deed):momFrom net m (d::ds)=momFrom net (momOf net m d) ds:=by cases d <;> rfl
theorem rowsOk_snoc (net:Net):∀ (ds:List Deed) (m:Mom) (d:Deed),RowsOk net m (bR net m ds)→RowOk net (momFrom net m ds) (rowOf net (momFrom net m ds) d)→RowsOk net m (bR net m (ds++[d]))
 | [],m,d,_,h=>by
  rw[List.nil_append,eQ]
  exact⟨h,fun m' _=>trivial⟩
 | c::ds,m,d,h,h2=>by
  rw[eQ] at h
  rw[momFrom_cons] at h2
  rw[List.cons_append,eQ]
  refine⟨h.1,fun m' e=>?_⟩
  rw[rowGo_own] at e
  cases e
  exact rowsOk_snoc net ds _ d (h.2 _ (rowGo_own net m c)) h2
theorem rowsOk_pre (net:Net):∀ (ds:List Deed) (m:Mom) (d:Deed),RowsOk net m (bR net m (ds++[d]))→RowsOk net m (bR net m ds)
 | [],m,d,_=>trivial
 | c::ds,m,d,h=>by
  rw[List.cons_append,eQ] at h
  rw[eQ]
  refine⟨h.1,fun m' e=>?_⟩
  rw[rowGo_own] at e
  cases e
  exact rowsOk_pre net ds _ d (h.2 _ (rowGo_own net m c))
structure MomC (m:Mom):Prop where
 po:∀ i,m.poured.getD i 0≤1000
 t0:0≤m.tick
 t1:m.tick≤3000
theorem momC_of (net:Net):∀ (ds:List Deed) (m:Mom),MomC m→RowsOk net m (bR net m ds)→MomC (momFrom net m ds)
 | [],m,h,_=>h
 | .pour v a::ds,m,h,hr=>by
  refine momC_of net ds (m.pour v a) ⟨fun i=>?_,h.t0,h.t1⟩ (hr.2 _ rfl)
  obtain⟨v0,v1,a0,a1⟩:=hr.1
  show (List.set _ _ _).getD i 0≤_
  rw[getD_set]
  split
  ·exact a1
  ·exact h.po i
 | .go k::ds,m,h,hr=>by
  obtain⟨n0,n1,t0⟩:=hr.1
  have e:=rowGo_own net m (.go k)
  refine momC_of net ds (d9 net m k) ⟨fun i=>?_,?_,?_⟩ (hr.2 _ e)
  ·cases k with
   | zero=>exact h.po i
   | succ k=>show (zeros net.vs.length).getD i 0≤_;rw[zeros_getD];omega
  ·rw[momN_tick];omega
  ·rw[momN_tick];omega
theorem mom0_c (net:Net):MomC (mom0 net):=⟨fun i=>by show (zeros _).getD i 0≤_;rw[zeros_getD];omega,Int.le_refl _,by show (0:Int)≤3000;omega⟩
structure OkD (net:Net) (ds:List Deed):Prop where
 few:∀ d∈ds,d.few
 rows:RowsOk net (mom0 net) (bR net (mom0 net) ds)
theorem OkD.nil (net:Net):OkD net []:=⟨fun d h=>(nomatch h),trivial⟩
theorem OkD.pre {net:Net}{ds:List Deed}{d:Deed} (h:OkD net (ds++[d])):OkD net ds:=⟨fun d' h'=>h.few d' (List.mem_append_left _ h'),rowsOk_pre net ds _ d h.rows⟩
theorem OkD.snoc {net:Net}{ds:List Deed}{d:Deed} (h:OkD net ds) (fw:d.few) (r:RowOk net (eN net ds).cur (rowOf net (eN net ds).cur d)):OkD net (ds++[d]):=
 ⟨fun d' h'=>by
  rcases List.mem_append.1 h' with z | z
  ·exact h.few d' z
  ·have:=List.mem_singleton.1 z;subst this;exact fw,rowsOk_snoc net ds _ d h.rows (by rw[runD_cur] at r;exact r)⟩
theorem OkD.cur {net:Net}{ds:List Deed} (h:OkD net ds):MomC (eN net ds).cur:=by rw[runD_cur];exact momC_of net ds _ (mom0_c net) h.rows
theorem runD_factsF {net:Net} (nok:NetOk net):∀ (n:Nat) {ds:List Deed},ds.length=n→(∀ d∈ds,d.few)→RunOk (eN net ds)∧(eN net ds).net=net∧RunSz (eN net ds) (600 * n):=by
 intro n
 induction n with
 | zero=>
  intro ds hl _
  have:=List.eq_nil_of_length_eq_zero hl
  subst this
  exact⟨run0_ok nok,rfl,run0_sz net⟩
 | succ n ih=>
  intro ds hl hd
  obtain⟨l,d,rfl⟩:∃ l d,ds=l++[d]:=by
   have hne:ds≠[]:=fun z=>by rw[z] at hl;simp at hl
   exact⟨ds.dropLast,ds.getLast hne,(List.dropLast_concat_getLast hne).symm⟩
  rw[List.length_append,List.length_singleton] at hl
  obtain⟨h1,h2,h3⟩:=ih (ds:=l) (by omega) fun d h=>hd d (List.mem_append_left _ h)
  rw[runD_snoc]
  exact⟨deed_ok h1 d,by rw[deed_net];exact h2,(deed_sz h3 h1.nok (hd d (by simp))).up (by omega)⟩
section
variable {K:PySem.W.Frag}{C:Addr}{H H':Hp}
noncomputable def Av2 (t:Addr) (kl:Bool→Addr) (fp:Bool→List Addr):Addr→Prop:=fun x=>x≠t∧∀ b,x≠kl b∧x∉fp b
structure Sd (K:PySem.W.Frag) (C:Addr) (H:Hp) (A:Addr→Prop) (r kl:Addr) (fp:List Addr) (p:V) (net:Net) (ds:List Deed):Prop where
 hp:Is K H (netD net) p
 ra:cL K C H r (eN net ds) fp
 nok:NetOk net
 kv:∃ kvs,H kl=some (.lst kvs)∧kvs.length=ds.length+1∧∀ (i:Nat) (v:V),kvs[i]? = some v→Kept K H A (eN net (ds.take i)) v
 ok:OkD net ds
theorem Sd.keep {A:Addr→Prop}{r kl:Addr}{fp:List Addr}{p:V}{net:Net}{ds:List Deed} (h:Sd K C H A r kl fp p net ds) (ts:bL K H H') (ra:cL K C H' r (eN net ds) fp) (ek:∀ o,H kl=some o→H' kl=some o) (ka:∀ x o,A x→H x=some o→H' x=some o) :
  Sd K C H' A r kl fp p net ds:=
 { h with hp:=Is.mono ts _ _ h.hp,ra:=ra,kv:=match h.kv with
   | ⟨kvs,e,hl,hk⟩=>⟨kvs,ek _ e,hl,fun i v h1=>(hk i v h1).keep ts ka⟩ }
theorem Sd.facts {A:Addr→Prop}{r kl:Addr}{fp:List Addr}{p:V}{net:Net}{ds:List Deed} (h:Sd K C H A r kl fp p net ds):RunOk (eN net ds)∧(eN net ds).net=net∧RunSz (eN net ds) (600 * ds.length):=runD_factsF h.nok _ rfl h.ok.few
theorem Sd.top {A:Addr→Prop}{r kl:Addr}{fp:List Addr}{p:V}{net:Net}{ds:List Deed} (h:Sd K C H A r kl fp p net ds):∃ kvs kv,H kl=some (.lst (kvs++[kv]))∧kvs.length=ds.length∧Kept K H A (eN net ds) kv∧∀ (i:Nat) (v:V),kvs[i]? = some v→Kept K H A (eN net (ds.take i)) v:=by
 obtain⟨kvs,e,hl,hk⟩:=h.kv
 have hne:kvs≠[]:=fun z=>by rw[z] at hl;simp at hl
 obtain⟨ys,y,rfl⟩:∃ ys y,kvs=ys++[y]:=⟨kvs.dropLast,kvs.getLast hne,(List.dropLast_concat_getLast hne).symm⟩
 rw[List.length_append,List.length_singleton] at hl
 refine⟨ys,y,e,by omega,?_,fun i v h1=>hk i v (by rw[List.getElem?_append_left (List.getElem?_eq_some_iff.mp h1).1];exact h1)⟩
 have:=hk ys.length y (by rw[List.getElem?_append_right (Nat.le_refl _),Nat.sub_self];rfl)
 rw[List.take_of_length_le (by omega)] at this
 exact this
structure L38 (K:PySem.W.Frag) (C:Addr) (H:Hp) (t sl nl rl kk:Addr) (r kl:Bool→Addr) (fp:Bool→List Addr) (p:Bool→V) (net:Bool→Net) (ds:Bool→List Deed):Prop where
 tp:eU H t sl
 hn:H nl=some (.lst (two p))
 hr:H rl=some (.lst (two fun b=>.ref (r b)))
 hk:H kk=some (.lst (two fun b=>.ref (kl b)))
 sd:∀ b,Sd K C H (Av2 t kl fp) (r b) (kl b) (fp b) (p b) (net b) (ds b)
 of:∀ b,∀ x∈[t,sl,nl,rl,kk,kl false,kl true],x∉fp b
 dj:∀ b x,x∈fp b→x∉fp (!b)
 nd:∀ b,∀ x∈[t,sl,nl,rl,kk,kl (!b)],x≠kl b
 nt:∀ x∈[nl,rl,kk],x≠t
variable {t sl nl rl kk:Addr}{r kl:Bool→Addr}{fp:Bool→List Addr}{p:Bool→V}{net:Bool→Net}{ds:Bool→List Deed}
theorem L38.same (h:L38 K C H t sl nl rl kk r kl fp p net ds) (s:aK H H'):L38 K C H' t sl nl rl kk r kl fp p net ds:=
 { h with tp:=h.tp.same s,hn:=s _ _ h.hn,hr:=s _ _ h.hr,hk:=s _ _ h.hk,sd:=fun b=>(h.sd b).keep s.ts ((h.sd b).ra.same s) (fun o e=>s _ _ e) fun x o _ e=>s _ _ e }
theorem L38.tr (h:L38 K C H t sl nl rl kk r kl fp p net ds) (b:Bool):t≠r b:=by
 obtain⟨dx,np,R,M,T,e⟩:=(h.sd b).ra.ins
 obtain⟨ns,pos,cell,e2,_⟩:=h.tp
 exact fun z=>by rw[z,e] at e2;cases e2
theorem L38.draw (h:L38 K C H t sl nl rl kk r kl fp p net ds) (b:cY t H H') (tp':eU H' t sl):L38 K C H' t sl nl rl kk r kl fp p net ds:=
 { h with tp:=tp',hn:=b _ _ (h.nt _ (by simp)) h.hn,hr:=b _ _ (h.nt _ (by simp)) h.hr,hk:=b _ _ (h.nt _ (by simp)) h.hk,sd:=fun c=>(h.sd c).keep (b.ts h.tp.mut) ((h.sd c).ra.but b h.tp.mut (h.tr c) (h.of c t (by simp))) (fun o e=>b _ _ (fun z=>h.nd c t (by simp) z.symm) e) fun x o hx e=>b _ _ hx.1 e }
theorem mem_kl (b:Bool) {t sl nl rl kk:Addr}{kl:Bool→Addr}:kl b∈[t,sl,nl,rl,kk,kl false,kl true]:=by cases b <;> simp
theorem L38.chg {b:Bool}{ds':List Deed} (h:L38 K C H t sl nl rl kk r kl fp p net ds) (k:∀ x o,x∉fp b→x≠kl b→H x=some o→H' x=some o) (sd':Sd K C H' (Av2 t kl fp) (r b) (kl b) (fp b) (p b) (net b) ds') :
  L38 K C H' t sl nl rl kk r kl fp p net (put ds b ds'):=by
 have bl:ButL (kl b::fp b) H H':=fun x o hx e=>k x o (fun z=>hx (List.mem_cons_of_mem _ z)) (fun z=>hx (by rw[z];exact List.mem_cons_self)) e
 have hm:∀ x∈kl b::fp b,Mut (H x):=fun x hx=>by
  rcases List.mem_cons.1 hx with rfl | hx
  ·obtain⟨kvs,e,_⟩:=(h.sd b).kv;rw[e];exact trivial
  ·exact (h.sd b).ra.mut x hx
 have ts:bL K H H':=butL_ts bl hm
 have ko:∀ x∈[t,sl,nl,rl,kk],∀ o,H x=some o→H' x=some o:=fun x hx o e=>by
  refine k x o (h.of b x ?_) (h.nd b x ?_) e
  ·simp only [List.mem_cons,List.not_mem_nil,or_false] at hx ⊢
   rcases hx with z | z | z | z | z <;> simp [z]
  ·simp only [List.mem_cons,List.not_mem_nil,or_false] at hx ⊢
   rcases hx with z | z | z | z | z <;> simp [z]
 refine { h with tp:=?_,hn:=ko _ (by simp) _ h.hn,hr:=ko _ (by simp) _ h.hr,hk:=ko _ (by simp) _ h.hk,sd:=fun c=>?_ }
 ·obtain⟨ns,pos,cell,et,es,g⟩:=h.tp
  exact⟨ns,pos,cell,ko _ (by simp) _ et,ko _ (by simp) _ es,g⟩
 ·by_cases hc:c=b
  ·subst hc;rw[put_same];exact sd'
  ·rw[put_ne hc]
   have:=ne_not hc
   subst this
   have o:=h.sd (!b)
   refine o.keep ts (o.ra.butL bl hm ?_ fun x hx z=>?_) (fun q e=>k _ _ (h.of b _ (mem_kl _)) (h.nd b _ (by simp)) e) fun x q hx e=>k x q (hx.2 b).2 (hx.2 b).1 e
   ·intro z
    have:∃ xs,H (r (!b))=some (.lst xs):=by
     rcases List.mem_cons.1 z with z | z
     ·obtain⟨kvs,e,_⟩:=(h.sd b).kv;exact⟨kvs,by rw[z];exact e⟩
     ·exact (h.sd b).ra.lists _ z
    obtain⟨xs,e⟩:=this
    obtain⟨dx,np,R,M,T,ei⟩:=o.ra.ins
    rw[ei] at e;cases e
   ·rcases List.mem_cons.1 z with rfl | z
    ·exact h.of (!b) _ (mem_kl b) hx
    ·exact h.dj b x z hx
theorem rk_ne {b:Bool} (h:L38 K C H t sl nl rl kk r kl fp p net ds):kl b≠r b:=fun z=>by
 obtain⟨dx,np,R,M,T,ei⟩:=(h.sd b).ra.ins
 obtain⟨kvs,e,_⟩:=(h.sd b).kv
 rw[z,ei] at e;cases e
theorem L38.gone {b:Bool}{H1 H2:Hp}{d:Deed}{u:V}{Q:VK} (h:L38 K C H t sl nl rl kk r kl fp p net ds) (bb:ButL (fp b) H H1) (ra:cL K C H1 (r b) ((eN (net b) (ds b)).deed d) (fp b)) (s2:aK H1 H2) (iu:Is K H2 (deedD d) u)
  (fw:d.few) (rok:RowOk (net b) (eN (net b) (ds b)).cur (rowOf (net b) (eN (net b) (ds b)).cur d)) (hlen:(ds b).length < 1000) (k:∀ H3,L38 K C H3 t sl nl rl kk r kl fp p net (put ds b (ds b++[d]))→Q .non H3) :
  ∃ kvs kv,H1 (kl b)=some (.lst (kvs++[kv]))∧spGone K [p b,kv,u] H2 (fun kv' H3=>rAppend (.ref (kl b)) [kv'] H3 Q) E0:=by
 have sb:=h.sd b
 obtain⟨kvs,kv,e,hl,hk,hks⟩:=sb.top
 obtain⟨sok,en,sz⟩:=sb.facts
 have ts1:bL K H H1:=butL_ts bb sb.ra.mut
 have kf:=h.of b _ (mem_kl b)
 have e1:=bb _ _ kf e
 have dok:DeedOk (eN (net b) (ds b)) d:=by
  cases d with
  | pour v a=>obtain⟨v0,v1,_⟩:=rok;exact⟨v0,by rw[en];exact v1⟩
  | go n=>have h41:n≤41:=fw;exact (show n≤10000 by omega)
 refine⟨kvs,kv,e1,p b,kv,u,eN (net b) (ds b),d,Av2 t kl fp,600 * (ds b).length,rfl,?_,sok,?_,sz,by omega,iu,dok,fun kv' H3 s3 kp3=>?_⟩
 ·rw[en];exact Is.mono s2.ts _ _ (Is.mono ts1 _ _ sb.hp)
 ·exact (hk.keep ts1 fun c o hc q=>bb _ _ (hc.2 b).2 q).same s2
 have s13:=s2.trans s3
 have e3:=s13 _ _ e1
 refine⟨kl b,kvs++[kv],kv',rfl,rfl,e3,eA (by rw[List.length_append,List.length_singleton];omega),k _ ?_⟩
 have mu:Mut (H3 (kl b)):=by rw[e3];exact trivial
 have b4:cY (kl b) H3 (upd H3 (kl b) (.lst (kvs++[kv]++[kv']))):=cY.upd
 have ts4:=b4.ts (K:=K) mu
 have tsA:=(ts1.trans s13.ts).trans ts4
 have kA:∀ x o,x∉fp b→x≠kl b→H x=some o→upd H3 (kl b) (.lst (kvs++[kv]++[kv'])) x=some o:=fun x o h1 h2 q=>b4 _ _ h2 (s13 _ _ (bb _ _ h1 q))
 have old:∀ {S':RunS}{v:V},Kept K H (Av2 t kl fp) S' v→Kept K (upd H3 (kl b) (.lst (kvs++[kv]++[kv']))) (Av2 t kl fp) S' v:=fun q=>
  q.keep tsA fun c o hc e=>kA c o (hc.2 b).2 (hc.2 b).1 e
 have tk:∀ i,i≤(ds b).length→(ds b++[d]).take i=(ds b).take i:=fun i hi=>List.take_append_of_le_length hi
 refine h.chg kA { hp:=Is.mono tsA _ _ sb.hp,ra:=by rw[runD_snoc];exact (ra.same s13).but b4 mu (rk_ne h) kf,nok:=sb.nok,kv:=⟨_,aD,?_,fun i v h1=>?_⟩,ok:=sb.ok.snoc fw rok }
 ·rw[List.length_append,List.length_append,List.length_append,List.length_singleton,List.length_singleton,List.length_singleton];omega
 ·by_cases hi:i < (kvs++[kv]).length
  ·rw[List.getElem?_append_left hi] at h1
   rw[List.length_append,List.length_singleton] at hi
   rw[tk i (by omega)]
   by_cases hi':i < kvs.length
   ·rw[List.getElem?_append_left hi'] at h1
    exact old (hks i v h1)
   ·have:i=kvs.length:=by omega
    subst this
    rw[List.getElem?_append_right (Nat.le_refl _),Nat.sub_self] at h1
    cases h1
    rw[hl,List.take_length]
    exact old hk
  ·have hil:=(List.getElem?_eq_some_iff.mp h1).1
   rw[List.length_append,List.length_singleton] at hil
   have:i=(kvs++[kv]).length:=by omega
   subst this
   rw[List.getElem?_append_right (Nat.le_refl _),Nat.sub_self] at h1
   cases h1
   rw[List.take_of_length_le (by rw[List.length_append,List.length_append,List.length_singleton,List.length_singleton];omega),runD_snoc]
   refine (kp3.imp fun c hc=>?_).keep ts4 fun c o hc e=>b4 _ _ (hc.2 b).1 e
   rcases hc with hc | hc
   ·exact hc
   ·have hc1:H1 c=none:=s2.free hc
    have no:∀ x o,x∉fp b→H x=some o→c≠x:=fun x o h1 h2 z=>by rw[z,bb _ _ h1 h2] at hc1;cases hc1
    refine⟨?_,fun b'=>⟨?_,fun z=>?_⟩⟩
    ·obtain⟨o,q⟩:=h.tp.some;exact no _ _ (h.of b t (by simp)) q
    ·obtain⟨kvs',q,_⟩:=(h.sd b').kv;exact no _ _ (h.of b _ (mem_kl b')) q
    ·by_cases hb:b'=b
     ·subst hb;exact ra.notfp hc1 z
     ·obtain⟨xs,q⟩:=(h.sd b').ra.lists c z
      have:=ne_not hb
      subst this
      exact no c _ (fun y=>h.dj b c y z) q rfl
theorem L38.pop {b:Bool}{H1:Hp}{l:List Deed}{d:Deed} (h:L38 K C H t sl nl rl kk r kl fp p net ds) (e:ds b=l++[d]) (bb:ButL (fp b) H H1) (ra:cL K C H1 (r b) (eN (net b) l) (fp b)) :
  ∃ kvs kv,H1 (kl b)=some (.lst (kvs++[kv]))∧L38 K C (upd H1 (kl b) (.lst kvs)) t sl nl rl kk r kl fp p net (put ds b l):=by
 have sb:=h.sd b
 obtain⟨kvs,kv,ek,hl,hk,hks⟩:=sb.top
 have kf:=h.of b _ (mem_kl b)
 have e1:=bb _ _ kf ek
 have mu:Mut (H1 (kl b)):=by rw[e1];exact trivial
 have b4:cY (kl b) H1 (upd H1 (kl b) (.lst kvs)):=cY.upd
 have tsA:=(butL_ts (K:=K) bb sb.ra.mut).trans (b4.ts mu)
 have kA:∀ x o,x∉fp b→x≠kl b→H x=some o→upd H1 (kl b) (.lst kvs) x=some o:=fun x o h1 h2 q=>b4 _ _ h2 (bb _ _ h1 q)
 rw[e,List.length_append,List.length_singleton] at hl
 have ok:=sb.ok
 rw[e] at ok
 refine⟨kvs,kv,e1,h.chg kA { hp:=Is.mono tsA _ _ sb.hp,ra:=ra.but b4 mu (rk_ne h) kf,nok:=sb.nok,kv:=⟨kvs,aD,hl,fun i v h1=>?_⟩,ok:=ok.pre }⟩
 have hi:=(List.getElem?_eq_some_iff.mp h1).1
 have:=hks i v h1
 rw[e,List.take_append_of_le_length (by omega)] at this
 exact this.keep tsA fun c o hc q=>kA c o (hc.2 b).2 (hc.2 b).1 q
end
section
variable {P:Program}{w:World}{K:PySem.W.Frag}{mg:Str→Option Value}{base:Heap}{C c_TipError c_NoNet c_NoVessel c_TooLong c_TooMany c_TooMuch c_Nothing c_NoText c_NoRow:Addr}
noncomputable def spDeedB (K:PySem.W.Frag):Sp:=fun vs H Q _=>∃ (t sl ha:Addr) (x:V) (net:Net) (ps:List Int) (left:Int),vs=[.ref t,x,.ref ha,.int left]∧eU H t sl∧Is K H (netD net) x∧NetOk net∧bT K H ha (ps.map V.int)∧ps.length=net.vs.length∧0≤left∧(∀ i,ps.getD i 0≤1000)∧
 ∀ (d:Deed) u H',Ext t sl H H'→Is K H' (deedD d) u→(match d with | .pour v a=>0≤v∧v < net.vs.length∧0≤a∧ps.getD v.toNat 0+a≤1000 | .go k=>k≤41∧(k:Int)≤left)→Q u H'
theorem ok__law_book_deedB {f f1:Addr}{fd fd1:FuncData} (F:Fun K "_law_book_deed" "_law_book_deed" (top 57) f fd) (T:Txt mg) (G__law_draw:Callee P w K mg base "_law_draw" ["tape","many"] 1 spDraw f1 fd1) :
  FnOk P w K mg base CX0 2 f fd ["tape","net","hand","left"] (spDeedB K):=by
 refine F.ok sc__law_book_deed (fun vs H Q E h=>?_) (fun cdv A outer s H vs Q E hr h=>?_)
 ·obtain⟨t,sl,ha,x,net,ps,left,rfl,_⟩:=h;rfl
 ·obtain⟨t,sl,ha,x,net,ps,left,rfl,tp,hx,nok,hq,hpl,hle,hpo,k⟩:=h
  have sc:=sc__law_book_deed
  refine⟨_,(aF (cF (bU op_eq (cQ G__law_draw hr (aA (pv 0) (aA aG aE))) aG (bW _)) (aF (bE (i:=4) sc.nd rfl (Or.inl rfl) (cQ G__law_draw hr (aA (pv 0) (aA (aS (bK (K:=K) rfl) rfl T.b_len PySem.boot_len (aA (aR (aM (K:=K) rfl) (pv 1) aG (fun _ _=>rfl)) aE)) aE))))
   (aF (bE (i:=5) sc.nd rfl (Or.inl rfl) (aR (aM (K:=K) rfl) (bY (aA (cQ G__law_draw hr (aA (pv 0) (aA aG aE))) (aA (cQ G__law_draw hr (aA (pv 0) (aA aG aE))) aE))) (b0 op_fdiv (cQ G__law_draw hr (aA (pv 0) (aA aG aE))) aG) (fun _ _=>rfl)))
   (aO (aX (bV (aA dM (aA (pv 4) (aA (aS (call_min2 rfl) rfl T.b_min PyProof.Rows.boot_min (aA (pv 5) (aA (b0 dN aG (aR (aM (K:=K) rfl) (pv 2) (pv 4) (fun _ _=>rfl))) aE))) aE)))))))) bH)
   (aO (aX (bV (aA dM (aA (aS (call_min2 rfl) rfl T.b_min PyProof.Rows.boot_min (aA (pv 3) (aA (aR (aM (K:=K) rfl) (bY (aA (cQ G__law_draw hr (aA (pv 0) (aA aG aE))) (aA (cQ G__law_draw hr (aA (pv 0) (aA aG aE))) aE))) (b0 op_fdiv (cQ G__law_draw hr (aA (pv 0) (aA aG aE))) aG) (fun _ _=>rfl)) aE))) aE)))))),?_⟩
  have n1:=nok.lo
  have n2:=nok.hi
  refine if_draw0 (t:=t) (sl:=sl) (H0:=H) (bN rfl (by decide) (by decide)) ⟨cY.refl _,tp⟩ fun b H1 e1 _=>?_
  have ts1:=e1.bt.ts (K:=K) tp.mut
  cases b with
  | true=>
   refine eT ?_
   obtain⟨na,nb,nc,xs,ys,rfl,q,q1,l1,q2,l2⟩:=net_un (Is.mono ts1 _ _ hx)
   have exl:xs.length=net.vs.length:=by rw[l1.length,List.length_map]
   refine⟨_,rfl,_,rfl,.inr (.inl ⟨na,_,0,_,rfl,rfl,q,rfl,nb,xs,rfl,.inr q1,t,sl,_,rfl,e1.tp,by omega,by omega,fun v H2 b2 t2 r0 r1=>?_⟩)⟩
   have ts2:=ts1.trans (b2.ts (K:=K) e1.tp.mut)
   refine eY (t:=t) (sl:=sl) (H0:=H2) (P:=dA 0 1001) (gn_up (bN rfl (by decide) (by decide)) (Int.le_refl _) (by decide)) (bN rfl (by decide) (by decide)) (gn_half (bN rfl (by decide) (by decide))) _ _ ⟨cY.refl _,t2⟩ ?_
   rintro v' H3 e3 _ ⟨am,rfl,a0,a1⟩
   have ts3:=ts2.trans (e3.bt.ts (K:=K) t2.mut)
   have hvl:v.toNat < ps.length:=by omega
   have hg:(ps.map V.int)[v.toNat]? = some (.int ps[v.toNat]):=by rw[List.getElem?_map,List.getElem?_eq_getElem hvl];rfl
   have hgD:ps.getD v.toNat 0=ps[v.toNat]:=by rw[List.getD_eq_getElem?_getD,List.getElem?_eq_getElem hvl];rfl
   have hpv:=hpo v.toNat
   rw[hgD] at hpv
   refine⟨_,rfl,_,rfl,_,rfl,_,rfl,.inr (.inl ⟨ha,_,v,_,rfl,rfl,ts3 _ _ hq,atI_int r0 hg,_,_,rfl,rfl,_,_,rfl,(show 3≤sizeLine by decide),fun p hp=>?_⟩)⟩
   have ha':0≤(if 1000 - ps[v.toNat] < am then 1000 - ps[v.toNat] else am)∧ps[v.toNat]+(if 1000 - ps[v.toNat] < am then 1000 - ps[v.toNat] else am)≤1000:=by split <;> omega
   generalize (if 1000 - ps[v.toNat] < am then 1000 - ps[v.toNat] else am)=a' at hp ha' ⊢
   refine k (.pour v a') _ _ ⟨((e1.bt.trans b2).trans e3.bt).trans (aK.new hp).but,e3.tp.same (aK.new hp)⟩ ?_ ⟨r0,by omega,ha'.1,by rw[hgD];exact ha'.2⟩
   exact Is.tupOf (ds:=[.str "pour",.int v,.int a']) (bT.of aD) (.cons (Is.s _) (.cons (Is.i _) (.cons (Is.i _) .nil)))
  | false=>
   refine dU ?_
   refine⟨_,rfl,?_⟩
   refine eY (t:=t) (sl:=sl) (H0:=H1) (P:=dA 0 41) (gn_up (bN rfl (by decide) (by decide)) (Int.le_refl _) (by decide)) (bN rfl (by decide) (by decide)) (gn_half (bN rfl (by decide) (by decide))) _ _ ⟨cY.refl _,e1.tp⟩ ?_
   rintro v' H3 e3 _ ⟨am,rfl,a0,a1⟩
   refine⟨_,_,rfl,(show 2≤sizeLine by decide),fun p hp=>?_⟩
   have ha':0≤(if am < left then am else left)∧(if am < left then am else left)≤41∧(if am < left then am else left)≤left:=by split <;> omega
   generalize (if am < left then am else left)=a' at hp ha' ⊢
   obtain⟨g0,g1,g2⟩:=ha'
   obtain⟨j,rfl⟩:=Int.eq_ofNat_of_zero_le g0
   refine k (.go j) _ _ ⟨(e1.bt.trans e3.bt).trans (aK.new hp).but,e3.tp.same (aK.new hp)⟩ ?_ ⟨by omega,by omega⟩
   exact Is.tupOf (ds:=[.str "go",.int (j:Int)]) (bT.of aD) (.cons (Is.s _) (.cons (Is.i _) .nil))
end
end Tw
namespace Tw
open PySem L2
section
variable {K:PySem.W.Frag}{C:Addr}{H H':Hp}
theorem Kept.out {A:Addr→Prop}{S:RunS}{v:V} (c:Kept K H A S v):Kept K H (fun x=>A x∧∃ o,H x=some o) S v:=by
 obtain⟨a,st,ha,tl,bl,ts,bs,rfl,c⟩:=c
 refine⟨a,st,ha,tl,bl,ts,bs,rfl,{ c with aT:=⟨c.aT,_,c.hT⟩,aB:=⟨c.aB,_,c.hB⟩,aI:=fun t ht=>⟨c.aI t ht,?_⟩ }⟩
 obtain⟨i,hi,rfl⟩:=List.mem_iff_getElem.1 ht
 have hi2:i < S.tips.length:=by rw[← c.len];exact hi
 exact⟨_,c.ti i ts[i] S.tips[i] (by simp) (by simp)⟩
variable {t sl nl rl kk:Addr}{r kl:Bool→Addr}{fp:Bool→List Addr}{p:Bool→V}{net:Bool→Net}{ds:Bool→List Deed}
theorem L38.if_back {i j q:Nat}{m:Int}{b:Bool}{A B:TS}{D:Ends}{σ:St} (h:L38 K C H t sl nl rl kk r kl fp p net ds) (hi:σ[i]? = some (some (.ref t))) (hj:σ[j]? = some (some (.ref kk))) (hq:σ[q]? = some (some (.int (bI b)))) (m0:0 < m) (m1:m < 1000000)
  (hA:∀ H',L38 K C H' t sl nl rl kk r kl fp p net ds→ds b≠[]→A D σ H') (hB:∀ H',L38 K C H' t sl nl rl kk r kl fp p net ds→B D σ H') :
  tIfS (tAnd (tTest (tOp rEq (tCall spDraw [] E0 (dQ (d6 i) (dQ (tC (.int m)) tNil))) (tC (.int 0)))) (tTest (tOp (rI0 fun i j=>.bl (decide (j < i))) (tCB (rLen K) (dQ (tOp (rIx K) (d6 j) (d6 q)) tNil)) (tC (.int 1))))) A B D σ H:=by
 refine⟨_,hi,t,sl,_,rfl,h.tp,m0,m1,fun d H1 b1 t1 d0 d1=>⟨rfl,_,rfl,eX (fun _=>?_) (fun _=>dU (hB _ (h.draw b1 t1)))⟩⟩
 have h1:=h.draw b1 t1
 obtain⟨kvs,e,hl,_⟩:=(h1.sd b).kv
 refine⟨_,hj,_,hq,.inl ⟨kk,_,bI b,_,rfl,rfl,bM.of h1.hk,cR _ b,kl b,kvs,rfl,.inl (bM.of e),_,_,rfl,rfl,_,rfl,eX (fun hT=>hA _ h1 fun z=>?_) fun _=>hB _ h1⟩⟩
 have:=of_decide_eq_true hT
 rw[hl,z] at this
 simp at this
theorem L38.right {i j q:Nat}{b:Bool}{σ:St}{Q:VK} (h:L38 K C H t sl nl rl kk r kl fp p net ds) (hl:(ds b).length≤1000) (hi:σ[i]? = some (some (.ref rl))) (hj:σ[j]? = some (some (.ref kk))) (hq:σ[q]? = some (some (.int (bI b))))
  (k:∀ H',L38 K C H' t sl nl rl kk r kl fp p net ds→Q (.bl true) H') :
  tCall (spRight K C) [] E0 (dQ (tOp (rIx K) (d6 i) (d6 q)) (dQ (tOp (rIx K) (tOp (rIx K) (d6 j) (d6 q)) (tUn (rU fun i=>.int (-i)) (tC (.int 1)))) tNil)) σ H Q:=by
 obtain⟨kvs,kv,e,hkl,hk,_⟩:=(h.sd b).top
 obtain⟨sok,en,sz⟩:=(h.sd b).facts
 exact⟨_,hi,_,hq,.inl ⟨rl,_,bI b,_,rfl,rfl,bM.of h.hr,cR _ b,_,hj,_,hq,.inl ⟨kk,_,bI b,_,rfl,rfl,bM.of h.hk,cR _ b,1,rfl,.inl ⟨kl b,_,-1,kv,rfl,rfl,bM.of e,eJ _ _,r b,kv,_,fp b,_,600 * (ds b).length,rfl,(h.sd b).ra,hk,sz,by omega,fun H' s=>k H' (h.same s)⟩⟩⟩⟩
structure M38 (K:PySem.W.Frag) (C:Addr) (H:Hp) (nl rl kk:Addr) (r kl:Bool→Addr) (fp:Bool→List Addr) (p:Bool→V) (net:Bool→Net) (n:Bool→Nat) (ds:Bool→List Deed):Prop where
 hn:H nl=some (.lst (two p))
 hr:H rl=some (.lst (two fun b=>.ref (r b)))
 hk:H kk=some (.lst (two fun b=>.ref (kl b)))
 hp:∀ b,Is K H (netD (net b)) (p b)
 ra:∀ b,cL K C H (r b) (eN (net b) (ds b)) (fp b)
 nok:∀ b,NetOk (net b)
 kv:∀ b,∃ kvs,H (kl b)=some (.lst kvs)∧kvs.length=n b+1
 ok:∀ b,OkD (net b) (ds b)
 of:∀ b,∀ x∈[nl,rl,kk,kl false,kl true],x∉fp b
 dj:∀ b x,x∈fp b→x∉fp (!b)
variable {n:Bool→Nat}
theorem L38.last (h:L38 K C H t sl nl rl kk r kl fp p net ds):M38 K C H nl rl kk r kl fp p net (fun b=>(ds b).length) ds where
 hn:=h.hn
 hr:=h.hr
 hk:=h.hk
 hp:=fun b=>(h.sd b).hp
 ra:=fun b=>(h.sd b).ra
 nok:=fun b=>(h.sd b).nok
 kv:=fun b=>by obtain⟨kvs,e,hl,_⟩:=(h.sd b).kv;exact⟨kvs,e,hl⟩
 ok:=fun b=>(h.sd b).ok
 of:=fun b x hx=>h.of b x (List.mem_cons_of_mem _ (List.mem_cons_of_mem _ hx))
 dj:=h.dj
theorem M38.same (h:M38 K C H nl rl kk r kl fp p net n ds) (s:aK H H'):M38 K C H' nl rl kk r kl fp p net n ds:=
 { h with hn:=s _ _ h.hn,hr:=s _ _ h.hr,hk:=s _ _ h.hk,hp:=fun b=>Is.mono s.ts _ _ (h.hp b),ra:=fun b=>(h.ra b).same s,kv:=fun b=>match h.kv b with | ⟨kvs,e,hl⟩=>⟨kvs,s _ _ e,hl⟩ }
theorem M38.on {b:Bool}{ds':List Deed} (h:M38 K C H nl rl kk r kl fp p net n ds) (bb:ButL (fp b) H H') (ra:cL K C H' (r b) (eN (net b) ds') (fp b)) (ok:OkD (net b) ds'):M38 K C H' nl rl kk r kl fp p net n (put ds b ds'):=by
 have ts:bL K H H':=butL_ts bb (h.ra b).mut
 have mk:∀ c,kl c∈[nl,rl,kk,kl false,kl true]:=fun c=>by cases c <;> simp
 refine { h with hn:=bb _ _ (h.of b _ (by simp)) h.hn,hr:=bb _ _ (h.of b _ (by simp)) h.hr,hk:=bb _ _ (h.of b _ (by simp)) h.hk,hp:=fun c=>Is.mono ts _ _ (h.hp c),ra:=fun c=>?_,kv:=fun c=>?_,ok:=fun c=>?_ }
 ·by_cases hc:c=b
  ·subst hc;rw[put_same];exact ra
  ·rw[put_ne hc]
   have:=ne_not hc
   subst this
   exact (h.ra (!b)).butL bb (h.ra b).mut (fun z=>by obtain⟨xs,e⟩:=(h.ra b).lists _ z;obtain⟨dx,np,R,M,T,ei⟩:=(h.ra (!b)).ins;rw[ei] at e;cases e) fun x hx z=>h.dj b x z hx
 ·obtain⟨kvs,e,hl⟩:=h.kv c
  exact⟨kvs,bb _ _ (h.of b _ (mk c)) e,hl⟩
 ·by_cases hc:c=b
  ·subst hc;rw[put_same];exact ok
  ·rw[put_ne hc];exact h.ok c
end
section
variable {P:Program}{w:World}{K:PySem.W.Frag}{mg:Str→Option Value}{base:Heap}{C c_TipError c_NoNet c_NoVessel c_TooLong c_TooMany c_TooMuch c_Nothing c_NoText c_NoRow:Addr}
theorem sc_law:FnScope ["script","tape","nets","runs","kept","turn","at","deed","k"] ["script"] (aL (top 61)):=⟨rfl,rfl,rfl,by decide +kernel,rfl,by decide +kernel,by decide +kernel⟩
theorem ok_law {f f1 f2 f3 f4 f5 f6 f7 f8 f9 f10 f11 f12:Addr}{fd fd1 fd2 fd3 fd4 fd5 fd6 fd7 fd8 fd9 fd10 fd11 fd12:FuncData} (F:Fun K "law" "law" (top 61) f fd) (T:Txt mg)
  (G__law_draw:Callee P w K mg base "_law_draw" ["tape","many"] 1 spDraw f1 fd1)
  (G__law_net:Callee P w K mg base "_law_net" ["tape","most","small"] 4 (spNetM K) f2 fd2)
  (G_Run:MkCal P w K mg base C "Run" ["self","net"] 5 (spInit K C) f3 fd3)
  (G__law_book_first:Callee P w K mg base "_law_book_first" ["net"] 2 (spBookFirst K) f4 fd4)
  (G_Run_back:MCalR P w K mg base C "back" ["self"] 2 (spBackR K C c_Nothing) f5 fd5)
  (G__law_book_deed:Callee P w K mg base "_law_book_deed" ["tape","net","hand","left"] 2 (spDeedB K) f6 fd6)
  (G_Run_pour:MCalR P w K mg base C "pour" ["self","vessel","amount"] 3 (spPourR K C c_NoVessel) f7 fd7)
  (G_Run_go:MCal P w K mg base C "go" ["self","many"] 7 (spGo K C) f8 fd8)
  (G__law_book_gone:Callee P w K mg base "_law_book_gone" ["net","kept","deed"] 3 (spGone K) f9 fd9)
  (G__law_run_right:Callee P w K mg base "_law_run_right" ["run","kept"] 4 (spRight K C) f10 fd10)
  (G_first_lie:Callee P w K mg base "first_lie" ["net","book"] 8 (spLie K) f11 fd11)
  (G_Run_book:MCal P w K mg base C "book" ["self"] 1 (spBook K C) f12 fd12):FnOk P w K mg base CX0 9 f fd ["script"] (spLaw K):=by
 refine F.ok sc_law (fun vs H Q E h=>?_) (fun cdv A outer s H vs Q E hr h=>?_)
 ·obtain⟨a,ns,rfl,_⟩:=h;rfl
 ·obtain⟨a,ns,rfl,hS,hlen,k⟩:=h
  have sc:=sc_law
  refine⟨_,(aF (bE (i:=1) sc.nd rfl (Or.inl rfl) (bY (aA (bG (call_lstK (K:=K) rfl) rfl T.b_list bt_list (aA (pv 0) aE)) (aA aG (aA aG aE)))))
   (aF (bE (i:=2) sc.nd rfl (Or.inl rfl) (bY (aA (cQ G__law_net hr (aA (pv 1) (aA aG (aA (pe_cmpR op_eq (cQ G__law_draw hr (aA (pv 1) (aA aG aE))) aG (bW _)) aE)))) (aA (cQ G__law_net hr (aA (pv 1) (aA aG (aA eL aE)))) aE))))
   (aF (cF (bU op_eq (cQ G__law_draw hr (aA (pv 1) (aA aG aE))) aG (bW _)) (aO (cB (aR (aM (K:=K) rfl) (pv 2) aG (fun _ _=>rfl)) (pg_sub (pv 2) aG eV))) bH)
   (aF (ps_set_lc (i:=3) sc.nd rfl rfl (fun _ _ h=>h) rfl (LcOk.mk (N':=["net"]) (fr:=[none]) rfl trivial rfl rfl rfl rfl rfl trivial) (pi_listK (K:=K) rfl (pv 2)) (fun _ _ _=>(aJ (i:=0) (show (["net"]:List Str).Nodup by decide +kernel) rfl (Or.inl rfl) (Or.inr rfl))) (fun _ _ _=>cP) (fun _ _ _=>(pe_make G_Run.make G_Run.ok (hr.mono (by decide)) rfl G_Run.mg G_Run.bd .nil pass0 (aA (pv 0) aE))))
   (aF (ps_set_lc (i:=4) sc.nd rfl rfl (fun _ _ h=>h) rfl (LcOk.mk (N':=["net"]) (fr:=[none]) rfl trivial rfl rfl rfl rfl rfl trivial) (pi_listK (K:=K) rfl (pv 2)) (fun _ _ _=>(aJ (i:=0) (show (["net"]:List Str).Nodup by decide +kernel) rfl (Or.inl rfl) (Or.inr rfl))) (fun _ _ _=>cP) (fun _ _ _=>(bY (aA (cQ G__law_book_first hr (aA (pv 0) aE)) aE))))
   (aF (dB PassesOwn.never rfl (cG rfl T.b_range (aA (b0 cO aG (cQ G__law_draw hr (aA (pv 1) (aA aG aE)))) aE)) (aJ (i:=5) sc.nd rfl (Or.inl rfl)) (aF (bE (i:=6) sc.nd rfl (Or.inl rfl) (cQ G__law_draw hr (aA (pv 1) (aA aG aE))))
   (aF (cF (PW.pt (pw_and (bU op_eq (cQ G__law_draw hr (aA (pv 1) (aA aG aE))) aG (bW _)) (pw_and1 (bU op_gt (aS (bK (K:=K) rfl) rfl T.b_len PySem.boot_len (aA (aR (aM (K:=K) rfl) (pv 4) (pv 6) (fun _ _=>rfl)) aE)) aG (bW _))))) (aF (bZ (eW (aR (aM (K:=K) rfl) (pv 3) (pv 6) (fun _ _=>rfl)) G_Run_back.cls G_Run_back.mt G_Run_back.ok (hr.mono (by decide)) G_Run_back.bd .nil passR0))
   (aO (bZ (pe_bm0K (K:=K) rfl PySem.F.plainAttrs_list PySem.F.slot_list_pop PySem.F.type_list_pop mt_pop (aR (aM (K:=K) rfl) (pv 4) (pv 6) (fun _ _=>rfl)))))) (aF (bE (i:=7) sc.nd rfl (Or.inl rfl) (cQ G__law_book_deed hr (aA (pv 1) (aA (aR (aM (K:=K) rfl) (pv 2) (pv 6) (fun _ _=>rfl)) (aA (aR (aM (K:=K) rfl) (aR (aM (K:=K) rfl) (aR (aM (K:=K) rfl) (pv 4) (pv 6) (fun _ _=>rfl)) (pe_un un_neg aG) (fun _ _=>rfl)) aG (fun _ _=>rfl)) (aA (b0 dN aG (aR (aM (K:=K) rfl) (aR (aM (K:=K) rfl) (aR (aM (K:=K) rfl) (pv 4) (pv 6) (fun _ _=>rfl)) (pe_un un_neg aG) (fun _ _=>rfl)) aG (fun _ _=>rfl))) aE))))))
   (aF (cF (bU op_eq (aR (aM (K:=K) rfl) (pv 7) aG (fun _ _=>rfl)) dM (bW _)) (aO (bZ (pe_meth (aR (aM (K:=K) rfl) (pv 3) (pv 6) (fun _ _=>rfl)) G_Run_pour.cls G_Run_pour.mt G_Run_pour.ok (hr.mono (by decide)) G_Run_pour.bd .nil passR0 (aA (aR (aM (K:=K) rfl) (pv 7) aG (fun _ _=>rfl)) (aA (aR (aM (K:=K) rfl) (pv 7) aG (fun _ _=>rfl)) aE))))) (aO (bZ (pe_meth (aR (aM (K:=K) rfl) (pv 3) (pv 6) (fun _ _=>rfl)) G_Run_go.cls G_Run_go.mt G_Run_go.ok (hr.mono (by decide)) G_Run_go.bd .nil pass0 (aA (aR (aM (K:=K) rfl) (pv 7) aG (fun _ _=>rfl)) aE)))))
   (aO (bZ (dY (K:=K) rfl PySem.F.plainAttrs_list PySem.F.slot_list_append PySem.F.type_list_append cD (aR (aM (K:=K) rfl) (pv 4) (pv 6) (fun _ _=>rfl)) (aA (cQ G__law_book_gone hr (aA (aR (aM (K:=K) rfl) (pv 2) (pv 6) (fun _ _=>rfl)) (aA (aR (aM (K:=K) rfl) (aR (aM (K:=K) rfl) (pv 4) (pv 6) (fun _ _=>rfl)) (pe_un un_neg aG) (fun _ _=>rfl)) (aA (pv 7) aE)))) aE)))))))
   (aO (dB PassesOwn.never rfl (cG rfl T.b_range (aA aG aE)) (aJ (i:=8) sc.nd rfl (Or.inl rfl)) (aO (cF (dL (cU (cQ G__law_run_right hr (aA (aR (aM (K:=K) rfl) (pv 3) (pv 8) (fun _ _=>rfl)) (aA (aR (aM (K:=K) rfl) (aR (aM (K:=K) rfl) (pv 4) (pv 8) (fun _ _=>rfl)) (pe_un un_neg aG) (fun _ _=>rfl)) aE))))) (aO (aX eL)) bH)))))))
   (aF (dB PassesOwn.never rfl (cG rfl T.b_range (aA aG aE)) (aJ (i:=8) sc.nd rfl (Or.inl rfl)) (aF (cF (bU op_notN (cQ G_first_lie hr (aA (aR (aM (K:=K) rfl) (pv 2) (pv 8) (fun _ _=>rfl)) (aA (eW (aR (aM (K:=K) rfl) (pv 3) (pv 8) (fun _ _=>rfl)) G_Run_book.cls G_Run_book.mt G_Run_book.ok (hr.mono (by decide)) G_Run_book.bd .nil pass0) aE))) eO (bW _)) (aO (aX eL)) bH)
   (aF (dB PassesOwn.never rfl (cG rfl T.b_range (aA (b0 dN (aS (bK (K:=K) rfl) rfl T.b_len PySem.boot_len (aA (aR (aM (K:=K) rfl) (pv 4) (pv 8) (fun _ _=>rfl)) aE)) aG) aE)) (aJ (i:=5) sc.nd rfl (Or.inl rfl)) (aO (bZ (eW (aR (aM (K:=K) rfl) (pv 3) (pv 8) (fun _ _=>rfl)) G_Run_back.cls G_Run_back.mt G_Run_back.ok (hr.mono (by decide)) G_Run_back.bd .nil passR0))))
   (aO (cF (dL (cU (cQ G__law_run_right hr (aA (aR (aM (K:=K) rfl) (pv 3) (pv 8) (fun _ _=>rfl)) (aA (cQ G__law_book_first hr (aA (aR (aM (K:=K) rfl) (pv 2) (pv 8) (fun _ _=>rfl)) aE)) aE))))) (aO (aX eL)) bH)))))
   (aO (aX eL))))))))),?_⟩
  refine⟨_,rfl,a,_,rfl,.inl hS,fun sl hsl=>⟨(show 3≤sizeLine by decide),fun t ht=>?_⟩⟩
  have nst:sl≠t:=aQ (show upd H sl (.lst (ns.map V.int)) sl=_ from aD) ht
  have tp0:eU (upd (upd H sl (.lst (ns.map V.int))) t (.lst [.ref sl,.int 0,.int 0])) t sl:=⟨ns,0,0,aD,by rw[aP nst];exact aD,by omega⟩
  generalize upd (upd H sl (.lst (ns.map V.int))) t (.lst [.ref sl,.int 0,.int 0])=H0 at tp0
  refine⟨_,rfl,?_⟩
  refine gn_eq0 (t:=t) (sl:=sl) (H0:=H0) (bN rfl (by decide) (by decide)) _ _ ⟨cY.refl _,tp0⟩ ?_
  rintro v H01 e01 _ ⟨small,rfl⟩
  refine⟨t,sl,6,small,rfl,by decide,by decide,e01.tp,fun A0 p0 H1 e1 nok0 nfu0 hm0 hp0=>⟨_,rfl,t,sl,6,false,rfl,by decide,by decide,e1.tp,fun B0 p1 H2 e2 nok1 nfu1 hm1 hp1=>⟨(show 2≤sizeLine by decide),fun nl hnl=>?_⟩⟩⟩
  have hp0:=Is.mono (e2.bt.ts e1.tp.mut) _ _ hp0
  have s3:=aK.new (o:=HO.lst [p0,p1]) hnl
  have g3:upd H2 nl (.lst [p0,p1]) nl=some (.lst [p0,p1]):=aD
  have tp3:=e2.tp.same s3
  have i0:=Is.mono s3.ts _ _ hp0
  have i1:=Is.mono s3.ts _ _ hp1
  have nlt:nl≠t:=fun z=>by obtain⟨o,e⟩:=e2.tp.some;rw[z,e] at hnl;cases hnl
  have nls:nl≠sl:=e2.tp.ne_sl hnl
  generalize upd H2 nl (.lst [p0,p1])=H3 at s3 g3 tp3 i0 i1
  dsimp only [eZ]
  refine seq1_by (fun σ' H'=>∃ (net:Bool→Net) (p:Bool→V),eU H' t sl∧H' nl=some (.lst (two p))∧(∀ b,NetOk (net b)∧NetFull (net b)∧Is K H' (netD (net b)) (p b))∧
   σ'=[some (.ref a),some (.ref t),some (.ref nl),none,none,none,none,none,none]) (fun R hD=>?_) ?_
  ·dsimp only [tSeq]
   refine⟨_,rfl,t,sl,_,rfl,tp3,by decide,by decide,fun d H4 b4 t4 d0 d1=>⟨rfl,_,rfl,eX (fun _=>?_) fun _=>?_⟩⟩
   ·have g4:=b4 _ _ nlt g3
    have mu:Mut (H4 nl):=by rw[g4];exact trivial
    have tsA:=(b4.ts (K:=K) tp3.mut).trans (cY.ts (K:=K) (cY.upd (o:=HO.lst [p0,p0])) mu)
    refine⟨_,rfl,.inl ⟨nl,_,0,_,rfl,rfl,bM.of g4,rfl,_,rfl,nl,_,1,1,rfl,rfl,g4,rfl,?_⟩⟩
    exact hD _ _ ⟨fun _=>A0,fun _=>p0,t4.put nlt nls,aD,fun _=>⟨nok0,nfu0,Is.mono tsA _ _ i0⟩,rfl⟩
   ·have tsA:=b4.ts (K:=K) tp3.mut
    exact hD _ _ ⟨fun b=>if b then B0 else A0,fun b=>if b then p1 else p0,t4,b4 _ _ nlt g3,fun b=>match b with
     | false=>⟨nok0,nfu0,Is.mono tsA _ _ i0⟩
     | true=>⟨nok1,nfu1,Is.mono tsA _ _ i1⟩,rfl⟩
  clear i0 i1 tp3 g3 s3 hp0 hp1 nok0 nok1 nfu0 nfu1 hm0 hm1 e1 e2
  rintro σ' H4 ⟨net,p,tp4,hn4,hnet,rfl⟩
  have hp4:∀ b,Is K H4 (netD (net b)) (p b):=fun b=>(hnet b).2.2
  have ntsl:t≠sl:=fun z=>nst z.symm
  refine⟨_,rfl,nl,rfl,⟨_,bM.of hn4⟩,lc_two (x:=p false) (y:=p true) rfl hn4 fun rl hrl=>?_⟩
  have sU:=aK.new (o:=HO.lst []) hrl
  have gU:upd H4 rl (.lst []) rl=some (.lst []):=aD
  have F0:=(Fr.nil H4).add (g:=[rl]) (Gr.of sU) (fun x hx=>by have:=List.mem_singleton.1 hx;subst this;exact⟨hrl,_,gU⟩)
  generalize upd H4 rl (.lst [])=U at sU gU F0
  refine mk_run (Is.mono sU.ts _ _ (hp4 false)) (hnet false).1 (hnet false).2.1 gU fun r0 fp0 H5 hr0 hf0 s5 ra0 nD0 nf0=>?_
  have g5:=s5 _ _ gU
  have mu5:Mut (H5 rl):=by rw[g5];exact trivial
  have ra0:=ra0.but (cY.upd (o:=HO.lst [.ref r0])) mu5 nD0 nf0
  have s5':aK H4 (upd H5 rl (.lst [.ref r0])):=(sU.trans s5).put hrl
  have g5':upd H5 rl (.lst [.ref r0]) rl=some (.lst [.ref r0]):=aD
  have F0:=F0.add (g:=fp0) ((Gr.of s5).trans (Gr.upd (a:=rl) (o:=HO.lst [.ref r0]))) (fun x hx=>⟨hf0 x hx,by obtain⟨xs,e⟩:=ra0.lists x hx;exact⟨_,e⟩⟩)
  refine⟨g5,by decide,bM.of (s5' _ _ hn4),rfl,?_⟩
  generalize upd H5 rl (.lst [.ref r0])=U1 at ra0 s5' g5' F0
  refine mk_run (Is.mono s5'.ts _ _ (hp4 true)) (hnet true).1 (hnet true).2.1 g5' fun r1 fp1 H6 hr1 hf1 s6 ra1 nD1 nf1=>?_
  have g6:=s6 _ _ g5'
  have mu6:Mut (H6 rl):=by rw[g6];exact trivial
  have ra0:=(ra0.same s6).but (cY.upd (o:=HO.lst [.ref r0,.ref r1])) mu6 nD0 nf0
  have ra1:=ra1.but (cY.upd (o:=HO.lst [.ref r0,.ref r1])) mu6 nD1 nf1
  have s7:aK H4 (upd H6 rl (.lst [.ref r0,.ref r1])):=(s5'.trans s6).put hrl
  have g7:upd H6 rl (.lst [.ref r0,.ref r1]) rl=some (.lst [.ref r0,.ref r1]):=aD
  have F0:=F0.add (g:=fp1) ((Gr.of s6).trans (Gr.upd (a:=rl) (o:=HO.lst [.ref r0,.ref r1]))) (fun x hx=>⟨hf1 x hx,by obtain⟨xs,e⟩:=ra1.lists x hx;exact⟨_,e⟩⟩)
  refine⟨g6,by decide,bM.of (s7 _ _ hn4),?_⟩
  generalize upd H6 rl (.lst [.ref r0,.ref r1])=H7 at ra0 ra1 s7 g7 F0
  clear sU gU s5 g5 mu5 s5' g5' s6 g6 mu6 nD0 nf0 nD1 nf1 hf0 hf1 hr0 hr1
  refine⟨_,rfl,nl,rfl,⟨_,bM.of (s7 _ _ hn4)⟩,lc_twoS (K:=K) (p:=p) (fun b w U U'=>∃ kb kv,w=.ref kb∧U kb=none∧U' kb=some (.lst [kv])∧Kept K U' (fun x=>U x=none∧x≠kb∧∃ o,U' x=some o) (run0 (net b)) kv) rfl (s7 _ _ hn4)
   (fun b U Q1 sU q1=>⟨_,rfl,p b,net b,rfl,Is.mono (s7.trans sU).ts _ _ (hp4 b),(hnet b).1,fun kv U1 s1 kp=>⟨(show 1≤sizeLine by decide),fun kb hkb=>?_⟩⟩) ?_⟩
  ·have s2:=aK.new (o:=HO.lst [kv]) hkb
   refine q1 _ _ (s1.trans s2) ⟨kb,kv,rfl,s1.free hkb,aD,(kp.out.imp fun x hx=>?_).same s2⟩
   obtain⟨h1,o,h2⟩:=hx
   exact⟨h1,aQ h2 hkb,o,s2 _ _ h2⟩
  rintro kk y0 y1 U0 H9 U2 H11 H12 hkk rfl s9 ⟨k0,kv0,rfl,hk0,gk0,kp0⟩ rfl s11 ⟨k1,kv1,rfl,hk1,gk1,kp1⟩ rfl s12
  have gU:upd H7 kk (.lst []) kk=some (.lst []):=aD
  have n0:k0≠kk:=(aQ gU hk0).symm
  have g10:upd H9 kk (.lst [.ref k0]) kk=some (.lst [.ref k0]):=aD
  have n1:k1≠kk:=(aQ g10 hk1).symm
  have g9:=s9 _ _ gU
  have mu9:Mut (H9 kk):=by rw[g9];exact trivial
  have g11:=s11 _ _ g10
  have mu11:Mut (H11 kk):=by rw[g11];exact trivial
  have gk0a:upd H9 kk (.lst [.ref k0]) k0=some (.lst [kv0]):=(aP n0).trans gk0
  have gk0b:upd H11 kk (.lst [.ref k0,.ref k1]) k0=some (.lst [kv0]):=(aP n0).trans (s11 _ _ gk0a)
  have gk1b:upd H11 kk (.lst [.ref k0,.ref k1]) k1=some (.lst [kv1]):=(aP n1).trans gk1
  have g12:upd H11 kk (.lst [.ref k0,.ref k1]) kk=some (.lst [.ref k0,.ref k1]):=aD
  have o7:∀ x o,H7 x=some o→upd H7 kk (.lst []) x≠none∧upd H9 kk (.lst [.ref k0]) x≠none:=fun x o e=>by
   have nx:x≠kk:=aQ e hkk
   have e1:upd H7 kk (.lst []) x=some o:=(aP nx).trans e
   have e2:upd H9 kk (.lst [.ref k0]) x=some o:=(aP nx).trans (s9 _ _ e1)
   exact⟨by rw[e1];simp,by rw[e2];simp⟩
  have tp7:=tp4.same s7
  have t7:∃ o,H7 t=some o:=tp7.some
  have sl7:∃ o,H7 sl=some o:=by obtain⟨ns,pos,cell,_,e,_⟩:=tp7;exact⟨_,e⟩
  have fpo:∀ (b:Bool) x,x∈sel fp0 fp1 b→∃ o,H7 x=some o:=fun b x hx=>by
   cases b with
   | false=>obtain⟨xs,e⟩:=ra0.lists x hx;exact⟨_,e⟩
   | true=>obtain⟨xs,e⟩:=ra1.lists x hx;exact⟨_,e⟩
  have n01:k1≠k0:=(aQ gk0a hk1).symm
  have kA0:∀ x,(upd H7 kk (.lst []) x=none∧x≠k0∧∃ o,H9 x=some o)→Av2 t (sel k0 k1) (sel fp0 fp1) x∧x≠kk:=fun x ⟨h1,h2,o,h3⟩=>by
   have hxk:x≠kk:=fun z=>by rw[z,gU] at h1;cases h1
   refine⟨⟨fun z=>?_,fun b=>⟨?_,fun z=>?_⟩⟩,hxk⟩
   ·obtain⟨o',e⟩:=t7;exact (o7 t o' e).1 (by rw[← z];exact h1)
   ·cases b with
    | false=>exact h2
    | true=>exact aQ (show upd H9 kk (.lst [.ref k0]) x=some o from (aP hxk).trans h3) hk1
   ·obtain⟨o',e⟩:=fpo b x z;exact (o7 x o' e).1 h1
  have kA1:∀ x,(upd H9 kk (.lst [.ref k0]) x=none∧x≠k1∧∃ o,H11 x=some o)→Av2 t (sel k0 k1) (sel fp0 fp1) x∧x≠kk:=fun x ⟨h1,h2,o,h3⟩=>by
   have hxk:x≠kk:=fun z=>by rw[z,g10] at h1;cases h1
   refine⟨⟨fun z=>?_,fun b=>⟨?_,fun z=>?_⟩⟩,hxk⟩
   ·obtain⟨o',e⟩:=t7;exact (o7 t o' e).2 (by rw[← z];exact h1)
   ·cases b with
    | false=>exact fun z=>by rw[show x=k0 from z,gk0a] at h1;cases h1
    | true=>exact h2
   ·obtain⟨o',e⟩:=fpo b x z;exact (o7 x o' e).2 h1
  have b9:cY kk H9 (upd H9 kk (.lst [.ref k0])):=cY.upd
  have b11:cY kk H11 (upd H11 kk (.lst [.ref k0,.ref k1])):=cY.upd
  have kp0:=(kp0.imp kA0).keep ((b9.ts (K:=K) mu9).trans (s11.ts.trans (b11.ts mu11))) (fun x o hx e=>b11 _ _ hx.2 (s11 _ _ (b9 _ _ hx.2 e)))
  have kp0:=kp0.imp fun x hx=>hx.1
  have kp1:=(kp1.imp kA1).keep (b11.ts (K:=K) mu11) (fun x o hx e=>b11 _ _ hx.2 e)
  have kp1:=kp1.imp fun x hx=>hx.1
  have out7:∀ x,(∃ o,H7 x=some o)→x≠kk∧x≠k0∧x≠k1:=fun x ⟨o,e⟩=>⟨aQ e hkk,fun z=>(o7 x o e).1 (by rw[z];exact hk0),fun z=>(o7 x o e).2 (by rw[z];exact hk1)⟩
  have nl7:∃ o,H7 nl=some o:=⟨_,s7 _ _ hn4⟩
  have rl7:∃ o,H7 rl=some o:=⟨_,g7⟩
  have kkf:∀ b,kk∉sel fp0 fp1 b∧k0∉sel fp0 fp1 b∧k1∉sel fp0 fp1 b:=fun b=>⟨fun z=>(out7 _ (fpo b _ z)).1 rfl,fun z=>(out7 _ (fpo b _ z)).2.1 rfl,fun z=>(out7 _ (fpo b _ z)).2.2 rfl⟩
  have old:∀ x,(∃ o,H4 x=some o)→∀ b,x∉sel fp0 fp1 b:=fun x ⟨o,e⟩ b=>by
   cases b with
   | false=>exact F0.old e (g:=fp0) (by simp)
   | true=>exact F0.old e (g:=fp1) (by simp)
  have c0:L38 K C (upd H11 kk (.lst [.ref k0,.ref k1])) t sl nl rl kk (sel r0 r1) (sel k0 k1) (sel fp0 fp1) p net (fun _=>[]):={
   tp:=tp7.same s12
   hn:=s12 _ _ (s7 _ _ hn4)
   hr:=s12 _ _ g7
   hk:=g12
   sd:=fun b=>by
    cases b with
    | false=>exact { hp:=Is.mono (s7.trans s12).ts _ _ (hp4 false),ra:=ra0.same s12,nok:=(hnet false).1,kv:=⟨[kv0],gk0b,rfl,fun i v h1=>by
      match i,h1 with
      | 0,h1=>cases h1;exact kp0⟩,ok:=OkD.nil _ }
    | true=>exact { hp:=Is.mono (s7.trans s12).ts _ _ (hp4 true),ra:=ra1.same s12,nok:=(hnet true).1,kv:=⟨[kv1],gk1b,rfl,fun i v h1=>by
      match i,h1 with
      | 0,h1=>cases h1;exact kp1⟩,ok:=OkD.nil _ }
   of:=fun b x hx=>by
    simp only [List.mem_cons,List.not_mem_nil,or_false] at hx
    rcases hx with rfl | rfl | rfl | rfl | rfl | rfl | rfl
    ·exact old _ tp4.some b
    ·exact old _ (by obtain⟨ns,pos,cell,_,e,_⟩:=tp4;exact⟨_,e⟩) b
    ·exact old _ ⟨_,hn4⟩ b
    ·cases b with
     | false=>exact fun z=>F0.at (i:=2) (j:=1) (by decide) rfl rfl _ (List.mem_singleton.2 rfl) z
     | true=>exact fun z=>F0.at (i:=2) (j:=0) (by decide) rfl rfl _ (List.mem_singleton.2 rfl) z
    ·exact (kkf b).1
    ·exact (kkf b).2.1
    ·exact (kkf b).2.2
   dj:=fun b x hx=>by
    cases b with
    | false=>exact fun z=>F0.at (i:=1) (j:=0) (by decide) rfl rfl x hx z
    | true=>exact fun z=>F0.at (i:=0) (j:=1) (by decide) rfl rfl x hx z
   nd:=fun b x hx=>by
    have e7:∀ y,(∃ o,H7 y=some o)→y≠sel k0 k1 b:=fun y hy=>by
     have:=out7 y hy
     cases b with
     | false=>exact this.2.1
     | true=>exact this.2.2
    simp only [List.mem_cons,List.not_mem_nil,or_false] at hx
    rcases hx with rfl | rfl | rfl | rfl | rfl | rfl
    ·exact e7 _ t7
    ·exact e7 _ sl7
    ·exact e7 _ nl7
    ·exact e7 _ rl7
    ·cases b with
     | false=>exact n0.symm
     | true=>exact n1.symm
    ·cases b with
     | false=>exact n01
     | true=>exact n01.symm
   nt:=fun x hx=>by
    simp only [List.mem_cons,List.not_mem_nil,or_false] at hx
    rcases hx with rfl | rfl | rfl
    ·exact nlt
    ·exact fun z=>by obtain⟨o,e⟩:=tp4.some;rw[z,e] at hrl;cases hrl
    ·exact fun z=>by obtain⟨o,e⟩:=t7;rw[z,e] at hkk;cases hkk }
  generalize upd H11 kk (.lst [.ref k0,.ref k1])=H13 at c0
  generalize sel r0 r1=r at c0
  generalize sel k0 k1=kl at c0
  generalize sel fp0 fp1=fp at c0
  have nok:∀ b,NetOk (net b):=fun b=>(hnet b).1
  clear kp0 kp1 kA0 kA1 out7 kkf old fpo o7 t7 sl7 nl7 rl7 F0 ra0 ra1 g7 s7 s12 gk0a gk0b gk1b g12 hnet hp4 tp4 tp7 hn4
  refine⟨_,rfl,t,sl,_,rfl,c0.tp,by decide,by decide,fun c H14 b14 t14 hc0 hc1=>⟨_,_,rfl,rfl,?_⟩⟩
  have c14:=c0.draw b14 t14
  refine⟨_,rfl,by omega,by omega,?_⟩
  refine dO (lo:=0) (n:=(1+c).toNat) (fun i σ' H'=>∃ ds,L38 K C H' t sl nl rl kk r kl fp p net ds∧(∀ b,(ds b).length≤i)∧∃ v5 v6 v7 v8,σ'=[some (.ref a),some (.ref t),some (.ref nl),some (.ref rl),some (.ref kk),v5,v6,v7,v8]) ?_ ?_ ?_
  ·exact⟨_,c14,fun b=>Nat.le_refl _,_,_,_,_,rfl⟩
  ·clear c0 c14
   rintro i σ' H15 hi ⟨ds,I15,hds,v5,v6,v7,v8,rfl⟩
   have hi60:i < 60:=by omega
   refine⟨_,rfl,t,sl,_,rfl,I15.tp,by decide,by decide,fun at_ H16 b16 t16 a0 a1=>?_⟩
   have I16:=I15.draw b16 t16
   obtain⟨b,rfl⟩:=bI_of a0 a1
   clear I15
   have lenp:∀ (x:List Deed) (m:Nat),x.length≤m→(∀ b',(ds b').length≤m)→∀ b',(put ds b x b').length≤m:=fun x m h1 h2 b'=>by
    by_cases h:b'=b
    ·subst h;rw[put_same];exact h1
    ·rw[put_ne h];exact h2 b'
   dsimp only [eZ]
   refine seq1_by (fun σ' H'=>∃ ds,L38 K C H' t sl nl rl kk r kl fp p net ds∧(∀ b,(ds b).length≤i+1)∧∃ v5 v6 v7 v8,σ'=[some (.ref a),some (.ref t),some (.ref nl),some (.ref rl),some (.ref kk),v5,v6,v7,v8]) (fun R hR=>?_) ?_
   rotate_left
   ·rintro σ' H17 ⟨ds,I17,hds,v5,v6,v7,v8,rfl⟩
    refine⟨2,rfl,by decide,by decide,dO (lo:=0) (n:=2) (fun j σ' H'=>L38 K C H' t sl nl rl kk r kl fp p net ds∧∃ v8,σ'=[some (.ref a),some (.ref t),some (.ref nl),some (.ref rl),some (.ref kk),v5,v6,v7,v8]) ⟨I17,_,rfl⟩ ?_ ?_⟩
    ·rintro j σ' H18 hj ⟨I18,v8,rfl⟩
     obtain⟨b',hb'⟩:=bI_of (n:=0+(j:Int)) (by omega) (by omega)
     have hl:=hds b'
     dsimp only [eZ]
     rw[hb']
     refine I18.right (b:=b') (by omega) rfl rfl rfl fun H19 I19=>⟨_,rfl,dU ?_⟩
     exact⟨I19,_,rfl⟩
    ·rintro σ' H18 ⟨I18,v8,rfl⟩
     exact⟨ds,I18,hds,_,_,_,_,rfl⟩
   dsimp only [tSeq]
   refine I16.if_back (b:=b) rfl rfl rfl (by decide) (by decide) (fun H17 I17 hne=>?_) (fun H17 I17=>?_)
   ·obtain⟨l,d,e⟩:∃ l d,ds b=l++[d]:=⟨(ds b).dropLast,(ds b).getLast hne,(List.dropLast_concat_getLast hne).symm⟩
    have sb:=I17.sd b
    obtain⟨dx',np,R',M,T',ei⟩:=sb.ra.ins
    have ok:=sb.ok
    rw[e] at ok
    refine⟨_,rfl,_,rfl,.inl ⟨rl,_,bI b,_,rfl,rfl,bM.of I17.hr,cR _ b,r b,dx',_,rfl,ei,lk_m "back" rfl,r b,_,fp b,rfl,sb.ra,.inr ⟨eN (net b) l,d,by rw[e,runD_snoc],(runD_factsF (nok b) _ rfl ok.pre.few).1,fun H18 b18 ra18=>?_⟩⟩⟩
    obtain⟨kvs,kv,e18,I19⟩:=I17.pop e b18 ra18
    have hk18:=b18 _ _ (I17.of b kk (by simp)) I17.hk
    refine⟨_,rfl,_,rfl,.inl ⟨kk,_,bI b,_,rfl,rfl,bM.of hk18,cR _ b,.inl ⟨rfl,_,bM.of e18⟩,kl b,_,kv,rfl,rfl,e18,last_at _ _,?_⟩⟩
    rw[List.dropLast_concat]
    have hl:=hds b
    rw[e,List.length_append,List.length_singleton] at hl
    exact hR _ _ ⟨_,I19,lenp l _ (by omega) fun b'=>by have:=hds b';omega,_,_,_,_,rfl⟩
   ·have sb:=I17.sd b
    obtain⟨sok,en,sz⟩:=sb.facts
    obtain⟨kvs,kv,e17,hkl,hk,_⟩:=sb.top
    obtain⟨ka,st,ha,tl,bl,ts,bs,rfl,kc⟩:=hk
    have ipl:(eN (net b) (ds b)).cur.poured.length=(net b).vs.length:=by have:=sok.cur.pl;rw[en] at this;exact this
    have mc:=sb.ok.cur
    have mt0:=mc.t0
    have mt1:=mc.t1
    have hl:=hds b
    refine⟨_,rfl,_,rfl,_,rfl,.inl ⟨nl,_,bI b,_,rfl,rfl,bM.of I17.hn,cR _ b,_,rfl,_,rfl,.inl ⟨kk,_,bI b,_,rfl,rfl,bM.of I17.hk,cR _ b,1,rfl,.inl ⟨kl b,_,-1,_,rfl,rfl,bM.of e17,eJ _ _,.inr (.inl ⟨ka,_,1,_,rfl,rfl,kc.tup,rfl,?_⟩)⟩⟩⟩⟩
    refine⟨_,rfl,_,rfl,.inl ⟨kk,_,bI b,_,rfl,rfl,bM.of I17.hk,cR _ b,1,rfl,.inl ⟨kl b,_,-1,_,rfl,rfl,bM.of e17,eJ _ _,.inr (.inl ⟨ka,_,2,_,rfl,rfl,kc.tup,rfl,_,_,rfl,rfl,t,sl,ha,p b,net b,(eN (net b) (ds b)).cur.poured,_,rfl,I17.tp,sb.hp,nok b,kc.hha,ipl,by omega,mc.po,fun d u H18 e18 iu dok=>?_⟩)⟩⟩⟩
    have I18:=I17.draw e18.bt e18.tp
    have sb18:=I18.sd b
    clear kc e17
    obtain⟨dx',np,R',M,T',ei⟩:=sb18.ra.ins
    have app:∀ d:Deed,∀ b',(put ds b (ds b++[d]) b').length≤i+1:=fun d=>lenp _ _ (by rw[List.length_append,List.length_singleton];omega) fun b'=>by have:=hds b';omega
    cases d with
    | pour v am=>
     obtain⟨v0,v1,am0,am1⟩:=dok
     obtain⟨du,rfl,qd⟩:=pour_un iu
     refine⟨_,rfl,.inr (.inl ⟨du,_,0,_,rfl,rfl,qd,rfl,rfl,_,rfl,eX (fun _=>?_) fun z=>absurd (decide_eq_true rfl) z⟩)⟩
     refine⟨_,rfl,_,rfl,.inl ⟨rl,_,bI b,_,rfl,rfl,bM.of I18.hr,cR _ b,r b,dx',_,rfl,ei,lk_m "pour" rfl,_,rfl,.inr (.inl ⟨du,_,1,_,rfl,rfl,qd,rfl,_,rfl,.inr (.inl ⟨du,_,2,_,rfl,rfl,qd,rfl,r b,_,fp b,v,am,600 * (ds b).length,rfl,sb18.ra,sz,by omega,.inl ⟨v0,by rw[en];exact v1,fun H19 b19 ra19=>?_⟩⟩)⟩)⟩⟩
     obtain⟨kvs,kv,e19,g⟩:=I18.gone (b:=b) (d:=.pour v am) (u:=.ref du) (Q:=fun _ H20=>R _ _ H20) b19 ra19 (aK.refl _) (Is.mono (butL_ts b19 sb18.ra.mut) _ _ iu) trivial ⟨v0,v1,am0,am1⟩ (by omega) fun H20 I20=>hR _ _ ⟨_,I20,app _,_,_,_,_,rfl⟩
     have hk19:=b19 _ _ (I18.of b kk (by simp)) I18.hk
     have hn19:=b19 _ _ (I18.of b nl (by simp)) I18.hn
     exact⟨_,rfl,_,rfl,.inl ⟨kk,_,bI b,_,rfl,rfl,bM.of hk19,cR _ b,.inl ⟨rfl,_,bM.of e19⟩,_,rfl,_,rfl,.inl ⟨nl,_,bI b,_,rfl,rfl,bM.of hn19,cR _ b,_,rfl,_,rfl,.inl ⟨kk,_,bI b,_,rfl,rfl,bM.of hk19,cR _ b,1,rfl,.inl ⟨kl b,_,-1,kv,rfl,rfl,bM.of e19,eJ _ _,_,rfl,g⟩⟩⟩⟩⟩
    | go n=>
     obtain⟨bB,n1'⟩:=dok
     obtain⟨du,rfl,qd⟩:=go_un iu
     refine⟨_,rfl,.inr (.inl ⟨du,_,0,_,rfl,rfl,qd,rfl,rfl,_,rfl,eX (fun z=>absurd (of_decide_eq_true z) (by decide)) fun _=>?_⟩)⟩
     refine⟨_,rfl,_,rfl,.inl ⟨rl,_,bI b,_,rfl,rfl,bM.of I18.hr,cR _ b,r b,dx',_,rfl,ei,lk_m "go" rfl,_,rfl,.inr (.inl ⟨du,_,1,_,rfl,rfl,qd,rfl,r b,_,fp b,n,600 * (ds b).length,rfl,sb18.ra,sz,by omega,by omega,fun H19 b19 ra19=>?_⟩)⟩⟩
     obtain⟨kvs,kv,e19,g⟩:=I18.gone (b:=b) (d:=.go n) (u:=.ref du) (Q:=fun _ H20=>R _ _ H20) b19 ra19 (aK.refl _) (Is.mono (butL_ts b19 sb18.ra.mut) _ _ iu) bB ⟨by omega,by omega,mt0⟩ (by omega) fun H20 I20=>hR _ _ ⟨_,I20,app _,_,_,_,_,rfl⟩
     have hk19:=b19 _ _ (I18.of b kk (by simp)) I18.hk
     have hn19:=b19 _ _ (I18.of b nl (by simp)) I18.hn
     exact⟨_,rfl,_,rfl,.inl ⟨kk,_,bI b,_,rfl,rfl,bM.of hk19,cR _ b,.inl ⟨rfl,_,bM.of e19⟩,_,rfl,_,rfl,.inl ⟨nl,_,bI b,_,rfl,rfl,bM.of hn19,cR _ b,_,rfl,_,rfl,.inl ⟨kk,_,bI b,_,rfl,rfl,bM.of hk19,cR _ b,1,rfl,.inl ⟨kl b,_,-1,kv,rfl,rfl,bM.of e19,eJ _ _,_,rfl,g⟩⟩⟩⟩⟩
  ·clear c0 c14
   rintro σ' H15 ⟨ds,I15,hds,v5,v6,v7,v8,rfl⟩
   have hd60:∀ b,(ds b).length≤60:=fun b=>by have:=hds b;omega
   refine⟨2,rfl,by decide,by decide,dO (lo:=0) (n:=2) (fun j σ' H'=>∃ dd,M38 K C H' nl rl kk r kl fp p net (fun b=>(ds b).length) dd∧(∀ b,¬ bI b < (j:Int)→dd b=ds b)∧∃ v5 v8,σ'=[some (.ref a),some (.ref t),some (.ref nl),some (.ref rl),some (.ref kk),v5,v6,v7,v8]) ⟨ds,I15.last,fun b _=>rfl,_,_,rfl⟩ ?_ ?_⟩
   ·clear I15
    rintro j σ' H16 hj ⟨dd,I16,hdd,v5,v8,rfl⟩
    obtain⟨b,hb⟩:=bI_of (n:=0+(j:Int)) (by omega) (by omega)
    have edd:dd b=ds b:=hdd b (by omega)
    dsimp only [eZ]
    rw[hb]
    obtain⟨dx',np,R',M,T',ei⟩:=(I16.ra b).ins
    refine⟨_,rfl,_,rfl,.inl ⟨nl,_,bI b,_,rfl,rfl,bM.of I16.hn,cR _ b,_,rfl,_,rfl,.inl ⟨rl,_,bI b,_,rfl,rfl,bM.of I16.hr,cR _ b,r b,dx',_,rfl,ei,lk_m "book" rfl,r b,_,fp b,rfl,I16.ra b,fun bk bxs hbk lx=>?_⟩⟩⟩
    have s17:=aK.new (o:=HO.lst bxs) hbk
    have e17:upd H16 bk (.lst bxs) bk=some (.lst bxs):=aD
    generalize upd H16 bk (.lst bxs)=H17 at s17 e17
    have I17:=I16.same s17
    have lx17:=L2.IsL.mono s17.ts _ _ lx
    rw[runD_rows] at lx17
    refine⟨p b,bk,net b,_,bxs,rfl,I17.hp b,nok b,e17,lx17,(I17.ok b).rows,fun H18 s18=>?_⟩
    rw[lie_offs,offs_self]
    refine⟨rfl,_,rfl,iteNS rfl ?_⟩
    have I18:=I17.same s18
    clear I16 I17
    obtain⟨kvs,ek,hkl⟩:=I18.kv b
    have hl60:=hd60 b
    refine⟨_,rfl,_,rfl,.inl ⟨kk,_,bI b,_,rfl,rfl,bM.of I18.hk,cR _ b,kl b,kvs,rfl,.inl (bM.of ek),_,_,rfl,rfl,_,rfl,by omega,by omega,?_⟩⟩
    have en:(((kvs.length:Nat):Int) - 1).toNat=(ds b).length:=by rw[hkl];omega
    rw[en]
    refine dO (lo:=0) (n:=(ds b).length) (fun i σ' H'=>∃ dd,M38 K C H' nl rl kk r kl fp p net (fun b=>(ds b).length) dd∧(∀ b',¬ bI b' < (j:Int)+1→dd b'=ds b')∧dd b=(ds b).take ((ds b).length - i)∧∃ v5,σ'=[some (.ref a),some (.ref t),some (.ref nl),some (.ref rl),some (.ref kk),v5,v6,v7,some (.int (bI b))]) ?_ ?_ ?_
    ·exact⟨dd,I18,fun b' h=>hdd b' (by omega),by rw[Nat.sub_zero,List.take_length];exact edd,_,rfl⟩
    ·clear I18
     rintro i σ' H19 hi ⟨dd,I19,hdd',edd',v5,rfl⟩
     have hne:dd b≠[]:=fun z=>by
      have:=congrArg List.length (edd'.symm.trans z)
      rw[List.length_take,List.length_nil] at this;omega
     obtain⟨l,d,e⟩:∃ l d,dd b=l++[d]:=⟨(dd b).dropLast,(dd b).getLast hne,(List.dropLast_concat_getLast hne).symm⟩
     have el:l=(ds b).take ((ds b).length - (i+1)):=by
      have h1:l=(dd b).dropLast:=by rw[e,List.dropLast_concat]
      rw[h1,edd',List.dropLast_eq_take,List.length_take,List.take_take]
      congr 1;omega
     have ok:=I19.ok b
     rw[e] at ok
     obtain⟨dx',np,R',M,T',ei⟩:=(I19.ra b).ins
     refine⟨_,rfl,_,rfl,.inl ⟨rl,_,bI b,_,rfl,rfl,bM.of I19.hr,cR _ b,r b,dx',_,rfl,ei,lk_m "back" rfl,r b,_,fp b,rfl,I19.ra b,.inr ⟨eN (net b) l,d,by rw[e,runD_snoc],(runD_factsF (nok b) _ rfl ok.pre.few).1,fun H20 b20 ra20=>?_⟩⟩⟩
     refine⟨_,I19.on b20 ra20 ok.pre,fun b' h=>?_,by rw[put_same];exact el,_,rfl⟩
     by_cases h':b'=b
     ·subst h';omega
     ·rw[put_ne h'];exact hdd' b' h
    ·clear I18
     rintro σ' H19 ⟨dd,I19,hdd',edd',v5,rfl⟩
     rw[Nat.sub_self,List.take_zero] at edd'
     have ra19:=I19.ra b
     rw[edd'] at ra19
     refine⟨_,rfl,_,rfl,.inl ⟨rl,_,bI b,_,rfl,rfl,bM.of I19.hr,cR _ b,_,rfl,_,rfl,.inl ⟨nl,_,bI b,_,rfl,rfl,bM.of I19.hn,cR _ b,p b,net b,rfl,I19.hp b,nok b,fun kv H20 s20 kp=>?_⟩⟩⟩
     refine⟨r b,kv,run0 (net b),fp b,_,0,rfl,ra19.same s20,kp,run0_sz _,by omega,fun H21 s21=>⟨_,rfl,dU ?_⟩⟩
     exact⟨dd,(I19.same s20).same s21,fun b' h=>hdd' b' (by omega),_,_,rfl⟩
   ·rintro σ' H16 _
    exact k H16
end
end Tw
namespace Tw
open PySem L2
theorem eR {α:Type}{p:List α→Prop} (h:∀ a0,p [a0]):∀ us:List α,us.length=1→p us
 | [a0],_=>h a0
theorem eC {α:Type}{p:List α→Prop} (h:∀ a0 a1,p [a0,a1]):∀ us:List α,us.length=2→p us
 | [a0,a1],_=>h a0 a1
theorem d4 {α:Type}{p:List α→Prop} (h:∀ a0 a1 a2,p [a0,a1,a2]):∀ us:List α,us.length=3→p us
 | [a0,a1,a2],_=>h a0 a1 a2
theorem by_len4 {α:Type}{p:List α→Prop} (h:∀ a0 a1 a2 a3,p [a0,a1,a2,a3]):∀ us:List α,us.length=4→p us
 | [a0,a1,a2,a3],_=>h a0 a1 a2 a3
theorem by_len5 {α:Type}{p:List α→Prop} (h:∀ a0 a1 a2 a3 a4,p [a0,a1,a2,a3,a4]):∀ us:List α,us.length=5→p us
 | [a0,a1,a2,a3,a4],_=>h a0 a1 a2 a3 a4
theorem all_mk {l:PySem.W.OpenLaw}{w:World}{K:PySem.W.Frag}{h:Heap}{mg:Str→Option Value}{fa f0 f1 f2 f3 f4 f5 f6 f7 f8 f9 f10 f11 f12 f13 f14 f15 f16 f17 f18 f19 f20 f21 f22 f23 f24 f25 f26 f27 f28 f29 f30 f31 f32 f33 f34 f35 f36 f37 f38 f39 f40 f41 f42 f43 f44 f45 f46 f47 f48 C aw c_TipError c_NoNet c_NoVessel c_Nothing:Addr} (X:K.In h) (G:h.Ns mainGlobals mg) (hfa:mg "law" = some (.ref fa))
  {od0 an0 od1 an1 od2 an2 od3 an3 od4 an4 od5 an5 od6 an6 od7 an7 od8 an8 od9 an9 od10 an10 od11 an11 od12 an12 od13 an13 od14 an14 od15 an15 od16 an16 od17 an17 od18 an18 od19 an19 od20 an20 od21 an21 od22 an22 od23 an23 od24 an24 od25 an25 od26 an26 od27 an27 od28 an28 od29 an29 od30 an30 od31 an31 od32 an32 od33 an33 od34 an34 od35 an35 od36 an36 od37 an37 od38 an38 od39 an39 od40 an40 od41 an41 od42 an42 od43 an43 od44 an44 od45 an45 od46 an46 od47 an47 od48 an48:Option Addr}{sl0 sl1 sl2 sl3 sl4 sl5 sl6 sl7 sl8 sl9 sl10 sl11 sl12 sl13 sl14 sl15 sl16 sl17 sl18 sl19 sl20 sl21 sl22 sl23 sl24 sl25 sl26 sl27 sl28 sl29 sl30 sl31 sl32 sl33 sl34 sl35 sl36 sl37 sl38 sl39 sl40 sl41 sl42 sl43 sl44 sl45 sl46 sl47 sl48:Array (Option Value)}{oc0 kV0 dc0 pm0 cd0 ct0 oc1 kV1 dc1 pm1 cd1 ct1 oc2 kV2 dc2 pm2 cd2 ct2 oc3 kV3 dc3 pm3 cd3 ct3 oc4 kV4 dc4 pm4 cd4 ct4 oc5 kV5 dc5 pm5 cd5 ct5 oc6 kV6 dc6 pm6 cd6 ct6 oc7 kV7 dc7 pm7 cd7 ct7 oc8 kV8 dc8 pm8 cd8 ct8 oc9 kV9 dc9 pm9 cd9 ct9 oc10 kV10 dc10 pm10 cd10 ct10 oc11 kV11 dc11 pm11 cd11 ct11 oc12 kV12 dc12 pm12 cd12 ct12 oc13 kV13 dc13 pm13 cd13 ct13 oc14 kV14 dc14 pm14 cd14 ct14 oc15 kV15 dc15 pm15 cd15 ct15 oc16 kV16 dc16 pm16 cd16 ct16 oc17 kV17 dc17 pm17 cd17 ct17 oc18 kV18 dc18 pm18 cd18 ct18 oc19 kV19 dc19 pm19 cd19 ct19 oc20 kV20 dc20 pm20 cd20 ct20 oc21 kV21 dc21 pm21 cd21 ct21 oc22 kV22 dc22 pm22 cd22 ct22 oc23 kV23 dc23 pm23 cd23 ct23 oc24 kV24 dc24 pm24 cd24 ct24 oc25 kV25 dc25 pm25 cd25 ct25 oc26 kV26 dc26 pm26 cd26 ct26 oc27 kV27 dc27 pm27 cd27 ct27 oc28 kV28 dc28 pm28 cd28 ct28 oc29 kV29 dc29 pm29 cd29 ct29 oc30 kV30 dc30 pm30 cd30 ct30 oc31 kV31 dc31 pm31 cd31 ct31 oc32 kV32 dc32 pm32 cd32 ct32 oc33 kV33 dc33 pm33 cd33 ct33 oc34 kV34 dc34 pm34 cd34 ct34 oc35 kV35 dc35 pm35 cd35 ct35 oc36 kV36 dc36 pm36 cd36 ct36 oc37 kV37 dc37 pm37 cd37 ct37 oc38 kV38 dc38 pm38 cd38 ct38 oc39 kV39 dc39 pm39 cd39 ct39 oc40 kV40 dc40 pm40 cd40 ct40 oc41 kV41 dc41 pm41 cd41 ct41 oc42 kV42 dc42 pm42 cd42 ct42 oc43 kV43 dc43 pm43 cd43 ct43 oc44 kV44 dc44 pm44 cd44 ct44 oc45 kV45 dc45 pm45 cd45 ct45 oc46 kV46 dc46 pm46 cd46 ct46 oc47 kV47 dc47 pm47 cd47 ct47 oc48 kV48 dc48 pm48 cd48 ct48:Value}
  {tk0 tk1 tk2 tk3 tk4 tk5 tk6 tk7 tw1 tw2 tw3:Tok}{odw:Option Addr}{nw:Nat}{slw:Array (Option Value)}
  (aC:PySem.W.nsIn K mainGlobals "Run" = some (some (.ref C)))
  {tkB1 tkB2:Tok}
  (a0:PySem.W.nsIn K mainGlobals "_law_draw" = some (some (.ref f0)))
  (l0:K.lookup f0=some ⟨oc0,od0,.func (PySem.W.fnOf "_law_draw" "_law_draw" (aY (top 50)) (aW (top 50)) (aL (top 50)) .none kV0 dc0 pm0 an0 cd0 ct0),sl0⟩)
  (c0:PySem.W.codeIn K cd0 "_law_draw" = true)
  (k0:PySem.W.keepIn K (.ref f0)=true)
  (a1:PySem.W.nsIn K mainGlobals "_law_outs" = some (some (.ref f1)))
  (l1:K.lookup f1=some ⟨oc1,od1,.func (PySem.W.fnOf "_law_outs" "_law_outs" (aY (top 51)) (aW (top 51)) (aL (top 51)) .none kV1 dc1 pm1 an1 cd1 ct1),sl1⟩)
  (c1:PySem.W.codeIn K cd1 "_law_outs" = true)
  (k1:PySem.W.keepIn K (.ref f1)=true)
  (a2:PySem.W.nsIn K mainGlobals "_law_vessel" = some (some (.ref f2)))
  (l2:K.lookup f2=some ⟨oc2,od2,.func (PySem.W.fnOf "_law_vessel" "_law_vessel" (aY (top 52)) (aW (top 52)) (aL (top 52)) .none kV2 dc2 pm2 an2 cd2 ct2),sl2⟩)
  (c2:PySem.W.codeIn K cd2 "_law_vessel" = true)
  (k2:PySem.W.keepIn K (.ref f2)=true)
  (a3:PySem.W.nsIn K mainGlobals "_law_net" = some (some (.ref f3)))
  (l3:K.lookup f3=some ⟨oc3,od3,.func (PySem.W.fnOf "_law_net" "_law_net" (aY (top 53)) (aW (top 53)) (aL (top 53)) .none kV3 dc3 pm3 an3 cd3 ct3),sl3⟩)
  (c3:PySem.W.codeIn K cd3 "_law_net" = true)
  (k3:PySem.W.keepIn K (.ref f3)=true)
  (a4:PySem.W.nsIn K mainGlobals "is_tuple" = some (some (.ref f4)))
  (l4:K.lookup f4=some ⟨oc4,od4,.func (PySem.W.fnOf "is_tuple" "is_tuple" (aY (top 40)) (aW (top 40)) (aL (top 40)) .none kV4 dc4 pm4 an4 cd4 ct4),sl4⟩)
  (c4:PySem.W.codeIn K cd4 "is_tuple" = true)
  (k4:PySem.W.keepIn K (.ref f4)=true)
  (a5:PySem.W.nsIn K mainGlobals "is_whole" = some (some (.ref f5)))
  (l5:K.lookup f5=some ⟨oc5,od5,.func (PySem.W.fnOf "is_whole" "is_whole" (aY (top 41)) (aW (top 41)) (aL (top 41)) .none kV5 dc5 pm5 an5 cd5 ct5),sl5⟩)
  (c5:PySem.W.codeIn K cd5 "is_whole" = true)
  (k5:PySem.W.keepIn K (.ref f5)=true)
  (a6:PySem.W.nsIn K mainGlobals "is_out" = some (some (.ref f6)))
  (l6:K.lookup f6=some ⟨oc6,od6,.func (PySem.W.fnOf "is_out" "is_out" (aY (top 36)) (aW (top 36)) (aL (top 36)) .none kV6 dc6 pm6 an6 cd6 ct6),sl6⟩)
  (c6:PySem.W.codeIn K cd6 "is_out" = true)
  (k6:PySem.W.keepIn K (.ref f6)=true)
  (a7:PySem.W.nsIn K mainGlobals "is_act" = some (some (.ref f7)))
  (l7:K.lookup f7=some ⟨oc7,od7,.func (PySem.W.fnOf "is_act" "is_act" (aY (top 37)) (aW (top 37)) (aL (top 37)) .none kV7 dc7 pm7 an7 cd7 ct7),sl7⟩)
  (c7:PySem.W.codeIn K cd7 "is_act" = true)
  (k7:PySem.W.keepIn K (.ref f7)=true)
  (a8:PySem.W.nsIn K mainGlobals "is_vessel" = some (some (.ref f8)))
  (l8:K.lookup f8=some ⟨oc8,od8,.func (PySem.W.fnOf "is_vessel" "is_vessel" (aY (top 35)) (aW (top 35)) (aL (top 35)) .none kV8 dc8 pm8 an8 cd8 ct8),sl8⟩)
  (c8:PySem.W.codeIn K cd8 "is_vessel" = true)
  (k8:PySem.W.keepIn K (.ref f8)=true)
  (a9:PySem.W.nsIn K mainGlobals "is_spout" = some (some (.ref f9)))
  (l9:K.lookup f9=some ⟨oc9,od9,.func (PySem.W.fnOf "is_spout" "is_spout" (aY (top 38)) (aW (top 38)) (aL (top 38)) .none kV9 dc9 pm9 an9 cd9 ct9),sl9⟩)
  (c9:PySem.W.codeIn K cd9 "is_spout" = true)
  (k9:PySem.W.keepIn K (.ref f9)=true)
  (a10:PySem.W.nsIn K mainGlobals "is_net" = some (some (.ref f10)))
  (l10:K.lookup f10=some ⟨oc10,od10,.func (PySem.W.fnOf "is_net" "is_net" (aY (top 34)) (aW (top 34)) (aL (top 34)) .none kV10 dc10 pm10 an10 cd10 ct10),sl10⟩)
  (c10:PySem.W.codeIn K cd10 "is_net" = true)
  (k10:PySem.W.keepIn K (.ref f10)=true)
  (a11:PySem.W.nsIn K mainGlobals "first_state" = some (some (.ref f11)))
  (l11:K.lookup f11=some ⟨oc11,od11,.func (PySem.W.fnOf "first_state" "first_state" (aY (top 6)) (aW (top 6)) (aL (top 6)) .none kV11 dc11 pm11 an11 cd11 ct11),sl11⟩)
  (c11:PySem.W.codeIn K cd11 "first_state" = true)
  (k11:PySem.W.keepIn K (.ref f11)=true)
  (a12:PySem.W.nsIn K mainGlobals "pouring" = some (some (.ref f12)))
  (l12:K.lookup f12=some ⟨oc12,od12,.func (PySem.W.fnOf "pouring" "pouring" (aY (top 7)) (aW (top 7)) (aL (top 7)) .none kV12 dc12 pm12 an12 cd12 ct12),sl12⟩)
  (c12:PySem.W.codeIn K cd12 "pouring" = true)
  (k12:PySem.W.keepIn K (.ref f12)=true)
  (a13:PySem.W.nsIn K mainGlobals "first_moment" = some (some (.ref f13)))
  (l13:K.lookup f13=some ⟨oc13,od13,.func (PySem.W.fnOf "first_moment" "first_moment" (aY (top 18)) (aW (top 18)) (aL (top 18)) .none kV13 dc13 pm13 an13 cd13 ct13),sl13⟩)
  (c13:PySem.W.codeIn K cd13 "first_moment" = true)
  (k13:PySem.W.keepIn K (.ref f13)=true)
  (a14:PySem.W.findIn K (.ref C) "__init__" = some (some (.ref f14)))
  (i14:PySem.W.isFn K (.ref f14)=true)
  (l14:K.lookup f14=some ⟨oc14,od14,.func (PySem.W.fnOf "__init__" "Run.__init__" (aY (aV (top 43) 0)) (aW (aV (top 43) 0)) (aL (aV (top 43) 0)) .none kV14 dc14 pm14 an14 cd14 ct14),sl14⟩)
  (c14:PySem.W.codeIn K cd14 "Run.__init__" = true)
  (k14:PySem.W.keepIn K (.ref f14)=true)
  (a15:PySem.W.nsIn K mainGlobals "_law_first" = some (some (.ref f15)))
  (l15:K.lookup f15=some ⟨oc15,od15,.func (PySem.W.fnOf "_law_first" "_law_first" (aY (top 54)) (aW (top 54)) (aL (top 54)) .none kV15 dc15 pm15 an15 cd15 ct15),sl15⟩)
  (c15:PySem.W.codeIn K cd15 "_law_first" = true)
  (k15:PySem.W.keepIn K (.ref f15)=true)
  (a16:PySem.W.nsIn K mainGlobals "_law_book_first" = some (some (.ref f16)))
  (l16:K.lookup f16=some ⟨oc16,od16,.func (PySem.W.fnOf "_law_book_first" "_law_book_first" (aY (top 59)) (aW (top 59)) (aL (top 59)) .none kV16 dc16 pm16 an16 cd16 ct16),sl16⟩)
  (c16:PySem.W.codeIn K cd16 "_law_book_first" = true)
  (k16:PySem.W.keepIn K (.ref f16)=true)
  (a17:PySem.W.findIn K (.ref C) "back" = some (some (.ref f17)))
  (i17:PySem.W.isFn K (.ref f17)=true)
  (l17:K.lookup f17=some ⟨oc17,od17,.func (PySem.W.fnOf "back" "Run.back" (aY (aV (top 43) 3)) (aW (aV (top 43) 3)) (aL (aV (top 43) 3)) .none kV17 dc17 pm17 an17 cd17 ct17),sl17⟩)
  (c17:PySem.W.codeIn K cd17 "Run.back" = true)
  (k17:PySem.W.keepIn K (.ref f17)=true)
  (a18:PySem.W.nsIn K mainGlobals "_law_book_deed" = some (some (.ref f18)))
  (l18:K.lookup f18=some ⟨oc18,od18,.func (PySem.W.fnOf "_law_book_deed" "_law_book_deed" (aY (top 57)) (aW (top 57)) (aL (top 57)) .none kV18 dc18 pm18 an18 cd18 ct18),sl18⟩)
  (c18:PySem.W.codeIn K cd18 "_law_book_deed" = true)
  (k18:PySem.W.keepIn K (.ref f18)=true)
  (a19:PySem.W.nsIn K mainGlobals "need_vessel" = some (some (.ref f19)))
  (l19:K.lookup f19=some ⟨oc19,od19,.func (PySem.W.fnOf "need_vessel" "need_vessel" (aY (top 39)) (aW (top 39)) (aL (top 39)) .none kV19 dc19 pm19 an19 cd19 ct19),sl19⟩)
  (c19:PySem.W.codeIn K cd19 "need_vessel" = true)
  (k19:PySem.W.keepIn K (.ref f19)=true)
  (a20:PySem.W.nsIn K mainGlobals "moment_poured" = some (some (.ref f20)))
  (l20:K.lookup f20=some ⟨oc20,od20,.func (PySem.W.fnOf "moment_poured" "moment_poured" (aY (top 19)) (aW (top 19)) (aL (top 19)) .none kV20 dc20 pm20 an20 cd20 ct20),sl20⟩)
  (c20:PySem.W.codeIn K cd20 "moment_poured" = true)
  (k20:PySem.W.keepIn K (.ref f20)=true)
  (a21:PySem.W.findIn K (.ref C) "pour" = some (some (.ref f21)))
  (i21:PySem.W.isFn K (.ref f21)=true)
  (l21:K.lookup f21=some ⟨oc21,od21,.func (PySem.W.fnOf "pour" "Run.pour" (aY (aV (top 43) 1)) (aW (aV (top 43) 1)) (aL (aV (top 43) 1)) .none kV21 dc21 pm21 an21 cd21 ct21),sl21⟩)
  (c21:PySem.W.codeIn K cd21 "Run.pour" = true)
  (k21:PySem.W.keepIn K (.ref f21)=true)
  (a22:PySem.W.nsIn K mainGlobals "filled" = some (some (.ref f22)))
  (l22:K.lookup f22=some ⟨oc22,od22,.func (PySem.W.fnOf "filled" "filled" (aY (top 10)) (aW (top 10)) (aL (top 10)) .none kV22 dc22 pm22 an22 cd22 ct22),sl22⟩)
  (c22:PySem.W.codeIn K cd22 "filled" = true)
  (k22:PySem.W.keepIn K (.ref f22)=true)
  (a23:PySem.W.nsIn K mainGlobals "send" = some (some (.ref f23)))
  (l23:K.lookup f23=some ⟨oc23,od23,.func (PySem.W.fnOf "send" "send" (aY (top 13)) (aW (top 13)) (aL (top 13)) .none kV23 dc23 pm23 an23 cd23 ct23),sl23⟩)
  (c23:PySem.W.codeIn K cd23 "send" = true)
  (k23:PySem.W.keepIn K (.ref f23)=true)
  (a24:PySem.W.nsIn K mainGlobals "share_out" = some (some (.ref f24)))
  (l24:K.lookup f24=some ⟨oc24,od24,.func (PySem.W.fnOf "share_out" "share_out" (aY (top 12)) (aW (top 12)) (aL (top 12)) .none kV24 dc24 pm24 an24 cd24 ct24),sl24⟩)
  (c24:PySem.W.codeIn K cd24 "share_out" = true)
  (k24:PySem.W.keepIn K (.ref f24)=true)
  (a25:PySem.W.nsIn K mainGlobals "settle" = some (some (.ref f25)))
  (l25:K.lookup f25=some ⟨oc25,od25,.func (PySem.W.fnOf "settle" "settle" (aY (top 11)) (aW (top 11)) (aL (top 11)) .none kV25 dc25 pm25 an25 cd25 ct25),sl25⟩)
  (c25:PySem.W.codeIn K cd25 "settle" = true)
  (k25:PySem.W.keepIn K (.ref f25)=true)
  (a26:PySem.W.nsIn K mainGlobals "doors_behind" = some (some (.ref f26)))
  (l26:K.lookup f26=some ⟨oc26,od26,.func (PySem.W.fnOf "doors_behind" "doors_behind" (aY (top 14)) (aW (top 14)) (aL (top 14)) .none kV26 dc26 pm26 an26 cd26 ct26),sl26⟩)
  (c26:PySem.W.codeIn K cd26 "doors_behind" = true)
  (k26:PySem.W.keepIn K (.ref f26)=true)
  (a27:PySem.W.nsIn K mainGlobals "tick_behind" = some (some (.ref f27)))
  (l27:K.lookup f27=some ⟨oc27,od27,.func (PySem.W.fnOf "tick_behind" "tick_behind" (aY (top 8)) (aW (top 8)) (aL (top 8)) .none kV27 dc27 pm27 an27 cd27 ct27),sl27⟩)
  (c27:PySem.W.codeIn K cd27 "tick_behind" = true)
  (k27:PySem.W.keepIn K (.ref f27)=true)
  (a28:PySem.W.nsIn K mainGlobals "came_in" = some (some (.ref f28)))
  (l28:K.lookup f28=some ⟨oc28,od28,.func (PySem.W.fnOf "came_in" "came_in" (aY (top 9)) (aW (top 9)) (aL (top 9)) .none kV28 dc28 pm28 an28 cd28 ct28),sl28⟩)
  (c28:PySem.W.codeIn K cd28 "came_in" = true)
  (k28:PySem.W.keepIn K (.ref f28)=true)
  (a29:PySem.W.nsIn K mainGlobals "moment_behind" = some (some (.ref f29)))
  (l29:K.lookup f29=some ⟨oc29,od29,.func (PySem.W.fnOf "moment_behind" "moment_behind" (aY (top 21)) (aW (top 21)) (aL (top 21)) .none kV29 dc29 pm29 an29 cd29 ct29),sl29⟩)
  (c29:PySem.W.codeIn K cd29 "moment_behind" = true)
  (k29:PySem.W.keepIn K (.ref f29)=true)
  (a30:PySem.W.nsIn K mainGlobals "moment_gone" = some (some (.ref f30)))
  (l30:K.lookup f30=some ⟨oc30,od30,.func (PySem.W.fnOf "moment_gone" "moment_gone" (aY (top 20)) (aW (top 20)) (aL (top 20)) .none kV30 dc30 pm30 an30 cd30 ct30),sl30⟩)
  (c30:PySem.W.codeIn K cd30 "moment_gone" = true)
  (k30:PySem.W.keepIn K (.ref f30)=true)
  (a31:PySem.W.findIn K (.ref C) "go" = some (some (.ref f31)))
  (i31:PySem.W.isFn K (.ref f31)=true)
  (l31:K.lookup f31=some ⟨oc31,od31,.func (PySem.W.fnOf "go" "Run.go" (aY (aV (top 43) 2)) (aW (aV (top 43) 2)) (aL (aV (top 43) 2)) .none kV31 dc31 pm31 an31 cd31 ct31),sl31⟩)
  (c31:PySem.W.codeIn K cd31 "Run.go" = true)
  (k31:PySem.W.keepIn K (.ref f31)=true)
  (a32:PySem.W.nsIn K mainGlobals "_law_filled" = some (some (.ref f32)))
  (l32:K.lookup f32=some ⟨oc32,od32,.func (PySem.W.fnOf "_law_filled" "_law_filled" (aY (top 55)) (aW (top 55)) (aL (top 55)) .none kV32 dc32 pm32 an32 cd32 ct32),sl32⟩)
  (c32:PySem.W.codeIn K cd32 "_law_filled" = true)
  (k32:PySem.W.keepIn K (.ref f32)=true)
  (a33:PySem.W.nsIn K mainGlobals "_law_tick" = some (some (.ref f33)))
  (l33:K.lookup f33=some ⟨oc33,od33,.func (PySem.W.fnOf "_law_tick" "_law_tick" (aY (top 56)) (aW (top 56)) (aL (top 56)) .none kV33 dc33 pm33 an33 cd33 ct33),sl33⟩)
  (c33:PySem.W.codeIn K cd33 "_law_tick" = true)
  (k33:PySem.W.keepIn K (.ref f33)=true)
  (a34:PySem.W.nsIn K mainGlobals "_law_book_gone" = some (some (.ref f34)))
  (l34:K.lookup f34=some ⟨oc34,od34,.func (PySem.W.fnOf "_law_book_gone" "_law_book_gone" (aY (top 58)) (aW (top 58)) (aL (top 58)) .none kV34 dc34 pm34 an34 cd34 ct34),sl34⟩)
  (c34:PySem.W.codeIn K cd34 "_law_book_gone" = true)
  (k34:PySem.W.keepIn K (.ref f34)=true)
  (a35:PySem.W.findIn K (.ref C) "state" = some (some (.ref f35)))
  (i35:PySem.W.isFn K (.ref f35)=true)
  (l35:K.lookup f35=some ⟨oc35,od35,.func (PySem.W.fnOf "state" "Run.state" (aY (aV (top 43) 5)) (aW (aV (top 43) 5)) (aL (aV (top 43) 5)) .none kV35 dc35 pm35 an35 cd35 ct35),sl35⟩)
  (c35:PySem.W.codeIn K cd35 "Run.state" = true)
  (k35:PySem.W.keepIn K (.ref f35)=true)
  (a36:PySem.W.findIn K (.ref C) "tick" = some (some (.ref f36)))
  (i36:PySem.W.isFn K (.ref f36)=true)
  (l36:K.lookup f36=some ⟨oc36,od36,.func (PySem.W.fnOf "tick" "Run.tick" (aY (aV (top 43) 4)) (aW (aV (top 43) 4)) (aL (aV (top 43) 4)) .none kV36 dc36 pm36 an36 cd36 ct36),sl36⟩)
  (c36:PySem.W.codeIn K cd36 "Run.tick" = true)
  (k36:PySem.W.keepIn K (.ref f36)=true)
  (a37:PySem.W.findIn K (.ref C) "came" = some (some (.ref f37)))
  (i37:PySem.W.isFn K (.ref f37)=true)
  (l37:K.lookup f37=some ⟨oc37,od37,.func (PySem.W.fnOf "came" "Run.came" (aY (aV (top 43) 7)) (aW (aV (top 43) 7)) (aL (aV (top 43) 7)) .none kV37 dc37 pm37 an37 cd37 ct37),sl37⟩)
  (c37:PySem.W.codeIn K cd37 "Run.came" = true)
  (k37:PySem.W.keepIn K (.ref f37)=true)
  (a38:PySem.W.findIn K (.ref C) "grounded" = some (some (.ref f38)))
  (i38:PySem.W.isFn K (.ref f38)=true)
  (l38:K.lookup f38=some ⟨oc38,od38,.func (PySem.W.fnOf "grounded" "Run.grounded" (aY (aV (top 43) 8)) (aW (aV (top 43) 8)) (aL (aV (top 43) 8)) .none kV38 dc38 pm38 an38 cd38 ct38),sl38⟩)
  (c38:PySem.W.codeIn K cd38 "Run.grounded" = true)
  (k38:PySem.W.keepIn K (.ref f38)=true)
  (a39:PySem.W.findIn K (.ref C) "tips" = some (some (.ref f39)))
  (i39:PySem.W.isFn K (.ref f39)=true)
  (l39:K.lookup f39=some ⟨oc39,od39,.func (PySem.W.fnOf "tips" "Run.tips" (aY (aV (top 43) 6)) (aW (aV (top 43) 6)) (aL (aV (top 43) 6)) .none kV39 dc39 pm39 an39 cd39 ct39),sl39⟩)
  (c39:PySem.W.codeIn K cd39 "Run.tips" = true)
  (k39:PySem.W.keepIn K (.ref f39)=true)
  (a40:PySem.W.findIn K (.ref C) "book" = some (some (.ref f40)))
  (i40:PySem.W.isFn K (.ref f40)=true)
  (l40:K.lookup f40=some ⟨oc40,od40,.func (PySem.W.fnOf "book" "Run.book" (aY (aV (top 43) 9)) (aW (aV (top 43) 9)) (aL (aV (top 43) 9)) .none kV40 dc40 pm40 an40 cd40 ct40),sl40⟩)
  (c40:PySem.W.codeIn K cd40 "Run.book" = true)
  (k40:PySem.W.keepIn K (.ref f40)=true)
  (a41:PySem.W.nsIn K mainGlobals "_law_run_right" = some (some (.ref f41)))
  (l41:K.lookup f41=some ⟨oc41,od41,.func (PySem.W.fnOf "_law_run_right" "_law_run_right" (aY (top 60)) (aW (top 60)) (aL (top 60)) .none kV41 dc41 pm41 an41 cd41 ct41),sl41⟩)
  (c41:PySem.W.codeIn K cd41 "_law_run_right" = true)
  (k41:PySem.W.keepIn K (.ref f41)=true)
  (a42:PySem.W.nsIn K mainGlobals "most_to_pour" = some (some (.ref f42)))
  (l42:K.lookup f42=some ⟨oc42,od42,.func (PySem.W.fnOf "most_to_pour" "most_to_pour" (aY (top 22)) (aW (top 22)) (aL (top 22)) .none kV42 dc42 pm42 an42 cd42 ct42),sl42⟩)
  (c42:PySem.W.codeIn K cd42 "most_to_pour" = true)
  (k42:PySem.W.keepIn K (.ref f42)=true)
  (a43:PySem.W.nsIn K mainGlobals "may_pour" = some (some (.ref f43)))
  (l43:K.lookup f43=some ⟨oc43,od43,.func (PySem.W.fnOf "may_pour" "may_pour" (aY (top 47)) (aW (top 47)) (aL (top 47)) .none kV43 dc43 pm43 an43 cd43 ct43),sl43⟩)
  (c43:PySem.W.codeIn K cd43 "may_pour" = true)
  (k43:PySem.W.keepIn K (.ref f43)=true)
  (a44:PySem.W.nsIn K mainGlobals "most_to_go" = some (some (.ref f44)))
  (l44:K.lookup f44=some ⟨oc44,od44,.func (PySem.W.fnOf "most_to_go" "most_to_go" (aY (top 23)) (aW (top 23)) (aL (top 23)) .none kV44 dc44 pm44 an44 cd44 ct44),sl44⟩)
  (c44:PySem.W.codeIn K cd44 "most_to_go" = true)
  (k44:PySem.W.keepIn K (.ref f44)=true)
  (a45:PySem.W.nsIn K mainGlobals "is_just" = some (some (.ref f45)))
  (l45:K.lookup f45=some ⟨oc45,od45,.func (PySem.W.fnOf "is_just" "is_just" (aY (top 48)) (aW (top 48)) (aL (top 48)) .none kV45 dc45 pm45 an45 cd45 ct45),sl45⟩)
  (c45:PySem.W.codeIn K cd45 "is_just" = true)
  (k45:PySem.W.keepIn K (.ref f45)=true)
  (a46:PySem.W.nsIn K mainGlobals "moment_told" = some (some (.ref f46)))
  (l46:K.lookup f46=some ⟨oc46,od46,.func (PySem.W.fnOf "moment_told" "moment_told" (aY (top 46)) (aW (top 46)) (aL (top 46)) .none kV46 dc46 pm46 an46 cd46 ct46),sl46⟩)
  (c46:PySem.W.codeIn K cd46 "moment_told" = true)
  (k46:PySem.W.keepIn K (.ref f46)=true)
  (a47:PySem.W.nsIn K mainGlobals "first_lie" = some (some (.ref f47)))
  (l47:K.lookup f47=some ⟨oc47,od47,.func (PySem.W.fnOf "first_lie" "first_lie" (aY (top 45)) (aW (top 45)) (aL (top 45)) .none kV47 dc47 pm47 an47 cd47 ct47),sl47⟩)
  (c47:PySem.W.codeIn K cd47 "first_lie" = true)
  (k47:PySem.W.keepIn K (.ref f47)=true)
  (a48:PySem.W.nsIn K mainGlobals "law" = some (some (.ref f48)))
  (l48:K.lookup f48=some ⟨oc48,od48,.func (PySem.W.fnOf "law" "law" (aY (top 61)) (aW (top 61)) (aL (top 61)) .none kV48 dc48 pm48 an48 cd48 ct48),sl48⟩)
  (c48:PySem.W.codeIn K cd48 "law" = true)
  (k48:PySem.W.keepIn K (.ref f48)=true)
  (pg:PySem.W.plainGet K C Str.empty=true)
  (hd:PySem.W.hasDictIn K C=true)
  (po:PySem.W.plainOver K C=true)
  (sa:PySem.W.findIn K (.ref C) "__setattr__" = some (some (.builtin "object.__setattr__")))
  (mk:PySem.W.makesIn K C=true)
  (kc:PySem.W.keepIn K (.ref C)=true)
  (n0:PySem.W.findIn K (.ref C) "net" = some none)
  (n1:PySem.W.findIn K (.ref C) "rows" = some none)
  (n2:PySem.W.findIn K (.ref C) "moments" = some none)
  (n3:PySem.W.findIn K (.ref C) "tip_ticks" = some none)
  (mc0:PySem.W.nsIn K mainGlobals "MOST_VESSELS" = some (some (.int 12 tk0)))
  (mc1:PySem.W.nsIn K mainGlobals "MOST_SPOUTS" = some (some (.int 12 tk1)))
  (mc2:PySem.W.nsIn K mainGlobals "MOST_SIZE" = some (some (.int 60 tk2)))
  (mc3:PySem.W.nsIn K mainGlobals "MOST_BRIM" = some (some (.int 200 tk3)))
  (mc4:PySem.W.nsIn K mainGlobals "MOST_OUTS" = some (some (.int 3 tk4)))
  (mc5:PySem.W.nsIn K mainGlobals "MOST_PARTS" = some (some (.int 60 tk5)))
  (mc6:PySem.W.nsIn K mainGlobals "MOST_ACTS" = some (some (.int 3 tk6)))
  (mc7:PySem.W.nsIn K mainGlobals "MOST_FLOW" = some (some (.int 60 tk7)))
  (mcw:PySem.W.nsIn K mainGlobals "ACT_WORDS" = some (some (.ref aw)))
  (mlw:K.lookup aw=some ⟨.type "tuple",odw,.seq #[.str "open" tw1,.str "shut" tw2,.str "turn" tw3] nw,slw⟩)
  (mcB1:PySem.W.nsIn K mainGlobals "MOST_POURED" = some (some (.int 1000 tkB1)))
  (mcB2:PySem.W.nsIn K mainGlobals "MOST_TICKS" = some (some (.int 3000 tkB2)))
  (xcTipError:PySem.W.nsIn K mainGlobals "TipError" = some (some (.ref c_TipError)))
  (xcNoNet:PySem.W.nsIn K mainGlobals "NoNet" = some (some (.ref c_NoNet)))
  (xcNoVessel:PySem.W.nsIn K mainGlobals "NoVessel" = some (some (.ref c_NoVessel)))
  (xcNothing:PySem.W.nsIn K mainGlobals "Nothing" = some (some (.ref c_Nothing)))
  (z0:PySem.W.nsIn K mainGlobals "len" = some none)
  (z1:PySem.W.nsIn K mainGlobals "sum" = some none)
  (z2:PySem.W.nsIn K mainGlobals "all" = some none)
  (z3:PySem.W.nsIn K mainGlobals "max" = some none)
  (z4:PySem.W.nsIn K mainGlobals "min" = some none)
  (z5:PySem.W.nsIn K mainGlobals "int" = some none)
  (z6:PySem.W.nsIn K mainGlobals "tuple" = some none)
  (z7:PySem.W.nsIn K mainGlobals "list" = some none)
  (z8:PySem.W.nsIn K mainGlobals "bool" = some none)
  (z9:PySem.W.nsIn K mainGlobals "range" = some none)
  (z10:PySem.W.nsIn K mainGlobals "zip" = some none)
  (z11:PySem.W.nsIn K mainGlobals "enumerate" = some none)
  (z12:PySem.W.nsIn K mainGlobals "isinstance" = some none)
  (z13:PySem.W.nsIn K mainGlobals "divmod" = some none)
  (z14:PySem.W.nsIn K mainGlobals "set" = some none)
  (z15:PySem.W.nsIn K mainGlobals "sorted" = some none)
  (exV:PySem.W.excIn K c_NoVessel [.type "ValueError",.type "Exception",.type "BaseException",.type "object"] "ValueError.__new__" = true)
  (exN:PySem.W.excIn K c_Nothing [.type "ValueError",.type "Exception",.type "BaseException",.type "object"] "ValueError.__new__" = true) :
  ∃ fd:FuncData,(∀ (s:Shared) (v:Value),BindsTo s fd ⟨[v],[]⟩ [("script",v)])∧∀ base:Heap,K.In base→base.Ns mainGlobals mg→FnOk l.prog w K mg base CX0 9 fa fd ["script"] (spLaw K):=by
 have e:=hfa.symm.trans (PySem.W.mg_of X G a48)
 cases e
 have T:Txt mg:=⟨PySem.W.mg_none_of X G z0,PySem.W.mg_none_of X G z1,PySem.W.mg_none_of X G z2,PySem.W.mg_none_of X G z3,PySem.W.mg_none_of X G z4,PySem.W.mg_none_of X G z5,PySem.W.mg_none_of X G z6,PySem.W.mg_none_of X G z7,PySem.W.mg_none_of X G z8,PySem.W.mg_none_of X G z9,PySem.W.mg_none_of X G z10,PySem.W.mg_none_of X G z11,PySem.W.mg_none_of X G z12,PySem.W.mg_none_of X G z13,PySem.W.mg_none_of X G z14,PySem.W.mg_none_of X G z15⟩
 have U:TxtN K mg aw:=⟨⟨_,PySem.W.mg_of X G mc0,_,rfl⟩,⟨_,PySem.W.mg_of X G mc1,_,rfl⟩,⟨_,PySem.W.mg_of X G mc2,_,rfl⟩,⟨_,PySem.W.mg_of X G mc3,_,rfl⟩,⟨_,PySem.W.mg_of X G mc4,_,rfl⟩,⟨_,PySem.W.mg_of X G mc5,_,rfl⟩,⟨_,PySem.W.mg_of X G mc6,_,rfl⟩,⟨_,PySem.W.mg_of X G mc7,_,rfl⟩,⟨_,PySem.W.mg_of X G mcw,rfl⟩,fun H=>.inr ⟨_,_,_,mlw,rfl,rfl,by show 3≤sizeLine;decide,.cons ⟨_,rfl⟩ (.cons ⟨_,rfl⟩ (.cons ⟨_,rfl⟩ .nil))⟩⟩
 have UB:TxtB mg:=⟨⟨_,PySem.W.mg_of X G mcB1,_,rfl⟩,⟨_,PySem.W.mg_of X G mcB2,_,rfl⟩⟩
 have XC_NoVessel:ExC K "NoVessel" c_NoVessel:=⟨xcNoVessel,exV⟩
 have XC_Nothing:ExC K "Nothing" c_Nothing:=⟨xcNothing,exN⟩
 have tx:RunTx K C:=⟨⟨pg,hd,po,sa⟩,n0,n1,n2,n3⟩
 have F0:=bJ (st:=(top 50)) l0 c0 k0
 have F1:=bJ (st:=(top 51)) l1 c1 k1
 have F2:=bJ (st:=(top 52)) l2 c2 k2
 have F3:=bJ (st:=(top 53)) l3 c3 k3
 have F4:=bJ (st:=(top 40)) l4 c4 k4
 have F5:=bJ (st:=(top 41)) l5 c5 k5
 have F6:=bJ (st:=(top 36)) l6 c6 k6
 have F7:=bJ (st:=(top 37)) l7 c7 k7
 have F8:=bJ (st:=(top 35)) l8 c8 k8
 have F9:=bJ (st:=(top 38)) l9 c9 k9
 have F10:=bJ (st:=(top 34)) l10 c10 k10
 have F11:=bJ (st:=(top 6)) l11 c11 k11
 have F12:=bJ (st:=(top 7)) l12 c12 k12
 have F13:=bJ (st:=(top 18)) l13 c13 k13
 have F14:=bJ (st:=(aV (top 43) 0)) l14 c14 k14
 have F15:=bJ (st:=(top 54)) l15 c15 k15
 have F16:=bJ (st:=(top 59)) l16 c16 k16
 have F17:=bJ (st:=(aV (top 43) 3)) l17 c17 k17
 have F18:=bJ (st:=(top 57)) l18 c18 k18
 have F19:=bJ (st:=(top 39)) l19 c19 k19
 have F20:=bJ (st:=(top 19)) l20 c20 k20
 have F21:=bJ (st:=(aV (top 43) 1)) l21 c21 k21
 have F22:=bJ (st:=(top 10)) l22 c22 k22
 have F23:=bJ (st:=(top 13)) l23 c23 k23
 have F24:=bJ (st:=(top 12)) l24 c24 k24
 have F25:=bJ (st:=(top 11)) l25 c25 k25
 have F26:=bJ (st:=(top 14)) l26 c26 k26
 have F27:=bJ (st:=(top 8)) l27 c27 k27
 have F28:=bJ (st:=(top 9)) l28 c28 k28
 have F29:=bJ (st:=(top 21)) l29 c29 k29
 have F30:=bJ (st:=(top 20)) l30 c30 k30
 have F31:=bJ (st:=(aV (top 43) 2)) l31 c31 k31
 have F32:=bJ (st:=(top 55)) l32 c32 k32
 have F33:=bJ (st:=(top 56)) l33 c33 k33
 have F34:=bJ (st:=(top 58)) l34 c34 k34
 have F35:=bJ (st:=(aV (top 43) 5)) l35 c35 k35
 have F36:=bJ (st:=(aV (top 43) 4)) l36 c36 k36
 have F37:=bJ (st:=(aV (top 43) 7)) l37 c37 k37
 have F38:=bJ (st:=(aV (top 43) 8)) l38 c38 k38
 have F39:=bJ (st:=(aV (top 43) 6)) l39 c39 k39
 have F40:=bJ (st:=(aV (top 43) 9)) l40 c40 k40
 have F41:=bJ (st:=(top 60)) l41 c41 k41
 have F42:=bJ (st:=(top 22)) l42 c42 k42
 have F43:=bJ (st:=(top 47)) l43 c43 k43
 have F44:=bJ (st:=(top 23)) l44 c44 k44
 have F45:=bJ (st:=(top 48)) l45 c45 k45
 have F46:=bJ (st:=(top 46)) l46 c46 k46
 have F47:=bJ (st:=(top 45)) l47 c47 k47
 have F48:=bJ (st:=(top 61)) l48 c48 k48
 refine⟨PySem.W.fnOf "law" "law" (aY (top 61)) (aW (top 61)) (aL (top 61)) .none kV48 dc48 pm48 an48 cd48 ct48,fun s v=>.of_eq rfl,fun base _ _=>?_⟩
 have C0:Callee l.prog w K mg base "_law_draw" ["tape","many"] 1 spDraw f0 _:=⟨ok__law_draw F0 T,PySem.W.mg_of X G a0,k0,F0.binds (ps:=["tape","many"]) fun _ _ _ _ _ _=>eC fun _ _=>rfl⟩
 have C1:Callee l.prog w K mg base "_law_outs" ["tape","many","small"] 2 (spOuts K) f1 _:=⟨ok__law_outs F1 T C0,PySem.W.mg_of X G a1,k1,F1.binds (ps:=["tape","many","small"]) fun _ _ _ _ _ _=>d4 fun _ _ _=>rfl⟩
 have C2:Callee l.prog w K mg base "_law_vessel" ["tape","number","many","spouts","small"] 3 (spVessel K) f2 _:=⟨ok__law_vessel F2 T C0 C1,PySem.W.mg_of X G a2,k2,F2.binds (ps:=["tape","number","many","spouts","small"]) fun _ _ _ _ _ _=>by_len5 fun _ _ _ _ _=>rfl⟩
 have C3:Callee l.prog w K mg base "_law_net" ["tape","most","small"] 4 (spNetM K) f3 _:=⟨ok__law_netM F3 T C0 C2,PySem.W.mg_of X G a3,k3,F3.binds (ps:=["tape","most","small"]) fun _ _ _ _ _ _=>d4 fun _ _ _=>rfl⟩
 have CB4:Callee l.prog w K mg base "is_tuple" ["thing","least","most"] 1 (spTupB K) f4 _:=⟨ok_is_tupleB F4 T,PySem.W.mg_of X G a4,k4,F4.binds (ps:=["thing","least","most"]) fun _ _ _ _ _ _=>d4 fun _ _ _=>rfl⟩
 have C4:Callee l.prog w K mg base "is_tuple" ["thing","least","most"] 1 (spTupN K) f4 _:=⟨ok_is_tuple F4 T,PySem.W.mg_of X G a4,k4,F4.binds (ps:=["thing","least","most"]) fun _ _ _ _ _ _=>d4 fun _ _ _=>rfl⟩
 have CB5:Callee l.prog w K mg base "is_whole" ["thing","least","most"] 1 spWholeI f5 _:=⟨ok_is_wholeI F5 T,PySem.W.mg_of X G a5,k5,F5.binds (ps:=["thing","least","most"]) fun _ _ _ _ _ _=>d4 fun _ _ _=>rfl⟩
 have C5:Callee l.prog w K mg base "is_whole" ["thing","least","most"] 1 spWhole f5 _:=⟨ok_is_whole F5 T,PySem.W.mg_of X G a5,k5,F5.binds (ps:=["thing","least","most"]) fun _ _ _ _ _ _=>d4 fun _ _ _=>rfl⟩
 have C6:Callee l.prog w K mg base "is_out" ["thing","vessel_count"] 2 (spIsOut K) f6 _:=⟨ok_is_out F6 T U C4 C5,PySem.W.mg_of X G a6,k6,F6.binds (ps:=["thing","vessel_count"]) fun _ _ _ _ _ _=>eC fun _ _=>rfl⟩
 have C7:Callee l.prog w K mg base "is_act" ["thing","spout_count"] 2 (spIsAct K) f7 _:=⟨ok_is_act F7 T U C4 C5,PySem.W.mg_of X G a7,k7,F7.binds (ps:=["thing","spout_count"]) fun _ _ _ _ _ _=>eC fun _ _=>rfl⟩
 have C8:Callee l.prog w K mg base "is_vessel" ["thing","number","vessel_count","spout_count"] 3 (spIsVessel K) f8 _:=⟨ok_is_vessel F8 T U C4 C5 C6 C7,PySem.W.mg_of X G a8,k8,F8.binds (ps:=["thing","number","vessel_count","spout_count"]) fun _ _ _ _ _ _=>by_len4 fun _ _ _ _=>rfl⟩
 have C9:Callee l.prog w K mg base "is_spout" ["thing","vessel_count"] 2 (spIsSpout K) f9 _:=⟨ok_is_spout F9 T U C4 C5,PySem.W.mg_of X G a9,k9,F9.binds (ps:=["thing","vessel_count"]) fun _ _ _ _ _ _=>eC fun _ _=>rfl⟩
 have C10:Callee l.prog w K mg base "is_net" ["thing"] 4 (spIsNet K) f10 _:=⟨ok_is_net F10 T U C4 C8 C9,PySem.W.mg_of X G a10,k10,F10.binds (ps:=["thing"]) fun _ _ _ _ _ _=>eR fun _=>rfl⟩
 have C11:Callee l.prog w K mg base "first_state" ["net"] 1 (spFirst K) f11 _:=⟨ok_first_state F11 T,PySem.W.mg_of X G a11,k11,F11.binds (ps:=["net"]) fun _ _ _ _ _ _=>eR fun _=>rfl⟩
 have C12:Callee l.prog w K mg base "pouring" ["net","amount"] 1 (spPouring K) f12 _:=⟨ok_pouring F12 T,PySem.W.mg_of X G a12,k12,F12.binds (ps:=["net","amount"]) fun _ _ _ _ _ _=>eC fun _ _=>rfl⟩
 have C13:Callee l.prog w K mg base "first_moment" ["net"] 2 (spFirstMom K) f13 _:=⟨ok_first_moment F13 T C11 C12,PySem.W.mg_of X G a13,k13,F13.binds (ps:=["net"]) fun _ _ _ _ _ _=>eR fun _=>rfl⟩
 have C14:MkCal l.prog w K mg base C "Run" ["self","net"] 5 (spInit K C) f14 _:=⟨⟨mk,a14,i14,kc⟩,ok_init F14 T tx C10 C13,PySem.W.mg_of X G aC,F14.binds (ps:=["self","net"]) fun _ _ _ _ _ _=>eC fun _ _=>rfl⟩
 have C15:Callee l.prog w K mg base "_law_first" ["net"] 1 (spFirst K) f15 _:=⟨ok__law_first F15 T,PySem.W.mg_of X G a15,k15,F15.binds (ps:=["net"]) fun _ _ _ _ _ _=>eR fun _=>rfl⟩
 have C16:Callee l.prog w K mg base "_law_book_first" ["net"] 2 (spBookFirst K) f16 _:=⟨ok__law_book_first F16 T C15,PySem.W.mg_of X G a16,k16,F16.binds (ps:=["net"]) fun _ _ _ _ _ _=>eR fun _=>rfl⟩
 have C17:MCalR l.prog w K mg base C "back" ["self"] 2 (spBackR K C c_Nothing) f17 _:=⟨tx.cls,⟨a17,i17,k17⟩,ok_backR F17 T tx XC_Nothing,F17.binds (ps:=["self"]) fun _ _ _ _ _ _=>eR fun _=>rfl⟩
 have C18:Callee l.prog w K mg base "_law_book_deed" ["tape","net","hand","left"] 2 (spDeedB K) f18 _:=⟨ok__law_book_deedB F18 T C0,PySem.W.mg_of X G a18,k18,F18.binds (ps:=["tape","net","hand","left"]) fun _ _ _ _ _ _=>by_len4 fun _ _ _ _=>rfl⟩
 have C19:CalleeR l.prog w K mg base "need_vessel" ["net","number"] 2 (spNeedR K c_NoVessel) f19 _:=⟨ok_need_vesselR F19 T XC_NoVessel CB5,PySem.W.mg_of X G a19,k19,F19.binds (ps:=["net","number"]) fun _ _ _ _ _ _=>eC fun _ _=>rfl⟩
 have C20:Callee l.prog w K mg base "moment_poured" ["moment","vessel","amount"] 1 (spMomPour K) f20 _:=⟨ok_moment_poured F20 T,PySem.W.mg_of X G a20,k20,F20.binds (ps:=["moment","vessel","amount"]) fun _ _ _ _ _ _=>d4 fun _ _ _=>rfl⟩
 have C21:MCalR l.prog w K mg base C "pour" ["self","vessel","amount"] 3 (spPourR K C c_NoVessel) f21 _:=⟨tx.cls,⟨a21,i21,k21⟩,ok_pourR F21 T tx C19 C20,F21.binds (ps:=["self","vessel","amount"]) fun _ _ _ _ _ _=>d4 fun _ _ _=>rfl⟩
 have C22:Callee l.prog w K mg base "filled" ["spouts","state","poured"] 1 (spFilled K) f22 _:=⟨ok_filled F22 T,PySem.W.mg_of X G a22,k22,F22.binds (ps:=["spouts","state","poured"]) fun _ _ _ _ _ _=>d4 fun _ _ _=>rfl⟩
 have C23:Callee l.prog w K mg base "send" ["sent","target","amount"] 1 spSend f23 _:=⟨ok_send F23 T,PySem.W.mg_of X G a23,k23,F23.binds (ps:=["sent","target","amount"]) fun _ _ _ _ _ _=>d4 fun _ _ _=>rfl⟩
 have C24:Callee l.prog w K mg base "share_out" ["outs","has","sent"] 2 (spShare K) f24 _:=⟨ok_share_out F24 T C23,PySem.W.mg_of X G a24,k24,F24.binds (ps:=["outs","has","sent"]) fun _ _ _ _ _ _=>d4 fun _ _ _=>rfl⟩
 have C25:Callee l.prog w K mg base "settle" ["vessel","has","sent"] 3 (spSettle K) f25 _:=⟨ok_settle F25 T C23 C24,PySem.W.mg_of X G a25,k25,F25.binds (ps:=["vessel","has","sent"]) fun _ _ _ _ _ _=>d4 fun _ _ _=>rfl⟩
 have C26:Callee l.prog w K mg base "doors_behind" ["vessels","doors","tipped"] 1 (spDoors K) f26 _:=⟨ok_doors_behind F26 T,PySem.W.mg_of X G a26,k26,F26.binds (ps:=["vessels","doors","tipped"]) fun _ _ _ _ _ _=>d4 fun _ _ _=>rfl⟩
 have C27:Callee l.prog w K mg base "tick_behind" ["net","state","poured"] 4 (spTick K) f27 _:=⟨ok_tick_behind F27 T C22 C25 C26,PySem.W.mg_of X G a27,k27,F27.binds (ps:=["net","state","poured"]) fun _ _ _ _ _ _=>d4 fun _ _ _=>rfl⟩
 have C28:Callee l.prog w K mg base "came_in" ["net","state","poured"] 1 (spCameIn K) f28 _:=⟨ok_came_in F28 T,PySem.W.mg_of X G a28,k28,F28.binds (ps:=["net","state","poured"]) fun _ _ _ _ _ _=>d4 fun _ _ _=>rfl⟩
 have C29:Callee l.prog w K mg base "moment_behind" ["net","moment"] 5 (spMoment K) f29 _:=⟨ok_moment_behind F29 T C27 C28 C12,PySem.W.mg_of X G a29,k29,F29.binds (ps:=["net","moment"]) fun _ _ _ _ _ _=>eC fun _ _=>rfl⟩
 have C30:Callee l.prog w K mg base "moment_gone" ["net","moment","many"] 6 (spMomGo K) f30 _:=⟨ok_moment_gone F30 T C29,PySem.W.mg_of X G a30,k30,F30.binds (ps:=["net","moment","many"]) fun _ _ _ _ _ _=>d4 fun _ _ _=>rfl⟩
 have C31:MCal l.prog w K mg base C "go" ["self","many"] 7 (spGo K C) f31 _:=⟨tx.cls,⟨a31,i31,k31⟩,ok_go F31 T tx C30,F31.binds (ps:=["self","many"]) fun _ _ _ _ _ _=>eC fun _ _=>rfl⟩
 have C32:Callee l.prog w K mg base "_law_filled" ["net","state","poured"] 1 (spFilledL K) f32 _:=⟨ok__law_filled F32 T,PySem.W.mg_of X G a32,k32,F32.binds (ps:=["net","state","poured"]) fun _ _ _ _ _ _=>d4 fun _ _ _=>rfl⟩
 have C33:Callee l.prog w K mg base "_law_tick" ["net","state","poured","fast"] 2 (spTickL K) f33 _:=⟨ok__law_tick F33 T C32,PySem.W.mg_of X G a33,k33,F33.binds (ps:=["net","state","poured","fast"]) fun _ _ _ _ _ _=>by_len4 fun _ _ _ _=>rfl⟩
 have C34:Callee l.prog w K mg base "_law_book_gone" ["net","kept","deed"] 3 (spGone K) f34 _:=⟨ok__law_book_gone F34 T C32 C33,PySem.W.mg_of X G a34,k34,F34.binds (ps:=["net","kept","deed"]) fun _ _ _ _ _ _=>d4 fun _ _ _=>rfl⟩
 have C35:MCal l.prog w K mg base C "state" ["self"] 1 (spTell K C fun S v H=>Is K H (stD S.cur.held S.cur.coming S.cur.doors) v) f35 _:=⟨tx.cls,⟨a35,i35,k35⟩,ok_state F35 T tx,F35.binds (ps:=["self"]) fun _ _ _ _ _ _=>eR fun _=>rfl⟩
 have C36:MCal l.prog w K mg base C "tick" ["self"] 1 (spTell K C fun S v H=>v=.int S.cur.tick) f36 _:=⟨tx.cls,⟨a36,i36,k36⟩,ok_rtick F36 T tx,F36.binds (ps:=["self"]) fun _ _ _ _ _ _=>eR fun _=>rfl⟩
 have C37:MCal l.prog w K mg base C "came" ["self"] 1 (spTell K C fun S v H=>v=.int S.cur.came) f37 _:=⟨tx.cls,⟨a37,i37,k37⟩,ok_came F37 T tx,F37.binds (ps:=["self"]) fun _ _ _ _ _ _=>eR fun _=>rfl⟩
 have C38:MCal l.prog w K mg base C "grounded" ["self"] 1 (spTell K C fun S v H=>v=.int S.cur.ground) f38 _:=⟨tx.cls,⟨a38,i38,k38⟩,ok_grounded F38 T tx,F38.binds (ps:=["self"]) fun _ _ _ _ _ _=>eR fun _=>rfl⟩
 have C39:MCalR l.prog w K mg base C "tips" ["self","vessel"] 3 (spTipsR K C c_NoVessel) f39 _:=⟨tx.cls,⟨a39,i39,k39⟩,ok_tipsR F39 T tx C19,F39.binds (ps:=["self","vessel"]) fun _ _ _ _ _ _=>eC fun _ _=>rfl⟩
 have C40:MCal l.prog w K mg base C "book" ["self"] 1 (spBook K C) f40 _:=⟨tx.cls,⟨a40,i40,k40⟩,ok_book F40 T tx,F40.binds (ps:=["self"]) fun _ _ _ _ _ _=>eR fun _=>rfl⟩
 have C41:Callee l.prog w K mg base "_law_run_right" ["run","kept"] 4 (spRight K C) f41 _:=⟨ok__law_run_right F41 T C35 C36 C37 C38 C39 C40,PySem.W.mg_of X G a41,k41,F41.binds (ps:=["run","kept"]) fun _ _ _ _ _ _=>eC fun _ _=>rfl⟩
 have C42:Callee l.prog w K mg base "most_to_pour" ["moment","vessel"] 1 (spMostPour K) f42 _:=⟨ok_most_to_pour F42 T UB,PySem.W.mg_of X G a42,k42,F42.binds (ps:=["moment","vessel"]) fun _ _ _ _ _ _=>eC fun _ _=>rfl⟩
 have C43:Callee l.prog w K mg base "may_pour" ["net","moment","vessel","amount"] 2 (spMayPour K) f43 _:=⟨ok_may_pour F43 T C5 C42,PySem.W.mg_of X G a43,k43,F43.binds (ps:=["net","moment","vessel","amount"]) fun _ _ _ _ _ _=>by_len4 fun _ _ _ _=>rfl⟩
 have C44:Callee l.prog w K mg base "most_to_go" ["moment"] 1 (spMostGo K) f44 _:=⟨ok_most_to_go F44 T UB,PySem.W.mg_of X G a44,k44,F44.binds (ps:=["moment"]) fun _ _ _ _ _ _=>eR fun _=>rfl⟩
 have C45:Callee l.prog w K mg base "is_just" ["thing","tipped"] 2 (spJust K) f45 _:=⟨ok_is_just F45 T CB4 CB5,PySem.W.mg_of X G a45,k45,F45.binds (ps:=["thing","tipped"]) fun _ _ _ _ _ _=>eC fun _ _=>rfl⟩
 have C46:Callee l.prog w K mg base "moment_told" ["net","moment","row"] 7 (spMomTold K) f46 _:=⟨ok_moment_told F46 T CB4 C43 C20 CB5 C44 C30 C45,PySem.W.mg_of X G a46,k46,F46.binds (ps:=["net","moment","row"]) fun _ _ _ _ _ _=>d4 fun _ _ _=>rfl⟩
 have C47:Callee l.prog w K mg base "first_lie" ["net","book"] 8 (spLie K) f47 _:=⟨ok_first_lie F47 T C13 C46,PySem.W.mg_of X G a47,k47,F47.binds (ps:=["net","book"]) fun _ _ _ _ _ _=>eC fun _ _=>rfl⟩
 exact ok_law F48 T C0 C3 C14 C16 C17 C18 C21 C31 C34 C41 C47 C40
theorem walk {l:PySem.W.OpenLaw}{q:Program}{loose:List Str}{XP:(Str→Option Value)→Heap→Prop}{YP:World→Heap→Prop}{d:DefRec}{K:Params→PySem.W.Frag} (hn:l.most=some 63) (hdf:d.params.defaults=[])
  (hY:∀ (w:World) (h:Heap),YP w h→(K w.params).In h)
  (F:∀ (w:World) (mg:Str→Option Value) (fa:Addr) (h:Heap),(K w.params).In h→h.Ns mainGlobals mg→mg d.name=some (.ref fa)→
   ∃ fd:FuncData,(∀ (s:Shared) (u:Value),BindsTo s fd ⟨[u],[]⟩ [("script",u)])∧∀ base:Heap,(K w.params).In base→base.Ns mainGlobals mg→FnOk l.prog w (K w.params) mg base CX0 9 fa fd ["script"] (spLaw (K w.params))) :
  PySem.W.WalkO q loose XP YP l.row.toRowW d [] (fun f vs=>PySem.call f vs):=
 L2.walk_of (n:=63) (k:=9) (x := "script") (CX:=fun _=>CX0) (sp:=fun w=>spLaw (K w.params)) hn (by decide) hdf ⟨rfl,by decide,by decide⟩ hY F (fun _ _ a ns hl _ hS=>⟨a,ns,rfl,hS,hl,fun _=>rfl⟩) fun _ _ _ _ _ z=>z
end Tw
noncomputable def PySem.W.Fast.tw4282654346789626123:Nat:=0
theorem PySem.W.Fast.te4282654346789626123:PySem.W.Fast.tw4282654346789626123=PySem.W.Fast.tw4282654346789626123:=rfl
noncomputable def PySem.W.Fast.tw18100730399745711363:PySem.Program:=PySem.Challenge.pw_tipwell_k38_whole_two_books
theorem PySem.W.Fast.te18100730399745711363:PySem.Challenge.pw_tipwell_k38_whole_two_books=PySem.W.Fast.tw18100730399745711363:=rfl
namespace PySem.W.Fast
def tw13171890474716583852:=0
def tw7284471336283450422:=0
def tw13116243798546778921:=0
def tw17165889428238923687:=0
def tw2536005352813520342:=0
def tw953305912674976728:=0
def tw7359877302574509546:=0
def tw6758262135506787481:=0
def tw8416925461173179235:=0
def tw8817964972283251688:=0
def tw1511591249663437088:=0
def tw12719804992792016357:=0
def tw10149825081286556022:=0
def tw7756106634460787223:=0
def tw11858263430024773327:=0
def tw536868072991819505:=0
def tw15689625259280893415:=0
def tw16318889544756684124:=0
def tw6326157502248839086:=0
def tw6171848662466795435:=0
def tw110921391791584941:=0
def tw975721174680425229:=0
def tw1175558019437957265:=0
def tw6267830206563765478:=0
def tw17312072341524807181:=0
def tw9810423570005801611:=0
def tw4516907897048381441:=0
def tw7219515842874986286:=0
def tw4862599197962784098:=0
def tw3329149993284262359:=0
def tw1488215691346928655:=0
def tw14158648917246517785:=0
def tw8018040325216087259:=0
def tw8263693214268179911:=0
def tw8061758835080103643:=0
def tw15938335309772354095:=0
def tw894167216476080943:=0
def tw11758531565050128548:=0
def tw15625779525278565607:=0
def tw14425660278895735000:=0
def tw15240941645706218739:=0
def tw3794130617562782868:=0
def tw1092417989987102675:=0
def tw16963027850205486211:=0
def tw18395376446616733859:=0
def tw1521090459818030670:=0
def tw6823538903171660071:=0
def tw3853461786237309001:=0
def tw8972764199256620890:=0
def tw2474572993192421562:=0
def tw16189044402273942964:=0
def tw9903143417901125657:=0
def tw3045613204442533033:=0
def tw4480238940408586954:=0
def tw10375972996911258888:=0
def tw14425833636951993342:=0
def tw13637316080184845833:=0
def tw15424363703392391351:=0
def tw5325836989878951771:=0
def tw14029771018948027013:=0
def tw2954864723035888919:=0
def tw14774844237823792877:=0
def tw7033310356981693078:=0
def tw1230917250787372511:=0
def tw5390429111892287542:=0
def tw507755368264139030:=0
def tw5303265000528621601:=0
def tw3645541860293250803:=0
def tw2317225225510453702:=0
def tw8932633783073912565:=0
def tw12072391498301314880:=0
def tw16722651314401457944:=0
def tw7517360761240242839:=0
def tw17444986712222818026:=0
def tw9740457366274557150:=0
def tw10111324075882827059:=0
def tw12134875536987165601:=0
def tw8540525855533925683:=0
def tw14099858978411756642:=0
def tw10416448632560068594:=0
def tw12810051575509958521:=0
def tw10519199683005905262:=0
def tw7901923512997646799:=0
def tw2781386637743018326:=0
def tw11657562221864003464:=0
def tw9932494451071320721:=0
def tw857227152823959048:=0
def tw5019766460672569960:=0
def tw5374186109257485570:=0
def tw14779055213242472616:=0
def tw18075683356201043253:=0
def tw14690589205686533488:=0
def tw15223978884554380541:=0
def tw4428439667580407798:=0
def tw14816324603290894244:=0
def tw2032727293237019590:=0
def tw816052871902168530:=0
def tw14259620290931241492:=0
def tw7142322787473128478:=0
def tw11741349318194924636:=0
def tw14631563401531830632:=0
def tw17520528941108998103:=0
def tw9334540580524331243:=0
def tw592979960519601608:=0
def tw2015483649713275450:=0
def tw18286490886343233856:=0
def tw8755006040432675453:=0
def tw14272161856916992563:=0
def tw10355181044449428657:=0
end PySem.W.Fast
open PySem PySem.W PyProof.Rows
set_option maxRecDepth 100000 in
set_option maxHeartbeats 0 in
theorem PySem.Challenge.cw_tipwell_k38_whole_two_books_holds : PySem.Challenge.rw_tipwell_k38_whole_two_books.Holds := by
 w_on;o_law;k_head;(case hw=>w_witness2)
 k_fill
 refine Tw.walk (l:=PySem.Challenge.rw_tipwell_k38_whole_two_books) rfl rfl (fun w h Y=>by first | exact PySem.W.kIn_of Y | exact PySem.W.km_in_of Y) ?F
 case F=>
  intro w mg fa h KX G hmg
  refine' Tw.all_mk KX G hmg ?_ ?_ ?_ ?_ ?_ ?_ ?_ ?_ ?_ ?_ ?_ ?_ ?_ ?_ ?_ ?_ ?_ ?_ ?_ ?_ ?_ ?_ ?_ ?_ ?_ ?_ ?_ ?_ ?_ ?_ ?_ ?_ ?_ ?_ ?_ ?_ ?_ ?_ ?_ ?_ ?_ ?_ ?_ ?_ ?_ ?_ ?_ ?_ ?_ ?_ ?_ ?_ ?_ ?_ ?_ ?_ ?_ ?_ ?_ ?_ ?_ ?_ ?_ ?_ ?_ ?_ ?_ ?_ ?_ ?_ ?_ ?_ ?_ ?_ ?_ ?_ ?_ ?_ ?_ ?_ ?_ ?_ ?_ ?_ ?_ ?_ ?_ ?_ ?_ ?_ ?_ ?_ ?_ ?_ ?_ ?_ ?_ ?_ ?_ ?_ ?_ ?_ ?_ ?_ ?_ ?_ ?_ ?_ ?_ ?_ ?_ ?_ ?_ ?_ ?_ ?_ ?_ ?_ ?_ ?_ ?_ ?_ ?_ ?_ ?_ ?_ ?_ ?_ ?_ ?_ ?_ ?_ ?_ ?_ ?_ ?_ ?_ ?_ ?_ ?_ ?_ ?_ ?_ ?_ ?_ ?_ ?_ ?_ ?_ ?_ ?_ ?_ ?_ ?_ ?_ ?_ ?_ ?_ ?_ ?_ ?_ ?_ ?_ ?_ ?_ ?_ ?_ ?_ ?_ ?_ ?_ ?_ ?_ ?_ ?_ ?_ ?_ ?_ ?_ ?_ ?_ ?_ ?_ ?_ ?_ ?_ ?_ ?_ ?_ ?_ ?_ ?_ ?_ ?_ ?_ ?_ ?_ ?_ ?_ ?_ ?_ ?_ ?_ ?_ ?_ ?_ ?_ ?_ ?_ ?_ ?_ ?_ ?_ ?_ ?_ ?_ ?_ ?_ ?_ ?_ ?_ ?_ ?_ ?_ ?_ ?_ ?_ ?_ ?_ ?_ ?_ ?_ ?_ ?_ ?_ ?_ ?_ ?_ ?_ ?_ ?_ ?_ ?_ ?_ ?_ ?_ ?_ ?_ ?_ ?exV ?exN
  all_goals try k_is
  (case exV=>k_exc)
  (case exN=>k_exc)
#print axioms PySem.Challenge.cw_tipwell_k38_whole_two_books_holds