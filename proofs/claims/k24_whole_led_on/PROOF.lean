import PyProof.Rows.All
import Wide.All
import OpenK.AllK
import Wide.FinOn
import Lean
import PyProof.EqAt
import PyProof.EqKinds
import PyProof.TupleCall
import PyProof.FactsAll.NoneType
import PyProof.ZipIter
import PyProof.EnumMake
import KE.KUnpack
import KE.KTryMore
import PyProof.NsDelKeeps
import PyProof.NeKinds
import KE.RegKIsAll
import KE.RegKTryMore
import PySem.Challenge.RW_tipwell_k24_whole_led_on
set_option Elab.async false
set_option linter.all false
set_option maxRecDepth 100000
namespace L2
open PySem PySem.Spec PyProof.Rows
noncomputable abbrev eF:=Sum Int (Option Str)
noncomputable def isNon:Value→Bool
 | .none=>true
 | _=>false
theorem isNon_shape {v:Value} (h:isNon v=true):v=Value.none:=by
 cases v <;> simp_all [isNon]
noncomputable def keyIs:eF→Value→Bool
 | .inl k,v=>Value.isInt k v
 | .inr (some x),v=>Value.isStrOf x v
 | .inr none,v=>isNon v
noncomputable def hashNon:Int:=0xFCA86420
noncomputable def keyH (w:World):eF→Int
 | .inl k=>hashInt k
 | .inr (some x)=>hashStr w x
 | .inr none=>hashNon
theorem cO:∀ {k:eF}{v:Value},keyIs k v=true→(∃ i t,k=Sum.inl i∧v=Value.int i t)∨(∃ x t,k=Sum.inr (some x)∧v=Value.str x t)∨(k=Sum.inr none∧v=Value.none)
 | .inl i,v,h=>by
  obtain⟨t,e⟩:=Value.isInt_shape (k:=i) (v:=v) h
  exact .inl ⟨i,t,rfl,e⟩
 | .inr (some x),v,h=>by
  obtain⟨t,e⟩:=Value.isStrOf_shape (x:=x) (v:=v) h
  exact .inr (.inl ⟨x,t,rfl,e⟩)
 | .inr none,v,h=>.inr (.inr ⟨rfl,isNon_shape h⟩)
theorem keyIs_int (i:Int) (t:Tok):keyIs (.inl i) (.int i t)=true:=by simp [keyIs,Value.isInt]
theorem keyIs_str (x:Str) (t:Tok):keyIs (.inr (some x)) (.str x t)=true:=by simp [keyIs,Value.isStrOf]
theorem key_ll (a b:Int):decide ((Sum.inl a:eF)=Sum.inl b)=(a == b):=by
 by_cases e:a=b
 ·subst e;simp
 ·have h:¬ (Sum.inl a:eF)=Sum.inl b:=fun q=>e (Sum.inl.inj q)
  rw[decide_eq_false h]
  exact (beq_eq_false_iff_ne.mpr e).symm
theorem key_rr (a b:Str):decide ((Sum.inr (some a):eF)=Sum.inr (some b))=decide (a=b):=by
 by_cases e:a=b
 ·subst e;simp
 ·have h:¬ (Sum.inr (some a):eF)=Sum.inr (some b):=fun q=>e (Option.some.inj (Sum.inr.inj q))
  rw[decide_eq_false h,decide_eq_false e]
theorem key_li (i:Int) (o:Option Str):decide ((Sum.inl i:eF)=Sum.inr o)=false:=decide_eq_false (fun q=>nomatch q)
theorem key_il (i:Int) (o:Option Str):decide ((Sum.inr o:eF)=Sum.inl i)=false:=decide_eq_false (fun q=>nomatch q)
theorem key_sn (x:Str):decide ((Sum.inr (some x):eF)=Sum.inr none)=false:=decide_eq_false (fun q=>nomatch (Sum.inr.inj q))
theorem key_ns (x:Str):decide ((Sum.inr none:eF)=Sum.inr (some x))=false:=decide_eq_false (fun q=>nomatch (Sum.inr.inj q))
theorem hash_non {prog:Program}{w:World}{A:Around}{E:Value→Shared→Prop}{s:Shared}{Q:Int→Shared→Prop} (h:Q hashNon { s with toks:=s.toks+1 }) :
  wpAny (model prog w) A (pyHash .none) Q E s:=by
 have hT:s.TypeIs .none "NoneType" := rfl
 unfold pyHash
 have hv:[Value.none].any Value.onHeap=false:=rfl
 refine wpAny_bind ?_
 rw[cRoomFor,if_neg (by rw[hv];exact Bool.false_ne_true)];refine wpAny_pure ?_
 refine wpAny_bind (wpAny_specialOf hT F.slot_NoneType_hash.lookup ?_)
 show wpAny _ _ (if (some (Value.builtin "NoneType.__hash__") == some Value.none)=true then _ else _) Q E s
 rw[if_neg (by rw[beq_builtin_none];exact Bool.false_ne_true)]
 refine wpAny_bind (wpAny_specialOf hT F.slot_NoneType_hash.lookup ?_)
 show wpAny _ _ (callSpecialIfBoundUnlessNone? .none "__hash__" _ >>= _) Q E s
 refine wpAny_bind (wpAny_callSpecialIfBoundUnlessNone?_slot hT F.slot_NoneType_hash
  (wpAny_call_entry F.slot_NoneType_hash hT F.entry_NoneType_hash
   (show wpAny _ _ (do ret (← mkInt hashNon)) _ _ s from wpAny_ret_mkInt ?_) (F.args_NoneType_hash_1 _)))
 show wpAny _ _ (if (decide (-(2:Int) ^ 63≤hashNon) && decide (hashNon < 2 ^ 63))=true then _ else _) Q E _
 rw[if_pos (by decide)]
 exact wpAny_pure h
noncomputable def cR (prog:Program) (w:World):PySem.KeyKind prog w eF where
 is:=keyIs
 hash:=keyH w
 inj:=fun v a b ha hb=>by
  rcases cO ha with ⟨i,t,rfl,rfl⟩ | ⟨x,t,rfl,rfl⟩ | ⟨rfl,rfl⟩
  ·rcases cO hb with ⟨j,u,rfl,e⟩ | ⟨y,u,rfl,e⟩ | ⟨rfl,e⟩
   ·injection e with e1 _;rw[e1]
   ·exact nomatch e
   ·exact nomatch e
  ·rcases cO hb with ⟨j,u,rfl,e⟩ | ⟨y,u,rfl,e⟩ | ⟨rfl,e⟩
   ·exact nomatch e
   ·injection e with e1 _;rw[e1]
   ·exact nomatch e
  ·rcases cO hb with ⟨j,u,rfl,e⟩ | ⟨y,u,rfl,e⟩ | ⟨rfl,e⟩
   ·exact nomatch e
   ·exact nomatch e
   ·rfl
 byValue:=fun k v h=>by
  rcases cO h with ⟨i,t,rfl,rfl⟩ | ⟨x,t,rfl,rfl⟩ | ⟨rfl,rfl⟩ <;> rfl
 pyHash:=fun hv h=>by
  rcases cO hv with ⟨i,t,rfl,rfl⟩ | ⟨x,t,rfl,rfl⟩ | ⟨rfl,rfl⟩
  ·exact wpAny_pyHash_int h
  ·exact wpAny_pyHash_str h
  ·exact hash_non h
 eqBool:=fun hu hv h=>by
  rcases cO hu with ⟨i,t,rfl,rfl⟩ | ⟨x,t,rfl,rfl⟩ | ⟨rfl,rfl⟩
  ·rcases cO hv with ⟨j,u,rfl,rfl⟩ | ⟨y,u,rfl,rfl⟩ | ⟨rfl,rfl⟩
   ·rw[key_ll] at h;exact wpAny_eqBool_int h
   ·rw[key_li] at h;exact SeqAt.EqAt.int_str i t y u _ _ _ _ h
   ·rw[key_li] at h;exact SeqAt.EqAt.int_none i t _ _ _ _ h
  ·rcases cO hv with ⟨j,u,rfl,rfl⟩ | ⟨y,u,rfl,rfl⟩ | ⟨rfl,rfl⟩
   ·rw[key_il] at h;exact SeqAt.EqAt.str_int x t j u _ _ _ _ h
   ·rw[key_rr] at h;exact wpAny_eqBool_str h
   ·rw[key_sn] at h;exact SeqAt.EqAt.str_none x t _ _ _ _ h
  ·rcases cO hv with ⟨j,u,rfl,rfl⟩ | ⟨y,u,rfl,rfl⟩ | ⟨rfl,rfl⟩
   ·rw[key_il] at h;exact SeqAt.EqAt.none_int j u _ _ _ _ h
   ·rw[key_ns] at h;exact SeqAt.EqAt.none_str y u _ _ _ _ h
   ·rw[decide_eq_true rfl] at h;exact SeqAt.EqAt.same Value.none _ _ _ _ h
 «strs»:=fun k x t v h=>by
  rcases cO h with ⟨i,u,rfl,e⟩ | ⟨y,u,rfl,e⟩ | ⟨rfl,e⟩
  ·exact nomatch e
  ·injection e with e1 _
   subst e1
   cases v <;> rfl
  ·exact nomatch e
theorem mixKind_int (prog:Program) (w:World) (i:Int) (t:Tok):(cR prog w).is (.inl i) (.int i t)=true:=keyIs_int i t
theorem mixKind_str (prog:Program) (w:World) (x:Str) (t:Tok):(cR prog w).is (.inr (some x)) (.str x t)=true:=keyIs_str x t
end L2
namespace L2
open PySem PySem.Spec PyProof.Rows
inductive V where
 | non | bl (b:Bool) | int (i:Int) | str (x:Str) | byt (b:Array UInt8) | flt (b:UInt64) | ref (a:Addr) | ty (n:String)
 deriving DecidableEq
noncomputable def bK:V→Value→Prop
 | .non,u=>u=Value.none
 | .bl b,u=>u=Value.bool b
 | .int i,u=>∃ t,u=Value.int i t
 | .str x,u=>∃ t,u=Value.str x t
 | .byt b,u=>∃ t,u=Value.bytes b t
 | .flt b,u=>∃ t,u=Value.float b t
 | .ref a,u=>u=Value.ref a
 | .ty n,u=>u=Value.type n
noncomputable abbrev bO:List V→List Value→Prop:=Paired bK
theorem bO.length {xs:List V}{us:List Value} (r:bO xs us):xs.length=us.length:=Paired.length r
theorem bO.get:∀ {xs:List V}{us:List Value}{i:Nat}{x:V},bO xs us→xs[i]? = some x→∃ u,us[i]? = some u∧bK x u
 | _,_,_,_,.nil,e=>by simp at e
 | _,_,0,_,.cons r _,e=>by simp at e;subst e;exact⟨_,rfl,r⟩
 | _,_,i+1,x,.cons _ t,e=>by
  obtain⟨u,h1,h2⟩:=bO.get (i:=i) (x:=x) t (by simpa using e)
  exact⟨u,by simpa using h1,h2⟩
theorem bO.set {x:V}{u:Value} (r:bK x u):∀ {xs:List V}{us:List Value} (i:Nat),bO xs us→bO (xs.set i x) (us.set i u)
 | _,_,_,.nil=>.nil
 | _,_,0,.cons _ t=>.cons r t
 | _,_,i+1,.cons q t=>.cons q (bO.set r i t)
theorem bO.append:∀ {xs ys:List V}{us ws:List Value},bO xs us→bO ys ws→bO (xs++ys) (us++ws)
 | _,_,_,_,.nil,s=>s
 | _,_,_,_,.cons r t,s=>.cons r (bO.append t s)
theorem bO.take:∀ {xs:List V}{us:List Value} (n:Nat),bO xs us→bO (xs.take n) (us.take n)
 | _,_,0,_=>.nil
 | _,_,_+1,.nil=>.nil
 | _,_,n+1,.cons r t=>.cons r (bO.take n t)
theorem bO.drop:∀ {xs:List V}{us:List Value} (n:Nat),bO xs us→bO (xs.drop n) (us.drop n)
 | _,_,0,r=>r
 | _,_,_+1,.nil=>.nil
 | _,_,n+1,.cons _ t=>bO.drop n t
noncomputable def RelO:Option V→Option Value→Prop
 | some v,some u=>bK v u
 | none,none=>True
 | _,_=>False
noncomputable def KV {κ:Type}:List (κ×V)→List (κ×Value)→Prop:=Paired fun (p:κ×V) (q:κ×Value)=>p.1=q.1∧bK p.2 q.2
noncomputable def kV:eF→V
 | .inl i=>.int i
 | .inr (some x)=>.str x
 | .inr none=>.non
inductive HO where
 | lst (xs:List V)
 | tup (xs:List V)
 | dK (kvs:List (eF×V)) | dT (kvs:List (List eF×V))
 | set (S:Int→Bool) (n:Nat)
 | ins (C dx:Addr) (fs:List (Str×V))
 | own (x:Addr)
 | xd (fs:List (Str×V))
 | met (f x:Addr)
 | rng (lo hi:Int)
 | frz (o:Obj) (u:HO)
 | tbl (ps:Array Value)
 | ext (φ:Heap→Prop)
noncomputable abbrev Hp:=Addr→Option HO
noncomputable def upd (H:Hp) (a:Addr) (o:HO):Hp:=fun b=>if b=a then some o else H b
theorem aD {H:Hp}{a:Addr}{o:HO}:upd H a o a=some o:=by unfold upd;rw[if_pos rfl]
theorem aN {H:Hp}{a b:Addr}{o:HO} (h:b≠a):upd H a o b=H b:=by unfold upd;rw[if_neg h]
theorem upd_upd {H:Hp}{a:Addr}{o u:HO}:upd (upd H a o) a u=upd H a u:=by
 funext b;unfold upd;split <;> rfl
theorem ne_of {H:Hp}{a b:Addr}{o u:HO} (h:H a=some o) (h':H b=some u) (d:o≠u):a≠b:=by
 intro e;subst e;rw[h] at h';exact d (Option.some.inj h')
theorem aO {H:Hp}{a b:Addr}{o:HO} (h:H a=some o) (h':H b=none):a≠b:=by
 intro e;subst e;rw[h] at h';cases h'
section
variable (P:Program) (w:World)
noncomputable def dD (H:Hp) (h:Heap) (a:Addr):HO→Prop
 | .lst xs=>xs.length≤sizeLine∧∃ (its:List Value) (n:Nat),bO xs its∧h.get? a=some { cls:=.type "list",data:=.seq its.toArray n }
 | .tup xs=>xs.length≤sizeLine∧∃ its:List Value,bO xs its∧IsTup h a its.toArray
 | .dK kvs=>kvs.length≤sizeLine∧(a == sysModules)=false∧∃ vs,KV kvs vs∧h.DictOf (cR P w) a vs
 | .dT kvs=>kvs.length≤sizeLine∧(a == sysModules)=false∧∃ xs:List (List eF×Addr×Value),
   Paired (fun (p:List eF×V) (q:List eF×Addr×Value)=>p.1=q.1∧H q.2.1=some (.tup (p.1.map kV))∧bK p.2 q.2.2) kvs xs∧
   ∃ o es ep,h.get? a=some o∧o.ExactDict∧o.data=.dict es ep∧es.toList=xs.map (entryOfKey (tupleKind (cR P w)))∧(xs.map (·.1)).Nodup
 | .set S n=>h.SetOf (intKind P w) a S n
 | .ins C dx fs=>H dx=some (.own a)∧fs.length≤1000∧dx≠a∧h.get? a=some (PySem.W.instObj C dx)∧
   ∃ mA,h.Ns1 dx mA∧(∀ f,RelO (fs.lookup f) (mA f))∧PySem.Within mA (fs.map (·.1))
 | .own _=>∃ o,h.get? a=some o
 | .xd fs=>∃ mA,h.Ns1 a mA∧∀ f,RelO (fs.lookup f) (mA f)
 | .rng lo hi=>∃ t u v,h.get? a=some { cls:=.type "range",data:=.fields #[.int lo t,.int hi u,.int 1 v] }
 | .frz o u=>h.get? a=some o∧dD H h a u
 | .tbl ps=>h.get? a=some { cls:=.none,data:=.fields ps }
 | .met f x=>h.get? a=some (PySem.W.methodObj (.ref f) (.ref x))
 | .ext φ=>φ h∧(∃ o,h.get? a=some o)∧∀ h1 h2:Heap,φ h1→(∀ o,h1.get? a=some o→h2.get? a=some o)→φ h2
noncomputable def HOk (H:Hp) (h:Heap):Prop:=∀ a o,H a=some o→dD P w H h a o
end
section
variable {P:Program}{w:World}{H H':Hp}{h h':Heap}{a:Addr}{o:HO}
theorem dD.lt (x:dD P w H h a o):a < h.objs.size:=by
 cases o with
 | lst xs=>obtain⟨_,_,_,_,e⟩:=x;exact Heap.lt_size e
 | tup xs=>obtain⟨_,_,_,p⟩:=x;exact p.lt
 | dK kvs=>obtain⟨_,_,_,_,o,_,_,e,_⟩:=x;exact Heap.lt_size e
 | dT kvs=>obtain⟨_,_,_,_,o,_,_,e,_⟩:=x;exact Heap.lt_size e
 | set S n=>obtain⟨o,_,_,_,e,_⟩:=x;exact Heap.lt_size e
 | ins C dx fs=>obtain⟨_,_,_,e,_⟩:=x;exact Heap.lt_size e
 | own y=>obtain⟨_,e⟩:=x;exact Heap.lt_size e
 | xd fs=>obtain⟨_,⟨_,_,_,e,_⟩,_⟩:=x;exact Heap.lt_size e
 | rng lo hi=>obtain⟨_,_,_,e⟩:=x;exact Heap.lt_size e
 | frz ob u=>obtain⟨e,_⟩:=x;exact Heap.lt_size e
 | tbl ps=>exact Heap.lt_size (show h.get? a=some _ from x)
 | met f y=>exact Heap.lt_size (show h.get? a=some _ from x)
 | ext φ=>obtain⟨_,⟨_,e⟩,_⟩:=x;exact Heap.lt_size e
theorem Paired.mapP {α β:Type}{F G:α→β→Prop}:∀ {l₁:List α}{l₂:List β},Paired F l₁ l₂→(∀ a b,F a b→G a b)→Paired G l₁ l₂
 | _,_,.nil,_=>.nil
 | _,_,.cons r t,f=>.cons (f _ _ r) (Paired.mapP t f)
theorem dD.stay (x:dD P w H h a o) (k:∀ b u,(b=a∨H b=some (.own a))→h.get? b=some u→h'.get? b=some u)
  (ho:∀ b,H b=some (.own a)→H' b=some (.own a)) (ht:∀ b xs,H b=some (.tup xs)→H' b=some (.tup xs)):dD P w H' h' a o:=by
 induction o with
 | lst xs=>obtain⟨z,its,n,r,e⟩:=x;exact⟨z,its,n,r,k _ _ (.inl rfl) e⟩
 | tup xs=>obtain⟨z,its,r,ob,e,c⟩:=x;exact⟨z,its,r,ob,k _ _ (.inl rfl) e,c⟩
 | dK kvs=>obtain⟨z,y,vs,r,ob,es,ep,e,c⟩:=x;exact⟨z,y,vs,r,ob,es,ep,k _ _ (.inl rfl) e,c⟩
 | dT kvs=>
  obtain⟨z,y,xs,r,ob,es,ep,e,c⟩:=x
  exact⟨z,y,xs,Paired.mapP r fun p q z=>⟨z.1,ht _ _ z.2.1,z.2.2⟩,ob,es,ep,k _ _ (.inl rfl) e,c⟩
 | set S n=>obtain⟨ob,es,ep,t,e,c⟩:=x;exact⟨ob,es,ep,t,k _ _ (.inl rfl) e,c⟩
 | ins C dx fs=>
  obtain⟨d,z,ne,e,mA,⟨od,es,ep,e2,c⟩,r⟩:=x
  exact⟨ho _ d,z,ne,k _ _ (.inl rfl) e,mA,⟨od,es,ep,k _ _ (.inr d) e2,c⟩,r⟩
 | own y=>obtain⟨ob,e⟩:=x;exact⟨ob,k _ _ (.inl rfl) e⟩
 | xd fs=>obtain⟨mA,⟨od,es,ep,e,c⟩,r⟩:=x;exact⟨mA,⟨od,es,ep,k _ _ (.inl rfl) e,c⟩,r⟩
 | rng lo hi=>obtain⟨t,u,v,e⟩:=x;exact⟨t,u,v,k _ _ (.inl rfl) e⟩
 | frz ob u ih=>obtain⟨e,q⟩:=x;exact⟨k _ _ (.inl rfl) e,ih q⟩
 | tbl ps=>
  have e:h.get? a=some { cls:=.none,data:=.fields ps }:=x
  show h'.get? a=some { cls:=.none,data:=.fields ps }
  exact k a _ (.inl rfl) e
 | met f y=>
  have e:h.get? a=some (PySem.W.methodObj (.ref f) (.ref y)):=x
  show h'.get? a=some (PySem.W.methodObj (.ref f) (.ref y))
  exact k a _ (.inl rfl) e
 | ext φ=>obtain⟨p,⟨o,e⟩,st⟩:=x;exact⟨st _ _ p fun o q=>k _ _ (.inl rfl) q,⟨o,k _ _ (.inl rfl) e⟩,st⟩
theorem HOk.lt (x:HOk P w H h) (e:H a=some o):a < h.objs.size:=(x a o e).lt
theorem HOk.fresh (x:HOk P w H h) (e:h.objs.size≤a):H a=none:=by
 cases q:H a with
 | none=>rfl
 | some u=>exact absurd (Nat.lt_of_lt_of_le (x.lt q) e) (Nat.lt_irrefl _)
theorem HOk.kept (x:HOk P w H h) (k:∀ b u,h.get? b=some u→h'.get? b=some u):HOk P w H h':=fun a o e=>
 (x a o e).stay (fun b u _ q=>k b u q) (fun _ q=>q) fun _ _ q=>q
theorem HOk.laid (x:HOk P w H h) (k:∀ b u,h.get? b=some u→h'.get? b=some u) (hp:h.objs.size≤a) (new:dD P w (upd H a o) h' a o):HOk P w (upd H a o) h':=fun b u e=>by
 have hn:=x.fresh hp
 by_cases hb:b=a
 ·subst hb;rw[aD] at e;cases e;exact new
 ·rw[aN hb] at e
  exact (x b u e).stay (fun c v _ q=>k c v q) (fun c q=>by rw[aN (aO q hn)];exact q) fun c xs q=>by rw[aN (aO q hn)];exact q
end
noncomputable def Rd (H:Hp) (a:Addr) (u:HO):Prop:=H a=some u∨∃ o,H a=some (.frz o u)
theorem Rd.ok {P:Program}{w:World}{H:Hp}{h:Heap}{a:Addr}{u:HO} (r:Rd H a u) (x:HOk P w H h):dD P w H h a u:=by
 rcases r with r | ⟨o,r⟩
 ·exact x a u r
 ·obtain⟨_,q⟩:=x a _ r
  exact q
noncomputable def Mut:Option HO→Prop
 | some (.lst _)=>True
 | some (.dK _)=>True
 | some (.dT _)=>True
 | some (.set _ _)=>True
 | some (.ins _ _ _)=>True
 | some (.ext _)=>True
 | _=>False
section
variable {P:Program}{w:World}{H:Hp}{h h':Heap}{x e:Addr}{o':HO}
theorem HOk.write (ok:HOk P w H h) (mu:Mut (H x)) (he:e=x∨H e=some (.own x)) (k:∀ b u,b≠e→h.get? b=some u→h'.get? b=some u) (heo:∃ u,h'.get? e=some u)
  (new:dD P w (upd H x o') h' x o'):HOk P w (upd H x o') h':=fun b u q=>by
 have nown:∀ c y,H c=some (.own y)→c≠x:=fun c y r z=>by subst z;rw[r] at mu;exact mu
 have ntup:∀ c xs,H c=some (.tup xs)→c≠x:=fun c xs r z=>by subst z;rw[r] at mu;exact mu
 by_cases hb:b=x
 ·subst hb;rw[aD] at q;cases q;exact new
 ·rw[aN hb] at q
  by_cases hbe:b=e
  ·have q':H b=some (.own x):=by
    rcases he with z | z
    ·exact absurd (hbe.trans z) hb
    ·rw[hbe];exact z
   rw[q] at q';cases q'
   obtain⟨v,hv⟩:=heo
   exact⟨v,by rw[hbe];exact hv⟩
  ·refine (ok b u q).stay (fun c v hc r=>k c v ?_ r) (fun c r=>by rw[aN (nown c b r)];exact r) fun c xs r=>by rw[aN (ntup c xs r)];exact r
   rcases hc with rfl | hc
   ·exact hbe
   ·rintro rfl
    rcases he with z | z
    ·exact nown c b hc z
    ·rw[hc] at z;cases z;exact hb rfl
end
structure Un (fs ex:List Addr) (H H':Hp) (h h':Heap):Prop where
 keep:∀ b o,h.get? b=some o→H b=none→b∉fs→b∉ex→h'.get? b=some o
 slot:∀ b o,h.get? b=some o→H b=none→b∈fs→b∉ex→∃ sl,h'.get? b=some { o with slots:=sl }
 free:∀ b o,h.get? b=some o→H b=none→b∉ex→H' b=none
 there:∀ b o,h.get? b=some o→b∉ex→∃ o',h'.get? b=some o'
 tups:∀ b xs,H b=some (.tup xs)→H' b=some (.tup xs)
 frzs:∀ b o u,H b=some (.frz o u)→H' b=some (.frz o u)
 tbls:∀ b ps,H b=some (.tbl ps)→∃ more,H' b=some (.tbl (ps++more))
section
variable {fs fs' ex ex':List Addr}{H H1 H2:Hp}{h h1 h2 h':Heap}{a x e:Addr}{o:HO}
theorem Un.any (u:Un fs ex H H1 h h1) {b:Addr}{ob:Obj} (q:h.get? b=some ob) (n:H b=none) (hx:b∉ex):∃ sl,h1.get? b=some { ob with slots:=sl }:=by
 by_cases hb:b∈fs
 ·exact u.slot b ob q n hb hx
 ·exact⟨ob.slots,u.keep b ob q n hb hx⟩
theorem Un.kept (k:∀ b u,h.get? b=some u→h'.get? b=some u):Un fs ex H H h h':=
 ⟨fun b ob q _ _ _=>k b ob q,fun b ob q _ _ _=>⟨ob.slots,k b ob q⟩,fun _ _ _ n _=>n,fun b ob q _=>⟨ob,k b ob q⟩,fun _ _ q=>q,fun _ _ _ q=>q,fun _ ps q=>⟨#[],by rw[q];simp⟩⟩
theorem Un.refl:Un fs ex H H h h:=Un.kept fun _ _ q=>q
theorem Un.laid (k:∀ b u,h.get? b=some u→h'.get? b=some u) (hp:h.objs.size≤a) (hn:H a=none):Un fs ex H (upd H a o) h h' where
 keep:=fun b u q _ _ _=>k b u q
 slot:=fun b u q _ _ _=>⟨u.slots,k b u q⟩
 free:=fun b u q n _=>by rw[aN (Nat.ne_of_lt (Nat.lt_of_lt_of_le (Heap.lt_size q) hp))];exact n
 there:=fun b u q _=>⟨u,k b u q⟩
 tups:=fun b xs q=>by rw[aN (aO q hn)];exact q
 frzs:=fun b u xs q=>by rw[aN (aO q hn)];exact q
 tbls:=fun b ps q=>⟨#[],by rw[aN (aO q hn),q];simp⟩
theorem Un.write (mu:Mut (H x)) (he:e=x∨H e=some (.own x)) (k:∀ b u,b≠e→h.get? b=some u→h'.get? b=some u) (heo:∃ u,h'.get? e=some u):Un fs ex H (upd H x o) h h':=by
 have hx:∀ b,H b=none→b≠x:=fun b n z=>by subst z;rw[n] at mu;exact mu
 have hb:∀ b,H b=none→b≠e:=fun b n z=>by
  subst z
  rcases he with r | r
  ·exact hx b n r
  ·rw[n] at r;cases r
 have hm:∀ b u,H b=some u→¬ Mut (some u)→b≠x:=fun b u q nm z=>by subst z;rw[q] at mu;exact nm mu
 refine⟨fun b u q n _ _=>k b u (hb b n) q,fun b u q n _ _=>⟨u.slots,k b u (hb b n) q⟩,fun b u q n _=>by rw[aN (hx b n)];exact n,fun b u q _=>?_,
  fun b xs q=>by rw[aN (hm b _ q fun z=>z)];exact q,fun b u xs q=>by rw[aN (hm b _ q fun z=>z)];exact q,fun b ps q=>⟨#[],by rw[aN (hm b _ q fun z=>z),q];simp⟩⟩
 by_cases hbe:b=e
 ·subst hbe;exact heo
 ·exact⟨u,k b u hbe q⟩
end
noncomputable def trk (h:Heap) (H:Hp):List Addr:=(List.range h.objs.size).filter fun a=>(H a).isSome
noncomputable def hidT (h:Heap) (H:Hp):Heap:=PySem.W.hideAll h (trk h H)
theorem hidT_size (h:Heap) (H:Hp):(hidT h H).objs.size=h.objs.size:=PySem.W.hideAll_size _ _
theorem hidT_get {h:Heap}{H:Hp}{b:Addr}{o:Obj} (e:h.get? b=some o) (n:H b=none):(hidT h H).get? b=some o:=
 PySem.W.hideAll_get _ e fun hm=>by
  have q:(H b).isSome=true:=(List.mem_filter.mp hm).2
  rw[n] at q;simp at q
theorem of_hidT {h:Heap}{H:Hp}{b:Addr}{o:Obj} (e:(hidT h H).get? b=some o):h.get? b=some o∧H b=none:=by
 have e':h.get? b=some o:=PySem.W.of_hideAll (trk h H) e
 refine⟨e',?_⟩
 cases q:H b with
 | none=>rfl
 | some x=>
  have hm:b∈trk h H:=List.mem_filter.mpr ⟨List.mem_range.mpr (Heap.lt_size e'),by simp [q]⟩
  have z:(hidT h H).get? b=none:=PySem.W.hideAll_none (trk h H) hm
  rw[z] at e;cases e
end L2
namespace L2
open PySem PySem.Spec PyProof.Rows
structure Mod (K:PySem.W.Frag) (mg:Str→Option Value) (base:Heap):Prop where
 kin:K.In base
 glob:base.Ns mainGlobals mg
 blt:∃ mb,base.Ns builtinsNs mb∧∀ x:Str,x ≠ "__name__" → mb x=bootBuiltins x
 nolimit:base.NoLimit
structure Cx where
 prog:Program
 w:World
 K:PySem.W.Frag
 mg:Str→Option Value
 base:Heap
 A:Around
 N:List Str
 s₀:Shared
 H₀:Hp
 env:Env
 outer:List Env
 stack:List Env
 ex:List Addr
 fn:Str→Bool
 calm:Bool
 pn:List (Addr×Obj)
 xe:Value→Shared→Prop
noncomputable def frs (l:List Env):List Addr:=l.filterMap (·.frame)
noncomputable abbrev Cx.fs (X:Cx):List Addr:=frs X.outer
noncomputable def Vis (sc:Scope) (x:Str):Prop:=sc.names.lookup x=some .local∨sc.names.lookup x=some .cell∨sc.names.lookup x=some .free
noncomputable def Loc (sc:Scope) (x:Str):Prop:=sc.names.lookup x=some .local∨sc.names.lookup x=some .cell
noncomputable def Look (env:Env) (h:Heap) (m:Str→Option Value) (x:Str) (u:Value):Prop:=
 (env.kindOf x=some .local∧m x=some u)∨((env.kindOf x=some .cell∨env.kindOf x=some .free)∧∃ c,env.cells.lookup x=some c∧h.IsCell c (some u))
structure Cx.Ok (X:Cx):Prop where
 mod:Mod X.K X.mg X.base
 kind:X.env.scope.kind=.function
 glob:X.env.globals=mainGlobals
 blt:X.env.builtins=builtinsNs
 above:X.s₀.heap.objs.size≤X.env.locals
 inj:∀ x y c,X.env.cells.lookup x=some c→X.env.cells.lookup y=some c→x=y
 has:∀ x,(X.env.kindOf x=some .cell∨X.env.kindOf x=some .free)→∃ c,X.env.cells.lookup x=some c
 cab:∀ x c,X.fn x=true→X.env.cells.lookup x=some c→X.s₀.heap.objs.size≤c
 hd:X.calm=true→X.A.handled=none
 frames:X.A.frames=some X.stack
 stk:X.stack=X.outer∨(X.stack=X.env::X.outer∧X.env.frame=some X.env.locals)
 exf:∀ b∈X.ex,b≠X.env.locals∧∀ x c,X.env.cells.lookup x=some c→c≠b
 bs:∀ b o,X.base.get? b=some o→X.s₀.heap.get? b=some o∧X.H₀ b=none
 bsz:X.base.objs.size≤X.s₀.heap.objs.size
 noex:∀ b o,X.base.get? b=some o→b∉X.ex
 exfs:∀ b∈X.ex,b∉X.fs
 funs:X.s₀.heap.FunFrames X.base X.outer
 frf:∀ b∈X.fs,X.H₀ b=none
structure Inv (X:Cx) (pins:List (Addr×Obj)) (σ:List (Option V)) (H:Hp) (s:Shared):Prop where
 ok:X.Ok
 os:s.os=X.s₀.os
 bare:AllBare s.gens
 base:Un X.fs X.ex X.H₀ H X.s₀.heap s.heap
 loc:∃ m,s.heap.Ns X.env.locals m∧∀ (i:Nat) (x:Str) (v:V),X.N[i]? = some x→σ[i]? = some (some v)→Vis X.env.scope x→∃ u,bK v u∧Look X.env s.heap m x u
 cell:∀ x c,X.env.cells.lookup x=some c→∃ v,s.heap.IsCell c v
 free:H X.env.locals=none
 freeC:∀ x c,X.env.cells.lookup x=some c→H c=none
 pin:∀ p∈X.pn++pins,s.heap.get? p.1=some p.2∧H p.1=none∧p.1≠X.env.locals∧p.1∉X.fs∧∀ v,p.2.data≠.cell v
 hok:HOk X.prog X.w H s.heap
 len:σ.length=X.N.length
section
variable {X:Cx}{pins:List (Addr×Obj)}{σ:List (Option V)}{H H':Hp}{s:Shared}{h':Heap}
theorem Cx.Ok.nofr (ok:X.Ok) {b:Addr}{o:Obj} (e:X.base.get? b=some o):b∉X.fs:=fun hb=>by
 have:=(ok.funs.mem hb).1
 rw[e] at this;cases this
theorem Inv.bs (I:Inv X pins σ H s):∀ b o,X.base.get? b=some o→s.heap.get? b=some o∧H b=none:=fun b o e=>
 ⟨I.base.keep b o (I.ok.bs b o e).1 (I.ok.bs b o e).2 (I.ok.nofr e) (I.ok.noex b o e),I.base.free b o (I.ok.bs b o e).1 (I.ok.bs b o e).2 (I.ok.noex b o e)⟩
theorem Inv.bk (I:Inv X pins σ H s):∀ b o,X.base.get? b=some o→s.heap.get? b=some o:=fun b o e=>(I.bs b o e).1
theorem Inv.mod (I:Inv X pins σ H s):Mod X.K X.mg X.base:=I.ok.mod
theorem Inv.kIn (I:Inv X pins σ H s):X.K.In s.heap:=I.ok.mod.kin.keeps I.bk
theorem Inv.lt (I:Inv X pins σ H s):X.env.locals < s.heap.objs.size:=let ⟨_,hn,_⟩:=I.loc;hn.lt
theorem Inv.sz (I:Inv X pins σ H s):X.s₀.heap.objs.size≤s.heap.objs.size:=Nat.le_trans I.ok.above (Nat.le_of_lt I.lt)
theorem Inv.nofs (I:Inv X pins σ H s) {a:Addr} (h:s.heap.objs.size≤a):a∉X.fs:=fun hb=>by
 obtain⟨_,o,ho,_⟩:=I.ok.funs.mem hb
 exact absurd (Nat.lt_of_lt_of_le (Heap.lt_size ho) (Nat.le_trans I.sz h)) (Nat.lt_irrefl _)
theorem Inv.cne (I:Inv X pins σ H s):∀ x c,X.env.cells.lookup x=some c→c≠X.env.locals:=fun x c e z=>by
 obtain⟨v,o,ho,hd⟩:=I.cell x c e
 obtain⟨m,⟨o',es,ep,ho',hd',_⟩,_⟩:=I.loc
 rw[z,ho'] at ho;cases ho;rw[hd'] at hd;cases hd
theorem Inv.funs (I:Inv X pins σ H s):s.heap.FunFrames X.base X.outer:=by
 have all:∀ (l:List Env),(∀ b∈frs l,b∈X.fs)→X.s₀.heap.FunFrames X.base l→s.heap.FunFrames X.base l:=by
  intro l
  induction l with
  | nil=>intro _ _;trivial
  | cons env r ih=>
   intro hs hl
   obtain⟨hk,⟨L,o,hf,hn,ho,hd⟩,hr⟩:=hl
   have hL:L∈X.fs:=hs L (by unfold frs;rw[List.filterMap_cons,hf];exact List.mem_cons_self)
   obtain⟨sl,e⟩:=I.base.slot L o ho (I.ok.frf L hL) hL fun z=>I.ok.exfs L z hL
   exact⟨hk,⟨L,_,hf,hn,e,hd⟩,ih (fun b hb=>hs b (by unfold frs;rw[List.filterMap_cons,hf];exact List.mem_cons_of_mem _ hb)) hr⟩
 exact all X.outer (fun _ hb=>hb) I.ok.funs
theorem Inv.stack (I:Inv X pins σ H s):s.heap.FunFrames X.base X.stack:=by
 rcases I.ok.stk with e | ⟨e,hf⟩
 ·rw[e];exact I.funs
 ·rw[e]
  obtain⟨m,hn,_⟩:=I.loc
  refine .cons (by rw[I.ok.kind];decide) hf hn ?_ I.funs
  exact Heap.get?_none_of_le (Nat.le_trans I.ok.bsz I.ok.above)
theorem Inv.stkSub (I:Inv X pins σ H s):∀ b∈frs X.stack,b∈X.env.locals::X.fs:=fun b hb=>by
 rcases I.ok.stk with e | ⟨e,hf⟩
 ·rw[e] at hb;exact List.mem_cons_of_mem _ hb
 ·rw[e] at hb
  unfold frs at hb
  rw[List.filterMap_cons,hf] at hb
  exact hb
theorem Inv.stkFree (I:Inv X pins σ H s):∀ b∈frs X.stack,H b=none:=fun b hb=>by
 rcases List.mem_cons.mp (I.stkSub b hb) with e | hb
 ·rw[e];exact I.free
 ·obtain⟨_,o,ho,_⟩:=I.ok.funs.mem hb
  exact I.base.free b o ho (I.ok.frf b hb) fun z=>I.ok.exfs b z hb
theorem Inv.step {g':Array GenState}{t':Nat}{d':Drawn}{ch:List Addr} (I:Inv X pins σ H s)
  (hch:∀ b∈ch,(b∈X.ex∨X.s₀.heap.objs.size≤b)∧b≠X.env.locals∧(∀ x c,X.env.cells.lookup x=some c→c≠b)∧∀ p∈X.pn++pins,p.1≠b)
  (keep:∀ b o,b≠X.env.locals→b∉X.fs→b∉ch→s.heap.get? b=some o→H b=none→h'.get? b=some o)
  (slot:∀ b o,b≠X.env.locals→b∈X.fs→b∉ch→s.heap.get? b=some o→H b=none→∃ sl,h'.get? b=some { o with slots:=sl }) (free:∀ b o,b∉ch→s.heap.get? b=some o→H b=none→H' b=none)
  (there:∀ b o,b∉ch→s.heap.get? b=some o→∃ o',h'.get? b=some o')
  (tups:∀ b xs,H b=some (.tup xs)→H' b=some (.tup xs)) (frzs:∀ b o u,H b=some (.frz o u)→H' b=some (.frz o u)) (tbls:∀ b ps,H b=some (.tbl ps)→∃ more,H' b=some (.tbl (ps++more)))
  (ns:∀ m,s.heap.Ns X.env.locals m→h'.Ns X.env.locals m) (hok:HOk X.prog X.w H' h') (hg:AllBare g') :
  Inv X pins σ H' { s with heap:=h',gens:=g',drawn:=d',toks:=t' }:=by
 have neL:∀ b o,X.s₀.heap.get? b=some o→b≠X.env.locals:=fun b o e=>Nat.ne_of_lt (Nat.lt_of_lt_of_le (Heap.lt_size e) I.ok.above)
 have neC:∀ b o,X.s₀.heap.get? b=some o→b∉X.ex→b∉ch:=fun b o e hx hb=>by
  rcases (hch b hb).1 with z | z
  ·exact hx z
  ·exact absurd (Nat.lt_of_lt_of_le (Heap.lt_size e) z) (Nat.lt_irrefl _)
 have cellK:∀ x c,X.env.cells.lookup x=some c→∀ v,s.heap.IsCell c v→h'.IsCell c v:=fun x c e v ⟨o,ho,hd⟩=>by
  have nch:c∉ch:=fun z=>(hch c z).2.2.1 x c e rfl
  by_cases hc:c∈X.fs
  ·obtain⟨sl,q⟩:=slot c o (I.cne x c e) hc nch ho (I.freeC x c e)
   exact⟨_,q,hd⟩
  ·exact⟨o,keep c o (I.cne x c e) hc nch ho (I.freeC x c e),hd⟩
 refine⟨I.ok,I.os,hg,⟨fun b o e n hb hx=>?_,fun b o e n hb hx=>?_,fun b o e n hx=>?_,fun b o e hx=>?_,fun b xs e=>tups b xs (I.base.tups b xs e),fun b o xs e=>frzs b o xs (I.base.frzs b o xs e),fun b ps e=>?_⟩,?_,fun x c e=>?_,?_,fun x c e=>?_,fun p hp=>?_,hok,I.len⟩
 ·exact keep b o (neL b o e) hb (neC b o e hx) (I.base.keep b o e n hb hx) (I.base.free b o e n hx)
 ·obtain⟨sl,e1⟩:=I.base.slot b o e n hb hx
  obtain⟨sl',e2⟩:=slot b _ (neL b o e) hb (neC b o e hx) e1 (I.base.free b o e n hx)
  exact⟨sl',e2⟩
 ·obtain⟨o',e1⟩:=I.base.there b o e hx
  exact free b o' (neC b o e hx) e1 (I.base.free b o e n hx)
 ·obtain⟨o',e1⟩:=I.base.there b o e hx
  exact there b o' (neC b o e hx) e1
 ·obtain⟨m1,e1⟩:=I.base.tbls b ps e
  obtain⟨m2,e2⟩:=tbls b _ e1
  exact⟨m1++m2,by rw[e2,Array.append_assoc]⟩
 ·obtain⟨m,hn,hl⟩:=I.loc
  refine⟨m,ns m hn,fun i x v e1 e2 e3=>?_⟩
  obtain⟨u,r,l⟩:=hl i x v e1 e2 e3
  refine⟨u,r,?_⟩
  rcases l with l | ⟨k,c,e,z⟩
  ·exact .inl l
  ·exact .inr ⟨k,c,e,cellK x c e _ z⟩
 ·obtain⟨v,z⟩:=I.cell x c e
  exact⟨v,cellK x c e v z⟩
 ·obtain⟨m,⟨o,_,_,ho,_⟩,_⟩:=I.loc
  exact free _ o (fun z=>(hch _ z).2.1 rfl) ho I.free
 ·obtain⟨v,o,ho,hd⟩:=I.cell x c e
  exact free c o (fun z=>(hch c z).2.2.1 x c e rfl) ho (I.freeC x c e)
 ·obtain⟨e,n,ne,nf,d⟩:=I.pin p hp
  have nch:p.1∉ch:=fun z=>(hch p.1 z).2.2.2 p hp rfl
  exact⟨keep p.1 p.2 ne nf nch e n,free p.1 p.2 nch e n,ne,nf,d⟩
theorem Inv.un {t':Nat} (I:Inv X pins σ H s) (u:Un X.fs [] H H' s.heap h') (hok:HOk X.prog X.w H' h'):Inv X pins σ H' { s with heap:=h',toks:=t' }:=by
 obtain⟨m,⟨o,es,ep,ho,r⟩,_⟩:=id I.loc
 obtain⟨sl,hL⟩:=u.any ho I.free (by simp)
 exact I.step (g':=s.gens) (d':=s.drawn) (ch:=[]) (fun _ z=>nomatch z) (fun b o _ hb _ e n=>u.keep b o e n hb (by simp)) (fun b o _ hb _ e n=>u.slot b o e n hb (by simp)) (fun b o _ e n=>u.free b o e n (by simp)) (fun b o _ e=>u.there b o e (by simp)) u.tups u.frzs u.tbls (fun m' hm=>by
  obtain⟨o',es',ep',ho',r'⟩:=hm
  rw[ho] at ho';cases ho'
  exact⟨_,es',ep',hL,r'⟩) hok I.bare
theorem Inv.call {g':Array GenState}{t':Nat}{d':Drawn}{ch:List Addr} (I:Inv X pins σ H s) (u:Un (frs X.stack) ch H H' s.heap h') (hok:HOk X.prog X.w H' h') (hg:AllBare g')
  (hch:∀ b∈ch,(b∈X.ex∨X.s₀.heap.objs.size≤b)∧b≠X.env.locals∧(∀ x c,X.env.cells.lookup x=some c→c≠b)∧∀ p∈X.pn++pins,p.1≠b) :
  Inv X pins σ H' { s with heap:=h',gens:=g',drawn:=d',toks:=t' }:=by
 obtain⟨m,⟨o,es,ep,ho,r⟩,_⟩:=id I.loc
 obtain⟨sl,hL⟩:=u.any ho I.free fun z=>(hch _ z).2.1 rfl
 exact I.step (ch:=ch) hch (fun b o hL hb hc e n=>u.keep b o e n (fun z=>(List.mem_cons.mp (I.stkSub b z)).elim hL hb) hc) (fun b o _ _ hc e n=>u.any e n hc) (fun b o hc e n=>u.free b o e n hc) (fun b o hc e=>u.there b o e hc) u.tups u.frzs u.tbls (fun m' hm=>by
  obtain⟨o',es',ep',ho',r'⟩:=hm
  rw[ho] at ho';cases ho'
  exact⟨_,es',ep',hL,r'⟩) hok hg
theorem Inv.turned {t':Nat}{it:Addr} (I:Inv X pins σ H s) (k:∀ b o,b≠it→s.heap.get? b=some o→h'.get? b=some o) (hn:H it=none) (hL:it≠X.env.locals)
  (h1:it∈X.ex∨X.s₀.heap.objs.size≤it) (h2:∀ x c,X.env.cells.lookup x=some c→c≠it) (h3:∀ p∈X.pn++pins,p.1≠it):Inv X pins σ H { s with heap:=h',toks:=t' }:=by
 have nit:∀ b u,H b=some u→b≠it:=fun b u e z=>by rw[z,hn] at e;cases e
 refine I.step (g':=s.gens) (d':=s.drawn) (ch:=[it]) (fun b hb=>?_) (fun b o _ _ hc e _=>k b o (fun z=>hc (by simp [z])) e) (fun b o _ _ hc e _=>⟨o.slots,k b o (fun z=>hc (by simp [z])) e⟩) (fun _ _ _ _ n=>n)
  (fun b o hc e=>⟨o,k b o (fun z=>hc (by simp [z])) e⟩) (fun _ _ e=>e) (fun _ _ _ e=>e) (fun b ps e=>⟨#[],by rw[e];simp⟩) (fun m hm=>?_) (fun b u e=>?_) I.bare
 ·have e:b=it:=by simpa using hb
  subst e
  exact⟨h1,hL,h2,h3⟩
 ·obtain⟨o,es,ep,ho,r⟩:=hm
  exact⟨o,es,ep,k _ o (Ne.symm hL) ho,r⟩
 ·refine (I.hok b u e).stay (fun c v hc q=>k c v ?_ q) (fun _ q=>q) fun _ _ q=>q
  rcases hc with z | z
  ·rw[z];exact nit b u e
  ·exact nit c _ z
theorem Inv.tok (I:Inv X pins σ H s) (t:Nat):Inv X pins σ H { s with toks:=t }:=I.un (h':=s.heap) (t':=t) Un.refl I.hok
theorem Inv.kept {t':Nat} (I:Inv X pins σ H s) (k:∀ b u,s.heap.get? b=some u→h'.get? b=some u):Inv X pins σ H { s with heap:=h',toks:=t' }:=I.un (Un.kept k) (I.hok.kept k)
theorem Inv.laid {a:Addr}{o:HO}{t':Nat} (I:Inv X pins σ H s) (k:∀ b u,s.heap.get? b=some u→h'.get? b=some u) (hp:s.heap.objs.size≤a) (new:dD X.prog X.w (upd H a o) h' a o) :
  Inv X pins σ (upd H a o) { s with heap:=h',toks:=t' }:=I.un (Un.laid k hp (I.hok.fresh hp)) (I.hok.laid k hp new)
theorem Inv.write {x e:Addr}{o:HO}{t':Nat} (I:Inv X pins σ H s) (mu:Mut (H x)) (he:e=x∨H e=some (.own x)) (k:∀ b u,b≠e→s.heap.get? b=some u→h'.get? b=some u) (heo:∃ u,h'.get? e=some u)
  (new:dD X.prog X.w (upd H x o) h' x o):Inv X pins σ (upd H x o) { s with heap:=h',toks:=t' }:=I.un (Un.write mu he k heo) (I.hok.write mu he k heo new)
theorem Inv.pins_of {pins':List (Addr×Obj)} (I:Inv X pins σ H s) (h:∀ p∈pins',s.heap.get? p.1=some p.2∧H p.1=none∧p.1≠X.env.locals∧p.1∉X.fs∧∀ v,p.2.data≠.cell v):Inv X pins' σ H s:=
 ⟨I.ok,I.os,I.bare,I.base,I.loc,I.cell,I.free,I.freeC,fun p hp=>(List.mem_append.mp hp).elim (fun z=>I.pin p (List.mem_append_left _ z)) (h p),I.hok,I.len⟩
theorem nodup_ix {N:List Str} (hN:N.Nodup) {i j:Nat}{x:Str} (a:N[i]? = some x) (b:N[j]? = some x):i=j:=by
 obtain⟨h1,e1⟩:=List.getElem?_eq_some_iff.mp a
 obtain⟨h2,e2⟩:=List.getElem?_eq_some_iff.mp b
 exact (List.getElem_inj hN).mp (e1.trans e2.symm)
theorem store_ok2 {M:Model}{A:Around}{E:Value→Shared→Prop}{i:Nat}{x:Str}{v:V}{u:Value}{Q:Unit→Shared→Prop} (I:Inv X pins σ H s) (hN:X.N.Nodup) (hi:X.N[i]? = some x) (hx:Loc X.env.scope x) (r:bK v u)
  (h:∀ s',Inv X pins (σ.set i (some v)) H s'→(∃ a,Heap.SameBut a s.heap s'.heap∧(a=X.env.locals∨X.env.cells.lookup x=some a))→Q () s') (hf:X.fn x=true∨X.env.scope.names.lookup x=some .local:=by first | exact .inl rfl | exact .inr rfl | assumption):wpAny M A (storeName X.env x u) Q E s:=by
 obtain⟨m,hn,hl⟩:=id I.loc
 have hcls:(X.env.scope.kind == .class || (X.env.scope.kind == .module && X.env.locals != X.env.globals))=false:=by rw[I.ok.kind];rfl
 have hiσ:i < σ.length:=by rw[I.len];exact (List.getElem?_eq_some_iff.mp hi).1
 have cne:=I.cne
 have tracked:∀ {a:Addr}{h':Heap},(∃ o,s.heap.get? a=some o∧H a=none)→Heap.SameBut a s.heap h'→HOk X.prog X.w H h':=fun {a h'} ha hs b ob e=>by
  obtain⟨_,_,hfree⟩:=ha
  refine (I.hok b ob e).stay (fun c w' hc q=>(hs.2 c ?_).trans q) (fun _ q=>q) fun _ _ q=>q
  rintro rfl
  rcases hc with rfl | hc
  ·rw[hfree] at e;cases e
  ·rw[hfree] at hc;cases hc
 rcases hx with hk | hk
 ·refine wpAny_storeName_local hk hn (fun h' hn' hs=>?_) hcls
  obtain⟨oL,_,_,hoL,_⟩:=id hn
  refine h _ ⟨I.ok,I.os,I.bare,⟨fun b o e n hb hx=>?_,fun b o e n hb hx=>?_,I.base.free,fun b o e hx=>?_,I.base.tups,I.base.frzs,I.base.tbls⟩,⟨_,hn',fun j y v' e1 e2 e3=>?_⟩,fun y c e=>?_,I.free,I.freeC,fun p hp=>?_,tracked ⟨oL,hoL,I.free⟩ hs,by simpa using I.len⟩ ⟨_,hs,.inl rfl⟩
  ·exact (hs.2 b (Nat.ne_of_lt (Nat.lt_of_lt_of_le (Heap.lt_size e) I.ok.above))).trans (I.base.keep b o e n hb hx)
  ·obtain⟨sl,e1⟩:=I.base.slot b o e n hb hx
   exact⟨sl,(hs.2 b (Nat.ne_of_lt (Nat.lt_of_lt_of_le (Heap.lt_size e) I.ok.above))).trans e1⟩
  ·obtain⟨o',e1⟩:=I.base.there b o e hx
   exact⟨o',(hs.2 b (Nat.ne_of_lt (Nat.lt_of_lt_of_le (Heap.lt_size e) I.ok.above))).trans e1⟩
  ·by_cases hj:j=i
   ·subst hj
    rw[hi] at e1;cases e1
    rw[List.getElem?_set_self hiσ] at e2
    cases e2
    exact⟨u,r,.inl ⟨hk,by simp⟩⟩
   ·rw[List.getElem?_set_ne (Ne.symm hj)] at e2
    obtain⟨u',r',q⟩:=hl j y v' e1 e2 e3
    refine⟨u',r',?_⟩
    rcases q with ⟨k,e⟩ | ⟨k,c,e,z⟩
    ·refine .inl ⟨k,?_⟩
     have:y≠x:=fun e=>hj (nodup_ix hN e1 (e ▸ hi))
     simp [this,e]
    ·exact .inr ⟨k,c,e,z.sameBut hs (cne y c e)⟩
  ·obtain⟨w',z⟩:=I.cell y c e
   exact⟨w',z.sameBut hs (cne y c e)⟩
  ·obtain⟨e,n,ne,nf,d⟩:=I.pin p hp
   exact⟨(hs.2 p.1 ne).trans e,n,ne,nf,d⟩
 ·have hfn:X.fn x=true:=by
   rcases hf with z | z
   ·exact z
   ·rw[z] at hk;cases hk
  obtain⟨c,hc⟩:=I.ok.has x (.inl hk)
  obtain⟨w',z⟩:=I.cell x c hc
  refine wpAny_storeName_cell I.ok.kind hk hc z (fun h' hc' hs=>?_)
  obtain⟨oc,hoc,hocd⟩:=id z
  refine h { s with heap:=h' } ⟨I.ok,I.os,I.bare,⟨fun b o e n hb hx=>?_,fun b o e n hb hx=>?_,I.base.free,fun b o e hx=>?_,I.base.tups,I.base.frzs,I.base.tbls⟩,⟨m,hn.sameBut hs (Ne.symm (cne x c hc)),fun j y v' e1 e2 e3=>?_⟩,fun y c' e=>?_,I.free,I.freeC,fun p hp=>?_,tracked ⟨oc,hoc,I.freeC x c hc⟩ hs,by simpa using I.len⟩ ⟨c,hs,.inr hc⟩
  ·exact (hs.2 b (Nat.ne_of_lt (Nat.lt_of_lt_of_le (Heap.lt_size e) (I.ok.cab x c hfn hc)))).trans (I.base.keep b o e n hb hx)
  ·obtain⟨sl,e1⟩:=I.base.slot b o e n hb hx
   exact⟨sl,(hs.2 b (Nat.ne_of_lt (Nat.lt_of_lt_of_le (Heap.lt_size e) (I.ok.cab x c hfn hc)))).trans e1⟩
  ·obtain⟨o',e1⟩:=I.base.there b o e hx
   exact⟨o',(hs.2 b (Nat.ne_of_lt (Nat.lt_of_lt_of_le (Heap.lt_size e) (I.ok.cab x c hfn hc)))).trans e1⟩
  ·by_cases hj:j=i
   ·subst hj
    rw[hi] at e1;cases e1
    rw[List.getElem?_set_self hiσ] at e2
    cases e2
    exact⟨u,r,.inr ⟨.inl hk,c,hc,hc'⟩⟩
   ·rw[List.getElem?_set_ne (Ne.symm hj)] at e2
    obtain⟨u',r',q⟩:=hl j y v' e1 e2 e3
    refine⟨u',r',?_⟩
    rcases q with q | ⟨k,c',e,z'⟩
    ·exact .inl q
    ·refine .inr ⟨k,c',e,z'.sameBut hs ?_⟩
     rintro rfl
     exact hj (nodup_ix hN e1 (I.ok.inj _ _ _ e hc ▸ hi))
  ·by_cases hcc:c'=c
   ·subst hcc;exact⟨_,hc'⟩
   ·obtain⟨w2,z2⟩:=I.cell y c' e
    exact⟨w2,z2.sameBut hs hcc⟩
  ·obtain⟨e,n,ne,nf,d⟩:=I.pin p hp
   refine⟨(hs.2 p.1 ?_).trans e,n,ne,nf,d⟩
   intro q
   rw[q,hoc] at e
   have q':oc=p.2:=Option.some.inj e
   exact d w' (by rw[← q'];exact hocd)
theorem store_ok {M:Model}{A:Around}{E:Value→Shared→Prop}{i:Nat}{x:Str}{v:V}{u:Value}{Q:Unit→Shared→Prop} (I:Inv X pins σ H s) (hN:X.N.Nodup) (hi:X.N[i]? = some x) (hx:Loc X.env.scope x) (r:bK v u)
  (h:∀ s',Inv X pins (σ.set i (some v)) H s'→Q () s') (hf:X.fn x=true∨X.env.scope.names.lookup x=some .local:=by first | exact .inl rfl | exact .inr rfl | assumption):wpAny M A (storeName X.env x u) Q E s:=
 store_ok2 I hN hi hx r (fun s' I' _=>h s' I') hf
theorem Inv.call' {s':Shared}{ch:List Addr} (I:Inv X pins σ H s) (ho:s'.os=s.os) (u:Un (frs X.stack) ch H H' s.heap s'.heap) (hok:HOk X.prog X.w H' s'.heap) (hg:AllBare s'.gens)
  (hch:∀ b∈ch,(b∈X.ex∨X.s₀.heap.objs.size≤b)∧b≠X.env.locals∧(∀ x c,X.env.cells.lookup x=some c→c≠b)∧∀ p∈X.pn++pins,p.1≠b):Inv X pins σ H' s':=by
 obtain⟨h',g',d',t',o'⟩:=s'
 have e:o'=s.os:=ho
 subst e
 exact I.call (g':=g') (t':=t') (d':=d') u hok hg hch
end
noncomputable abbrev XK:=Value→Option Addr→Hp→Prop
noncomputable abbrev St:=List (Option V)
noncomputable abbrev VK:=V→Hp→Prop
noncomputable abbrev TE:=St→Hp→VK→Prop
noncomputable abbrev TT:=St→Hp→(Bool→Hp→Prop)→Prop
noncomputable abbrev TA:=St→Hp→(List V→Hp→Prop)→Prop
structure Ends where
 nx:St→Hp→Prop
 rt:VK
 bk:St→Hp→Prop:=fun _ _=>False
 ct:St→Hp→Prop:=fun _ _=>False
noncomputable abbrev TS:=Ends→St→Hp→Prop
noncomputable def EP (X:Cx) (pins:List (Addr×Obj)) (σ:St) (Q:VK) (u:Value) (s':Shared):Prop:=∃ v H',Inv X pins σ H' s'∧bK v u∧Q v H'
noncomputable def TP (X:Cx) (pins:List (Addr×Obj)) (σ:St) (Q:Bool→Hp→Prop) (b:Bool) (s':Shared):Prop:=∃ H',Inv X pins σ H' s'∧Q b H'
noncomputable def AP (X:Cx) (pins:List (Addr×Obj)) (σ:St) (Q:List V→Hp→Prop) (us:List Value) (s':Shared):Prop:=∃ vs H',Inv X pins σ H' s'∧bO vs us∧Q vs H'
noncomputable def SP (X:Cx) (pins:List (Addr×Obj)) (D:Ends) (f:Flow) (s':Shared):Prop:=
 match f with
 | .next=>∃ σ' H',Inv X pins σ' H' s'∧D.nx σ' H'
 | .brk=>∃ σ' H',Inv X pins σ' H' s'∧D.bk σ' H'
 | .cont=>∃ σ' H',Inv X pins σ' H' s'∧D.ct σ' H'
 | .ret u=>∃ v σ' H',Inv X pins σ' H' s'∧bK v u∧D.rt v H'
noncomputable def PE (X:Cx) (e:Expr) (t:TE):Prop:=
 ∀ (pins:List (Addr×Obj)) (s:Shared) (σ:St) (H:Hp) (Q:VK),Inv X pins σ H s→t σ H Q→wpAny (model X.prog X.w) X.A (eval e X.env) (EP X pins σ Q) X.xe s
noncomputable def PT (X:Cx) (e:Expr) (t:TT):Prop:=
 ∀ (pins:List (Addr×Obj)) (s:Shared) (σ:St) (H:Hp) (Q:Bool→Hp→Prop),Inv X pins σ H s→t σ H Q→wpAny (model X.prog X.w) X.A (isTrue e X.env (eval e X.env)) (TP X pins σ Q) X.xe s
noncomputable def PW (X:Cx) (e:Expr) (t:TT):Prop:=
 ∀ (whole:Sem Value) (pins:List (Addr×Obj)) (s:Shared) (σ:St) (H:Hp) (Q:Bool→Hp→Prop),Inv X pins σ H s→t σ H Q→wpAny (model X.prog X.w) X.A (isTrue e X.env whole) (TP X pins σ Q) X.xe s
theorem PW.pt {X:Cx}{e:Expr}{t:TT} (h:PW X e t):PT X e t:=h _
noncomputable def PA (X:Cx) (es:List Expr) (t:TA):Prop:=
 ∀ (pos:Pos) (pins:List (Addr×Obj)) (s:Shared) (σ:St) (H:Hp) (Q:List V→Hp→Prop),Inv X pins σ H s→t σ H Q→wpAny (model X.prog X.w) X.A (spliced (backTo pos (starEach es X.env))) (AP X pins σ Q) X.xe s
noncomputable def PS (X:Cx) (st:Stmt) (t:TS):Prop:=
 ∀ (pins:List (Addr×Obj)) (s:Shared) (σ:St) (H:Hp) (D:Ends),Inv X pins σ H s→t D σ H→wpAny (model X.prog X.w) X.A (exec st X.env) (SP X pins D) X.xe s
noncomputable def PSs (X:Cx) (st:List Stmt) (t:TS):Prop:=
 ∀ (pins:List (Addr×Obj)) (s:Shared) (σ:St) (H:Hp) (D:Ends),Inv X pins σ H s→t D σ H→wpAny (model X.prog X.w) X.A (execs st X.env) (SP X pins D) X.xe s
theorem cU {α:Type}{t:Sem α}{Q Q':α→Shared→Prop}{M:Model}{A:Around}{E:Value→Shared→Prop}{s:Shared} (h:wpAny M A t Q E s) (hQ:∀ a s,Q a s→Q' a s):wpAny M A t Q' E s:=wpAny_mono h hQ fun _ _ x=>x
end L2
namespace L2
open PySem PySem.Spec PyProof.Rows
section
variable {X:Cx}
noncomputable def cZ (i:Nat):TE:=fun σ H Q=>∃ v,σ[i]? = some (some v)∧Q v H
noncomputable def tC (v:V):TE:=fun _ H Q=>Q v H
theorem pe_var {i:Nat}{x:Str}{pos:Pos} (hN:X.N[i]? = some x) (hv:Vis X.env.scope x) (hd:(x == ("__debug__" : Str))=false:=by decide) (hcd:(x == ("__classdict__" : Str))=false:=by decide):PE X (.Name x pos) (cZ i):=by
 intro pins s σ H Q I h
 obtain⟨v,e,h⟩:=h
 obtain⟨m,hn,hl⟩:=I.loc
 obtain⟨u,r,l⟩:=hl i x v hN e hv
 have fin:EP X pins σ Q u s:=⟨v,H,I,r,h⟩
 rcases l with ⟨hk,hm⟩ | ⟨hk,c,hc,hcell⟩
 ·exact wpAny_Name (wpAny_loadName_local I.ok.kind hk hn hm fin) hd
 ·rcases hk with hk | hk
  ·exact wpAny_Name (wpAny_loadName_cell I.ok.kind hk hc hcell fin) hd
  ·exact wpAny_Name (wpAny_loadName_free I.ok.kind hk hc hcell fin hcd) hd
theorem aH {i j pos}:PE X (.Constant (.int i) j pos) (tC (.int i)):=fun _ _ _ H _ I h=>wpAny_Constant_int ⟨.int i,H,I.tok _,⟨_,rfl⟩,h⟩
theorem pe_bl {b j pos}:PE X (.Constant (.bool b) j pos) (tC (.bl b)):=fun _ _ _ H _ I h=>Constant_bool ⟨.bl b,H,I,rfl,h⟩
theorem pe_non {j pos}:PE X (.Constant .none j pos) (tC .non):=fun _ _ _ H _ I h=>Constant_none ⟨.non,H,I,rfl,h⟩
theorem pe_str {x j pos}:PE X (.Constant (.str x) j pos) (tC (.str x)):=fun _ _ _ H _ I h=>Calls.Constant_str ⟨.str x,H,I.tok _,⟨_,rfl⟩,h⟩
noncomputable def Gl (X:Cx) (x:Str):Prop:=X.env.kindOf x=some .globalImplicit
theorem ld_glob {E:Value→Shared→Prop}{pins:List (Addr×Obj)}{s:Shared}{σ:St}{H:Hp}{x:Str}{u:Value}{pos:Pos}{Q:Value→Shared→Prop} (I:Inv X pins σ H s) (hg:Gl X x) (hm:X.mg x=some u) (h:Q u s)
  (hd:(x == ("__debug__" : Str))=false:=by decide):wpAny (model X.prog X.w) X.A (eval (.Name x pos) X.env) Q E s:=
 Calls.Name_function_global I.ok.kind hg (Calls.loadGlobal_global (by rw[I.ok.glob];exact I.mod.glob.keeps I.bk) hm h) hd
theorem ld_blt {E:Value→Shared→Prop}{pins:List (Addr×Obj)}{s:Shared}{σ:St}{H:Hp}{x:Str}{u:Value}{pos:Pos}{Q:Value→Shared→Prop} (I:Inv X pins σ H s) (hg:Gl X x) (hm:X.mg x=none) (hv:bootBuiltins x=some u) (h:Q u s)
  (hn:x ≠ "__name__" := by decide) (hd:(x == ("__debug__" : Str))=false:=by decide):wpAny (model X.prog X.w) X.A (eval (.Name x pos) X.env) Q E s:=by
 obtain⟨mb,h1,h2⟩:=I.mod.blt
 exact Calls.Name_function_global I.ok.kind hg (Calls.loadGlobal_builtin (by rw[I.ok.glob];exact I.mod.glob.keeps I.bk) hm (by rw[I.ok.blt];exact h1.keeps I.bk) ((h2 x hn).trans hv) h) hd
theorem pe_glob {x:Str}{v:V}{u:Value}{pos:Pos} (hg:Gl X x) (hm:X.mg x=some u) (r:bK v u) (hd:(x == ("__debug__" : Str))=false:=by decide):PE X (.Name x pos) (tC v):=
 fun _ _ _ H _ I h=>ld_glob I hg hm ⟨v,H,I,r,h⟩ hd
theorem pe_bltn {x:Str}{v:V}{u:Value}{pos:Pos} (hg:Gl X x) (hm:X.mg x=none) (hv:bootBuiltins x=some u) (r:bK v u) (hn:x ≠ "__name__" := by decide) (hd:(x == ("__debug__" : Str))=false:=by decide):PE X (.Name x pos) (tC v):=
 fun _ _ _ H _ I h=>ld_blt I hg hm hv ⟨v,H,I,r,h⟩ hn hd
variable {a b:Expr}{ta tb:TE}{pos:Pos}
noncomputable def PC (X:Cx) (op:CmpOp) (a b:Expr) (t:TE):Prop:=
 ∀ (pins:List (Addr×Obj)) (s:Shared) (σ:St) (H:Hp) (Q:VK),Inv X pins σ H s→t σ H Q→
  wpAny (model X.prog X.w) X.A (eval a X.env) (fun v s₁=>wpAny (model X.prog X.w) X.A (eval b X.env) (fun u s₂=>wpAny (model X.prog X.w) X.A (compareOp op v u) (EP X pins σ Q) X.xe s₂) X.xe s₁) X.xe s
noncomputable def tB (t:TE):TT:=fun σ H Q=>t σ H fun x H1=>∃ c,x=.bl c∧Q c H1
theorem pt_cmp {op:CmpOp}{t:TE} (h:PC X op a b t) (h1:behindInMarks op b=false:=by first | exact nobehind _ (by decide) (by decide) | rfl):PT X (.Compare a [op] [b] pos) (tB t):=by
 intro pins s σ H Q I hw
 refine wpAny_isTrue_Compare1 (cU (h pins s σ H _ I hw) fun v s1 h1=>cU h1 fun u s2 h2=>cU h2 fun c s3 ⟨x,H1,I1,r1,q1⟩=>?_) h1
 obtain⟨d,rfl,q⟩:=q1
 cases r1
 exact wpAny_truthy_bool ⟨H1,I1,q⟩
theorem dL {e:Expr}{t:TE} (h:PE X e t) (he:∀ whole,isTrue e X.env whole=(do let v ← whole;standAt e.pos;holding [v] (truthy v)):=by intro _;rfl):PT X e (tB t):=by
 intro pins s σ H Q I hw
 refine isTrue_plain (cU (h pins s σ H _ I hw) fun v s1 ⟨x,H1,I1,r1,q1⟩=>?_) (he _)
 obtain⟨d,rfl,q⟩:=q1
 cases r1
 exact wpAny_truthy_bool ⟨H1,I1,q⟩
variable {tA tB':TT}{rest:List Expr}
noncomputable def tAnd (t u:TT):TT:=fun σ H Q=>t σ H fun c H1=>if c=true then u σ H1 Q else Q false H1
noncomputable def tOr (t u:TT):TT:=fun σ H Q=>t σ H fun c H1=>if c=true then Q true H1 else u σ H1 Q
noncomputable def tNot (t:TT):TT:=fun σ H Q=>t σ H fun c H1=>Q (!c) H1
theorem pw_and1 (ha:PT X a tA):PW X (.BoolOp .And [a] pos) tA:=by
 intro wh pins s σ H Q I h
 refine isTrue_and (cU (ha pins s σ H Q I h) fun c s1 e=>?_)
 cases c with
 | true=>exact isTrue_and_nil e
 | false=>exact e
theorem pw_or1 (ha:PT X a tA):PW X (.BoolOp .Or [a] pos) tA:=by
 intro wh pins s σ H Q I h
 refine isTrue_or (cU (ha pins s σ H Q I h) fun c s1 e=>?_)
 cases c with
 | false=>exact isTrue_or_nil e
 | true=>exact e
theorem pw_and (ha:PT X a tA) (hb:PW X (.BoolOp .And (b::rest) pos) tB'):PW X (.BoolOp .And (a::b::rest) pos) (tAnd tA tB'):=by
 intro wh pins s σ H Q I h
 refine isTrue_and (cU (ha pins s σ H _ I h) fun c s1 ⟨H1,I1,q1⟩=>?_)
 cases c with
 | true=>exact hb wh pins s1 σ H1 Q I1 q1
 | false=>exact⟨H1,I1,q1⟩
theorem pw_or (ha:PT X a tA) (hb:PW X (.BoolOp .Or (b::rest) pos) tB'):PW X (.BoolOp .Or (a::b::rest) pos) (tOr tA tB'):=by
 intro wh pins s σ H Q I h
 refine isTrue_or (cU (ha pins s σ H _ I h) fun c s1 ⟨H1,I1,q1⟩=>?_)
 cases c with
 | true=>exact⟨H1,I1,q1⟩
 | false=>exact hb wh pins s1 σ H1 Q I1 q1
theorem eQ (ha:PT X a tA):PT X (.UnaryOp .Not a pos) (tNot tA):=by
 intro pins s σ H Q I h
 exact isTrue_not (ha pins s σ H (fun c H1=>Q (!c) H1) I h)
noncomputable def tAndV (ta tb:TE):TE:=fun σ H Q=>ta σ H fun x H1=>∃ c,x=.bl c∧if c=true then tb σ H1 Q else Q (.bl false) H1
noncomputable def tOrV (ta tb:TE):TE:=fun σ H Q=>ta σ H fun x H1=>∃ c,x=.bl c∧if c=true then Q (.bl true) H1 else tb σ H1 Q
noncomputable def tNotV (ta:TE):TE:=fun σ H Q=>ta σ H fun x H1=>∃ c,x=.bl c∧Q (.bl (!c)) H1
theorem pe_one {op}{t:TE} (h:PE X a t):PE X (.BoolOp op [a] pos) t:=fun pins s σ H Q I hw=>BoolOp_one (h pins s σ H Q I hw)
theorem pe_and (ha:PE X a ta) (hb:PE X (.BoolOp .And (b::rest) pos) tb):PE X (.BoolOp .And (a::b::rest) pos) (tAndV ta tb):=by
 intro pins s σ H Q I h
 refine BoolOp_and (cU (ha pins s σ H _ I h) fun v s1 ⟨x,H1,I1,r1,q1⟩=>?_)
 obtain⟨c,rfl,q1⟩:=q1
 cases r1
 refine wpAny_truthy_bool ?_
 cases c with
 | true=>exact hb pins s1 σ H1 Q I1 q1
 | false=>exact⟨.bl false,H1,I1,rfl,q1⟩
theorem pe_or (ha:PE X a ta) (hb:PE X (.BoolOp .Or (b::rest) pos) tb):PE X (.BoolOp .Or (a::b::rest) pos) (tOrV ta tb):=by
 intro pins s σ H Q I h
 refine BoolOp_or (cU (ha pins s σ H _ I h) fun v s1 ⟨x,H1,I1,r1,q1⟩=>?_)
 obtain⟨c,rfl,q1⟩:=q1
 cases r1
 refine wpAny_truthy_bool ?_
 cases c with
 | false=>exact hb pins s1 σ H1 Q I1 q1
 | true=>exact⟨.bl true,H1,I1,rfl,q1⟩
theorem pe_not (ha:PE X a ta):PE X (.UnaryOp .Not a pos) (tNotV ta):=by
 intro pins s σ H Q I h
 refine UnaryOp_ (cU (ha pins s σ H _ I h) fun v s1 ⟨x,H1,I1,r1,q1⟩=>?_)
 obtain⟨c,rfl,q1⟩:=q1
 cases r1
 exact not_of (wpAny_truthy_bool ⟨.bl (!c),H1,I1,rfl,q1⟩)
noncomputable def tIf (t:TT) (ta tb:TE):TE:=fun σ H Q=>t σ H fun c H1=>if c=true then ta σ H1 Q else tb σ H1 Q
theorem pe_ifExp {c:Expr} (hc:PT X c tA) (ha:PE X a ta) (hb:PE X b tb):PE X (.IfExp c a b pos) (tIf tA ta tb):=by
 intro pins s σ H Q I h
 refine wpAny_IfExp (cU (hc pins s σ H _ I h) fun d s1 ⟨H1,I1,q1⟩=>?_)
 cases d with
 | true=>exact ha pins s1 σ H1 Q I1 q1
 | false=>exact hb pins s1 σ H1 Q I1 q1
end
end L2
namespace L2
open PySem PySem.Spec PyProof.Rows
noncomputable def bY (K:PySem.W.Frag) (H:Hp) (a:Addr) (xs:List V):Prop:=
 Rd H a (.lst xs)∨
  ∃ (o:Obj) (its:Array Value) (n:Nat),K.lookup a=some o∧o.cls=.type "list" ∧ o.dict=none∧o.data=.seq its n∧its.size≤sizeLine∧bO xs its.toList
noncomputable def bR (K:PySem.W.Frag) (H:Hp) (a:Addr) (xs:List V):Prop:=
 Rd H a (.tup xs)∨
  ∃ (o:Obj) (its:Array Value) (n:Nat),K.lookup a=some o∧o.cls=.type "tuple" ∧ o.data=.seq its n∧its.size≤sizeLine∧bO xs its.toList
noncomputable def absV:Value→Option V
 | .none=>some .non
 | .bool b=>some (.bl b)
 | .int i _=>some (.int i)
 | .str x _=>some (.str x)
 | .bytes b _=>some (.byt b)
 | .float b _=>some (.flt b)
 | .ref a=>some (.ref a)
 | .type n=>some (.ty n)
 | _=>none
theorem bK.abs {x:V}{u:Value} (r:bK x u):absV u=some x:=by
 cases x with
 | non=>cases r;rfl
 | bl _=>cases r;rfl
 | int _=>obtain⟨t,rfl⟩:=r;rfl
 | str _=>obtain⟨t,rfl⟩:=r;rfl
 | byt _=>obtain⟨t,rfl⟩:=r;rfl
 | flt _=>obtain⟨t,rfl⟩:=r;rfl
 | ref _=>cases r;rfl
 | ty _=>cases r;rfl
theorem bK.inj {x y:V}{u:Value} (r:bK x u) (q:bK y u):x=y:=Option.some.inj (r.abs.symm.trans q.abs)
theorem bO.inj:∀ {xs ys:List V}{us:List Value},bO xs us→bO ys us→xs=ys
 | _,_,_,.nil,.nil=>rfl
 | _,_,_,.cons r t,.cons r' t'=>by rw[r.inj r',bO.inj t t']
section
variable {X:Cx}{pins:List (Addr×Obj)}{σ:St}{H:Hp}{s:Shared}{a:Addr}{xs ys:List V}
theorem bY.of {K:PySem.W.Frag} (h:H a=some (.lst xs)):bY K H a xs:=.inl (.inl h)
theorem bR.of {K:PySem.W.Frag} (h:H a=some (.tup xs)):bR K H a xs:=.inl (.inl h)
theorem Inv.list (I:Inv X pins σ H s) (h:bY X.K H a xs):∃ its:List Value,bO xs its∧PlainL s.heap a its.toArray∧xs.length≤sizeLine:=by
 rcases h with h | ⟨o,its,n,hk,hc,hd,hs,hz,r⟩
 ·obtain⟨z,its,n,r,e⟩:=h.ok I.hok
  exact⟨its,r,⟨_,n,e,rfl,rfl,rfl⟩,z⟩
 ·refine⟨its.toList,r,⟨o,n,I.kIn a o hk,hc,hd,by simpa using hs⟩,?_⟩
  have e:=r.length
  simp only [Array.length_toList] at e
  omega
theorem Inv.tuple (I:Inv X pins σ H s) (h:bR X.K H a xs):∃ its:List Value,bO xs its∧IsTup s.heap a its.toArray∧xs.length≤sizeLine:=by
 rcases h with h | ⟨o,its,n,hk,hc,hs,hz,r⟩
 ·obtain⟨z,its,r,p⟩:=h.ok I.hok
  exact⟨its,r,p,z⟩
 ·refine⟨its.toList,r,⟨o,I.kIn a o hk,hc,n,by simpa using hs⟩,?_⟩
  have e:=r.length
  simp only [Array.length_toList] at e
  omega
theorem Inv.list_inj (I:Inv X pins σ H s) (h:bY X.K H a xs) (h':bY X.K H a ys):xs=ys:=by
 obtain⟨its,r,⟨o,n,e,_,_,d⟩,_⟩:=I.list h
 obtain⟨its',r',⟨o',n',e',_,_,d'⟩,_⟩:=I.list h'
 rw[e] at e';cases e'
 rw[d] at d'
 injection d' with d1 _
 have:its=its':=by simpa using congrArg Array.toList d1
 subst this
 exact r.inj r'
theorem Inv.tuple_inj (I:Inv X pins σ H s) (h:bR X.K H a xs) (h':bR X.K H a ys):xs=ys:=by
 obtain⟨its,r,⟨o,e,_,n,d⟩,_⟩:=I.tuple h
 obtain⟨its',r',⟨o',e',_,n',d'⟩,_⟩:=I.tuple h'
 rw[e] at e';cases e'
 rw[d] at d'
 injection d' with d1 _
 have:its=its':=by simpa using congrArg Array.toList d1
 subst this
 exact r.inj r'
end
noncomputable abbrev Cx.wish (X:Cx) (E:Value→Shared→Prop):Cx:={ X with xe:=E }
noncomputable abbrev Cx.nox (X:Cx):Cx:=X.wish fun _ _=>False
theorem Cx.Ok.wish {X:Cx} (ok:X.Ok) (E:Value→Shared→Prop):(X.wish E).Ok:=
 ⟨ok.mod,ok.kind,ok.glob,ok.blt,ok.above,ok.inj,ok.has,ok.cab,ok.hd,ok.frames,ok.stk,ok.exf,ok.bs,ok.bsz,ok.noex,ok.exfs,ok.funs,ok.frf⟩
theorem Cx.Ok.unwish {X:Cx}{E:Value→Shared→Prop} (ok:(X.wish E).Ok):X.Ok:=
 ⟨ok.mod,ok.kind,ok.glob,ok.blt,ok.above,ok.inj,ok.has,ok.cab,ok.hd,ok.frames,ok.stk,ok.exf,ok.bs,ok.bsz,ok.noex,ok.exfs,ok.funs,ok.frf⟩
section
variable {X:Cx}{pins:List (Addr×Obj)}{σ:St}{H:Hp}{s:Shared}{E:Value→Shared→Prop}
theorem Inv.wish (I:Inv X pins σ H s) (E:Value→Shared→Prop):Inv (X.wish E) pins σ H s:=⟨I.ok.wish E,I.os,I.bare,I.base,I.loc,I.cell,I.free,I.freeC,I.pin,I.hok,I.len⟩
theorem Inv.unwish (I:Inv (X.wish E) pins σ H s):Inv X pins σ H s:=⟨I.ok.unwish,I.os,I.bare,I.base,I.loc,I.cell,I.free,I.freeC,I.pin,I.hok,I.len⟩
theorem SP.unwish {D:Ends}{f:Flow}{s':Shared} (h:SP (X.wish E) pins D f s'):SP X pins D f s':=by
 cases f with
 | next=>obtain⟨σ',H',I,q⟩:=h;exact⟨σ',H',I.unwish,q⟩
 | brk=>obtain⟨σ',H',I,q⟩:=h;exact⟨σ',H',I.unwish,q⟩
 | cont=>obtain⟨σ',H',I,q⟩:=h;exact⟨σ',H',I.unwish,q⟩
 | ret u=>obtain⟨v,σ',H',I,r,q⟩:=h;exact⟨v,σ',H',I.unwish,r,q⟩
theorem PSs.nox {st:List Stmt}{t:TS} (h:PSs X.nox st t):PSs X st t:=fun pins s σ H D I hw=>
 wpAny_mono (h pins s σ H D (I.wish _) hw) (fun _ _ q=>q.unwish) fun _ _ z=>False.elim z
end
section
variable {X:Cx}{st:Stmt}{rest:List Stmt}{t u:TS}{e:Expr}{te:TE}{pos:Pos}
noncomputable def tNext:TS:=fun D σ H=>D.nx σ H
noncomputable def tSeq (t u:TS):TS:=fun D σ H=>t { D with nx:=u D } σ H
theorem bV:PSs X [] tNext:=fun _ _ σ H _ I h=>wpAny_execs_nil ⟨σ,H,I,h⟩
theorem aE (h1:PS X st t) (h2:PSs X rest u):PSs X (st::rest) (tSeq t u):=by
 intro pins s σ H D I h
 refine wpAny_execs_cons (cU (h1 pins s σ H { D with nx:=u D } I h) fun f s1 q=>?_)
 cases f with
 | next=>
  obtain⟨σ',H',I',q⟩:=q
  exact h2 pins s1 σ' H' D I' q
 | ret v=>exact q
 | brk=>exact q
 | cont=>exact q
theorem aM (h1:PS X st t):PSs X [st] t:=by
 intro pins s σ H D I h
 refine wpAny_execs_cons (cU (h1 pins s σ H D I h) fun f s1 q=>?_)
 cases f with
 | next=>exact wpAny_execs_nil q
 | ret v=>exact q
 | brk=>exact q
 | cont=>exact q
theorem Inv.quiet {pins:List (Addr×Obj)}{σ:St}{H:Hp}{s:Shared} (I:Inv X pins σ H s):interactive X.env=false:=by simp [interactive,I.ok.kind]
noncomputable def tDrop (te:TE):TS:=fun D σ H=>te σ H fun _ H1=>D.nx σ H1
theorem cL (he:PE X e te) (hs:swapsWith e none pos.line X.env=pure false:=by rfl):PS X (.Expr e pos) (tDrop te):=by
 intro pins s σ H D I h
 exact wpAny_Expr_any (cU (he pins s σ H _ I h) fun v s1 ⟨x,H1,I1,r1,q1⟩=>⟨σ,H1,I1,q1⟩) I.quiet hs
noncomputable def tRet (te:TE):TS:=fun D σ H=>te σ H D.rt
theorem bG (he:PE X e te):PS X (.Return (some e) pos) (tRet te):=by
 intro pins s σ H D I h
 exact wpAny_Return_some (cU (he pins s σ H _ I h) fun v s1 ⟨x,H1,I1,r1,q1⟩=>⟨x,σ,H1,I1,r1,q1⟩)
noncomputable def tIfS (c:TT) (t u:TS):TS:=fun D σ H=>c σ H fun b H1=>if b=true then t D σ H1 else u D σ H1
theorem dC {c:Expr}{a b:List Stmt}{tc:TT} (hc:PT X c tc) (ha:PSs X a t) (hb:PSs X b u):PS X (.If c a b pos) (tIfS tc t u):=by
 intro pins s σ H D I h
 refine wpAny_If (cU (hc pins s σ H _ I h) fun d s1 ⟨H1,I1,q1⟩=>?_)
 cases d with
 | true=>exact ha pins s1 σ H1 D I1 q1
 | false=>exact hb pins s1 σ H1 D I1 q1
end
noncomputable abbrev TG:=V→St→Hp→(St→Hp→Prop)→Prop
noncomputable abbrev TGs:=List V→St→Hp→(St→Hp→Prop)→Prop
noncomputable def PG (X:Cx) (target:Expr) (t:TG):Prop:=
 ∀ (pins:List (Addr×Obj)) (s:Shared) (σ:St) (H:Hp) (v:V) (u:Value) (Q:St→Hp→Prop),Inv X pins σ H s→bK v u→t v σ H Q→
  wpAny (model X.prog X.w) X.A (assign target X.env u) (fun _ s'=>∃ σ' H',Inv X pins σ' H' s'∧Q σ' H') X.xe s
noncomputable def PGs (X:Cx) (ts:List Expr) (t:TGs):Prop:=
 ∀ (pins:List (Addr×Obj)) (s:Shared) (σ:St) (H:Hp) (vs:List V) (us:List Value) (Q:St→Hp→Prop),Inv X pins σ H s→bO vs us→t vs σ H Q→
  wpAny (model X.prog X.w) X.A (assignInOrder ((assignEach ts X.env).map (·.2)) us) (fun _ s'=>∃ σ' H',Inv X pins σ' H' s'∧Q σ' H') X.xe s
noncomputable abbrev TSet:=V→V→V→Hp→(Hp→Prop)→Prop
noncomputable def PSet (X:Cx) (t:TSet):Prop:=
 ∀ (pins:List (Addr×Obj)) (s:Shared) (σ:St) (H:Hp) (o i v:V) (ov iv u:Value) (Q:Hp→Prop),Inv X pins σ H s→bK o ov→bK i iv→bK v u→t o i v H Q→
  wpAny (model X.prog X.w) X.A (setItem ov iv u) (fun _ s'=>∃ H',Inv X pins σ H' s'∧Q H') X.xe s
noncomputable abbrev TIp:=V→V→Hp→VK→Prop
noncomputable def PIp (X:Cx) (op:Operator) (t:TIp):Prop:=
 ∀ (pins:List (Addr×Obj)) (s:Shared) (σ:St) (H:Hp) (x y:V) (v u:Value) (Q:VK),Inv X pins σ H s→bK x v→bK y u→t x y H Q→
  wpAny (model X.prog X.w) X.A (inplaceOp op v u) (EP X pins σ Q) X.xe s
section
variable {X:Cx}{pos:Pos}
noncomputable def gName (i:Nat):TG:=fun v σ H Q=>Q (σ.set i (some v)) H
theorem aF {i:Nat}{x:Str} (hN:X.N.Nodup) (hi:X.N[i]? = some x) (hx:Loc X.env.scope x) (hf:X.fn x=true∨X.env.scope.names.lookup x=some .local:=by first | exact .inl rfl | exact .inr rfl | assumption):PG X (.Name x pos) (gName i):=by
 intro pins s σ H v u Q I r h
 exact wpAny_assign_Name (store_ok I hN hi hx r (fun s' I'=>⟨_,H,I',h⟩) hf)
noncomputable def gNil:TGs:=fun vs σ H Q=>vs=[]∧Q σ H
noncomputable def gCons (t:TG) (u:TGs):TGs:=fun vs σ H Q=>∃ v r,vs=v::r∧t v σ H fun σ' H'=>u r σ' H' Q
theorem aV:PGs X [] gNil:=by
 intro pins s σ H vs us Q I r h
 obtain⟨e,h⟩:=h
 subst e
 cases r
 exact assignInOrder_nil ⟨σ,H,I,h⟩
theorem aG {e:Expr}{es:List Expr}{t:TG}{u:TGs} (h1:PG X e t) (h2:PGs X es u)
  (hs:(assignEach (e::es) X.env).map (·.2)=assign e X.env::(assignEach es X.env).map (·.2):=by rfl):PGs X (e::es) (gCons t u):=by
 intro pins s σ H vs us Q I r h
 obtain⟨v,vr,e1,h⟩:=h
 subst e1
 cases r with
 | cons r rr=>
  rw[hs]
  refine assignInOrder_cons (cU (h1 pins s σ H _ _ _ I r h) fun _ s1 ⟨σ1,H1,I1,q1⟩=>?_)
  exact h2 pins s1 σ1 H1 _ _ Q I1 rr q1
noncomputable def gTup (K:PySem.W.Frag) (n:Nat) (t:TGs):TG:=fun v σ H Q=>∃ a xs,v=.ref a∧bR K H a xs∧xs.length=n∧t xs σ H Q
theorem pg_tup {es:List Expr}{k:Nat}{t:TGs}{n:Nat} (hc:X.calm=true) (h:PGs X es t)
  (hn:(assignEach es X.env).length=n:=by rfl) (hst:(assignEach es X.env).findIdx? (·.1)=none:=by rfl):PG X (.Tuple es k pos) (gTup X.K n t):=by
 intro pins s σ H v u Q I r hw
 obtain⟨a,xs,e1,hq,hl,hw⟩:=hw
 subst e1
 cases r
 obtain⟨its,rv,ht,hz⟩:=I.tuple hq
 refine assign_Tuple_tuple (I.ok.hd hc) ht (by simp [hn,← hl,rv.length]) hst fun h' hx=>?_
 have I1:Inv X pins σ H { s with heap:=h' }:=I.kept (t':=s.toks) fun b o e=>hx b o (Nat.ne_of_lt (Heap.lt_size e)) e
 exact h pins _ σ H xs _ Q I1 (by simpa using rv) hw
noncomputable def gSub (to ti:TE) (t:TSet):TG:=fun v σ H Q=>to σ H fun o H1=>ti σ H1 fun i H2=>t o i v H2 fun H3=>Q σ H3
theorem pg_sub {o i:Expr}{to ti:TE}{t:TSet} (ho:PE X o to) (hi:PE X i ti) (hs:PSet X t)
  (ha:∀ v,assign (.Subscript o i pos) X.env v=(do
   let ov ← holding [v] (eval o X.env)
   let iv ← holding [v,ov] (eval i X.env)
   standAt pos
   holding [v,ov,iv] (setItem ov iv v)
   release [v,ov,iv] []):=by intro _;rfl):PG X (.Subscript o i pos) (gSub to ti t):=by
 intro pins s σ H v u Q I r h
 rw[ha]
 refine wpAny_bind (wpAny_holding (cU (ho pins s σ H _ I h) fun ov s1 ⟨x,H1,I1,r1,q1⟩=>?_))
 refine wpAny_bind (wpAny_holding (cU (hi pins s1 σ H1 _ I1 q1) fun iv s2 ⟨y,H2,I2,r2,q2⟩=>?_))
 refine wpAny_bind (wpAny_standAt (wpAny_bind (wpAny_holding (cU (hs pins s2 σ H2 x y v ov iv u _ I2 r1 r2 r q2) fun _ s3 ⟨H3,I3,q3⟩=>?_))))
 exact wpAny_release ⟨σ,H3,I3,q3⟩
noncomputable def tAsg (te:TE) (g:TG):TS:=fun D σ H=>te σ H fun x H1=>g x σ H1 D.nx
theorem bS {tg e:Expr}{te:TE}{g:TG} (he:PE X e te) (hg:PG X tg g) (hs:swapsWithSole [tg] e pos.line X.env=pure false:=by rfl) (hw:swappedStores [tg] e X.env=pure none:=by rfl)
  (h1:(assignEach [tg] X.env).map (·.2)=[assign tg X.env]:=by rfl):PS X (.Assign [tg] e pos) (tAsg te g):=by
 intro pins s σ H D I h
 refine wpAny_Assign_stores (cU (he pins s σ H _ I h) fun v s1 ⟨x,H1,I1,r1,q1⟩=>?_) hs hw
 rw[h1]
 exact cU (hg pins s1 σ H1 x v _ I1 r1 q1) fun _ s2 q=>q
theorem bE {i:Nat}{x:Str}{e:Expr}{te:TE}{pos':Pos} (hN:X.N.Nodup) (hi:X.N[i]? = some x) (hx:Loc X.env.scope x) (he:PE X e te) (hs:swapsWith e (some (.Name x pos')) pos.line X.env=pure false:=by rfl) (hf:X.fn x=true∨X.env.scope.names.lookup x=some .local:=by first | exact .inl rfl | exact .inr rfl | assumption) :
  PS X (.Assign [.Name x pos'] e pos) (tAsg te (gName i)):=by
 intro pins s σ H D I h
 refine wpAny_Assign_Name (cU (he pins s σ H _ I h) fun v s1 ⟨y,H1,I1,r1,q1⟩=>?_) hs
 exact store_ok I1 hN hi hx r1 (fun s2 I2=>⟨_,H1,I2,q1⟩) hf
noncomputable def tAug (i:Nat) (te:TE) (ti:TIp):TS:=fun D σ H=>∃ x,σ[i]? = some (some x)∧te σ H fun y H1=>ti x y H1 fun z H2=>D.nx (σ.set i (some z)) H2
theorem ps_aug {i:Nat}{x:Str}{e:Expr}{te:TE}{op:Operator}{ti:TIp}{pos':Pos} (hN:X.N.Nodup) (hi:X.N[i]? = some x) (hx:Loc X.env.scope x) (he:PE X e te) (ho:PIp X op ti) (hf:X.fn x=true∨X.env.scope.names.lookup x=some .local:=by first | exact .inl rfl | exact .inr rfl | assumption) :
  PS X (.AugAssign (.Name x pos') op e pos) (tAug i te ti):=by
 intro pins s σ H D I h
 obtain⟨v,e1,h⟩:=h
 obtain⟨m,hn,hl⟩:=I.loc
 have vis:Vis X.env.scope x:=by rcases hx with k | k;exact .inl k;exact .inr (.inl k)
 obtain⟨u,r,l⟩:=hl i x v hi e1 vis
 refine wpAny_AugAssign_Name ?_
 have go:wpAny (model X.prog X.w) X.A (eval e X.env) (fun w s₂=>wpAny (model X.prog X.w) X.A (inplaceOp op u w) (fun r s₃=>wpAny (model X.prog X.w) X.A (storeName X.env x r) (fun _=>SP X pins D .next) X.xe s₃) X.xe s₂) X.xe s:=by
  refine cU (he pins s σ H _ I h) fun w s1 ⟨y,H1,I1,r1,q1⟩=>?_
  refine cU (ho pins s1 σ H1 v y u w _ I1 r r1 q1) fun z s2 ⟨zv,H2,I2,r2,q2⟩=>?_
  exact store_ok I2 hN hi hx r2 (fun s3 I3=>⟨_,H2,I3,q2⟩) hf
 rcases l with ⟨hk,hm⟩ | ⟨hk,c,hc,hcell⟩
 ·exact wpAny_loadName_local I.ok.kind hk hn hm go
 ·rcases hk with hk | hk
  ·exact wpAny_loadName_cell I.ok.kind hk hc hcell go
  ·rcases hx with k | k
   ·have:X.env.scope.names.lookup x=some .free:=hk
    rw[k] at this;cases this
   ·have:X.env.scope.names.lookup x=some .free:=hk
    rw[k] at this;cases this
noncomputable def tAugS (to ti te:TE) (tget:V→V→Hp→VK→Prop) (tip:TIp) (tset:TSet):TS:=fun D σ H=>to σ H fun o H1=>ti σ H1 fun i H2=>tget o i H2 fun x H3=>te σ H3 fun y H4=>tip x y H4 fun z H5=>tset o i z H5 fun H6=>D.nx σ H6
noncomputable def PGet (X:Cx) (t:V→V→Hp→VK→Prop):Prop:=
 ∀ (pins:List (Addr×Obj)) (s:Shared) (σ:St) (H:Hp) (o i:V) (ov iv:Value) (Q:VK),Inv X pins σ H s→bK o ov→bK i iv→t o i H Q→
  wpAny (model X.prog X.w) X.A (getItem ov iv) (EP X pins σ Q) X.xe s
theorem ps_augS {o i e:Expr}{to ti te:TE}{tget:V→V→Hp→VK→Prop}{tip:TIp}{tset:TSet}{op:Operator}{tpos:Pos} (ho:PE X o to) (hi:PE X i ti) (hg:PGet X tget) (he:PE X e te) (hp:PIp X op tip) (hs:PSet X tset)
  (ha:∀ ov iv new,augStore i ov iv new=(do holding [new,ov,iv] (setItem ov iv new);release [new,ov,iv] [];pure .next):=by intros;rfl):PS X (.AugAssign (.Subscript o i tpos) op e pos) (tAugS to ti te tget tip tset):=by
 intro pins s σ H D I h
 refine wpAny_AugAssign_SubscriptAny (cU (ho pins s σ H _ I h) fun ov s1 ⟨x1,H1,I1,r1,q1⟩=>?_) ha
 refine cU (hi pins s1 σ H1 _ I1 q1) fun iv s2 ⟨x2,H2,I2,r2,q2⟩=>?_
 refine cU (hg pins s2 σ H2 x1 x2 ov iv _ I2 r1 r2 q2) fun old s3 ⟨x3,H3,I3,r3,q3⟩=>?_
 refine cU (he pins s3 σ H3 _ I3 q3) fun v s4 ⟨x4,H4,I4,r4,q4⟩=>?_
 refine cU (hp pins s4 σ H4 x3 x4 old v _ I4 r3 r4 q4) fun new s5 ⟨x5,H5,I5,r5,q5⟩=>?_
 exact cU (hs pins s5 σ H5 x1 x2 x5 ov iv new _ I5 r1 r2 r5 q5) fun _ s6 ⟨H6,I6,q6⟩=>⟨σ,H6,I6,q6⟩
noncomputable def ipI (f:Int→Int→Int):TIp:=fun x y H Q=>∃ i j,x=.int i∧y=.int j∧Q (.int (f i j)) H
theorem ip_add:PIp X .Add (ipI fun i j=>i+j):=by
 intro pins s σ H x y v u Q I r1 r2 h
 obtain⟨i,j,e1,e2,q⟩:=h
 subst e1;subst e2
 obtain⟨t,rfl⟩:=r1
 obtain⟨t',rfl⟩:=r2
 exact iadd_int ⟨.int _,H,I.tok _,⟨_,rfl⟩,q⟩
theorem ip_sub:PIp X .Sub (ipI fun i j=>i - j):=by
 intro pins s σ H x y v u Q I r1 r2 h
 obtain⟨i,j,e1,e2,q⟩:=h
 subst e1;subst e2
 obtain⟨t,rfl⟩:=r1
 obtain⟨t',rfl⟩:=r2
 exact isub_int ⟨.int _,H,I.tok _,⟨_,rfl⟩,q⟩
end
section
variable {X:Cx}{pos:Pos}
end
structure It where
 go:Nat→Hp→Prop
 yld:Nat→Hp→V→Hp→Prop
 stop:Nat→Hp→Prop
noncomputable def FpOk (X:Cx) (pins:List (Addr×Obj)) (H:Hp) (b:Addr):Prop:=
 H b=none∧b≠X.env.locals∧b∉X.fs∧(b∈X.ex∨X.s₀.heap.objs.size≤b)∧(∀ x c,X.env.cells.lookup x=some c→c≠b)∧∀ p∈X.pn++pins,p.1≠b
theorem Inv.fpOk {X:Cx}{pins:List (Addr×Obj)}{σ:St}{H H':Hp}{s:Shared}{b:Addr} (I:Inv X pins σ H s) (hb:s.heap.objs.size≤b) (hn:H' b=none):FpOk X pins H' b:=by
 refine⟨hn,Nat.ne_of_gt (Nat.lt_of_lt_of_le I.lt hb),I.nofs hb,.inr (Nat.le_trans I.sz hb),fun x c e z=>?_,fun p hp z=>?_⟩
 ·obtain⟨v,q⟩:=I.cell x c e
  exact absurd (Nat.lt_of_lt_of_le q.lt (by rw[z];exact hb)) (Nat.lt_irrefl _)
 ·exact absurd (Nat.lt_of_lt_of_le (Heap.lt_size (I.pin p hp).1) (by rw[z];exact hb)) (Nat.lt_irrefl _)
structure Turn (P:Program) (w:World) (K:PySem.W.Frag) (tg:Expr) (J:It) (fp:List Addr) (it:Addr) (tn:Nat→Heap→Prop):Prop where
 mem:it∈fp
 obj:∀ i h,tn i h→∀ b∈fp,∃ o,h.get? b=some o∧∀ v,o.data≠.cell v
 keep:∀ i h h',tn i h→(∀ b∈fp,∀ o,h.get? b=some o→h'.get? b=some o)→tn i h'
 item:∀ (X:Cx),X.prog=P→X.w=w→X.K=K→X.calm=true→∀ (i:Nat) (pins:List (Addr×Obj)) (s:Shared) (σ:St) (H:Hp) (E:Value→Shared→Prop),Inv X pins σ H s→(∀ b∈fp,FpOk X pins H b)→tn i s.heap→J.go i H→
  wpAny (model P w) X.A (pyNext (.ref it)) (fun r s1=>∃ u,r=some u∧
   wpAny (model P w) X.A (letOwnedTupleGo tg (.ref it) u) (fun _ s2=>∃ x H',Inv X pins σ H' s2∧bK x u∧J.yld i H x H'∧tn (i+1) s2.heap∧∀ b∈fp,H' b=none) E s1) E s
 done:∀ (X:Cx),X.prog=P→X.w=w→X.K=K→X.calm=true→∀ (i:Nat) (pins:List (Addr×Obj)) (s:Shared) (σ:St) (H:Hp) (E:Value→Shared→Prop),Inv X pins σ H s→(∀ b∈fp,FpOk X pins H b)→tn i s.heap→J.stop i H→
  wpAny (model P w) X.A (pyNext (.ref it)) (fun r s1=>r=none∧Inv X pins σ H s1) E s
 self:∀ (A:Around) (i:Nat) (s:Shared) (Q:Value→Shared→Prop) (E:Value→Shared→Prop),tn i s.heap→Q (.ref it) s→wpAny (model P w) A (pyIter (.ref it)) Q E s
noncomputable abbrev TI:=St→Hp→(It→Hp→Prop)→Prop
noncomputable def PIE (X:Cx) (pins:List (Addr×Obj)) (σ:St) (tg:Expr) (R:It→Hp→Prop) (itv:Value) (s2:Shared):Prop:=
 ∃ (it:Addr) (fp:List Addr) (tn:Nat→Heap→Prop) (J:It) (H':Hp),itv=.ref it∧Inv X pins σ H' s2∧Turn X.prog X.w X.K tg J fp it tn∧tn 0 s2.heap∧(∀ b∈fp,FpOk X pins H' b)∧R J H'
noncomputable def PI (X:Cx) (tg iter:Expr) (wi:TI):Prop:=
 ∀ (pins:List (Addr×Obj)) (s:Shared) (σ:St) (H:Hp) (R:It→Hp→Prop),Inv X pins σ H s→wi σ H R→
  wpAny (model X.prog X.w) X.A (eval iter X.env) (fun v s1=>wpAny (model X.prog X.w) X.A (pyIter v) (PIE X pins σ tg R) X.xe s1) X.xe s
theorem go_of {M:Model}{A:Around}{E:Value→Shared→Prop}{s:Shared}{tg:Expr}{it:Addr}{u:Value}{o:Obj}{n:String}{vs:Array Value}{Q:Unit→Shared→Prop} (ho:s.heap.get? it=some o) (hc:o.cls=.type n) (hd:o.data=.fields vs)
  (hn:["enumerate","zip","dict_itemiterator","dict_reverseitemiterator","odict_iterator","itertools.zip_longest","itertools.pairwise"].contains n=false) (hQ:Q () s):wpAny M A (letOwnedTupleGo tg (.ref it) u) Q E s:=by
 unfold letOwnedTupleGo
 cases tg <;> first
  | exact wpAny_pure hQ
  | (cases u <;> first
    | exact wpAny_pure hQ
    | (refine wpAny_bind (wpAny_load ho ?_)
       rw[hc,hd]
       show wpAny M A (if (["enumerate","zip","dict_itemiterator","dict_reverseitemiterator","odict_iterator","itertools.zip_longest","itertools.pairwise"].contains n && vs[0]? == some (rawInt _))=true then _ else _) Q E s
       rw[if_neg (by intro h;rw[hn,Bool.false_and] at h;cases h)]
       exact wpAny_pure hQ))
noncomputable def Itl (K:PySem.W.Frag) (a:Addr):It:=
 ⟨fun i H=>∃ xs x,bY K H a xs∧xs[i]? = some x,fun i H x H'=>H'=H∧∀ xs,bY K H a xs→xs[i]? = some x,fun i H=>∃ xs,bY K H a xs∧xs.length≤i⟩
noncomputable def Itt (K:PySem.W.Frag) (a:Addr):It:=
 ⟨fun i H=>∃ xs x,bR K H a xs∧xs[i]? = some x,fun i H x H'=>H'=H∧∀ xs,bR K H a xs→xs[i]? = some x,fun i H=>∃ xs,bR K H a xs∧xs.length≤i⟩
noncomputable def Itr (lo:Int) (n:Nat):It:=⟨fun i _=>i < n,fun i H x H'=>H'=H∧x=.int (lo+i),fun i _=>n≤i⟩
theorem turn_list {P:Program}{w:World}{K:PySem.W.Frag}{tg:Expr} (a it:Addr):Turn P w K tg (Itl K a) [it] it (fun i h=>h.IsListIter it a i) where
 mem:=by simp
 obj:=fun i h st b hb=>by
  have e:b=it:=by simpa using hb
  subst e
  obtain⟨o,e,c,d⟩:=st
  exact⟨o,e,fun v z=>by rw[d] at z;cases z⟩
 keep:=fun i h h' st k=>st.at fun o e=>k it (by simp) o e
 item:=by
  intro X hP hw hK hc i pins s σ H E I hf st hg
  subst hP hw hK
  obtain⟨xs,x,hq,hx⟩:=hg
  obtain⟨its,rv,p,hz⟩:=I.list hq
  obtain⟨u,hu,ru⟩:=rv.get hx
  obtain⟨f0,f1,f2,f3,f4,f5⟩:=hf it (by simp)
  refine wpAny_pyNext_list_item st p.isList (x:=u) (by simpa using hu) fun h' st' sb=>?_
  have I1:Inv X pins σ H { s with heap:=h' }:=I.turned (t':=s.toks) (fun b o hb e=>(sb.2 b hb).trans e) f0 f1 f3 f4 f5
  obtain⟨o,e,c,d⟩:=id st'
  exact⟨u,rfl,go_of (s:={ s with heap:=h' }) e c d (by decide) ⟨x,H,I1,ru,⟨rfl,fun ys hy=>by rw[I.list_inj hy hq];exact hx⟩,st',fun b hb=>(hf b hb).1⟩⟩
 done:=by
  intro X hP hw hK hc i pins s σ H E I hf st hg
  subst hP hw hK
  obtain⟨xs,hq,hx⟩:=hg
  obtain⟨its,rv,p,hz⟩:=I.list hq
  obtain⟨f0,f1,f2,f3,f4,f5⟩:=hf it (by simp)
  have hl:=rv.length
  exact wpAny_pyNext_list_end (I.ok.hd hc) st p.isList (by simp;omega) fun h' eb=>⟨rfl,I.turned (t':=s.toks) (fun b o hb e=>eb b o hb e) f0 f1 f3 f4 f5⟩
 self:=fun _ _ _ _ _ st h=>wpAny_pyIter_listiter st h
theorem turn_tuple {P:Program}{w:World}{K:PySem.W.Frag}{tg:Expr} (a it:Addr):Turn P w K tg (Itt K a) [it] it (fun i h=>h.IsTupleIter it a i) where
 mem:=by simp
 obj:=fun i h st b hb=>by
  have e:b=it:=by simpa using hb
  subst e
  obtain⟨o,e,c,d⟩:=st
  exact⟨o,e,fun v z=>by rw[d] at z;cases z⟩
 keep:=fun i h h' st k=>st.at fun o e=>k it (by simp) o e
 item:=by
  intro X hP hw hK hc i pins s σ H E I hf st hg
  subst hP hw hK
  obtain⟨xs,x,hq,hx⟩:=hg
  obtain⟨its,rv,p,hz⟩:=I.tuple hq
  obtain⟨u,hu,ru⟩:=rv.get hx
  obtain⟨f0,f1,f2,f3,f4,f5⟩:=hf it (by simp)
  refine wpAny_pyNext_tuple_item st (show s.heap.IsTuple a its.toArray from p) (x:=u) (by simpa using hu) fun h' st' sb=>?_
  have I1:Inv X pins σ H { s with heap:=h' }:=I.turned (t':=s.toks) (fun b o hb e=>(sb.2 b hb).trans e) f0 f1 f3 f4 f5
  obtain⟨o,e,c,d⟩:=id st'
  exact⟨u,rfl,go_of (s:={ s with heap:=h' }) e c d (by decide) ⟨x,H,I1,ru,⟨rfl,fun ys hy=>by rw[I.tuple_inj hy hq];exact hx⟩,st',fun b hb=>(hf b hb).1⟩⟩
 done:=by
  intro X hP hw hK hc i pins s σ H E I hf st hg
  subst hP hw hK
  obtain⟨xs,hq,hx⟩:=hg
  obtain⟨its,rv,p,hz⟩:=I.tuple hq
  obtain⟨f0,f1,f2,f3,f4,f5⟩:=hf it (by simp)
  have hl:=rv.length
  exact wpAny_pyNext_tuple_end (I.ok.hd hc) st (show s.heap.IsTuple a its.toArray from p) (by simp;omega) fun h' eb=>⟨rfl,I.turned (t':=s.toks) (fun b o hb e=>eb b o hb e) f0 f1 f3 f4 f5⟩
 self:=fun _ _ _ _ _ st h=>wpAny_pyIter_tupleiter st h
theorem turn_range {P:Program}{w:World}{K:PySem.W.Frag}{tg:Expr} (it:Addr) (lo:Int) (n:Nat):Turn P w K tg (Itr lo n) [it] it (fun i h=>IsRangeIter h it (lo+(i:Nat) * 1) ((n:Int) - (i:Nat)) 1) where
 mem:=by simp
 obj:=fun i h st b hb=>by
  have e:b=it:=by simpa using hb
  subst e
  exact⟨_,st,fun v z=>by
   have z':Data.fields _=Data.cell v:=z
   cases z'⟩
 keep:=fun i h h' st k=>k it (by simp) _ st
 item:=by
  intro X hP hw hK hc i pins s σ H E I hf st hg
  subst hP hw hK
  obtain⟨f0,f1,f2,f3,f4,f5⟩:=hf it (by simp)
  have W:=Walks.range (prog:=X.prog) (w:=X.w) (I.ok.hd hc) it lo 1 n
  refine W.item i s _ _ hg st fun v h' tk hv st' kk=>?_
  obtain⟨t,rfl⟩:=hv
  have I1:Inv X pins σ H { s with heap:=h',toks:=tk }:=I.turned (fun b o hb e=>kk b o (by simpa using hb) e) f0 f1 f3 f4 f5
  refine⟨_,rfl,go_of (s:={ s with heap:=h',toks:=tk }) (n := "range_iterator") st' rfl rfl (by decide) ⟨.int (lo+i),H,I1,⟨t,?_⟩,⟨rfl,rfl⟩,st',fun b hb=>(hf b hb).1⟩⟩
  rw[Int.mul_one]
 done:=by
  intro X hP hw hK hc i pins s σ H E I hf st hg
  subst hP hw hK
  obtain⟨f0,f1,f2,f3,f4,f5⟩:=hf it (by simp)
  exact wpAny_pyNext_range_end (I.ok.hd hc) st (by have:n≤i:=hg;omega) fun h' eb=>⟨rfl,I.turned (t':=s.toks) (fun b o hb e=>eb b o hb e) f0 f1 f3 f4 f5⟩
 self:=fun _ _ _ _ _ st h=>wpAny_pyIter_rangeiter st h
end L2
namespace L2
open PySem PySem.Spec PyProof.Rows
section
variable {X:Cx}{tg:Expr}
noncomputable def iList (K:PySem.W.Frag) (tl:TE):TI:=fun σ H R=>tl σ H fun x H1=>∃ a,x=.ref a∧(∃ xs,bY K H1 a xs)∧R (Itl K a) H1
noncomputable def iTup (K:PySem.W.Frag) (tl:TE):TI:=fun σ H R=>tl σ H fun x H1=>∃ a,x=.ref a∧(∃ xs,bR K H1 a xs)∧R (Itt K a) H1
theorem pi_list {l:Expr}{tl:TE} (hl:PE X l tl):PI X tg l (iList X.K tl):=by
 intro pins s σ H R I h
 refine cU (hl pins s σ H _ I h) fun v s1 ⟨x,H1,I1,r1,q1⟩=>?_
 obtain⟨a,e,⟨xs,hq⟩,q⟩:=q1
 subst e
 cases r1
 obtain⟨its,rv,p,hz⟩:=I1.list hq
 refine wpAny_pyIter_list p.isList ?_
 refine⟨s1.heap.objs.size,[s1.heap.objs.size],_,_,H1,rfl,I1.kept (t':=s1.toks) fun b o e=>Heap.get?_push_of_some _ e,turn_list a _,⟨_,Heap.get?_push_size _ rfl,rfl,rfl⟩,fun b hb=>?_,q⟩
 have e:b=s1.heap.objs.size:=by simpa using hb
 subst e
 exact I1.fpOk (Nat.le_refl _) (I1.hok.fresh (Nat.le_refl _))
theorem pi_tup {l:Expr}{tl:TE} (hl:PE X l tl):PI X tg l (iTup X.K tl):=by
 intro pins s σ H R I h
 refine cU (hl pins s σ H _ I h) fun v s1 ⟨x,H1,I1,r1,q1⟩=>?_
 obtain⟨a,e,⟨xs,hq⟩,q⟩:=q1
 subst e
 cases r1
 obtain⟨its,rv,p,hz⟩:=I1.tuple hq
 refine wpAny_pyIter_tuple (show s1.heap.IsTuple a its.toArray from p) ?_
 refine⟨s1.heap.objs.size,[s1.heap.objs.size],_,_,H1,rfl,I1.kept (t':=s1.toks) fun b o e=>Heap.get?_push_of_some _ e,turn_tuple a _,⟨_,Heap.get?_push_size _ rfl,rfl,rfl⟩,fun b hb=>?_,q⟩
 have e:b=s1.heap.objs.size:=by simpa using hb
 subst e
 exact I1.fpOk (Nat.le_refl _) (I1.hok.fresh (Nat.le_refl _))
theorem range_it {pins:List (Addr×Obj)}{σ:St}{H:Hp}{s:Shared}{R:It→Hp→Prop}{E:Value→Shared→Prop}{lo hi:Int}{t u v:Tok}{tk:Nat} (I:Inv X pins σ H s) (h1 : -(2 ^ 62)≤lo) (h2:lo < 2 ^ 62) (h3 : -(2 ^ 62)≤hi) (h4:hi < 2 ^ 62)
  (q:R (Itr lo (hi - lo).toNat) H):wpAny (model X.prog X.w) X.A (pyIter (.ref s.heap.objs.size)) (PIE X pins σ tg R) E { s with heap:=s.heap.push { cls:=.type "range",data:=.fields #[.int lo t,.int hi u,.int 1 v] },toks:=tk }:=by
 refine wpAny_pyIter_range (IsRange.new ..) (small_one h1 h2 h3 h4) ?_
 have I1:Inv X pins σ H { s with heap:=s.heap.push { cls:=.type "range",data:=.fields #[.int lo t,.int hi u,.int 1 v] },toks:=tk }:=I.kept fun b o e=>Heap.get?_push_of_some _ e
 refine⟨(s.heap.push { cls:=.type "range",data:=.fields #[.int lo t,.int hi u,.int 1 v] }).objs.size,[(s.heap.push { cls:=.type "range",data:=.fields #[.int lo t,.int hi u,.int 1 v] }).objs.size],_,_,H,rfl,
  I1.kept (t':=tk) fun b o e=>Heap.get?_push_of_some _ e,turn_range _ lo (hi - lo).toNat,?_,fun b hb=>?_,q⟩
 ·have e1:lo+((0:Nat):Int) * 1=lo:=by simp
  have e2:(((hi - lo).toNat:Nat):Int) - ((0:Nat):Int)=Builtin.Range.rangeSize lo hi 1:=by rw[rangeSize_one];split <;> omega
  show IsRangeIter _ _ (lo+((0:Nat):Int) * 1) ((((hi - lo).toNat:Nat):Int) - ((0:Nat):Int)) 1
  rw[e1,e2]
  exact Heap.get?_push_size _ rfl
 ·have e:b=(s.heap.push { cls:=.type "range",data:=.fields #[.int lo t,.int hi u,.int 1 v] }).objs.size:=by simpa using hb
  subst e
  exact I1.fpOk (Nat.le_refl _) (I1.hok.fresh (Nat.le_refl _))
noncomputable def iRng1 (ta:TA):TI:=fun σ H R=>ta σ H fun vs H1=>∃ j:Int,vs=[.int j]∧-(2 ^ 62)≤j∧j < 2 ^ 62∧R (Itr 0 j.toNat) H1
theorem cB {a:Expr}{ta:TA}{p pos:Pos} (hg:Gl X "range") (hm:X.mg "range" = none) (ha:PA X [a] ta) (hs:starEach [a] X.env=[(false,eval a X.env)]:=by rfl):PI X tg (.Call (.Name "range" p) [a] [] pos) (iRng1 ta):=by
 intro pins s σ H R I h
 refine Call_ (ld_blt I hg hm boot_range (PyProof.Rows.callWith_type1 (cU (ha pos pins s σ H _ I h) fun us s1 ⟨vs,H1,I1,r1,q1⟩=>?_) hs rfl))
 obtain⟨j,e,q1,q2,q⟩:=q1
 subst e
 cases r1 with
 | cons r rr=>
  cases rr
  obtain⟨t,rfl⟩:=r
  exact call_range_1 (range_it I1 (by omega) (by omega) q1 q2 (by simpa using q))
noncomputable def tFor (wi:TI) (g:TG) (tb:TS):TS:=fun D σ H=>wi σ H fun J H1=>∃ W:Nat→Nat→St→Hp→Prop,(∃ m,W 0 m σ H1)∧∀ i m σ H,W i m σ H→
 (J.stop i H∧D.nx σ H)∨(J.go i H∧∃ N:St→Hp→Prop,(∀ σ' H',N σ' H'→∃ m',m' < m∧W (i+1) m' σ' H')∧∀ x H',J.yld i H x H'→g x σ H' fun σ2 H2=>tb { D with nx:=N,ct:=N,bk:=D.nx } σ2 H2)
noncomputable def pinsAt (fp:List Addr) (h:Heap):List (Addr×Obj):=fp.filterMap fun b=>(h.get? b).map fun o=>(b,o)
theorem mem_pinsAt {fp:List Addr}{h:Heap}{b:Addr}{o:Obj} (hb:b∈fp) (e:h.get? b=some o):(b,o)∈pinsAt fp h:=List.mem_filterMap.mpr ⟨b,hb,by rw[e];rfl⟩
theorem of_pinsAt {fp:List Addr}{h:Heap}{p:Addr×Obj} (hp:p∈pinsAt fp h):p.1∈fp∧h.get? p.1=some p.2:=by
 obtain⟨b,hb,e⟩:=List.mem_filterMap.mp hp
 cases q:h.get? b with
 | none=>rw[q] at e;cases e
 | some o=>
  rw[q] at e
  have e':(b,o)=p:=Option.some.inj e
  subst e'
  exact⟨hb,q⟩
theorem Inv.pinned {pins:List (Addr×Obj)}{σ:St}{H:Hp}{s:Shared}{fp:List Addr} (I:Inv X pins σ H s) (hf:∀ b∈fp,FpOk X pins H b) (ho:∀ b∈fp,∃ o,s.heap.get? b=some o∧∀ v,o.data≠.cell v):Inv X (pins++pinsAt fp s.heap) σ H s:=
 I.pins_of fun p hp=>(List.mem_append.mp hp).elim (fun z=>I.pin p (List.mem_append_right _ z)) fun z=>by
  obtain⟨hb,e⟩:=of_pinsAt z
  obtain⟨f0,f1,f2,_⟩:=hf p.1 hb
  obtain⟨o,e',d⟩:=ho p.1 hb
  rw[e] at e';cases e'
  exact⟨e,f0,f1,f2,d⟩
theorem Inv.unpinned {pins pl:List (Addr×Obj)}{σ:St}{H:Hp}{s:Shared} (I:Inv X (pins++pl) σ H s):Inv X pins σ H s:=I.pins_of fun p hp=>I.pin p (List.mem_append_right _ (List.mem_append_left _ hp))
theorem dN {iter:Expr}{body:List Stmt}{wi:TI}{g:TG}{tb:TS}{pos:Pos} (hp:PassesOwn (model X.prog X.w) X.A X.env X.xe) (hc:X.calm=true) (hi:PI X tg iter wi) (hg:PG X tg g) (hb:PSs X body tb)
  (hs:∀ x,foldedSetIterable iter X.env x=pure x:=by intro _;rfl):PS X (.For tg iter body [] pos) (tFor wi g tb):=by
 intro pins s σ H D I h
 refine wpAny_For (cU (hi pins s σ H _ I h) fun v s1 h1=>cU h1 fun itv s2 h2=>?_) hs
 obtain⟨it,fp,tn,J,H2,e,I2,T,st2,f2,W,⟨m0,w0⟩,turn⟩:=h2
 subst e
 have stat:∀ {H':Hp},(∀ b∈fp,H' b=none)→∀ b∈fp,FpOk X pins H' b:=fun hn b hb=>⟨hn b hb,(f2 b hb).2⟩
 refine codeAny_forLoop_any (fun n s'=>∃ i σ' H',Inv X pins σ' H' s'∧tn i s'.heap∧(∀ b∈fp,H' b=none)∧W i n σ' H') ?_ m0 ⟨0,σ,H2,I2,st2,fun b hb=>(f2 b hb).1,w0⟩
 rintro n s3 ⟨i,σ3,H3,I3,st3,fr3,w3⟩
 rcases turn i n σ3 H3 w3 with ⟨stop,qn⟩ | ⟨go,N,hN,step⟩
 ·refine wpAny_passesOwn hp (cU (T.done X rfl rfl rfl hc i pins s3 σ3 H3 X.xe I3 (stat fr3) st3 stop) fun r s4 ⟨hr,I4⟩=>?_)
  subst hr
  exact wpAny_execs_nil ⟨σ3,H3,I4,qn⟩
 ·refine wpAny_passesOwn hp (cU (T.item X rfl rfl rfl hc i pins s3 σ3 H3 X.xe I3 (stat fr3) st3 go) fun r s4 ⟨u,hr,h4⟩=>?_)
  subst hr
  refine wpAny_passesOwn hp (cU h4 fun _ s5 ⟨x,H5,I5,r5,y5,st5,fr5⟩=>?_)
  have I5':=I5.pinned (stat fr5) (T.obj _ _ st5)
  refine wpAny_passesOwn hp (cU (hg _ s5 σ3 H5 x u _ I5' r5 (step x H5 y5)) fun _ s6 ⟨σ6,H6,I6,q6⟩=>?_)
  refine wpAny_passesOwn hp (cU (hb _ s6 σ6 H6 _ I6 q6) fun f s7 q7=>?_)
  have again:∀ {σ7:St}{H7:Hp},Inv X (pins++pinsAt fp s5.heap) σ7 H7 s7→N σ7 H7→∃ m,m < n∧∃ i σ' H',Inv X pins σ' H' s7∧tn i s7.heap∧(∀ b∈fp,H' b=none)∧W i m σ' H':=fun {σ7 H7} I7 n7=>by
   obtain⟨m',hm,w7⟩:=hN σ7 H7 n7
   refine⟨m',hm,i+1,σ7,H7,I7.unpinned,T.keep _ _ _ st5 fun b hb o e=>(I7.pin (b,o) (List.mem_append_right _ (List.mem_append_right _ (mem_pinsAt hb e)))).1,fun b hb=>?_,w7⟩
   obtain⟨o,e,d⟩:=T.obj _ _ st5 b hb
   exact (I7.pin (b,o) (List.mem_append_right _ (List.mem_append_right _ (mem_pinsAt hb e)))).2.1
  cases f with
  | next=>obtain⟨σ7,H7,I7,n7⟩:=q7;exact again I7 n7
  | cont=>obtain⟨σ7,H7,I7,n7⟩:=q7;exact again I7 n7
  | brk=>obtain⟨σ7,H7,I7,q7⟩:=q7;exact⟨σ7,H7,I7.unpinned,q7⟩
  | ret v=>obtain⟨x7,σ7,H7,I7,r7,q7⟩:=q7;exact⟨x7,σ7,H7,I7.unpinned,r7,q7⟩
end
theorem for_list {K:PySem.W.Frag}{a:Addr}{xs:List V}{g:TG}{tb:TS}{D:Ends}{σ:St}{H:Hp} (Pv:Nat→St→Hp→Prop) (h0:Pv 0 σ H) (hl:∀ i σ H,i≤xs.length→Pv i σ H→bY K H a xs)
  (hs:∀ i x σ H,xs[i]? = some x→Pv i σ H→g x σ H fun σ2 H2=>tb { D with nx:=Pv (i+1),ct:=Pv (i+1),bk:=D.nx } σ2 H2) (hd:∀ σ H,Pv xs.length σ H→D.nx σ H) :
  ∃ W:Nat→Nat→St→Hp→Prop,(∃ m,W 0 m σ H)∧∀ i m σ H,W i m σ H→
   ((Itl K a).stop i H∧D.nx σ H)∨((Itl K a).go i H∧∃ N:St→Hp→Prop,(∀ σ' H',N σ' H'→∃ m',m' < m∧W (i+1) m' σ' H')∧∀ x H',(Itl K a).yld i H x H'→g x σ H' fun σ2 H2=>tb { D with nx:=N,ct:=N,bk:=D.nx } σ2 H2):=by
 refine⟨fun i m σ H=>m=xs.length - i∧i≤xs.length∧Pv i σ H,⟨xs.length,by simp,Nat.zero_le _,h0⟩,?_⟩
 rintro i m σ H ⟨rfl,hi,p⟩
 have q:=hl i σ H hi p
 by_cases hlt:i < xs.length
 ·refine .inr ⟨⟨xs,xs[i],q,by simp [hlt]⟩,Pv (i+1),fun σ' H' p'=>⟨xs.length - (i+1),by omega,rfl,hlt,p'⟩,fun x H' y=>?_⟩
  obtain⟨e,y⟩:=y
  subst e
  exact hs i x σ _ (y xs q) p
 ·have e:i=xs.length:=by omega
  subst e
  exact .inl ⟨⟨xs,q,Nat.le_refl _⟩,hd σ H p⟩
theorem for_tup {K:PySem.W.Frag}{a:Addr}{xs:List V}{g:TG}{tb:TS}{D:Ends}{σ:St}{H:Hp} (Pv:Nat→St→Hp→Prop) (h0:Pv 0 σ H) (hl:∀ i σ H,i≤xs.length→Pv i σ H→bR K H a xs)
  (hs:∀ i x σ H,xs[i]? = some x→Pv i σ H→g x σ H fun σ2 H2=>tb { D with nx:=Pv (i+1),ct:=Pv (i+1),bk:=D.nx } σ2 H2) (hd:∀ σ H,Pv xs.length σ H→D.nx σ H) :
  ∃ W:Nat→Nat→St→Hp→Prop,(∃ m,W 0 m σ H)∧∀ i m σ H,W i m σ H→
   ((Itt K a).stop i H∧D.nx σ H)∨((Itt K a).go i H∧∃ N:St→Hp→Prop,(∀ σ' H',N σ' H'→∃ m',m' < m∧W (i+1) m' σ' H')∧∀ x H',(Itt K a).yld i H x H'→g x σ H' fun σ2 H2=>tb { D with nx:=N,ct:=N,bk:=D.nx } σ2 H2):=by
 refine⟨fun i m σ H=>m=xs.length - i∧i≤xs.length∧Pv i σ H,⟨xs.length,by simp,Nat.zero_le _,h0⟩,?_⟩
 rintro i m σ H ⟨rfl,hi,p⟩
 have q:=hl i σ H hi p
 by_cases hlt:i < xs.length
 ·refine .inr ⟨⟨xs,xs[i],q,by simp [hlt]⟩,Pv (i+1),fun σ' H' p'=>⟨xs.length - (i+1),by omega,rfl,hlt,p'⟩,fun x H' y=>?_⟩
  obtain⟨e,y⟩:=y
  subst e
  exact hs i x σ _ (y xs q) p
 ·have e:i=xs.length:=by omega
  subst e
  exact .inl ⟨⟨xs,q,Nat.le_refl _⟩,hd σ H p⟩
theorem dP {lo:Int}{n:Nat}{g:TG}{tb:TS}{D:Ends}{σ:St}{H:Hp} (Pv:Nat→St→Hp→Prop) (h0:Pv 0 σ H)
  (hs:∀ i σ H,i < n→Pv i σ H→g (.int (lo+i)) σ H fun σ2 H2=>tb { D with nx:=Pv (i+1),ct:=Pv (i+1),bk:=D.nx } σ2 H2) (hd:∀ σ H,Pv n σ H→D.nx σ H) :
  ∃ W:Nat→Nat→St→Hp→Prop,(∃ m,W 0 m σ H)∧∀ i m σ H,W i m σ H→
   ((Itr lo n).stop i H∧D.nx σ H)∨((Itr lo n).go i H∧∃ N:St→Hp→Prop,(∀ σ' H',N σ' H'→∃ m',m' < m∧W (i+1) m' σ' H')∧∀ x H',(Itr lo n).yld i H x H'→g x σ H' fun σ2 H2=>tb { D with nx:=N,ct:=N,bk:=D.nx } σ2 H2):=by
 refine⟨fun i m σ H=>m=n - i∧i≤n∧Pv i σ H,⟨n,by simp,Nat.zero_le _,h0⟩,?_⟩
 rintro i m σ H ⟨rfl,hi,p⟩
 by_cases hlt:i < n
 ·refine .inr ⟨hlt,Pv (i+1),fun σ' H' p'=>⟨n - (i+1),by omega,rfl,hlt,p'⟩,fun x H' y=>?_⟩
  obtain⟨e,y⟩:=y
  subst e y
  exact hs i σ _ hlt p
 ·have e:i=n:=by omega
  subst e
  exact .inl ⟨Nat.le_refl _,hd σ H p⟩
end L2
namespace L2
open PySem PySem.Spec PyProof.Rows
noncomputable abbrev R2:=V→V→Hp→VK→Prop
noncomputable def OpR (X:Cx) (f:Value→Value→Sem Value) (r:R2):Prop:=
 ∀ (pins:List (Addr×Obj)) (s:Shared) (σ:St) (H:Hp) (x y:V) (v u:Value) (Q:VK),Inv X pins σ H s→bK x v→bK y u→r x y H Q→
  wpAny (model X.prog X.w) X.A (f v u) (EP X pins σ Q) X.xe s
noncomputable def UnR (X:Cx) (f:Value→Sem Value) (r:V→Hp→VK→Prop):Prop:=
 ∀ (pins:List (Addr×Obj)) (s:Shared) (σ:St) (H:Hp) (x:V) (v:Value) (Q:VK),Inv X pins σ H s→bK x v→r x H Q→
  wpAny (model X.prog X.w) X.A (f v) (EP X pins σ Q) X.xe s
noncomputable def CallR (X:Cx) (f:Value) (r:List V→Hp→VK→Prop):Prop:=
 ∀ (pins:List (Addr×Obj)) (s:Shared) (σ:St) (H:Hp) (xs:List V) (us:List Value) (Q:VK),Inv X pins σ H s→bO xs us→r xs H Q→
  wpAny (model X.prog X.w) X.A (call f us) (EP X pins σ Q) X.xe s
noncomputable def tOp (r:R2) (ta tb:TE):TE:=fun σ H Q=>ta σ H fun x H1=>tb σ H1 fun y H2=>r x y H2 Q
noncomputable def tUn (r:V→Hp→VK→Prop) (ta:TE):TE:=fun σ H Q=>ta σ H fun x H1=>r x H1 Q
noncomputable def rI (C:Int→Int→Prop) (g:Int→Int→V):R2:=fun x y H Q=>∃ i j,x=.int i∧y=.int j∧C i j∧Q (g i j) H
noncomputable def rI0 (g:Int→Int→V):R2:=fun x y H Q=>∃ i j,x=.int i∧y=.int j∧Q (g i j) H
noncomputable def rU (g:Int→V):V→Hp→VK→Prop:=fun x H Q=>∃ i,x=.int i∧Q (g i) H
section
variable {X:Cx}{a b c:Expr}{ta tb tc:TE}{pos:Pos}
theorem binT (ha:PE X a ta) (hb:PE X b tb) {pins:List (Addr×Obj)}{s:Shared}{σ:St}{H:Hp}{R:V→V→Hp→Prop} (I:Inv X pins σ H s)
  (h:ta σ H fun x H1=>tb σ H1 fun y H2=>R x y H2) {Q:Value→Shared→Prop}{f:Value→Value→Sem Value}
  (hf:∀ v u s2 x y H2,Inv X pins σ H2 s2→bK x v→bK y u→R x y H2→wpAny (model X.prog X.w) X.A (f v u) Q X.xe s2) :
  wpAny (model X.prog X.w) X.A (eval a X.env) (fun v s₁=>wpAny (model X.prog X.w) X.A (eval b X.env) (fun u s₂=>wpAny (model X.prog X.w) X.A (f v u) Q X.xe s₂) X.xe s₁) X.xe s:=by
 refine cU (ha pins s σ H _ I h) fun v s1 ⟨x,H1,I1,r1,q1⟩=>?_
 refine cU (hb pins s1 σ H1 _ I1 q1) fun u s2 ⟨y,H2,I2,r2,q2⟩=>?_
 exact hf v u s2 x y H2 I2 r1 r2 q2
theorem aY {op:Operator}{r:R2} (ho:OpR X (binaryOp op) r) (ha:PE X a ta) (hb:PE X b tb):PE X (.BinOp a op b pos) (tOp r ta tb):=by
 intro pins s σ H Q I h
 exact wpAny_BinOp (binT ha hb I h fun v u s2 x y H2 I2 rx ry q=>ho pins s2 σ H2 x y v u Q I2 rx ry q)
theorem pe_un {op:UnaryOp}{r:V→Hp→VK→Prop} (ho:UnR X (unaryOp op) r) (ha:PE X a ta):PE X (.UnaryOp op a pos) (tUn r ta):=by
 intro pins s σ H Q I h
 exact UnaryOp_ (cU (ha pins s σ H _ I h) fun v s1 ⟨x,H1,I1,r1,q1⟩=>ho pins s1 σ H1 x v Q I1 r1 q1)
theorem opI {f:Value→Value→Sem Value}{C:Int→Int→Prop}{g:Int→Int→Int}
  (rule:∀ (i j:Int) (t u:Tok) (s:Shared) (Q:Value→Shared→Prop) (E:Value→Shared→Prop),C i j→Q (.int (g i j) s.toks) { s with toks:=s.toks+1 }→wpAny (model X.prog X.w) X.A (f (.int i t) (.int j u)) Q E s) :
  OpR X f (rI C fun i j=>.int (g i j)):=by
 intro pins s σ H x y v u Q I rx ry h
 obtain⟨i,j,rfl,rfl,hc,q⟩:=h
 obtain⟨t,rfl⟩:=rx
 obtain⟨t',rfl⟩:=ry
 exact rule i j t t' s _ _ hc ⟨.int (g i j),H,I.tok _,⟨_,rfl⟩,q⟩
theorem opI0 {f:Value→Value→Sem Value}{g:Int→Int→Int}
  (rule:∀ (i j:Int) (t u:Tok) (s:Shared) (Q:Value→Shared→Prop) (E:Value→Shared→Prop),Q (.int (g i j) s.toks) { s with toks:=s.toks+1 }→wpAny (model X.prog X.w) X.A (f (.int i t) (.int j u)) Q E s) :
  OpR X f (rI0 fun i j=>.int (g i j)):=by
 intro pins s σ H x y v u Q I rx ry h
 obtain⟨i,j,rfl,rfl,q⟩:=h
 obtain⟨t,rfl⟩:=rx
 obtain⟨t',rfl⟩:=ry
 exact rule i j t t' s _ _ ⟨.int (g i j),H,I.tok _,⟨_,rfl⟩,q⟩
theorem opB0 {f:Value→Value→Sem Value}{g:Int→Int→Bool}
  (rule:∀ (i j:Int) (t u:Tok) (s:Shared) (Q:Value→Shared→Prop) (E:Value→Shared→Prop),Q (.bool (g i j)) s→wpAny (model X.prog X.w) X.A (f (.int i t) (.int j u)) Q E s) :
  OpR X f (rI0 fun i j=>.bl (g i j)):=by
 intro pins s σ H x y v u Q I rx ry h
 obtain⟨i,j,rfl,rfl,q⟩:=h
 obtain⟨t,rfl⟩:=rx
 obtain⟨t',rfl⟩:=ry
 exact rule i j t t' s _ _ ⟨.bl (g i j),H,I,rfl,q⟩
noncomputable def CDiv (i j:Int):Prop:=0 < j∧j < 1073741824
noncomputable def CPow (i j:Int):Prop:=0≤j∧j≤1000000∧i.natAbs < 2 ^ 64
noncomputable def CMul (i j:Int):Prop:=(-(2 ^ 64) < i∧i < 2 ^ 64)∨(-(2 ^ 64) < j∧j < 2 ^ 64)
theorem CMul.ok {i j:Int} (h:CMul i j):IntMulOk i j:=by
 rcases h with ⟨h1,h2⟩ | ⟨h1,h2⟩
 ·exact .of_left (intBits_le_64 h1 h2)
 ·exact .of_right (intBits_le_64 h1 h2)
theorem cH:OpR X (binaryOp .Add) (rI0 fun i j=>.int (i+j)):=opI0 fun _ _ _ _ _ _ _ q=>add_int q
theorem op_sub:OpR X (binaryOp .Sub) (rI0 fun i j=>.int (i - j)):=opI0 fun _ _ _ _ _ _ _ q=>sub_int q
theorem op_mul:OpR X (binaryOp .Mult) (rI CMul fun i j=>.int (i * j)):=opI fun _ _ _ _ _ _ _ hc q=>mul_int q hc.ok
theorem op_fdiv:OpR X (binaryOp .FloorDiv) (rI CDiv fun i j=>.int (i / j)):=opI fun i j _ _ _ _ _ hc q=>by
 have h1:(0:Int) < j:=hc.1
 have h2:j < 1073741824:=hc.2
 exact floordiv_int (by omega) (by rw[Int.fdiv_eq_ediv_of_nonneg i (by omega)];exact q) (.inl (PyProof.noPylong_small (by omega)))
theorem op_mod:OpR X (binaryOp .Mod) (rI (fun _ j=>0 < j) fun i j=>.int (i % j)):=opI fun i j _ _ _ _ _ hc q=>by
 have h1:(0:Int) < j:=hc
 exact mod_int' (by omega) (by rw[Int.fmod_eq_emod_of_nonneg i (by omega)];exact q)
theorem op_pow:OpR X (binaryOp .Pow) (rI CPow fun i j=>.int (i ^ j.toNat)):=opI fun _ _ _ _ _ _ _ hc q=>pow_int_small hc.1 hc.2.1 hc.2.2 q
theorem unI {f:Value→Sem Value}{g:Int→Int}
  (rule:∀ (i:Int) (t:Tok) (s:Shared) (Q:Value→Shared→Prop) (E:Value→Shared→Prop),Q (.int (g i) s.toks) { s with toks:=s.toks+1 }→wpAny (model X.prog X.w) X.A (f (.int i t)) Q E s) :
  UnR X f (rU fun i=>.int (g i)):=by
 intro pins s σ H x v Q I rx h
 obtain⟨i,rfl,q⟩:=h
 obtain⟨t,rfl⟩:=rx
 exact rule i t s _ _ ⟨.int (g i),H,I.tok _,⟨_,rfl⟩,q⟩
theorem un_neg:UnR X (unaryOp .USub) (rU fun i=>.int (-i)):=unI fun _ _ _ _ _ q=>neg_int q
end
noncomputable def scal:V→V→Bool
 | .non,.non=>true | .non,.int _=>true | .int _,.non=>true | .non,.bl _=>true | .bl _,.non=>true | .non,.str _=>true | .str _,.non=>true
 | .int _,.int _=>true | .bl _,.bl _=>true | .str _,.str _=>true | .byt _,.byt _=>true
 | .int _,.str _=>true | .str _,.int _=>true | .bl _,.str _=>true | .str _,.bl _=>true
 | _,_=>false
noncomputable def rEq:R2:=fun x y H Q=>scal x y=true∧Q (.bl (decide (x=y))) H
theorem dec_int {i j:Int}:decide (V.int i=V.int j)=(i == j):=by
 rw[Bool.eq_iff_iff]
 simp
theorem dec_bl {i j:Bool}:decide (V.bl i=V.bl j)=(i == j):=by
 rw[Bool.eq_iff_iff]
 simp
theorem dec_str {i j:Str}:decide (V.str i=V.str j)=(i == j):=by
 rw[Bool.eq_iff_iff]
 simp
theorem dec_byt {i j:Array UInt8}:decide (V.byt i=V.byt j)=(i.toList == j.toList):=by
 rw[Bool.eq_iff_iff]
 cases i
 cases j
 simp
section
variable {X:Cx}{a b c:Expr}{ta tb tc:TE}{pos:Pos}
theorem eG {pins:List (Addr×Obj)}{σ:St}{H:Hp}{s:Shared}{Q:VK}{k k':Bool} (I:Inv X pins σ H s) (q:Q (.bl k) H) (e:k=k'):EP X pins σ Q (.bool k') s:=by
 subst e
 exact⟨.bl k,H,I,rfl,q⟩
theorem op_eq:OpR X (compareOp .Eq) rEq:=by
 intro pins s σ H x y v u Q I rx ry h
 obtain⟨hs,q⟩:=h
 cases x with
 | non=>
  cases rx
  cases y with
  | non=>cases ry;exact PySem.EqNone.eq_none_none (eG I q (by simp))
  | bl j=>cases ry;exact PySem.EqNone.eq_none_bool (eG I q (by simp))
  | int j=>obtain⟨t',rfl⟩:=ry;exact PySem.EqNone.eq_none_int (eG I q (by simp))
  | str j=>obtain⟨t',rfl⟩:=ry;exact PySem.EqNone.eq_none_str (eG I q (by simp))
  | _=>exact absurd (show false=true from hs) Bool.false_ne_true
 | bl i=>
  cases rx
  cases y with
  | non=>cases ry;exact PySem.EqNone.eq_bool_none (eG I q (by simp))
  | bl j=>cases ry;exact eq_bool (eG I q dec_bl)
  | str j=>obtain⟨t',rfl⟩:=ry;exact PySem.EqMixed.eq_bool_str (eG I q (by simp))
  | _=>exact absurd (show false=true from hs) Bool.false_ne_true
 | int i=>
  obtain⟨t,rfl⟩:=rx
  cases y with
  | non=>cases ry;exact PySem.EqNone.eq_int_none (eG I q (by simp))
  | int j=>obtain⟨t',rfl⟩:=ry;exact eq_int (eG I q dec_int)
  | str j=>obtain⟨t',rfl⟩:=ry;exact PySem.EqMixed.eq_int_str (eG I q (by simp))
  | _=>exact absurd (show false=true from hs) Bool.false_ne_true
 | str i=>
  obtain⟨t,rfl⟩:=rx
  cases y with
  | non=>cases ry;exact PySem.EqNone.eq_str_none (eG I q (by simp))
  | bl j=>cases ry;exact PySem.EqMixed.eq_str_bool (eG I q (by simp))
  | int j=>obtain⟨t',rfl⟩:=ry;exact PySem.EqMixed.eq_str_int (eG I q (by simp))
  | str j=>obtain⟨t',rfl⟩:=ry;exact eq_str (eG I q dec_str)
  | _=>exact absurd (show false=true from hs) Bool.false_ne_true
 | byt i=>
  obtain⟨t,rfl⟩:=rx
  cases y with
  | byt j=>obtain⟨t',rfl⟩:=ry;exact PySem.W.eq_bytes (eG I q dec_byt)
  | _=>exact absurd (show false=true from hs) Bool.false_ne_true
 | _=>cases y <;> exact absurd (show false=true from hs) Bool.false_ne_true
theorem op_lt:OpR X (compareOp .Lt) (rI0 fun i j=>.bl (decide (i < j))):=opB0 fun _ _ _ _ _ _ _ q=>lt_int q
theorem op_le:OpR X (compareOp .LtE) (rI0 fun i j=>.bl (decide (i≤j))):=opB0 fun _ _ _ _ _ _ _ q=>le_int q
theorem op_gt:OpR X (compareOp .Gt) (rI0 fun i j=>.bl (decide (j < i))):=opB0 fun _ _ _ _ _ _ _ q=>gt_int q
theorem op_ge:OpR X (compareOp .GtE) (rI0 fun i j=>.bl (decide (j≤i))):=opB0 fun _ _ _ _ _ _ _ q=>ge_int q
theorem op_isN:OpR X (compareOp .Is) (fun x y H Q=>y=.non∧Q (.bl (decide (x=.non))) H):=by
 intro pins s σ H x y v u Q I rx ry h
 obtain⟨rfl,q⟩:=h
 cases ry
 refine is_none_gen (eG I q ?_)
 cases x <;> first
  | (cases rx;rfl)
  | (obtain⟨t,rfl⟩:=rx;rfl)
theorem cQ (b:Expr) {op:CmpOp} (h:op≠.In:=by decide) (h2:op≠.NotIn:=by decide):behindInMarks op b=false:=by
 have e1:(op == CmpOp.In)=false:=by cases op <;> first | rfl | exact absurd rfl h
 have e2:(op == CmpOp.NotIn)=false:=by cases op <;> first | rfl | exact absurd rfl h2
 cases b <;> simp [behindInMarks,e1,e2]
theorem pe_cmpR {op:CmpOp}{r:R2} (ho:OpR X (compareOp op) r) (ha:PE X a ta) (hb:PE X b tb) (hm:behindInMarks op b=false):PE X (.Compare a [op] [b] pos) (tOp r ta tb):=by
 intro pins s σ H Q I h
 exact wpAny_Compare1 (binT ha hb I h fun v u s2 x y H2 I2 rx ry q=>ho pins s2 σ H2 x y v u Q I2 rx ry q) hm
noncomputable def tTest (t:TE):TT:=fun σ H Q=>t σ H fun x H'=>∃ k,x=.bl k∧Q k H'
theorem cX {op:CmpOp}{r:R2} (ho:OpR X (compareOp op) r) (ha:PE X a ta) (hb:PE X b tb) (hm:behindInMarks op b=false):PT X (.Compare a [op] [b] pos) (tTest (tOp r ta tb)):=by
 intro pins s σ H Q I h
 refine wpAny_isTrue_Compare1 (cU (ha pins s σ H _ I h) fun v s1 ⟨x,H1,I1,r1,q1⟩=>cU (hb pins s1 σ H1 _ I1 q1) fun u s2 ⟨y,H2,I2,r2,q2⟩=>
  cU (ho pins s2 σ H2 x y v u _ I2 r1 r2 q2) fun c s3 ⟨z,H3,I3,r3,k,e,q3⟩=>?_) hm
 subst e
 cases r3
 exact wpAny_truthy_bool ⟨H3,I3,q3⟩
noncomputable def tChain (r r':R2) (ta tb tc:TE):TE:=fun σ H Q=>ta σ H fun x H1=>tb σ H1 fun y H2=>r x y H2 fun z H3=>∃ k,z=.bl k∧
 (if k=true then tc σ H3 fun w' H4=>r' y w' H4 Q else Q (.bl false) H3)
theorem pe_chain {op op':CmpOp}{r r':R2} (ho:OpR X (compareOp op) r) (ho':OpR X (compareOp op') r') (ha:PE X a ta) (hb:PE X b tb) (hc:PE X c tc)
  (hm:lastMarks [op,op'] [b,c]=false:=by with_unfolding_all rfl):PE X (.Compare a [op,op'] [b,c] pos) (tChain r r' ta tb tc):=by
 intro pins s σ H Q I h
 refine Compare_chain (cU (ha pins s σ H _ I h) fun v s1 ⟨x,H1,I1,r1,q1⟩=>chain_link (cU (hb pins s1 σ H1 _ I1 q1) fun u s2 ⟨y,H2,I2,r2,q2⟩=>
  cU (ho pins s2 σ H2 x y v u _ I2 r1 r2 q2) fun d s3 ⟨z,H3,I3,r3,k,e,q3⟩=>?_)) hm
 subst e
 cases r3
 refine wpAny_truthy_bool ?_
 cases k with
 | false=>exact ite_ff ⟨.bl false,H3,I3,rfl,q3⟩
 | true=>exact ite_tt (chain_last (cU (hc pins s3 σ H3 _ I3 q3) fun w' s4 ⟨z',H4,I4,r4,q4⟩=>ho' pins s4 σ H4 y z' u w' Q I4 r2 r4 q4))
theorem line63:(sizeLine:Nat) < 2 ^ 63:=by rw[sizeLine_eq];decide
theorem vals1 {x:V}{us:List Value} (r:bO [x] us):∃ u,us=[u]∧bK x u:=by
 cases r with
 | cons r1 r2=>cases r2;exact⟨_,rfl,r1⟩
theorem vals2 {x y:V}{us:List Value} (r:bO [x,y] us):∃ u w',us=[u,w']∧bK x u∧bK y w':=by
 cases r with
 | cons r1 r2=>
  cases r2 with
  | cons r3 r4=>cases r4;exact⟨_,_,rfl,r1,r3⟩
theorem call_max2 (hc:X.calm=true):CallR X (.builtin "max") (fun xs H Q=>∃ i j,xs=[.int i,.int j]∧Q (.int (if j > i then j else i)) H):=by
 intro pins s σ H xs us Q I r h
 obtain⟨i,j,rfl,q⟩:=h
 obtain⟨u,w',rfl,⟨t,rfl⟩,⟨t',rfl⟩⟩:=vals2 r
 refine max_two_ints (I.ok.hd hc) fun h' tk k=>⟨_,H,I.kept k,?_,q⟩
 by_cases hj:j > i
 ·rw[if_pos hj,if_pos hj];exact⟨_,rfl⟩
 ·rw[if_neg hj,if_neg hj];exact⟨_,rfl⟩
theorem call_min2 (hc:X.calm=true):CallR X (.builtin "min") (fun xs H Q=>∃ i j,xs=[.int i,.int j]∧Q (.int (if j < i then j else i)) H):=by
 intro pins s σ H xs us Q I r h
 obtain⟨i,j,rfl,q⟩:=h
 obtain⟨u,w',rfl,⟨t,rfl⟩,⟨t',rfl⟩⟩:=vals2 r
 refine min_two_ints (I.ok.hd hc) fun h' tk k=>⟨_,H,I.kept k,?_,q⟩
 by_cases hj:j < i
 ·rw[if_pos hj,if_pos hj];exact⟨_,rfl⟩
 ·rw[if_neg hj,if_neg hj];exact⟨_,rfl⟩
theorem call_int1:CallR X (.type "int") (fun xs H Q=>(∃ i,xs=[.int i]∧Q (.int i) H)∨∃ k,xs=[.bl k]∧Q (.int (if k then 1 else 0)) H):=by
 intro pins s σ H xs us Q I r h
 rcases h with ⟨i,rfl,q⟩ | ⟨k,rfl,q⟩
 ·obtain⟨u,rfl,t,rfl⟩:=vals1 r
  exact call_int_int ⟨.int i,H,I,⟨_,rfl⟩,q⟩
 ·obtain⟨u,rfl,r1⟩:=vals1 r
  cases r1
  exact call_int_bool ⟨.int (if k then 1 else 0),H,I.tok _,⟨_,rfl⟩,q⟩
end
end L2
namespace L2
open PySem PySem.Spec PyProof.Rows
structure ObjM (h:Heap) (x dx C:Addr) (mA:Str→Option Value):Prop where
 obj:h.get? x=some (PySem.W.instObj C dx)
 ns:h.Ns1 dx mA
 ne:dx≠x
theorem lookIn_ns {h:Heap}{dx:Addr}{mA:Str→Option Value} (n:h.Ns1 dx mA):∃ od,h.get? dx=some od∧∀ name,PySem.W.lookIn name od=some (mA name):=by
 obtain⟨o,es,ep,ho,hd,hk,_,hm⟩:=n
 refine⟨o,ho,fun name=>?_⟩
 have e:=hm name
 unfold nsFind findBy at e
 rw[← Array.find?_toList] at e
 unfold PySem.W.lookIn
 rw[hd]
 dsimp only
 split
 ·rename_i y q
  rw[q] at e
  exact congrArg some e
 ·rename_i q
  rw[q] at e
  have a:es.toList.any (·.refKey)=false:=by
   rw[List.any_eq_false]
   intro y hy
   obtain⟨z,t,hkey⟩:=hk y (Array.mem_toList_iff.mp hy)
   simp [DictEntry.refKey,hkey]
  have a':¬ es.toList.any (·.refKey)=true:=by rw[a];exact Bool.false_ne_true
  rw[if_neg a']
  exact congrArg some e
theorem ObjM.look {h:Heap}{x dx C:Addr}{mA:Str→Option Value} (I:ObjM h x dx C mA):∃ od,PySem.W.InstAt h x (PySem.W.instObj C dx) C (some od)∧∀ name,PySem.W.lookIn name od=some (mA name):=
 let ⟨od,ho,hl⟩:=lookIn_ns I.ns
 ⟨od,⟨I.obj,rfl,rfl,ho⟩,hl⟩
section
variable {prog:Program}{w:World}{A:Around}{E:Value→Shared→Prop}{s:Shared}{K:PySem.W.Frag}{x dx C f:Addr}{mA:Str→Option Value}{name:Str}{v:Value}
theorem get_map {expr:Bool}{Q:Value→Shared→Prop} (X:K.In s.heap) (I:ObjM s.heap x dx C mA) (hg:PySem.W.plainGet K C name=true) (hh:PySem.W.hasDictIn K C=true)
  (ha:PySem.W.findIn K (.ref C) name=some none) (hv:mA name=some v) (hv':PySem.W.handedIn v=true) (h:Q v { s with toks:=s.toks+1 }) :
  wpAny (model prog w) A (getAttr (.ref x) name expr) Q E s:=by
 obtain⟨od,J,hl⟩:=I.look
 exact PySem.W.get_value X J (PySem.W.plainGet_of hg).1 (PySem.W.findObj_own hh ha rfl (by rw[hl,hv])) hv' h
theorem get_meth {pl:Sem Bool}{Q:Value×List Value→Shared→Prop} (X:K.In s.heap) (I:ObjM s.heap x dx C mA) (hg:PySem.W.plainGet K C name=true)
  (hf:PySem.W.findIn K (.ref C) name=some (some (.ref f))) (ht:PySem.W.isFn K (.ref f)=true) (hv:mA name=none) (h:Q (.ref f,[.ref x]) s) :
  wpAny (model prog w) A (getMethod (.ref x) name pl) Q E s:=by
 obtain⟨od,J,hl⟩:=I.look
 exact PySem.W.method_fn X J (PySem.W.plainGet_of hg).1 (PySem.W.plainGet_of hg).2 hf (beq_iff_eq.mp ht) (by show (PySem.W.lookIn name od).map (·.isSome)=some false;rw[hl,hv];rfl) h
theorem set_map {ns:List Str}{Q:Unit→Shared→Prop} (X:K.In s.heap) (I:ObjM s.heap x dx C mA)
  (hs:PySem.W.findIn K (.ref C) "__setattr__" = some (some (.builtin "object.__setattr__"))) (hp:PySem.W.plainOver K C=true) (ht:PySem.W.takerIn K C name=some none) (hh:PySem.W.hasDictIn K C=true)
  (hw:PySem.Within mA ns) (hsz:ns.length≤sizeLine)
  (h:∀ h',ObjM h' x dx C (fun y=>if y=name then some v else mA y)→Heap.SameBut dx s.heap h'→Q () { s with heap:=h',toks:=s.toks+2 }) :
  wpAny (model prog w) A (setAttr (.ref x) name v) Q E s:=by
 obtain⟨od,J,hl⟩:=I.look
 refine PySem.W.set_plain X J hs (PySem.W.osa_open (s:={ s with toks:=s.toks+1 }) (r:=none) X J hp ht fun b=>?_)
 obtain⟨cd,hc,hd'⟩:=PySem.W.any_some hh
 have hx:s.heap.get? x=some ⟨.ref C,some dx,.plain,#[]⟩:=I.obj
 refine wpAny_bind (wpAny_pure (wpAny_bind (wpAny_bind (wpAny_loadPart hx (wpAny_bind (PySem.W.Looks.here (s:={ s with toks:=s.toks+1 }) (PySem.W.looks_clsIn X hc) ?_))))))
 rw[hd']
 refine wpAny_pure (a:=some dx) (wpAny_bind (wpAny_pure (wpAny_bind ?_)))
 refine wpAny_nsSet1 (s:={ s with toks:=s.toks+1 }) I.ns fun h' hn2 hs2=>?_
 obtain⟨oD,esD,epD,hoD,hdD,hcD⟩:=hn2.count (PySem.Within.cons name v hw)
 refine wpAny_bind (wpAny_lookBehind hoD (by rw[hdD];exact pastItsLine_dict (Nat.le_trans hcD (by rw[List.length_cons];omega))) ?_)
 exact wpAny_pure (h _ ⟨(hs2.2 _ (Ne.symm I.ne)).trans I.obj,hn2,I.ne⟩ hs2)
theorem make_map {R:Result→Shared→Prop}{vs:List Value}{kw:List (Str×Value)} (X:K.In s.heap) (hm:PySem.W.makesIn K C=true)
  (hi:PySem.W.findIn K (.ref C) "__init__" = some (some (.ref f))) (hf:PySem.W.typeIn K (.ref f)=some (.type "function"))
  (h:codeAny (model prog w) (A.under (.builtin "type.__call__" ⟨.ref C::vs,kw⟩)) (.call (.ref f) ⟨.ref (s.heap.objs.size+1)::vs,kw⟩) (PySem.W.InitBack (s.heap.objs.size+1) R)
   { s with heap:=(s.heap.push PySem.W.emptyDict).push (PySem.W.instObj C s.heap.objs.size) }) :
  codeAny (model prog w) A (.call (.ref C) ⟨vs,kw⟩) R s:=by
 obtain⟨hh,g,d,t,os⟩:=s
 exact PySem.W.make_core (PySem.W.makes_of X hm) (PySem.W.looks_findIn X hi) (fun self=>PySem.W.bind_fn X self hf) (.inl rfl) h
end
noncomputable def cJ (f:Str) (v:V):List (Str×V)→List (Str×V)
 | []=>[(f,v)]
 | (g,x)::r=>if g=f then (g,v)::r else (g,x)::cJ f v r
theorem lookup_putF (f g:Str) (v:V):∀ fs:List (Str×V),(cJ f v fs).lookup g=if g=f then some v else fs.lookup g
 | []=>by
  show List.lookup g [(f,v)]=_
  by_cases h:g=f
  ·have hb:(g == f)=true:=beq_iff_eq.mpr h
   simp only [List.lookup,hb,if_pos h]
  ·have hb:(g == f)=false:=beq_eq_false_iff_ne.mpr h
   simp only [List.lookup,hb,if_neg h]
 | (k,x)::r=>by
  have ih:=lookup_putF f g v r
  rw[show cJ f v ((k,x)::r)=(if k=f then (k,v)::r else (k,x)::cJ f v r) from rfl]
  by_cases hk:k=f
  ·rw[if_pos hk]
   by_cases h:g=k
   ·have hb:(g == k)=true:=beq_iff_eq.mpr h
    simp only [List.lookup,hb,if_pos (h.trans hk)]
   ·have hb:(g == k)=false:=beq_eq_false_iff_ne.mpr h
    simp only [List.lookup,hb,if_neg (fun e:g=f=>h (e.trans hk.symm))]
  ·rw[if_neg hk]
   by_cases h:g=k
   ·have hb:(g == k)=true:=beq_iff_eq.mpr h
    simp only [List.lookup,hb,if_neg (fun e:g=f=>hk (h.symm.trans e))]
   ·have hb:(g == k)=false:=beq_eq_false_iff_ne.mpr h
    simp only [List.lookup,hb]
    exact ih
theorem keys_putF (f:Str) (v:V):∀ fs:List (Str×V),f∈(cJ f v fs).map (·.1)∧∀ g,g∈fs.map (·.1)→g∈(cJ f v fs).map (·.1)
 | []=>⟨by simp [cJ],fun g h=>by simp at h⟩
 | (k,x)::r=>by
  obtain⟨i1,i2⟩:=keys_putF f v r
  rw[show cJ f v ((k,x)::r)=(if k=f then (k,v)::r else (k,x)::cJ f v r) from rfl]
  by_cases hk:k=f
  ·rw[if_pos hk]
   subst hk
   exact⟨by simp,fun g h=>by simpa using h⟩
  ·rw[if_neg hk]
   refine⟨?_,fun g h=>?_⟩
   ·rw[List.map_cons]
    exact List.mem_cons_of_mem _ i1
   ·rw[List.map_cons] at h ⊢
    rcases List.mem_cons.mp h with e | e
    ·exact List.mem_cons.mpr (.inl e)
    ·exact List.mem_cons_of_mem _ (i2 g e)
theorem length_putF (f:Str) (v:V):∀ fs:List (Str×V),(cJ f v fs).length≤fs.length+1
 | []=>by simp [cJ]
 | (k,x)::r=>by
  have ih:=length_putF f v r
  rw[show cJ f v ((k,x)::r)=(if k=f then (k,v)::r else (k,x)::cJ f v r) from rfl]
  by_cases hk:k=f
  ·rw[if_pos hk,List.length_cons,List.length_cons];omega
  ·rw[if_neg hk,List.length_cons,List.length_cons];omega
theorem RelO.some_of {v:V}{o:Option Value} (r:RelO (some v) o):∃ u,o=some u∧bK v u:=by
 cases o with
 | none=>exact (show False from r).elim
 | some u=>exact⟨u,rfl,r⟩
theorem RelO.none_of {o:Option Value} (r:RelO none o):o=none:=by
 cases o with
 | none=>rfl
 | some u=>exact (show False from r).elim
theorem handed_of {v:V}{u:Value} (r:bK v u):PySem.W.handedIn u=true:=by
 cases v with
 | non=>cases (show u=Value.none from r);rfl
 | bl b=>cases (show u=Value.bool b from r);rfl
 | int i=>obtain⟨t,e⟩:=(show ∃ t,u=Value.int i t from r);cases e;rfl
 | str x=>obtain⟨t,e⟩:=(show ∃ t,u=Value.str x t from r);cases e;rfl
 | byt b=>obtain⟨t,e⟩:=(show ∃ t,u=Value.bytes b t from r);cases e;rfl
 | flt b=>obtain⟨t,e⟩:=(show ∃ t,u=Value.float b t from r);cases e;rfl
 | ref a=>cases (show u=Value.ref a from r);rfl
 | ty n=>cases (show u=Value.type n from r);rfl
section
variable {P:Program}{w:World}{H H':Hp}{h h':Heap}{a C dx:Addr}{fs fs':List (Str×V)}
theorem ins_get (hok:HOk P w H h) (e:H a=some (.ins C dx fs)):∃ mA,ObjM h a dx C mA∧(∀ f,RelO (fs.lookup f) (mA f))∧PySem.Within mA (fs.map (·.1))∧fs.length≤1000∧H dx=some (.own a):=by
 obtain⟨d,z,ne,ob,mA,n,r,q⟩:=(show dD P w H h a (.ins C dx fs) from hok a _ e)
 exact⟨mA,⟨ob,n,ne⟩,r,q,z,d⟩
end
structure Cls (K:PySem.W.Frag) (C:Addr):Prop where
 pg:PySem.W.plainGet K C Str.empty=true
 hd:PySem.W.hasDictIn K C=true
 po:PySem.W.plainOver K C=true
 sa:PySem.W.findIn K (.ref C) "__setattr__" = some (some (.builtin "object.__setattr__"))
theorem Cls.get {K:PySem.W.Frag}{C:Addr} (c:Cls K C) (f:Str):PySem.W.plainGet K C f=true:=c.pg
noncomputable def NoAttr (K:PySem.W.Frag) (C:Addr) (f:Str):Prop:=PySem.W.findIn K (.ref C) f=some none
theorem NoAttr.taker {K:PySem.W.Frag}{C:Addr}{f:Str} (n:NoAttr K C f):PySem.W.takerIn K C f=some none:=by
 unfold PySem.W.takerIn
 rw[show PySem.W.findIn K (.ref C) f=some none from n]
 rfl
structure Meth (K:PySem.W.Frag) (C:Addr) (m:Str) (f:Addr):Prop where
 at_:PySem.W.findIn K (.ref C) m=some (some (.ref f))
 fn:PySem.W.isFn K (.ref f)=true
 kp:PySem.W.keepIn K (.ref f)=true
section
variable {X:Cx}{pins:List (Addr×Obj)}{σ:St}{H:Hp}{s:Shared}{a C dx:Addr}{fs:List (Str×V)}{f:Str}{v:V}{A:Around}{E:Value→Shared→Prop}
theorem getattr_ok {b:Bool}{Q:Value→Shared→Prop} (I:Inv X pins σ H s) (e:H a=some (.ins C dx fs)) (c:Cls X.K C) (n:NoAttr X.K C f) (l:fs.lookup f=some v)
  (h:∀ u s',Inv X pins σ H s'→bK v u→Q u s'):wpAny (model X.prog X.w) A (getAttr (.ref a) f b) Q E s:=by
 obtain⟨mA,O,r,_,_,_⟩:=ins_get I.hok e
 obtain⟨u,hu,ru⟩:=RelO.some_of (v:=v) (o:=mA f) (by rw[← l];exact r f)
 exact get_map I.kIn O (c.get f) c.hd n hu (handed_of ru) (h u _ (I.tok _) ru)
theorem getmeth_ok {m:Str}{g:Addr}{pl:Sem Bool}{Q:Value×List Value→Shared→Prop} (I:Inv X pins σ H s) (e:H a=some (.ins C dx fs)) (c:Cls X.K C) (k:Meth X.K C m g) (l:fs.lookup m=none)
  (h:Q (.ref g,[.ref a]) s):wpAny (model X.prog X.w) A (getMethod (.ref a) m pl) Q E s:=by
 obtain⟨mA,O,r,_,_,_⟩:=ins_get I.hok e
 have hn:mA m=none:=RelO.none_of (by rw[← l];exact r m)
 exact get_meth I.kIn O (c.get m) k.at_ k.fn hn h
theorem setattr_ok {y:V}{u:Value}{Q:Unit→Shared→Prop} (I:Inv X pins σ H s) (e:H a=some (.ins C dx fs)) (c:Cls X.K C) (n:NoAttr X.K C f) (hl:fs.length < 1000) (ry:bK y u)
  (h:∀ s',Inv X pins σ (upd H a (.ins C dx (cJ f y fs))) s'→Q () s'):wpAny (model X.prog X.w) A (setAttr (.ref a) f u) Q E s:=by
 obtain⟨mA,O,r,wi,_,ho⟩:=ins_get I.hok e
 have hz:(fs.map (·.1)).length≤sizeLine:=by rw[List.length_map,sizeLine_eq];omega
 refine set_map I.kIn O c.sa c.po n.taker c.hd wi hz fun h' O' sb=>h _ ?_
 have hd:∃ o,h'.get? dx=some o:=let ⟨o,_,_,e',_⟩:=O'.ns;⟨o,e'⟩
 refine I.write (x:=a) (e:=dx) (by rw[e];exact True.intro) (.inr ho) (fun b q hb z=>(sb.2 b hb).trans z) hd ?_
 refine⟨by rw[aN O.ne];exact ho,?_,O.ne,O'.obj,_,O'.ns,fun g=>?_,fun g hg=>?_⟩
 ·have:=length_putF f y fs;omega
 ·show RelO ((cJ f y fs).lookup g) (if g=f then some u else mA g)
  rw[lookup_putF]
  by_cases q:g=f
  ·rw[if_pos q,if_pos q];exact ry
  ·rw[if_neg q,if_neg q];exact r g
 ·by_cases q:g=f
  ·rw[q];exact (keys_putF f y fs).1
  ·refine (keys_putF f y fs).2 g (wi g fun z=>hg ?_)
   show (if g=f then some u else mA g)=none
   rw[if_neg q];exact z
theorem Inv.made (I:Inv X pins σ H s):Inv X pins σ (upd (upd H s.heap.objs.size (.own (s.heap.objs.size+1))) (s.heap.objs.size+1) (.ins C s.heap.objs.size []))
  { s with heap:=(s.heap.push PySem.W.emptyDict).push (PySem.W.instObj C s.heap.objs.size) }:=by
 have e1:(s.heap.push PySem.W.emptyDict).get? s.heap.objs.size=some PySem.W.emptyDict:=Heap.get?_push_size s.heap rfl
 have e2:((s.heap.push PySem.W.emptyDict).push (PySem.W.instObj C s.heap.objs.size)).get? (s.heap.objs.size+1)=some (PySem.W.instObj C s.heap.objs.size):=by
  have:=Heap.get?_push_size (s.heap.push PySem.W.emptyDict) (o:=PySem.W.instObj C s.heap.objs.size) rfl
  rwa [Heap.size_push] at this
 have e3:(s.heap.push PySem.W.emptyDict).Ns s.heap.objs.size (fun _=>none):=⟨PySem.W.emptyDict,#[],_,e1,rfl,(fun e he=>absurd he (by simp)),fun _=>rfl⟩
 have I1:=I.laid (a:=s.heap.objs.size) (o:=.own (s.heap.objs.size+1)) (h':=s.heap.push PySem.W.emptyDict) (t':=s.toks) (fun b u q=>Heap.get?_push_of_some _ q) (Nat.le_refl _) ⟨_,e1⟩
 refine I1.laid (a:=s.heap.objs.size+1) (o:=.ins C s.heap.objs.size []) (t':=s.toks) (fun b u q=>Heap.get?_push_of_some _ q) (Nat.le_of_eq (Heap.size_push _ _)) ?_
 have ne:s.heap.objs.size≠s.heap.objs.size+1:=Nat.ne_of_lt (Nat.lt_succ_self _)
 refine⟨by rw[aN ne,aD],Nat.zero_le _,ne,e2,fun _=>none,(Heap.Ns1.of_empty e3).at fun o q=>Heap.get?_push_of_some _ q,fun _=>True.intro,fun y hy=>absurd rfl hy⟩
theorem attr_of {prog:Program}{w:World}{env:Env}{e:Expr}{f:Str}{pos:Pos}{s:Shared}{Q:Value→Shared→Prop} (hb:attributeBase e f env (eval e env)=eval e env)
  (h:wpAny (model prog w) A (eval e env) (fun o s₁=>wpAny (model prog w) A (getAttr o f true) Q E s₁) E s):wpAny (model prog w) A (eval (.Attribute e f pos) env) Q E s:=
 Attribute_any_ h (by rw[arm_eval_Attribute,hb])
end
noncomputable def tFld (K:PySem.W.Frag) (ta:TE) (f:Str):TE:=fun σ H Q=>ta σ H fun x H1=>∃ a C dx fs v,x=.ref a∧H1 a=some (.ins C dx fs)∧Cls K C∧NoAttr K C f∧fs.lookup f=some v∧Q v H1
noncomputable def sFld (K:PySem.W.Frag) (ta tv:TE) (f:Str):TS:=fun D σ H=>tv σ H fun y H1=>ta σ H1 fun x H2=>∃ a C dx fs,x=.ref a∧H2 a=some (.ins C dx fs)∧Cls K C∧NoAttr K C f∧fs.length < 1000∧
 D.nx σ (upd H2 a (.ins C dx (cJ f y fs)))
section
variable {X:Cx}{o e value:Expr}{f:Str}{pos pos' tpos:Pos}{ta tv:TE}
theorem pe_fld (he:PE X e ta) (hb:attributeBase e f X.env (eval e X.env)=eval e X.env):PE X (.Attribute e f pos) (tFld X.K ta f):=by
 intro pins s σ H Q I h
 refine attr_of hb (cU (he pins s σ H _ I h) fun u s1 ⟨x,H1,I1,rx,a,C,dx,fs,v,ex,ea,c,n,l,q⟩=>?_)
 subst ex
 obtain rfl:u=Value.ref a:=rx
 exact getattr_ok I1 ea c n l fun u' s2 I2 ru=>⟨v,H1,I2,ru,q⟩
theorem ps_fld (ha:PE X o ta) (hv:PE X value tv) (hs:swapsWith value (some (.Attribute o f pos')) pos.line X.env=pure false):PS X (.Assign [.Attribute o f pos'] value pos) (sFld X.K ta tv f):=by
 intro pins s σ H D I h
 refine plainObj_wpAny_Assign_Attribute (cU (hv pins s σ H _ I h) fun u s1 ⟨y,H1,I1,ry,q⟩=>cU (ha pins s1 σ H1 _ I1 q) fun ov s2 ⟨x,H2,I2,rx,a,C,dx,fs,ex,ea,c,n,l,q2⟩=>?_) hs
 subst ex
 obtain rfl:ov=Value.ref a:=rx
 exact setattr_ok I2 ea c n l ry fun s3 I3=>⟨σ,_,I3,q2⟩
end
section
variable {X:Cx}{pins:List (Addr×Obj)}{σ:St}{H:Hp}{s:Shared}{A:Around}{E:Value→Shared→Prop}{Q:Value→Shared→Prop}{c:Value}{b:Bool}
inductive TyOf (K:PySem.W.Frag) (H:Hp):V→Value→Prop where
 | non:TyOf K H .non (.type "NoneType")
 | bl (x:Bool):TyOf K H (.bl x) (.type "bool")
 | int (i:Int):TyOf K H (.int i) (.type "int")
 | str (x:Str):TyOf K H (.str x) (.type "str")
 | flt (x:UInt64):TyOf K H (.flt x) (.type "float")
 | lst {a:Addr}{xs:List V} (e:H a=some (.lst xs)):TyOf K H (.ref a) (.type "list")
 | frz {a:Addr}{o:Obj}{xs:List V} (e:H a=some (.frz o (.lst xs))):TyOf K H (.ref a) (.type "list")
 | tup {a:Addr}{xs:List V} (e:H a=some (.tup xs)):TyOf K H (.ref a) (.type "tuple")
 | dK {a:Addr}{kvs:List (eF×V)} (e:H a=some (.dK kvs)):TyOf K H (.ref a) (.type "dict")
 | dT {a:Addr}{kvs:List (List eF×V)} (e:H a=some (.dT kvs)):TyOf K H (.ref a) (.type "dict")
 | ins {a C dx:Addr}{fs:List (Str×V)} (e:H a=some (.ins C dx fs)) (cl:Cls K C) (ha:PySem.W.findIn K (.ref C) "__class__" = some (some (.builtin "object.__class__")))
   (hn:PySem.W.specialIn K (.builtin "object.__class__") "__get__" = some (some (.builtin "getset_descriptor.__get__"))) (htk:PySem.W.takesIn K (.builtin "object.__class__")=some true)
   (hm:PySem.W.mroIn K C (.type "object")=some true):TyOf K H (.ref a) (.ref C)
theorem isinst_ok {x:V}{u t:Value} (I:Inv X pins σ H s) (rx:bK x u) (ty:TyOf X.K H x t) (e:PySem.W.kitOne X.K t c=some b) (h:∀ tk,Q (.bool b) { s with toks:=tk }) :
  wpAny (model X.prog X.w) A (call (.builtin "isinstance") [u,c]) Q E s:=by
 cases ty with
 | non=>cases (show u=Value.none from rx);exact PySem.W.kia_one PySem.W.kitx_none I.kIn True.intro e (fun z=>nomatch z) h
 | bl y=>cases (show u=Value.bool y from rx);exact PySem.W.kia_one PySem.W.kitx_bool I.kIn True.intro e (fun z=>nomatch z) h
 | int i=>obtain⟨t,q⟩:=(show ∃ t,u=Value.int i t from rx);cases q;exact PySem.W.kia_one PySem.W.kitx_int I.kIn True.intro e (fun z=>nomatch z) h
 | str y=>obtain⟨t,q⟩:=(show ∃ t,u=Value.str y t from rx);cases q;exact PySem.W.kia_one PySem.W.kitx_str I.kIn True.intro e (fun z=>nomatch z) h
 | flt y=>obtain⟨t,q⟩:=(show ∃ t,u=Value.float y t from rx);cases q;exact PySem.W.kia_one PySem.W.kitx_float I.kIn True.intro e (fun z=>nomatch z) h
 | @lst a xs ea=>
  cases (show u=Value.ref a from rx)
  obtain⟨_,_,n,_,h1⟩:=(show dD X.prog X.w H s.heap a (.lst xs) from I.hok a _ ea)
  exact PySem.W.kia_one PySem.W.kitx_list I.kIn ⟨_,h1,rfl⟩ e (fun z=>nomatch z) h
 | @frz a ob xs ea=>
  cases (show u=Value.ref a from rx)
  obtain⟨_,_,_,n,_,h1⟩:=(show dD X.prog X.w H s.heap a (.frz ob (.lst xs)) from I.hok a _ ea)
  exact PySem.W.kia_one PySem.W.kitx_list I.kIn ⟨_,h1,rfl⟩ e (fun z=>nomatch z) h
 | @tup a xs ea=>
  cases (show u=Value.ref a from rx)
  obtain⟨_,_,_,p⟩:=(show dD X.prog X.w H s.heap a (.tup xs) from I.hok a _ ea)
  obtain⟨o,h1,h2,_⟩:=p
  exact PySem.W.kia_one PySem.W.kitx_tuple I.kIn ⟨o,h1,h2⟩ e (fun z=>nomatch z) h
 | @dK a kvs ea=>
  cases (show u=Value.ref a from rx)
  obtain⟨_,_,vs,_,p⟩:=(show dD X.prog X.w H s.heap a (.dK kvs) from I.hok a _ ea)
  obtain⟨o,es,ep,h1,h2,_⟩:=p
  exact PySem.W.kia_one PySem.W.kitx_dict I.kIn ⟨o,h1,h2.1⟩ e (fun z=>nomatch z) h
 | @dT a kvs ea=>
  cases (show u=Value.ref a from rx)
  obtain⟨_,_,xs,_,o,es,ep,h1,h2,_⟩:=(show dD X.prog X.w H s.heap a (.dT kvs) from I.hok a _ ea)
  exact PySem.W.kia_one PySem.W.kitx_dict I.kIn ⟨o,h1,h2.1⟩ e (fun z=>nomatch z) h
 | @ins a C dx fs ea cl ha hn htk hm=>
  cases (show u=Value.ref a from rx)
  obtain⟨mA,O,_⟩:=ins_get I.hok ea
  obtain⟨od,J,_⟩:=O.look
  exact PySem.W.kia_one (PySem.W.kitx_own (cl.get _) cl.hd ha hn htk hm) I.kIn J e (fun z=>nomatch z) h
end
end L2
namespace L2
open PySem PySem.Spec PyProof.Rows
structure Room (k:Nat) (A:Around):Prop where
 hd:A.handled=none
 dp:A.depth+3 * k+5 < recursionLimit
 un:A.units+16 * k+200 < cLine
theorem Room.mono {j k:Nat}{A:Around} (r:Room k A) (h:j≤k):Room j A:=⟨r.hd,by have:=r.dp;omega,by have:=r.un;omega⟩
theorem Room.deeper {k:Nat}{A:Around} (r:Room (k+1) A) (env:Env):Room k (A.deeper env):=
 ⟨r.hd,by have:=r.dp;show A.depth+1+3 * k+5 < _;omega,by have:=r.un;show A.units+3+16 * k+200 < _;omega⟩
theorem make_depth {A:Around}{C:Addr}{us:List Value}{kw:List (Str×Value)}:(A.under (.builtin "type.__call__" ⟨.ref C::us,kw⟩)).depth=A.depth+1:=by
 first | rfl | simp [Around.under,Code.weight,Code.isCreation,Code.isGuard,Code.isCaller,Code.frames,Code.isFrame,guardIds]
theorem make_units {A:Around}{C:Addr}{us:List Value}{kw:List (Str×Value)}:(A.under (.builtin "type.__call__" ⟨.ref C::us,kw⟩)).units=A.units+1:=by
 first | rfl | simp [Around.under,Code.cUnits,Code.frames,Code.isFrame]
theorem Room.make {k:Nat}{A:Around} (r:Room (k+1) A) (C:Addr) (us:List Value) (kw:List (Str×Value)):Room k (A.under (.builtin "type.__call__" ⟨.ref C::us,kw⟩)):=
 ⟨r.hd,by have:=r.dp;rw[make_depth];omega,by have:=r.un;rw[make_units];omega⟩
theorem Room.depth {k:Nat}{A:Around} (r:Room k A):A.depth < recursionLimit:=by have:=r.dp;omega
theorem Room.units {k:Nat}{A:Around} (r:Room k A):A.units+64 < cLine:=by have:=r.un;omega
noncomputable def tNil:TA:=fun _ H Q=>Q [] H
noncomputable def dS (ta:TE) (tr:TA):TA:=fun σ H Q=>ta σ H fun x H1=>tr σ H1 fun xs H2=>Q (x::xs) H2
section
variable {X:Cx}{e:Expr}{es:List Expr}{te:TE}{t:TA}{pos:Pos}
theorem aB:PA X [] tNil:=fun _ _ _ _ H Q I h=>Calls.spliced_nil ⟨[],H,I,.nil,h⟩
theorem aA (ha:PE X e te) (hr:PA X es t) (hs:starEach (e::es) X.env=(false,eval e X.env)::starEach es X.env:=by rfl):PA X (e::es) (dS te t):=by
 intro pos pins s σ H Q I h
 rw[hs]
 show wpAny _ _ (spliced ((false,eval e X.env)::backTo pos (starEach es X.env))) _ _ s
 refine Calls.spliced_cons (cU (ha pins s σ H _ I h) fun u s1 ⟨x,H1,I1,r1,q1⟩=>?_)
 exact cU (hr pos pins s1 σ H1 _ I1 q1) fun us s2 ⟨xs,H2,I2,r2,q2⟩=>⟨x::xs,H2,I2,.cons r1 r2,q2⟩
noncomputable def tTup (t:TA):TE:=fun σ H Q=>t σ H fun xs H1=>xs.length≤sizeLine∧∀ p,H1 p=none→Q (.ref p) (upd H1 p (.tup xs))
noncomputable def tLst (t:TA):TE:=fun σ H Q=>t σ H fun xs H1=>xs.length≤sizeLine∧∀ p,H1 p=none→Q (.ref p) (upd H1 p (.lst xs))
theorem bT {x1} (h:PA X es t):PE X (.Tuple es x1 pos) (tTup t):=by
 intro pins s σ H Q I hq
 refine wpAny_Tuple_spliced (cU (h pos pins s σ H _ I hq) fun us s1 ⟨xs,H1,I1,r,z,q⟩=>⟨by rw[← r.length];exact z,?_⟩)
 have hf:H1 s1.heap.objs.size=none:=I1.hok.fresh (Nat.le_refl _)
 refine⟨.ref s1.heap.objs.size,upd H1 s1.heap.objs.size (.tup xs),I1.laid (t':=s1.toks) (fun b u e=>Heap.get?_push_of_some _ e) (Nat.le_refl _) ?_,rfl,q _ hf⟩
 exact⟨z,us,r,⟨_,Heap.get?_push_size _ rfl,rfl,_,rfl⟩⟩
theorem cG (h:PA X es t):PE X (.List es pos) (tLst t):=by
 intro pins s σ H Q I hq
 refine wpAny_List_spliced (cU (h pos pins s σ H _ I hq) fun us s1 ⟨xs,H1,I1,r,z,q⟩=>⟨by rw[← r.length];exact z,?_⟩)
 have hf:H1 s1.heap.objs.size=none:=I1.hok.fresh (Nat.le_refl _)
 refine⟨.ref s1.heap.objs.size,upd H1 s1.heap.objs.size (.lst xs),I1.laid (t':=s1.toks) (fun b u e=>Heap.get?_push_of_some _ e) (Nat.le_refl _) ?_,rfl,q _ hf⟩
 exact⟨z,us,0,r,Heap.get?_push_size _ rfl⟩
end
noncomputable abbrev Sp:=List V→Hp→VK→XK→Prop
noncomputable abbrev CXT:=List Env→Hp→Shared→XK→Value→Shared→Prop
structure Env0 (P:Program) (w:World) (K:PySem.W.Frag) (mg:Str→Option Value) (base:Heap) (A:Around) (outer:List Env) (s:Shared) (H:Hp):Prop where
 frames:A.frames=some outer
 mod:Mod K mg base
 bs:∀ b o,base.get? b=some o→s.heap.get? b=some o∧H b=none
 bsz:base.objs.size≤s.heap.objs.size
 funs:s.heap.FunFrames base outer
 frf:∀ b∈frs outer,H b=none
 hok:HOk P w H s.heap
 bare:AllBare s.gens
noncomputable def CE (outer:List Env) (P:Program) (w:World) (H:Hp) (s:Shared) (Q:VK) (u:Value) (s':Shared):Prop:=
 ∃ v H',s'.os=s.os∧AllBare s'.gens∧Un (frs outer) [] H H' s.heap s'.heap∧HOk P w H' s'.heap∧bK v u∧Q v H'
noncomputable def CR (CX:CXT) (outer:List Env) (P:Program) (w:World) (H:Hp) (s:Shared) (Q:VK) (E:XK) (r:Result) (s':Shared):Prop:=
 match r with
 | .ok (.ret u)=>CE outer P w H s Q u s'
 | .ok _=>False
 | .error e=>CX outer H s E e s'
structure FnOk (P:Program) (w:World) (K:PySem.W.Frag) (mg:Str→Option Value) (base:Heap) (CX:CXT) (k:Nat) (f:Addr) (fd:FuncData) (ps:List Str) (sp:Sp):Prop where
 len:∀ vs H Q E,sp vs H Q E→vs.length=ps.length
 run:∀ (A:Around) (outer:List Env) (s:Shared) (H:Hp) (args:Args) (us:List Value) (vs:List V) (Q:VK) (E:XK),Room k A→Env0 P w K mg base A outer s H→BindsTo s fd args (ps.zip us)→bO vs us→sp vs H Q E→
  codeAny (model P w) A (.call (.ref f) args) (CR CX outer P w H s Q E) s
theorem FnOk.imp {P:Program}{w:World}{K:PySem.W.Frag}{mg:Str→Option Value}{base:Heap}{CX:CXT}{k:Nat}{f:Addr}{fd:FuncData}{ps:List Str}{sp sp':Sp} (F:FnOk P w K mg base CX k f fd ps sp)
  (h:∀ vs H Q E,sp' vs H Q E→sp vs H Q E):FnOk P w K mg base CX k f fd ps sp':=
 ⟨fun vs H Q E q=>F.len vs H Q E (h _ _ _ _ q),fun A outer s H args us vs Q E hr he hb hv hs=>F.run A outer s H args us vs Q E hr he hb hv (h _ _ _ _ hs)⟩
theorem Env0.make {P:Program}{w:World}{K:PySem.W.Frag}{mg:Str→Option Value}{base:Heap}{A:Around}{outer:List Env}{s:Shared}{H:Hp} (e:Env0 P w K mg base A outer s H) (C:Addr) (us:List Value) (kw:List (Str×Value)) :
  Env0 P w K mg base (A.under (.builtin "type.__call__" ⟨.ref C::us,kw⟩)) outer s H:=⟨by first | exact e.frames | (simpa [Around.under,Code.envs,Code.isFrame,pushEnvs] using e.frames),e.mod,e.bs,e.bsz,e.funs,e.frf,e.hok,e.bare⟩
section
variable {X:Cx}{pins:List (Addr×Obj)}{σ:St}{H:Hp}{s s':Shared}
theorem Inv.env0 (I:Inv X pins σ H s):Env0 X.prog X.w X.K X.mg X.base X.A X.stack s H:=
 ⟨I.ok.frames,I.ok.mod,I.bs,Nat.le_trans I.ok.bsz I.sz,I.stack,I.stkFree,I.hok,I.bare⟩
theorem Inv.after {Q:VK}{u:Value} (I:Inv X pins σ H s) (h:CE X.stack X.prog X.w H s Q u s'):EP X pins σ Q u s':=by
 obtain⟨v,H',os,bare,un,hok,r,q⟩:=h
 obtain⟨hh,g,d,t,os'⟩:=s'
 obtain rfl:os'=s.os:=os
 exact⟨v,H',I.call (h':=hh) (g':=g) (d':=d) (t':=t) (ch:=[]) un hok bare (fun b z=>absurd z (by simp)),r,q⟩
end
noncomputable def tCall (sp:Sp) (dvs:List V) (E:XK) (t:TA):TE:=fun σ H Q=>t σ H fun vs H1=>sp (vs++dvs) H1 Q E
noncomputable def tMeth (C:Addr) (m:Str) (sp:Sp) (dvs:List V) (E:XK) (ta:TE) (t:TA):TE:=fun σ H Q=>ta σ H fun x H1=>∃ a dx fs,x=.ref a∧H1 a=some (.ins C dx fs)∧fs.lookup m=none∧
 t σ H1 fun vs H2=>sp (x::(vs++dvs)) H2 Q E
noncomputable def tMake (C:Addr) (sp:Sp) (dvs:List V) (E:XK) (t:TA):TE:=fun σ H Q=>t σ H fun vs H1=>∀ x dx,H1 x=none→H1 dx=none→dx≠x→
 sp (.ref x::(vs++dvs)) (upd (upd H1 dx (.own x)) x (.ins C dx [])) (fun v H2=>v=.non∧Q (.ref x) H2) E
noncomputable def Binds (K:PySem.W.Frag) (fd:FuncData) (ps:List Str) (ds:List Value):Prop:=
 ∀ (s:Shared) (us:List Value),K.In s.heap→(us++ds).length=ps.length→BindsTo s fd ⟨us,[]⟩ (ps.zip (us++ds))
theorem Binds.all {K:PySem.W.Frag}{fd:FuncData}{ps:List Str} (h:∀ us:List Value,us.length=ps.length→bindArgs fd ⟨us,[]⟩=pure (ps.zip us)):Binds K fd ps []:=fun s us _ hl=>by
 rw[List.append_nil] at hl ⊢
 exact .of_eq (h us hl)
noncomputable def Passes (CX:CXT) (X:Cx) (E:XK):Prop:=∀ (pins:List (Addr×Obj)) (σ:St) (H:Hp) (s:Shared) (e:Value) (s':Shared),Inv X pins σ H s→CX X.stack H s E e s'→X.xe e s'
section
variable {X:Cx}{CX:CXT}{k:Nat}{f C:Addr}{fd:FuncData}{ps:List Str}{sp:Sp}{dvs:List V}{ds:List Value}{E:XK}{x m:Str}{p pos apos:Pos}{e o:Expr}{es:List Expr}{ta:TE}{t:TA}
theorem run_fn {pins:List (Addr×Obj)}{σ:St}{H:Hp}{s:Shared}{Q:VK}{us:List Value}{vs:List V} (F:FnOk X.prog X.w X.K X.mg X.base CX k f fd ps sp) (hr:Room k X.A) (hb:Binds X.K fd ps ds) (hd:bO dvs ds) (hx:Passes CX X E)
  (I:Inv X pins σ H s) (r:bO vs us) (h:sp (vs++dvs) H Q E):wpAny (model X.prog X.w) X.A (call (.ref f) us) (EP X pins σ Q) X.xe s:=by
 have r2:bO (vs++dvs) (us++ds):=r.append hd
 have hl:(us++ds).length=ps.length:=by rw[← r2.length];exact F.len _ _ _ _ h
 refine wpAny_call (codeAny_mono (F.run X.A X.stack s H ⟨us,[]⟩ (us++ds) (vs++dvs) Q E hr I.env0 (hb s us I.kIn hl) r2 h) fun r s' hq=>?_)
 cases r with
 | error e=>exact hx pins σ H s e s' I hq
 | ok fl=>
  cases fl with
  | ret u=>exact I.after hq
  | next=>exact False.elim hq
  | brk=>exact False.elim hq
  | cont=>exact False.elim hq
theorem pe_call (F:FnOk X.prog X.w X.K X.mg X.base CX k f fd ps sp) (hr:Room k X.A) (hg:Gl X x) (hm:X.mg x=some (.ref f)) (hk:PySem.W.keepIn X.K (.ref f)=true) (hb:Binds X.K fd ps ds) (hd:bO dvs ds) (hx:Passes CX X E)
  (ha:PA X (e::es) t) (hdb:(x == ("__debug__" : Str))=false:=by decide) (he:starEach (e::es) X.env=(false,eval e X.env)::starEach es X.env:=by rfl) (hpl:(backTo pos (starEach es X.env)).any (·.1)=false:=by rfl) :
  PE X (.Call (.Name x p) (e::es) [] pos) (tCall sp dvs E t):=by
 intro pins s σ H Q I h
 refine wpAny_Call_Name_kw (ld_glob I hg hm ?_ hdb)
 refine PySem.W.callWith_K (h₀:=X.base) I.ok.mod.kin hk (cU (ha pos pins s σ H _ I h) fun us s1 ⟨vs,H1,I1,r,q⟩=>⟨I1.kIn,?_⟩) he hpl
 exact run_fn F hr hb hd hx I1 r q
theorem pe_meth {pl:Sem Bool} (he:PE X o ta) (c:Cls X.K C) (hm:Meth X.K C m f) (F:FnOk X.prog X.w X.K X.mg X.base CX k f fd ps sp) (hr:Room k X.A) (hb:Binds X.K fd ps ds) (hd:bO dvs ds) (hx:Passes CX X E) (ha:PA X (e::es) t)
  (hst:starEach (e::es) X.env=(false,eval e X.env)::starEach es X.env:=by rfl) (hpl:(backTo pos (starEach es X.env)).any (·.1)=false:=by rfl)
  (ht:eval (.Call (.Attribute o m apos) (e::es) [] pos) X.env=(do
   let ov ← eval o X.env
   standAt apos.atName
   let (f,first) ← holding [ov] (getMethod ov m pl)
   callWith pos f first (backTo pos (starEach (e::es) X.env)) (backToKw pos (keywordEach [] X.env))):=by rfl) :
  PE X (.Call (.Attribute o m apos) (e::es) [] pos) (tMeth C m sp dvs E ta t):=by
 intro pins s σ H Q I h
 refine PySem.W.methodCall_KW (pl:=pl) (cU (he pins s σ H _ I h) fun u s1 ⟨x,H1,I1,rx,a,dx,fs,ex,ea,l,q⟩=>?_) ht
 subst ex
 obtain rfl:u=Value.ref a:=rx
 refine getmeth_ok I1 ea c hm l ?_
 refine PySem.W.callWith_K (first:=[.ref a]) (h₀:=X.base) I.ok.mod.kin hm.kp (cU (ha pos pins s1 σ H1 _ I1 q) fun us s2 ⟨vs,H2,I2,r,q2⟩=>⟨I2.kIn,?_⟩) hst hpl
 exact run_fn (us:=.ref a::us) (vs:=.ref a::vs) F hr hb hd hx I2 (.cons rfl r) q2
theorem pe_meth0 {pl:Sem Bool} (he:PE X o ta) (c:Cls X.K C) (hm:Meth X.K C m f) (F:FnOk X.prog X.w X.K X.mg X.base CX k f fd ps sp) (hr:Room k X.A) (hb:Binds X.K fd ps ds) (hd:bO dvs ds) (hx:Passes CX X E)
  (ht:eval (.Call (.Attribute o m apos) [] [] pos) X.env=(do
   let ov ← eval o X.env
   standAt apos.atName
   let (f,first) ← holding [ov] (getMethod ov m pl)
   callWith pos f first (backTo pos (starEach [] X.env)) (backToKw pos (keywordEach [] X.env))):=by rfl) :
  PE X (.Call (.Attribute o m apos) [] [] pos) (tMeth C m sp dvs E ta tNil):=by
 intro pins s σ H Q I h
 refine PySem.W.methodCall_KW (pl:=pl) (cU (he pins s σ H _ I h) fun u s1 ⟨x,H1,I1,rx,a,dx,fs,ex,ea,l,q⟩=>?_) ht
 subst ex
 obtain rfl:u=Value.ref a:=rx
 refine getmeth_ok I1 ea c hm l ?_
 exact PySem.W.callWith_K0 (first:=[.ref a]) I1.kIn hm.kp (run_fn (us:=[.ref a]) (vs:=[.ref a]) F hr hb hd hx I1 (.cons rfl .nil) q)
structure Mk (K:PySem.W.Frag) (C f:Addr):Prop where
 makes:PySem.W.makesIn K C=true
 init:PySem.W.findIn K (.ref C) "__init__" = some (some (.ref f))
 fn:PySem.W.isFn K (.ref f)=true
 kp:PySem.W.keepIn K (.ref C)=true
theorem run_make {pins:List (Addr×Obj)}{σ:St}{H:Hp}{s:Shared}{Q:VK}{us:List Value}{vs:List V} (M:Mk X.K C f) (F:FnOk X.prog X.w X.K X.mg X.base CX k f fd ps sp) (hr:Room (k+1) X.A) (hb:Binds X.K fd ps ds) (hd:bO dvs ds)
  (hx:Passes CX X E) (I:Inv X pins σ H s) (r:bO vs us)
  (h:∀ x dx,H x=none→H dx=none→dx≠x→sp (.ref x::(vs++dvs)) (upd (upd H dx (.own x)) x (.ins C dx [])) (fun v H2=>v=.non∧Q (.ref x) H2) E) :
  wpAny (model X.prog X.w) X.A (call (.ref C) us) (EP X pins σ Q) X.xe s:=by
 have hq:=h (s.heap.objs.size+1) s.heap.objs.size (I.hok.fresh (Nat.le_succ _)) (I.hok.fresh (Nat.le_refl _)) (Nat.ne_of_lt (Nat.lt_succ_self _))
 have I2:=Inv.made (C:=C) I
 have r2:bO (V.ref (s.heap.objs.size+1)::(vs++dvs)) (Value.ref (s.heap.objs.size+1)::(us++ds)):=.cons rfl (r.append hd)
 have hl:(Value.ref (s.heap.objs.size+1)::us++ds).length=ps.length:=by
  have e:=r2.length
  rw[F.len _ _ _ _ hq] at e
  exact e.symm
 refine wpAny_call (make_map (f:=f) I.kIn M.makes M.init (beq_iff_eq.mp M.fn) (codeAny_mono (F.run _ X.stack _ _ ⟨Value.ref (s.heap.objs.size+1)::us,[]⟩ (Value.ref (s.heap.objs.size+1)::(us++ds)) _ _ E (hr.make C us [])
  (I2.env0.make C us []) (hb _ (Value.ref (s.heap.objs.size+1)::us) I2.kIn hl) r2 hq) fun r s' hq'=>?_))
 cases r with
 | error e=>exact hx pins σ _ _ e s' I2 hq'
 | ok fl=>
  cases fl with
  | ret u=>
   obtain⟨v,H',I3,rv,ev,q3⟩:=I2.after hq'
   subst ev
   exact⟨rv,⟨V.ref (s.heap.objs.size+1),H',I3,rfl,q3⟩⟩
  | next=>exact False.elim hq'
  | brk=>exact False.elim hq'
  | cont=>exact False.elim hq'
theorem pe_make (M:Mk X.K C f) (F:FnOk X.prog X.w X.K X.mg X.base CX k f fd ps sp) (hr:Room (k+1) X.A) (hg:Gl X x) (hm:X.mg x=some (.ref C)) (hb:Binds X.K fd ps ds) (hd:bO dvs ds) (hx:Passes CX X E)
  (ha:PA X (e::es) t) (hdb:(x == ("__debug__" : Str))=false:=by decide) (he:starEach (e::es) X.env=(false,eval e X.env)::starEach es X.env:=by rfl) (hpl:(backTo pos (starEach es X.env)).any (·.1)=false:=by rfl) :
  PE X (.Call (.Name x p) (e::es) [] pos) (tMake C sp dvs E t):=by
 intro pins s σ H Q I h
 refine wpAny_Call_Name_kw (ld_glob I hg hm ?_ hdb)
 refine PySem.W.callWith_K (h₀:=X.base) I.ok.mod.kin M.kp (cU (ha pos pins s σ H _ I h) fun us s1 ⟨vs,H1,I1,r,q⟩=>⟨I1.kIn,?_⟩) he hpl
 exact run_make M F hr hb hd hx I1 r q
end
section
variable {X:Cx}{CX:CXT}{k:Nat}{f C:Addr}{fd:FuncData}{ps ks:List Str}{sp:Sp}{E:XK}{x m:Str}{p pos apos kpos:Pos}{e o:Expr}{es:List Expr}{kws:List Keyword}{te ta:TE}{t tk:TA}{nm:Option Str}
variable {g:List Value→List Value→List Value}{gV:List V→List V→List V}
end
structure FnScope (N P:List Str) (sc:Scope):Prop where
 kind:sc.kind=.function
 co:sc.isCoroutine=false
 gen:sc.isGenerator=false
 nd:N.Nodup
 pre:N.take P.length=P
 par:∀ x∈P,sc.names.lookup x=some .local∨sc.names.lookup x=some .cell
 nofree:∀ y∈sc.names,y.2≠.free
theorem bindL_out {kindOf:Str→Option NameKind}{x:Str}:∀ {binds:List (Str×Value)}{m:Str→Option Value},(∀ v,(x,v)∉binds)→bindL kindOf binds m x=m x
 | [],_,_=>rfl
 | (n,v)::r,m,h=>by
  unfold bindL
  rw[bindL_out fun w hw=>h w (List.mem_cons_of_mem _ hw)]
  split
  ·have:x≠n:=by rintro rfl;exact h v List.mem_cons_self
   simp [this]
  ·rfl
theorem bindC_out {kindOf:Str→Option NameKind}{x:Str}:∀ {binds:List (Str×Value)}{m:Str→Option Value},(∀ v,(x,v)∉binds)→bindC kindOf binds m x=m x
 | [],_,_=>rfl
 | (n,v)::r,m,h=>by
  unfold bindC
  rw[bindC_out fun w hw=>h w (List.mem_cons_of_mem _ hw)]
  split
  ·rfl
  ·have:x≠n:=by rintro rfl;exact h v List.mem_cons_self
   simp [this]
theorem bindL_get {kindOf:Str→Option NameKind}{x:Str}{v:Value}:∀ {P:List Str}{vs:List Value}{i:Nat}{m:Str→Option Value},P.Nodup→P[i]? = some x→vs[i]? = some v→kindOf x=some .local→
  bindL kindOf (P.zip vs) m x=some v
 | [],_,_,_,_,h,_,_=>by simp at h
 | _::_,[],_,_,_,_,h,_=>by simp at h
 | p::P,w::vs,0,m,nd,h1,h2,hk=>by
  simp at h1 h2;subst h1;subst h2
  show bindL kindOf ((p,w)::P.zip vs) m p=_
  unfold bindL
  rw[bindL_out fun v hv=>(List.nodup_cons.mp nd).1 (List.of_mem_zip hv).1,if_pos hk]
  simp
 | p::P,w::vs,i+1,m,nd,h1,h2,hk=>by
  show bindL kindOf ((p,w)::P.zip vs) m x=_
  unfold bindL
  exact bindL_get (i:=i) (List.nodup_cons.mp nd).2 (by simpa using h1) (by simpa using h2) hk
theorem bindC_get {kindOf:Str→Option NameKind}{x:Str}{v:Value}:∀ {P:List Str}{vs:List Value}{i:Nat}{m:Str→Option Value},P.Nodup→P[i]? = some x→vs[i]? = some v→kindOf x≠some .local→
  bindC kindOf (P.zip vs) m x=some v
 | [],_,_,_,_,h,_,_=>by simp at h
 | _::_,[],_,_,_,_,h,_=>by simp at h
 | p::P,w::vs,0,m,nd,h1,h2,hk=>by
  simp at h1 h2;subst h1;subst h2
  show bindC kindOf ((p,w)::P.zip vs) m p=_
  unfold bindC
  rw[bindC_out fun v hv=>(List.nodup_cons.mp nd).1 (List.of_mem_zip hv).1,if_neg hk]
  simp
 | p::P,w::vs,i+1,m,nd,h1,h2,hk=>by
  show bindC kindOf ((p,w)::P.zip vs) m x=_
  unfold bindC
  exact bindC_get (i:=i) (List.nodup_cons.mp nd).2 (by simpa using h1) (by simpa using h2) hk
noncomputable def start (N:List Str) (vs:List V):St:=vs.map some++List.replicate (N.length - vs.length) none
noncomputable def cxOf (CX:CXT) (P:Program) (w:World) (K:PySem.W.Frag) (mg:Str→Option Value) (base:Heap) (N:List Str) (qual:Str) (scope:Scope) (f:Addr) (cd:Value) (A:Around) (outer:List Env) (s:Shared) (H:Hp) (E:XK):Cx where
 prog:=P
 w:=w
 K:=K
 mg:=mg
 base:=base
 A:=A.deeper (envOfC qual scope s.heap.objs.size f cd)
 N:=N
 s₀:=s
 H₀:=H
 env:=envOfC qual scope s.heap.objs.size f cd
 outer:=outer
 stack:=envOfC qual scope s.heap.objs.size f cd::outer
 ex:=[]
 calm:=true
 fn:=fun _=>true
 pn:=[]
 xe:=fun e s'=>wpAny (model P w) (A.deeper (envOfC qual scope s.heap.objs.size f cd)) (leaving (envOfC qual scope s.heap.objs.size f cd) e) (fun _ s''=>CX outer H s E e s'') (fun e' s''=>CX outer H s E e' s'') s'
theorem cell_has {sc:Scope}{n:Nat}{x:Str} (h:sc.names.lookup x=some .cell):∃ c,(cellsFrom n sc.names []).lookup x=some c:=by
 have q:=PySem.W.cellsFrom_some sc.names n [] (.inl h)
 exact Option.isSome_iff_exists.mp q
theorem inv_start {CX:CXT}{P:Program}{w:World}{K:PySem.W.Frag}{mg:Str→Option Value}{base:Heap}{N ps:List Str}{qual:Str}{scope:Scope}{f:Addr}{cd:Value}{A:Around}{outer:List Env}{s s1:Shared}{H:Hp}{E:XK}{us:List Value}{vs:List V}
  (S:FnScope N ps scope) (hd:A.handled=none) (e0:Env0 P w K mg base A outer s H) (hl:vs.length=ps.length) (r:bO vs us)
  (x:InCallC s s.heap.objs.size (bindL (envOfC qual scope s.heap.objs.size f cd).kindOf (ps.zip us) fun _=>none) (cellsFrom (s.heap.objs.size+1) scope.names []) (bindC (envOfC qual scope s.heap.objs.size f cd).kindOf (ps.zip us) fun _=>none) s1) :
  Inv (cxOf CX P w K mg base N qual scope f cd A outer s H E) [] (start N vs) H s1:=by
 have hpl:ps.length≤N.length:=by have:=congrArg List.length S.pre;rw[List.length_take] at this;omega
 obtain⟨h1,tk,rfl,hk⟩:=x.done
 have noA:∀ b:Addr,b∉(cxOf CX P w K mg base N qual scope f cd A outer s H E).ex:=fun b z=>absurd (show b∈([]:List Addr) from z) (by simp)
 refine⟨⟨e0.mod,S.kind,rfl,rfl,Nat.le_refl _,fun y z c h1 h2=>?_,fun y hy=>?_,fun y c _ h=>?_,fun _=>hd,Around.frames_deeper e0.frames,.inr ⟨rfl,rfl⟩,fun b z=>absurd z (noA b),e0.bs,e0.bsz,fun b _ _=>noA b,fun b z=>absurd z (noA b),e0.funs,e0.frf⟩,
  rfl,e0.bare,Un.kept hk,⟨_,x.toInCall.ns,fun i y v h1 h2 h3=>?_⟩,fun y c h=>⟨_,x.cell y c h⟩,e0.hok.fresh (Nat.le_refl _),fun y c h=>?_,fun p hp=>absurd (show p∈([]:List (Addr×Obj)) from hp) (by simp),e0.hok.kept hk,?_⟩
 ·exact name_of_addr x.apart (PySem.mem_of_lookup h1) (PySem.mem_of_lookup h2)
 ·have hy:scope.names.lookup y=some .cell∨scope.names.lookup y=some .free:=hy
  rcases hy with hy | hy
  ·exact cell_has hy
  ·exact absurd rfl (S.nofree _ (PySem.mem_of_lookup hy))
 ·exact Nat.le_of_lt (x.above y c (PySem.mem_of_lookup h))
 ·have hi:i < vs.length:=by
   unfold start at h2
   by_cases hi:i < vs.length
   ·exact hi
   ·rw[List.getElem?_append_right (by simpa using hi)] at h2
    rw[List.getElem?_replicate] at h2
    split at h2 <;> cases h2
  have ha:vs[i]? = some v:=by
   unfold start at h2
   rw[List.getElem?_append_left (by simpa using hi),List.getElem?_map] at h2
   cases e:vs[i]? with
   | none=>rw[e] at h2;cases h2
   | some a=>rw[e] at h2;cases h2;rfl
  obtain⟨u,hu,rv⟩:=r.get ha
  have hp:ps[i]? = some y:=by
   rw[← S.pre,List.getElem?_take_of_lt (by omega)];exact h1
  have ndP:ps.Nodup:=by rw[← S.pre];exact S.nd.sublist (List.take_sublist _ _)
  refine⟨u,rv,?_⟩
  rcases S.par y (List.mem_of_getElem? hp) with k | k
  ·exact .inl ⟨k,bindL_get ndP hp hu k⟩
  ·obtain⟨c,e⟩:=cell_has (n:=s.heap.objs.size+1) k
   refine .inr ⟨.inl k,c,e,?_⟩
   have q:=x.cell y c e
   rw[bindC_get ndP hp hu (by show scope.names.lookup y≠_;rw[k];decide)] at q
   exact q
 ·exact e0.hok.fresh (Nat.le_of_lt (x.above y c (PySem.mem_of_lookup h)))
 ·unfold start
  show _=N.length
  rw[List.length_append,List.length_map,List.length_replicate]
  omega
theorem fn_of {CX:CXT}{P:Program}{w:World}{K:PySem.W.Frag}{mg:Str→Option Value}{base:Heap}{k:Nat}{f:Addr}{name qual:Str}{params:Arguments}{body:List Stmt}{scope:Scope}{dV kV doc pm cdv ct oc:Value}{an od:Option Addr}
  {osl:Array (Option Value)}{N ps:List Str}{sp:Sp} (lk:K.lookup f=some ⟨oc,od,.func (PySem.W.fnOf name qual params body scope dV kV doc pm an cdv ct),osl⟩) (hcd:PySem.W.codeIn K cdv qual=true) (S:FnScope N ps scope)
  (len:∀ vs H Q E,sp vs H Q E→vs.length=ps.length)
  (hbody:∀ (A:Around) (outer:List Env) (s:Shared) (H:Hp) (vs:List V) (Q:VK) (E:XK),Room k (A.deeper (envOfC qual scope s.heap.objs.size f cdv))→sp vs H Q E→
   ∃ t,PSs (cxOf CX P w K mg base N qual scope f cdv A outer s H E) body t∧t { nx:=fun _ H'=>Q .non H',rt:=Q } (start N vs) H) :
  FnOk P w K mg base CX (k+1) f (PySem.W.fnOf name qual params body scope dV kV doc pm an cdv ct) ps sp:=by
 refine⟨len,fun A outer s H args us vs Q E hr e0 hb r hsp=>?_⟩
 have hl:=len _ _ _ _ hsp
 have KX:K.In s.heap:=e0.mod.kin.keeps fun b o e=>(e0.bs b o e).1
 have lim:s.heap.NoLimit:=e0.mod.nolimit.keeps fun b o e=>(e0.bs b o e).1
 have hkind:∀ y∈ps.zip us,scope.names.lookup y.1=some .local∨(scope.names.lookup y.1=some .cell∧((cellsFrom (s.heap.objs.size+1) scope.names []).lookup y.1).isSome=true):=fun ⟨n,v⟩ hy=>by
  rcases S.par n (List.of_mem_zip hy).1 with q | q
  ·exact .inl q
  ·exact .inr ⟨q,PySem.W.cellsFrom_some _ _ _ (.inl q)⟩
 refine codeAny_call_function hr.depth (KX _ _ lk) rfl S.co S.gen rfl (PySem.W.codeRec_of KX hcd) (hb _ _ _ _ ?_)
 refine wpAny_newFunctionEnv_cells S.kind hkind fun env he s1 x=>?_
 subst he
 refine⟨lim.keeps x.toInCall.keep,codeAny_func ?_⟩
 obtain⟨t,ht,hq⟩:=hbody A outer s H vs Q E (hr.deeper _) hsp
 have I:Inv (cxOf CX P w K mg base N qual scope f cdv A outer s H E) [] (start N vs) H s1:=inv_start S hr.hd e0 hl r x
 refine wpAny_mono (ht [] s1 (start N vs) H _ I hq) (fun fl s' hs=>?_) fun e s' hs=>hs
 have fin:∀ {σ':St}{H':Hp}{v:V}{u:Value},Inv (cxOf CX P w K mg base N qual scope f cdv A outer s H E) [] σ' H' s'→bK v u→Q v H'→CE outer P w H s Q u s':=
  fun {σ' H' v u} J rv q=>⟨v,H',J.os,J.bare,J.base,J.hok,rv,q⟩
 cases fl with
 | ret u=>
  obtain⟨v,σ',H',J,rv,q⟩:=hs
  exact fin J rv q
 | next=>
  obtain⟨σ',H',J,q⟩:=hs
  exact fin (v:=V.non) (u:=Value.none) J rfl q
 | brk=>
  obtain⟨_,_,_,q⟩:=hs
  exact False.elim q
 | cont=>
  obtain⟨_,_,_,q⟩:=hs
  exact False.elim q
end L2
namespace L2
open PySem PySem.Spec PyProof.Rows
section
variable {X:Cx}{x:Str}{p pos:Pos}{e:Expr}{es:List Expr}{t:TA}{id T:String}{r:List V→Hp→VK→Prop}
noncomputable def tCB (r:List V→Hp→VK→Prop) (t:TA):TE:=fun σ H Q=>t σ H fun vs H1=>r vs H1 Q
theorem aS (hc:CallR X (.builtin id) r) (hg:Gl X x) (hm:X.mg x=none) (hv:bootBuiltins x=some (.builtin id)) (ha:PA X (e::es) t) (hn:x ≠ "__name__" := by decide) (hdb:(x == ("__debug__" : Str))=false:=by decide)
  (he:starEach (e::es) X.env=(false,eval e X.env)::starEach es X.env:=by rfl) (hpl:(backTo pos (starEach es X.env)).any (·.1)=false:=by rfl):PE X (.Call (.Name x p) (e::es) [] pos) (tCB r t):=by
 intro pins s σ H Q I h
 refine wpAny_Call_Name_kw (ld_blt I hg hm hv ?_ hn hdb)
 exact PyProof.Rows.callWith_builtin1 (cU (ha pos pins s σ H _ I h) fun us s1 ⟨vs,H1,I1,r1,q1⟩=>hc pins s1 σ H1 vs us Q I1 r1 q1) he hpl
theorem bD (hc:CallR X (.type T) r) (hg:Gl X x) (hm:X.mg x=none) (hv:bootBuiltins x=some (.type T)) (ha:PA X (e::es) t) (hn:x ≠ "__name__" := by decide) (hdb:(x == ("__debug__" : Str))=false:=by decide)
  (he:starEach (e::es) X.env=(false,eval e X.env)::starEach es X.env:=by rfl) (hpl:(backTo pos (starEach es X.env)).any (·.1)=false:=by rfl):PE X (.Call (.Name x p) (e::es) [] pos) (tCB r t):=by
 intro pins s σ H Q I h
 refine wpAny_Call_Name_kw (ld_blt I hg hm hv ?_ hn hdb)
 exact PyProof.Rows.callWith_type1 (cU (ha pos pins s σ H _ I h) fun us s1 ⟨vs,H1,I1,r1,q1⟩=>hc pins s1 σ H1 vs us Q I1 r1 q1) he hpl
end
end L2
namespace HT
open PySem PyProof.Rows
section
open PySem.SeqAt
open PySem.AutoSeq1 (wpAny_loadPart')
open PySem.MeetsSeq PySem.MeetsSeq2 PySem.MeetsSeq3
end
section
variable {prog:Program}{w:World}{A:Around}{E:Value→Shared→Prop}{s:Shared}
theorem cat_tup {t b:Addr}{vs ws:List Value}{Q:Value→Shared→Prop} (ht:IsTup s.heap t vs.toArray) (hb:IsTup s.heap b ws.toArray) (hv:vs≠[])
  (h1:ws=[]→Q (.ref t) s) (h2:ws≠[]→Q (.ref s.heap.objs.size) { s with heap:=s.heap.push { cls:=.type "tuple",data:=.seq (vs++ws).toArray } })
  (hsz:vs.length+ws.length≤sizeLine):wpAny (model prog w) A (binaryOp .Add (.ref t) (.ref b)) Q E s:=by
 obtain⟨⟨cls,dd,data,sl⟩,ho,hc,n,hd⟩:=id ht
 obtain⟨⟨cls2,dd2,data2,sl2⟩,ho2,hc2,n2,hd2⟩:=id hb
 simp only at hc hd hc2 hd2
 subst hc hd hc2 hd2
 have e:vs.toArray++ws.toArray=(vs++ws).toArray:=by simp
 by_cases hw:ws=[]
 ·exact concat_meets ⟨_,ho,rfl⟩ ⟨_,ho2,rfl⟩ noFill_tuple_add seq_tuple_add PySem.F.slot_tuple_add PySem.F.entry_tuple_add (PySem.F.args_tuple_add_2 _ _)
   (tuple_addW1 t b vs.toArray ws.toArray n n2 dd dd2 sl sl2 (by simpa using hv) (by simp [hw])) ⟨ho,ho2,h1 hw⟩
 ·refine concat_meets ⟨_,ho,rfl⟩ ⟨_,ho2,rfl⟩ noFill_tuple_add seq_tuple_add PySem.F.slot_tuple_add PySem.F.entry_tuple_add (PySem.F.args_tuple_add_2 _ _)
   (tuple_addW2 t b vs.toArray ws.toArray n n2 dd dd2 sl sl2 (by simpa using hv) (by simpa using hw) (by rw[List.size_toArray,List.size_toArray];exact hsz)) ⟨ho,ho2,?_⟩
  rw[e]
  exact h2 hw
noncomputable def sIx (n d:Nat):Option Int→Nat
 | none=>d
 | some v=>if v < 0 then (v+(n:Int)).toNat else min v.toNat n
theorem sIx_none (n d:Nat):sIx n d none=d:=rfl
theorem sIx_nat (n d k:Nat):sIx n d (some (k:Int))=min k n:=by
 show (if (k:Int) < 0 then ((k:Int)+(n:Int)).toNat else min (k:Int).toNat n)=min k n
 rw[if_neg (by omega),Int.toNat_natCast]
theorem sIx_le (n d:Nat) (hd:d≤n) (o:Option Int):sIx n d o≤n:=by
 cases o with
 | none=>exact hd
 | some v=>
  show (if v < 0 then (v+(n:Int)).toNat else min v.toNat n)≤n
  by_cases hv:v < 0
  ·rw[if_pos hv];omega
  ·rw[if_neg hv];exact Nat.min_le_right _ _
theorem clip_eq (v:Int) (n d:Nat):(if v < 0 then max (v+(n:Int)) 0 else min v (n:Int))=((sIx n d (some v):Nat):Int):=by
 show (if v < 0 then max (v+(n:Int)) 0 else min v (n:Int))=(((if v < 0 then (v+(n:Int)).toNat else min v.toNat n):Nat):Int)
 by_cases hv:v < 0
 ·simp only [if_pos hv];omega
 ·simp only [if_neg hv];omega
theorem adjust_gen (lo hi:Option Int) (n:Nat):Builtin.Slice.sliceAdjust lo hi 1 (n:Int)=(((sIx n 0 lo:Nat):Int),((sIx n n hi:Nat):Int)):=by
 have h1:¬ ((1:Int) < 0):=by omega
 unfold Builtin.Slice.sliceAdjust
 simp only [h1,if_false]
 refine Prod.ext ?_ ?_
 ·cases lo with
  | none=>rfl
  | some v=>exact clip_eq v n 0
 ·cases hi with
  | none=>rfl
  | some v=>exact clip_eq v n n
theorem places_gen (i j:Nat):Builtin.Slice.slicePlaces (i:Int) (j:Int) 1=j - i:=by
 unfold Builtin.Slice.slicePlaces
 have h1:(1:Int) > 0:=by omega
 simp only [h1,if_true,Int.ediv_one]
 split <;> omega
theorem slicePart_ {v:Value}{o:Option Int}{Q:Option Int→Shared→Prop} (p:IsPart v o) (h:Q o s):wpAny (model prog w) A (Builtin.Slice.slicePartIndex v) Q E s:=by
 cases p with
 | none=>exact slicePart_none h
 | int i t=>exact slicePart_int h
theorem sliceApplied_gen {sl:Addr}{vl vu:Value}{lo hi:Option Int}{n:Nat}{Q:Int×Int×Nat→Shared→Prop} (hs:s.heap.IsSliceOf sl vl vu .none) (pl:IsPart vl lo) (pu:IsPart vu hi)
  (h:Q (((sIx n 0 lo:Nat):Int),1,sIx n n hi - sIx n 0 lo) s):wpAny (model prog w) A (Builtin.Slice.sliceApplied (.ref sl) (pure (n:Int))) Q E s:=by
 obtain⟨os,hos,hcs,hds⟩:=id hs
 unfold Builtin.Slice.sliceApplied Builtin.Slice.sliceFields
 refine wpAny_bind (wpAny_bind (wpAny_field hos hds (x:=vl) rfl (wpAny_bind (wpAny_field hos hds (x:=vu) rfl (wpAny_bind (wpAny_field hos hds (x:=.none) rfl (wpAny_pure ?_)))))))
 refine wpAny_bind (slicePart_none ?_)
 show wpAny _ _ (if ((1:Int) == 0)=true then _ else _) _ _ s
 rw[if_neg (by decide)]
 refine wpAny_bind (slicePart_ pl (wpAny_bind (slicePart_ pu (wpAny_bind (wpAny_pure ?_)))))
 show wpAny _ _ (match Builtin.Slice.sliceAdjust lo hi 1 (n:Int) with | (lo,hi)=>pure (lo,(1:Int),Builtin.Slice.slicePlaces lo hi 1)) _ _ s
 rw[adjust_gen lo hi n]
 show wpAny _ _ (pure (((sIx n 0 lo:Nat):Int),(1:Int),Builtin.Slice.slicePlaces ((sIx n 0 lo:Nat):Int) ((sIx n n hi:Nat):Int) 1)) _ _ s
 rw[places_gen]
 exact wpAny_pure h
theorem pick_gen (xs:Array Value) (i k:Nat):((List.range k).filterMap fun (m:Nat)=>xs[((i:Int)+(m:Int) * 1).toNat]?).toArray=((xs.toList.drop i).take k).toArray:=by
 have e:(fun (m:Nat)=>xs[((i:Int)+(m:Int) * 1).toNat]?)=fun m=>xs[i+m]?:=by
  funext m
  have:((i:Int)+(m:Int) * 1).toNat=i+m:=by omega
  rw[this]
 rw[e]
 have:=pick_run xs i k
 rw[List.filterMap_map] at this
 have e2:((fun x=>xs[x]?) ∘ fun x=>i+x)=fun m=>xs[i+m]?:=rfl
 rw[e2] at this
 rw[this]
theorem getItem_tuple_cut {t sl:Addr}{items:Array Value}{vl vu:Value}{lo hi:Option Int}{Q:Value→Shared→Prop} (ht:IsTup s.heap t items) (hs:s.heap.IsSliceOf sl vl vu .none) (pl:IsPart vl lo) (pu:IsPart vu hi)
  (hw:¬ (sIx items.size 0 lo=0∧sIx items.size items.size hi=items.size))
  (h:Q (.ref s.heap.objs.size) { s with heap:=s.heap.push { cls:=.type "tuple",data:=.seq ((items.toList.drop (sIx items.size 0 lo)).take (sIx items.size items.size hi - sIx items.size 0 lo)).toArray } })
  (hsz:items.size≤sizeLine):wpAny (model prog w) A (getItem (.ref t) (.ref sl)) Q E s:=by
 have htake:sizeOk (.seq ((items.toList.drop (sIx items.size 0 lo)).take (sIx items.size items.size hi - sIx items.size 0 lo)).toArray):=by
  show ((items.toList.drop (sIx items.size 0 lo)).take (sIx items.size items.size hi - sIx items.size 0 lo)).toArray.size≤sizeLine
  rw[List.size_toArray,List.length_take,List.length_drop,Array.length_toList]
  omega
 have hj:sIx items.size items.size hi≤items.size:=sIx_le _ _ (Nat.le_refl _) hi
 obtain⟨os,hos,hcs,hds⟩:=id hs
 have hTs:s.TypeIs (.ref sl) "slice" := ⟨os,hos,hcs⟩
 unfold getItem
 try with_reducible refine wpAny_holding ?_
 first | refine wpAny_bind (wpAny_pure ?_) | skip
 refine wpAny_bind (wpAny_sequenceKey ht.typeIs (by decide) ?_)
 refine wpAny_bind (wpAny_callSpecial?_slot (name:=Str.ofString "__getitem__") ht.typeIs PyProof.Rows.slot_tuple_getitem
  (wpAny_call_entry PyProof.Rows.slot_tuple_getitem ht.typeIs entry_tuple_getitem ?_ (args_tuple_getitem _ _)))
 show wpAny _ _ (Builtin.Tuple.tupleItemsOf (.ref t) >>= _) _ _ s
 refine wpAny_bind (tupleItemsOf_ ht ?_)
 refine wpAny_bind (wpAny_typeOf hTs ?_)
 rw[if_pos (by decide)]
 refine wpAny_bind (sliceApplied_gen hs pl pu ?_)
 have hno:¬ ((((sIx items.size 0 lo:Nat):Int) == 0 && (1:Int) == 1 && (sIx items.size items.size hi - sIx items.size 0 lo) == items.size)=true):=by
  intro q
  rw[Bool.and_eq_true,Bool.and_eq_true] at q
  have q1:((sIx items.size 0 lo:Nat):Int)=0:=eq_of_beq q.1.1
  have q2:sIx items.size items.size hi - sIx items.size 0 lo=items.size:=eq_of_beq q.2
  exact hw ⟨by omega,by omega⟩
 show wpAny _ _ (if (((sIx items.size 0 lo:Nat):Int) == 0 && (1:Int) == 1 && (sIx items.size items.size hi - sIx items.size 0 lo) == items.size)=true then _ else _) _ _ s
 rw[if_neg hno,pick_gen]
 first
  | exact wpAny_bind (m:=Builtin.Tuple.tupleExact _) (wpAny_newObj_type (wpAny_pure ⟨_,rfl,wpAny_pure h⟩) htake)
  | exact wpAny_bind (m:=Builtin.Tuple.tupleExact _) (wpAny_newObj_type (wpAny_bind (wpAny_pure (wpAny_pure ⟨_,rfl,wpAny_pure h⟩))) htake)
  | exact wpAny_bind (wpAny_bind (m:=Builtin.Tuple.tupleExact _) (wpAny_newObj_type (wpAny_pure (wpAny_pure ⟨_,rfl,wpAny_pure h⟩)) htake))
  | exact wpAny_bind (wpAny_bind (m:=Builtin.Tuple.tupleExact _) (wpAny_newObj_type (wpAny_pure ⟨_,rfl,wpAny_pure h⟩) htake))
end
end HT
namespace L2
open PySem PySem.Spec PyProof.Rows
noncomputable abbrev TO:=St→Hp→(Option Int→Hp→Prop)→Prop
noncomputable def PO (X:Cx) (e:Option Expr) (t:TO):Prop:=
 ∀ (pins:List (Addr×Obj)) (s:Shared) (σ:St) (H:Hp) (Q:Option Int→Hp→Prop),Inv X pins σ H s→t σ H Q→
  wpAny (model X.prog X.w) X.A (evalPart e X.env) (fun u s'=>∃ o H',Inv X pins σ H' s'∧IsPart u o∧Q o H') X.xe s
noncomputable def tNoPart:TO:=fun _ H Q=>Q none H
noncomputable def tPart (t:TE):TO:=fun σ H Q=>t σ H fun x H1=>∃ i,x=.int i∧Q (some i) H1
theorem intsAre_of {ns:List Int}:∀ {us:List Value},bO (ns.map V.int) us→IntsAre us ns:=by
 induction ns with
 | nil=>intro us r;rw[List.map_nil] at r;cases r;exact .nil
 | cons n ns ih=>
  intro us r
  rw[List.map_cons] at r
  cases r with
  | cons r1 r2=>
   obtain⟨t,e⟩:=r1
   subst e
   exact .cons n t (ih r2)
section
variable {X:Cx}{e:Expr}{te:TE}{lo hi:Option Expr}{tl th:TO}{pos p2:Pos}
theorem po_none:PO X none tNoPart:=by
 intro pins s σ H Q I h
 rw[evalPart_none]
 exact wpAny_pure ⟨none,H,I,.none,h⟩
theorem po_some (h:PE X e te):PO X (some e) (tPart te):=by
 intro pins s σ H Q I hw
 rw[evalPart_some]
 refine cU (h pins s σ H _ I hw) fun u s1 ⟨x,H1,I1,r1,q1⟩=>?_
 obtain⟨i,rfl,q⟩:=q1
 obtain⟨t,rfl⟩:=r1
 exact⟨some i,H1,I1,.int i t,q⟩
noncomputable def SlR (X:Cx) (r:V→Option Int→Option Int→Hp→VK→Prop):Prop:=
 ∀ (pins:List (Addr×Obj)) (s:Shared) (σ:St) (H:Hp) (x:V) (v vl vu:Value) (lo hi:Option Int) (sl:Addr) (Q:VK),Inv X pins σ H s→bK x v→s.heap.IsSliceOf sl vl vu .none→IsPart vl lo→IsPart vu hi→r x lo hi H Q→
  ∃ T id,typeLookup (.type T) "__getitem__" = pure (some (.builtin id))∧s.TypeIs v T∧wpAny (model X.prog X.w) X.A (getItem v (.ref sl)) (EP X pins σ Q) X.xe s
noncomputable def tSl (r:V→Option Int→Option Int→Hp→VK→Prop) (te:TE) (tl th:TO):TE:=fun σ H Q=>te σ H fun x H1=>tl σ H1 fun l H2=>th σ H2 fun u H3=>r x l u H3 Q
theorem pe_slice {r:V→Option Int→Option Int→Hp→VK→Prop} (hr:SlR X r) (he:PE X e te) (hl:PO X lo tl) (hu:PO X hi th):PE X (.Subscript e (.Slice lo hi none p2) pos) (tSl r te tl th):=by
 intro pins s σ H Q I h
 refine Subscript_ (cU (he pins s σ H _ I h) fun v s1 ⟨x,H1,I1,r1,q1⟩=>?_)
 refine wpAny_Slice (cU (hl pins s1 σ H1 _ I1 q1) fun vl s2 ⟨l,H2,I2,pl,q2⟩=>cU (hu pins s2 σ H2 _ I2 q2) fun vu s3 ⟨u,H3,I3,pu,q3⟩=>?_)
 rw[evalPart_none]
 refine wpAny_pure ?_
 have I4:Inv X pins σ H3 { s3 with heap:=s3.heap.push { cls:=.type "slice",data:=.fields #[vl,vu,.none] } }:=I3.kept (t':=s3.toks) fun b ob q=>Heap.get?_push_of_some _ q
 obtain⟨T,id,hT,ht,hg⟩:=hr pins { s3 with heap:=s3.heap.push { cls:=.type "slice",data:=.fields #[vl,vu,.none] } } σ H3 x v vl vu l u s3.heap.objs.size Q I4 r1 (Heap.IsSliceOf.new ..) pl pu q3
 show wpAny (model X.prog X.w) X.A (subscriptTail e (.Slice lo hi none p2) v (.ref s3.heap.objs.size)) (EP X pins σ Q) X.xe { s3 with heap:=s3.heap.push { cls:=.type "slice",data:=.fields #[vl,vu,.none] } }
 exact tail_any (ops:=[.ref s3.heap.objs.size,v]) ht hT hg (by with_unfolding_all rfl)
noncomputable def cutV (xs:List V) (lo hi:Option Int):List V:=(xs.drop (HT.sIx xs.length 0 lo)).take (HT.sIx xs.length xs.length hi - HT.sIx xs.length 0 lo)
theorem cutV_length (xs:List V) (lo hi:Option Int):(cutV xs lo hi).length≤xs.length:=by
 unfold cutV
 rw[List.length_take,List.length_drop]
 omega
noncomputable def rSlT (K:PySem.W.Frag):V→Option Int→Option Int→Hp→VK→Prop:=fun x lo hi H Q=>∃ a xs,x=.ref a∧bR K H a xs∧
 ¬ (HT.sIx xs.length 0 lo=0∧HT.sIx xs.length xs.length hi=xs.length)∧∀ p,H p=none→Q (.ref p) (upd H p (.tup (cutV xs lo hi)))
theorem sl_tup:SlR X (rSlT X.K):=by
 intro pins s σ H x v vl vu lo hi sl Q I rx hs pl pu h
 obtain⟨a,xs,rfl,hx,hw,q⟩:=h
 cases rx
 obtain⟨its,r,ht,hz⟩:=I.tuple hx
 have hlen:its.toArray.size=xs.length:=by rw[List.size_toArray];exact r.length.symm
 refine⟨"tuple",_,PyProof.Rows.slot_tuple_getitem.lookup,ht.typeIs,?_⟩
 refine HT.getItem_tuple_cut ht hs pl pu (by rw[hlen];exact hw) ?_ (by rw[hlen];exact hz)
 rw[hlen]
 refine⟨.ref s.heap.objs.size,_,I.laid (t':=s.toks) (o:=.tup (cutV xs lo hi)) (fun b ob q=>Heap.get?_push_of_some _ q) (Nat.le_refl _) ?_,rfl,q _ (I.hok.fresh (Nat.le_refl _))⟩
 exact⟨Nat.le_trans (cutV_length xs lo hi) hz,_,(r.drop (HT.sIx xs.length 0 lo)).take (HT.sIx xs.length xs.length hi - HT.sIx xs.length 0 lo),IsTup.new _ _⟩
noncomputable def rCatT (K:PySem.W.Frag):R2:=fun x y H Q=>∃ a b xs ys,x=.ref a∧y=.ref b∧bR K H a xs∧bR K H b ys∧xs≠[]∧xs.length+ys.length≤sizeLine∧
 (ys=[]→Q (.ref a) H)∧(ys≠[]→∀ p,H p=none→Q (.ref p) (upd H p (.tup (xs++ys))))
theorem bO.nil_iff {xs:List V}{us:List Value} (r:bO xs us):us=[]↔xs=[]:=by
 cases r with
 | nil=>simp
 | cons _ _=>simp
theorem op_catT:OpR X (binaryOp .Add) (rCatT X.K):=by
 intro pins s σ H x y v u Q I rx ry h
 obtain⟨a,b,xs,ys,rfl,rfl,ha,hb,hx,hz,q1,q2⟩:=h
 cases rx
 cases ry
 obtain⟨its,r1,p1,_⟩:=I.tuple ha
 obtain⟨its2,r2,p2,_⟩:=I.tuple hb
 refine HT.cat_tup p1 p2 (fun z=>hx (r1.nil_iff.mp z)) (fun z=>⟨.ref a,H,I,rfl,q1 (r2.nil_iff.mp z)⟩) (fun z=>?_) (by rw[← r1.length,← r2.length];exact hz)
 refine⟨.ref s.heap.objs.size,_,I.laid (t':=s.toks) (o:=.tup (xs++ys)) (fun b ob q=>Heap.get?_push_of_some _ q) (Nat.le_refl _) ?_,rfl,q2 (fun w=>z (r2.nil_iff.mpr w)) _ (I.hok.fresh (Nat.le_refl _))⟩
 exact⟨by rw[List.length_append];exact hz,_,r1.append r2,IsTup.new _ _⟩
end
end L2
namespace L2
open PySem PySem.Spec PyProof.Rows
noncomputable def ixN (n:Nat) (i:Int):Option Nat:=if 0≤i then (if i < n then some i.toNat else none) else if -(n:Int)≤i then some (i+n).toNat else none
noncomputable def atI {α:Type} (xs:List α) (i:Int):Option α:=(ixN xs.length i).bind fun j=>xs[j]?
theorem ixN_seq {n:Nat}{i:Int}{j:Nat} (h:ixN n i=some j):seqIndex? i n=some j∧j < n∧-(n:Int)≤i∧i < n:=by
 unfold ixN at h
 by_cases h0:0≤i
 ·rw[if_pos h0] at h
  by_cases h1:i < n
  ·rw[if_pos h1] at h
   have e:i.toNat=j:=Option.some.inj h
   exact⟨by rw[seqIndex_of h0 h1,e],by omega,by omega,h1⟩
  ·rw[if_neg h1] at h;cases h
 ·rw[if_neg h0] at h
  by_cases h1 : -(n:Int)≤i
  ·rw[if_pos h1] at h
   have e:(i+n).toNat=j:=Option.some.inj h
   exact⟨by rw[seqIndex_neg (by omega) h1,e],by omega,h1,by omega⟩
  ·rw[if_neg h1] at h;cases h
theorem atI_get {α:Type}{xs:List α}{i:Int}{v:α} (h:atI xs i=some v):∃ j,seqIndex? i xs.length=some j∧xs[j]? = some v∧j < xs.length∧-(xs.length:Int)≤i∧i < xs.length:=by
 unfold atI at h
 cases e:ixN xs.length i with
 | none=>rw[e] at h;cases h
 | some j=>
  rw[e] at h
  obtain⟨h1,h2,h3,h4⟩:=ixN_seq e
  exact⟨j,h1,h,h2,h3,h4⟩
theorem cT {α:Type}{xs:List α}{j:Nat}{v:α} (h:xs[j]? = some v):atI xs (j:Int)=some v:=by
 have hj:j < xs.length:=(List.getElem?_eq_some_iff.mp h).1
 have e:ixN xs.length (j:Int)=some j:=by
  unfold ixN
  rw[if_pos (by omega),if_pos (by omega)];simp
 unfold atI;rw[e];exact h
theorem atI_last {α:Type} (xs:List α) (v:α):atI (xs++[v]) (-1)=some v:=by
 have hl:(xs++[v]).length=xs.length+1:=by simp
 have e:ixN (xs++[v]).length (-1)=some xs.length:=by
  unfold ixN
  rw[hl,if_neg (by decide),if_pos (by omega)]
  congr 1
  omega
 unfold atI
 rw[e]
 show (xs++[v])[xs.length]? = some v
 simp
noncomputable def PlainIx (b:Expr):Prop:=∀ o i,subscripted b false o i=operate [o,i] (getItem o i)
noncomputable def IxR (X:Cx) (r:R2):Prop:=
 ∀ (value slice:Expr) (pins:List (Addr×Obj)) (s:Shared) (σ:St) (H:Hp) (x y:V) (v u:Value) (Q:VK),Inv X pins σ H s→bK x v→bK y u→r x y H Q→
  subscripted slice false v u=operate [v,u] (getItem v u)→wpAny (model X.prog X.w) X.A (subscriptTail value slice v u) (EP X pins σ Q) X.xe s
noncomputable def MtR (X:Cx) (id:String) (r:V→List V→Hp→VK→Prop):Prop:=
 ∀ (pins:List (Addr×Obj)) (s:Shared) (σ:St) (H:Hp) (x:V) (xs:List V) (v:Value) (us:List Value) (Q:VK),Inv X pins σ H s→bK x v→bO xs us→r x xs H Q→
  wpAny (model X.prog X.w) X.A (call (.builtin id) (v::us)) (EP X pins σ Q) X.xe s
section
variable {X:Cx}{a b:Expr}{ta tb:TE}{pos:Pos}
theorem IxR.or {r r':R2} (h:IxR X r) (h':IxR X r'):IxR X (fun x y H Q=>r x y H Q∨r' x y H Q):=by
 intro value slice pins s σ H x y v u Q I rx ry q hs
 rcases q with q | q
 ·exact h value slice pins s σ H x y v u Q I rx ry q hs
 ·exact h' value slice pins s σ H x y v u Q I rx ry q hs
theorem aP {r:R2} (hr:IxR X r) (ha:PE X a ta) (hb:PE X b tb) (hs:PlainIx b):PE X (.Subscript a b pos) (tOp r ta tb):=by
 intro pins s σ H Q I h
 exact Subscript_ (binT ha hb I h fun v u s2 x y H2 I2 rx ry q=>hr a b pins s2 σ H2 x y v u Q I2 rx ry q (hs _ _))
noncomputable def rIxL (K:PySem.W.Frag):R2:=fun x y H Q=>∃ p xs i v,x=.ref p∧y=.int i∧bY K H p xs∧atI xs i=some v∧Q v H
noncomputable def rIxT (K:PySem.W.Frag):R2:=fun x y H Q=>∃ p xs i v,x=.ref p∧y=.int i∧bR K H p xs∧atI xs i=some v∧Q v H
noncomputable def rIxS:R2:=fun x y H Q=>∃ z i c,x=.str z∧y=.int i∧z.length≤sizeLine∧atI z.cps.toList i=some c∧Q (.str ⟨#[c]⟩) H
theorem ix_list:IxR X (rIxL X.K):=by
 intro value slice pins s σ H x y v u Q I rx ry h hs
 obtain⟨p,xs,i,z,rfl,rfl,hq,he,q⟩:=h
 cases rx
 obtain⟨t,rfl⟩:=ry
 obtain⟨its,r,pl,hz⟩:=I.list hq
 obtain⟨j,h1,h2,h3,h4,h5⟩:=atI_get he
 obtain⟨w,ew,rw'⟩:=r.get h2
 have hl:=r.length
 have hn:=line63
 have fin:EP X pins σ Q w s:=⟨z,H,I,rw',q⟩
 by_cases h0:0≤i
 ·have hj:i.toNat=j:=by
   rw[seqIndex_of h0 h5] at h1
   exact Option.some.inj h1
  exact item_listR pl.isList h0 (by omega) (by rw[hj];simpa using ew) fin hs
 ·have hj:(i+(its.toArray.size:Int)).toNat=j:=by
   rw[seqIndex_neg (by omega) h4] at h1
   rw[List.size_toArray,← hl]
   exact Option.some.inj h1
  exact subscriptTail_builtinR (x:=w) pl.isList.typeIs slot_list_getitem.lookup
   (wpAny_getItem_list_neg (Q:=fun r s'=>r=w∧EP X pins σ Q r s') pl.isList (by omega) (by rw[List.size_toArray] <;> omega) (by omega) (by rw[hj];simpa using ew) ⟨rfl,fin⟩) hs
theorem ix_tup:IxR X (rIxT X.K):=by
 intro value slice pins s σ H x y v u Q I rx ry h hs
 obtain⟨p,xs,i,z,rfl,rfl,hq,he,q⟩:=h
 cases rx
 obtain⟨t,rfl⟩:=ry
 obtain⟨its,r,pl,hz⟩:=I.tuple hq
 obtain⟨j,h1,h2,h3,h4,h5⟩:=atI_get he
 obtain⟨w,ew,rw'⟩:=r.get h2
 have hl:=r.length
 have hn:=line63
 have fin:EP X pins σ Q w s:=⟨z,H,I,rw',q⟩
 exact subscriptTail_builtinR (x:=w) pl.typeIs slot_tuple_getitem.lookup
  (getItem_tuple (j:=j) (Q:=fun r s'=>r=w∧EP X pins σ Q r s') pl (by omega) (by omega) (by rw[List.size_toArray,← hl];exact h1) (by simpa using ew) ⟨rfl,fin⟩) hs
theorem ix_str:IxR X rIxS:=by
 intro value slice pins s σ H x y v u Q I rx ry h hs
 obtain⟨z,i,c,rfl,rfl,hz,he,q⟩:=h
 obtain⟨t,rfl⟩:=rx
 obtain⟨t',rfl⟩:=ry
 obtain⟨j,h1,h2,h3,h4,h5⟩:=atI_get he
 have hl:z.cps.toList.length=z.length:=by simp [Str.length]
 rw[hl] at h1 h4 h5
 have hn:=line63
 exact tail_any (typeIs_str s z t) slot_str_getitem.lookup (getItem_str (c:=c) (by
  have e1:decide (i < -(2 ^ 63:Int))=false:=decide_eq_false (by omega)
  have e2:decide (i ≥ 2 ^ 63)=false:=decide_eq_false (by omega)
  rw[e1,e2,Bool.or_false]) (by rw[h1];simpa using h2) ⟨.str ⟨#[c]⟩,H,I.tok _,⟨_,rfl⟩,q⟩) hs
noncomputable def rIx (K:PySem.W.Frag):R2:=fun x y H Q=>rIxL K x y H Q∨rIxT K x y H Q∨rIxS x y H Q
theorem ix_seq:IxR X (rIx X.K):=ix_list.or (ix_tup.or ix_str)
theorem mapSeq_set (its:List Value) (n j:Nat) (u:Value):Obj.mapSeq (·.setIfInBounds j u) { cls:=.type "list",data:=.seq its.toArray n }={ cls:=.type "list",data:=.seq (its.set j u).toArray n }:=by
 simp [Obj.mapSeq]
theorem Inv.lst {pins:List (Addr×Obj)}{σ:St}{H:Hp}{s:Shared}{p:Addr}{xs:List V} (I:Inv X pins σ H s) (h:H p=some (.lst xs)) :
  ∃ (its:List Value) (n:Nat),bO xs its∧s.heap.get? p=some { cls:=.type "list",data:=.seq its.toArray n }∧xs.length≤sizeLine:=by
 obtain⟨z,its,n,r,e⟩:=I.hok p _ h
 exact⟨its,n,r,e,z⟩
theorem Inv.lstUpd {pins:List (Addr×Obj)}{σ:St}{H:Hp}{s:Shared}{p:Addr}{xs ys:List V}{its its':List Value}{n n':Nat}{f:Obj→Obj} (I:Inv X pins σ H s) (h:H p=some (.lst xs))
  (ho:s.heap.get? p=some { cls:=.type "list",data:=.seq its.toArray n }) (hf:f { cls:=.type "list",data:=.seq its.toArray n }={ cls:=.type "list",data:=.seq its'.toArray n' }) (r:bO ys its') (hz:ys.length≤sizeLine) (t:Nat) :
  Inv X pins σ (upd H p (.lst ys)) { s with heap:=s.heap.update p f,toks:=t }:=by
 have e:(s.heap.update p f).get? p=some { cls:=.type "list",data:=.seq its'.toArray n' }:=by
  rw[Heap.get?_update_self f ho (by rw[hf] <;> rfl),hf]
 refine I.write (x:=p) (e:=p) (by rw[h];trivial) (.inl rfl) (fun b u hb q=>(Heap.get?_update_other _ _ (Ne.symm hb)).trans q) ⟨_,e⟩ ?_
 exact⟨hz,its',n',r,e⟩
noncomputable def rSetL:V→V→V→Hp→(Hp→Prop)→Prop:=fun o i v H Q=>∃ p xs k j,o=.ref p∧i=.int k∧H p=some (.lst xs)∧ixN xs.length k=some j∧Q (upd H p (.lst (xs.set j v)))
theorem set_list:PSet X rSetL:=by
 intro pins s σ H o i v ov iv u Q I ro ri rv h
 obtain⟨p,xs,k,j,rfl,rfl,hp,hj,q⟩:=h
 cases ro
 obtain⟨t,rfl⟩:=ri
 obtain⟨its,n,r,ho,hz⟩:=I.lst hp
 obtain⟨h1,h2,h3,h4⟩:=ixN_seq hj
 have hl:=r.length
 have hn:=line63
 have I':Inv X pins σ (upd H p (.lst (xs.set j v))) { s with heap:=s.heap.update p (Obj.mapSeq (·.setIfInBounds j u)) }:=
  I.lstUpd hp ho (mapSeq_set its n j u) (r.set rv j) (by rw[List.length_set];exact hz) s.toks
 by_cases h0:0≤k
 ·have hk:k.toNat=j:=by
   rw[seqIndex_of h0 h4] at h1
   exact Option.some.inj h1
  exact PySem.W.ki_setAt ho h0 (by omega) (by rw[List.size_toArray,← hl];exact h4) (by rw[hk];exact⟨_,I',q⟩)
 ·have hk:(k+(its.toArray.size:Int)).toNat=j:=by
   rw[seqIndex_neg (by omega) h3] at h1
   rw[List.size_toArray,← hl]
   exact Option.some.inj h1
  exact PySem.W.ki_setBack ho (by omega) (by rw[List.size_toArray,← hl];exact h3) (by omega) (by rw[hk];exact⟨_,I',q⟩)
noncomputable def flatV:V→Bool
 | .non=>true
 | .bl _=>true
 | .int _=>true
 | .str _=>true
 | _=>false
noncomputable def eqV:V→V→Bool
 | .non,.non=>true
 | .bl a,.bl b=>a == b
 | .bl a,.int b=>(if a then 1 else 0) == b
 | .int a,.bl b=>a == (if b then 1 else 0)
 | .int a,.int b=>a == b
 | .str a,.str b=>a == b
 | _,_=>false
theorem eqAt_V {A:Around}{s:Shared}{y x:V}{u v:Value} (ry:bK y u) (rx:bK x v) (fy:flatV y=true) (fx:flatV x=true):SeqAt.EqAt A s u v (eqV y x):=by
 cases y with
 | non=>
  cases ry
  cases x with
  | non=>cases rx;exact SeqAt.EqAt.same _
  | bl b=>cases rx;exact SeqAt.EqAt.none_bool b
  | int b=>obtain⟨t,rfl⟩:=rx;exact SeqAt.EqAt.none_int b t
  | str b=>obtain⟨t,rfl⟩:=rx;exact SeqAt.EqAt.none_str b t
  | _=>exact absurd (show false=true from fx) Bool.false_ne_true
 | bl a=>
  cases ry
  cases x with
  | non=>cases rx;exact SeqAt.EqAt.bool_none a
  | bl b=>cases rx;exact SeqAt.EqAt.bool_bool a b
  | int b=>obtain⟨t,rfl⟩:=rx;exact SeqAt.EqAt.bool_int a b t
  | str b=>obtain⟨t,rfl⟩:=rx;exact SeqAt.EqAt.bool_str a b t
  | _=>exact absurd (show false=true from fx) Bool.false_ne_true
 | int a=>
  obtain⟨t',rfl⟩:=ry
  cases x with
  | non=>cases rx;exact SeqAt.EqAt.int_none a t'
  | bl b=>cases rx;exact SeqAt.EqAt.int_bool a t' b
  | int b=>obtain⟨t,rfl⟩:=rx;exact SeqAt.EqAt.int_int a t' b t
  | str b=>obtain⟨t,rfl⟩:=rx;exact SeqAt.EqAt.int_str a t' b t
  | _=>exact absurd (show false=true from fx) Bool.false_ne_true
 | str a=>
  obtain⟨t',rfl⟩:=ry
  cases x with
  | non=>cases rx;exact SeqAt.EqAt.str_none a t'
  | bl b=>cases rx;exact SeqAt.EqAt.str_bool a t' b
  | int b=>obtain⟨t,rfl⟩:=rx;exact SeqAt.EqAt.str_int a t' b t
  | str b=>obtain⟨t,rfl⟩:=rx;exact SeqAt.EqAt.str_str a t' b t
  | _=>exact absurd (show false=true from fx) Bool.false_ne_true
 | _=>exact absurd (show false=true from fy) Bool.false_ne_true
noncomputable def eqU (x:V) (u:Value):Bool:=match u with
 | .none=>eqV .non x
 | .bool b=>eqV (.bl b) x
 | .int i _=>eqV (.int i) x
 | .str z _=>eqV (.str z) x
 | _=>false
theorem eqU_of {x y:V}{u:Value} (r:bK y u) (f:flatV y=true):eqU x u=eqV y x:=by
 cases y with
 | non=>cases r;rfl
 | bl b=>cases r;rfl
 | int i=>obtain⟨t,rfl⟩:=r;rfl
 | str z=>obtain⟨t,rfl⟩:=r;rfl
 | _=>exact absurd (show false=true from f) Bool.false_ne_true
theorem any_eqU {x:V}:∀ {xs:List V}{us:List Value},bO xs us→xs.all flatV=true→us.any (eqU x)=xs.any fun y=>eqV y x
 | _,_,.nil,_=>rfl
 | y::xs,u::us,.cons r t,f=>by
  rw[List.all_cons,Bool.and_eq_true] at f
  rw[List.any_cons,List.any_cons,eqU_of r f.1,any_eqU t f.2]
theorem mem_eqAt {A:Around}{s:Shared}{x:V}{v:Value} (rx:bK x v) (fx:flatV x=true):∀ {xs:List V}{us:List Value},bO xs us→xs.all flatV=true→∀ u∈us,SeqAt.EqAt A s u v (eqU x u)
 | _,_,.nil,_=>fun u hu=>by cases hu
 | y::xs,u::us,.cons r t,f=>fun u' hu=>by
  rw[List.all_cons,Bool.and_eq_true] at f
  rcases List.mem_cons.mp hu with rfl | hu
  ·rw[eqU_of r f.1];exact eqAt_V r rx f.1 fx
  ·exact mem_eqAt rx fx t f.2 u' hu
noncomputable def inV (x:V) (xs:List V):Bool:=xs.any fun y=>eqV y x
noncomputable def rIn (K:PySem.W.Frag) (neg:Bool):R2:=fun x y H Q=>∃ p xs,y=.ref p∧(bY K H p xs∨bR K H p xs)∧flatV x=true∧xs.all flatV=true∧Q (.bl (if neg then !inV x xs else inV x xs)) H
theorem op_in_seq:OpR X (compareOp .In) (rIn X.K false):=by
 intro pins s σ H x y v u Q I rx ry h
 obtain⟨p,xs,rfl,hq,fx,fs,q⟩:=h
 cases ry
 rcases hq with hq | hq
 ·obtain⟨its,r,pl,hz⟩:=I.list hq
  refine SeqAt.in_listAt (eqU x) pl.isList (fun w hw=>mem_eqAt rx fx r fs w (by simpa using hw)) ⟨.bl _,H,I,rfl,?_⟩
  rw[show its.toArray.any (eqU x)=its.any (eqU x) by simp,any_eqU r fs]
  exact q
 ·obtain⟨its,r,pl,hz⟩:=I.tuple hq
  refine SeqAt.in_tupleAt (eqU x) pl (fun w hw=>mem_eqAt rx fx r fs w (by simpa using hw)) ⟨.bl _,H,I,rfl,?_⟩
  rw[show its.toArray.any (eqU x)=its.any (eqU x) by simp,any_eqU r fs]
  exact q
theorem call_len_seq:CallR X (.builtin "len") (fun xs H Q=>∃ p ys,xs=[.ref p]∧(bY X.K H p ys∨bR X.K H p ys)∧Q (.int ys.length) H):=by
 intro pins s σ H xs us Q I r h
 obtain⟨p,ys,rfl,hq,q⟩:=h
 obtain⟨u,rfl,rx⟩:=vals1 r
 cases rx
 have hn:=line63
 rcases hq with hq | hq
 ·obtain⟨its,r',pl,hz⟩:=I.list hq
  have hlen:=r'.length
  exact Calls.call_len_list pl.isList (by simp only [List.size_toArray] <;> omega) ⟨.int ys.length,H,I.tok _,⟨s.toks+1,by rw[List.size_toArray,hlen]⟩,q⟩
 ·obtain⟨its,r',pl,hz⟩:=I.tuple hq
  have hlen:=r'.length
  exact len_tuple pl (by simp only [List.size_toArray] <;> omega) ⟨.int ys.length,H,I.tok _,⟨s.toks+1,by rw[List.size_toArray,hlen]⟩,q⟩
theorem call_list_of:CallR X (.type "list") (fun xs H Q=>∃ p ys,xs=[.ref p]∧(bY X.K H p ys∨bR X.K H p ys)∧∀ l,H l=none→Q (.ref l) (upd H l (.lst ys))):=by
 intro pins s σ H xs us Q I r h
 obtain⟨p,ys,rfl,hq,q⟩:=h
 obtain⟨u,rfl,rx⟩:=vals1 r
 cases rx
 have fin:∀ (its:List Value),bO ys its→ys.length≤sizeLine→∀ (h':Heap) (c':Nat),(∀ b o',s.heap.get? b=some o'→h'.get? b=some o')→
   h'.get? s.heap.objs.size=some { cls:=.type "list",dict:=none,data:=.seq its.toArray c',slots:=#[] }→EP X pins σ Q (.ref s.heap.objs.size) { s with heap:=h' }:=fun its r' hz h' c' kp e=>
  ⟨.ref s.heap.objs.size,_,I.laid (t':=s.toks) kp (Nat.le_refl _) (show dD X.prog X.w _ h' _ (.lst ys) from ⟨hz,its,c',r',e⟩),rfl,q _ (I.hok.fresh (Nat.le_refl _))⟩
 rcases hq with hq | hq
 ·obtain⟨its,r',pl,hz⟩:=I.list hq
  have hlen:=r'.length
  obtain⟨o,ho,hc,n,hd⟩:=pl.isList
  exact call_list_seq p (.inl rfl) ho hc hd (fun h' c' kp e=>fin its r' hz h' c' kp e) (by simp only [List.size_toArray] <;> omega)
 ·obtain⟨its,r',pl,hz⟩:=I.tuple hq
  have hlen:=r'.length
  obtain⟨o,ho,hc,n,hd⟩:=pl
  exact call_list_seq p (.inr rfl) ho hc hd (fun h' c' kp e=>fin its r' hz h' c' kp e) (by simp only [List.size_toArray] <;> omega)
theorem call_tuple_of:CallR X (.type "tuple") (fun xs H Q=>∃ p ys,xs=[.ref p]∧((bY X.K H p ys∧∀ l,H l=none→Q (.ref l) (upd H l (.tup ys)))∨(bR X.K H p ys∧Q (.ref p) H))):=by
 intro pins s σ H xs us Q I r h
 obtain⟨p,ys,rfl,h⟩:=h
 obtain⟨u,rfl,rx⟩:=vals1 r
 cases rx
 rcases h with ⟨hq,q⟩ | ⟨hq,q⟩
 ·obtain⟨its,r',pl,hz⟩:=I.list hq
  have hlen:=r'.length
  refine call_tuple_list pl.isList (fun h' kp=>?_) (by simp only [List.size_toArray] <;> omega)
  have I1:Inv X pins σ H { s with heap:=h' }:=I.kept (t':=s.toks) kp
  have I2:Inv X pins σ (upd H h'.objs.size (.tup ys)) { s with heap:=h'.push { cls:=.type "tuple",data:=.seq its.toArray } }:=
   I1.laid (t':=s.toks) (fun b o e=>Heap.get?_push_of_some _ e) (Nat.le_refl _) (show dD X.prog X.w _ _ _ (.tup ys) from ⟨hz,its,r',IsTup.new _ _⟩)
  exact⟨.ref h'.objs.size,_,I2,rfl,q _ (I1.hok.fresh (Nat.le_refl _))⟩
 ·obtain⟨its,r',pl,hz⟩:=I.tuple hq
  exact call_tuple_same pl ⟨.ref p,H,I,rfl,q⟩
noncomputable def tyV (K:PySem.W.Frag) (T:String) (x:V) (H:Hp):Prop:=match x with
 | .str _=>T = "str"
 | .int _=>T = "int"
 | .ref p=>(T = "list" ∧ ∃ xs,bY K H p xs)∨(T = "tuple" ∧ ∃ o,K.lookup p=some o∧o.cls=.type "tuple" ∧ o.dict=none)∨
   (T = "dict" ∧ ((∃ kvs,H p=some (.dK kvs))∨∃ kvs,H p=some (.dT kvs)))∨(T = "set" ∧ ∃ S n,H p=some (.set S n))
 | _=>False
theorem tyV_is {pins:List (Addr×Obj)}{σ:St}{H:Hp}{s:Shared}{T:String}{x:V}{v:Value} (I:Inv X pins σ H s) (r:bK x v) (ty:tyV X.K T x H) :
  s.TypeIs v T∧∀ a,v=.ref a→∃ ob,s.heap.get? a=some ob∧ob.dict=none:=by
 cases x with
 | str z=>
  obtain⟨t,rfl⟩:=r
  cases (show T = "str" from ty)
  exact⟨typeIs_str s z t,fun _ e=>nomatch e⟩
 | int i=>
  obtain⟨t,rfl⟩:=r
  cases (show T = "int" from ty)
  exact⟨typeIs_int s i t,fun _ e=>nomatch e⟩
 | ref p=>
  cases r
  rcases ty with ⟨rfl,xs,hq⟩ | ⟨rfl,o,hk,hc,hd⟩ | ⟨rfl,hk⟩ | ⟨rfl,S,n,hk⟩
  ·obtain⟨its,_,pl,_⟩:=I.list hq
   refine⟨pl.isList.typeIs,fun a e=>?_⟩
   cases e
   obtain⟨o,n,e,c,hd,_⟩:=pl
   exact⟨o,e,hd⟩
  ·refine⟨⟨o,I.kIn p o hk,hc⟩,fun a e=>?_⟩
   cases e
   exact⟨o,I.kIn _ o hk,hd⟩
  ·have z:∃ o,s.heap.get? p=some o∧o.ExactDict:=by
    rcases hk with ⟨kvs,hk⟩ | ⟨kvs,hk⟩
    ·obtain⟨_,_,_,_,o,_,_,e,ex,_⟩:=I.hok p _ hk
     exact⟨o,e,ex⟩
    ·obtain⟨_,_,_,_,o,_,_,e,ex,_⟩:=I.hok p _ hk
     exact⟨o,e,ex⟩
   obtain⟨o,e,ex⟩:=z
   refine⟨⟨o,e,ex.1⟩,fun a e2=>?_⟩
   cases e2
   exact⟨o,e,ex.2.1⟩
  ·obtain⟨o,_,_,_,e,ex,_⟩:=I.hok p _ hk
   refine⟨⟨o,e,ex.1⟩,fun a e2=>?_⟩
   cases e2
   exact⟨o,e,ex.2.1⟩
 | _=>exact False.elim ty
noncomputable def tBM (K:PySem.W.Frag) (T:String) (r:V→List V→Hp→VK→Prop) (to:TE) (t:TA):TE:=fun σ H Q=>to σ H fun x H1=>tyV K T x H1∧t σ H1 fun xs H2=>r x xs H2 Q
variable {o e:Expr}{es:List Expr}{to:TE}{t:TA}{name:Str}{apos cpos:Pos}{T id:String}{r:V→List V→Hp→VK→Prop}
theorem pe_bm (pa:PlainAttrs T) (slot:Slot T name id) (hty:typeOf (.builtin id)=pure (.type "method_descriptor")) (hm:MtR X id r) (ho:PE X o to) (ha:PA X (e::es) t)
  (hbase:attributeBase o name X.env (eval o X.env)=eval o X.env:=by rfl)
  (hfew:((backTo cpos (starEach (e::es) X.env)).all (fun x=>!x.1) && (backToKw cpos (keywordEach [] X.env)).all (fun x=>x.1.isSome)
   && decide ((e::es).length+([]:List Keyword).length+(if ([]:List Keyword).isEmpty then 0 else 1) < 30))=true:=by rfl)
  (hline:(apos.endLine == cpos.line)=true:=by rfl) (hs:starEach (e::es) X.env=(false,eval e X.env)::starEach es X.env:=by rfl) (hplain:(backTo cpos (starEach es X.env)).any (·.1)=false:=by rfl) :
  PE X (.Call (.Attribute o name apos) (e::es) [] cpos) (tBM X.K T r to t):=by
 intro pins s σ H Q I h
 refine wpAny_Call_method_late hbase hfew hline rfl (cU (ho pins s σ H _ I h) fun v s1 ⟨x,H1,I1,r1,ty,q1⟩=>?_)
 obtain⟨h1,h2⟩:=tyV_is I1 r1 ty
 refine⟨T,id,pa,slot,hty,h1,h2,?_⟩
 have hA:=ha cpos pins s1 σ H1 _ I1 q1
 rw[hs] at hA ⊢
 refine Calls.callWith_builtin (by show (false || (backTo cpos (starEach es X.env)).any (·.1))=false;rw[hplain] <;> rfl) (Calls.evalArgs_plain ?_)
 exact cU hA fun us s2 ⟨vs,H2,I2,r2,q2⟩=>hm pins s2 σ H2 x vs v us Q I2 r1 r2 q2
end
end L2
namespace L2
open PySem PySem.Spec PyProof.Rows
noncomputable def MtM (X:Cx) (id:String) (r:V→List V→Hp→VK→Prop):Prop:=
 ∀ (pins:List (Addr×Obj)) (s:Shared) (σ:St) (H:Hp) (x:V) (xs:List V) (v:Value) (us:List Value) (Q:VK),Inv X pins σ H s→bK x v→bO xs us→r x xs H Q→
  wpAny (model X.prog X.w) X.A (call (.builtin id) (v::us)) (EP X pins σ Q) X.xe s
theorem bO.one {x:V}{us:List Value} (h:bO [x] us):∃ u,us=[u]∧bK x u:=vals1 h
theorem bO.two {x y:V}{us:List Value} (h:bO [x,y] us):∃ u v,us=[u,v]∧bK x u∧bK y v:=vals2 h
theorem bO.rep {xs:List V}{us:List Value} (h:bO xs us):∀ k:Nat,bO (List.replicate k xs).flatten (List.replicate k us).flatten
 | 0=>.nil
 | k+1=>by
  rw[List.replicate_succ,List.replicate_succ,List.flatten_cons,List.flatten_cons]
  exact bO.append h (bO.rep h k)
theorem foldl_rep (its:List Value):∀ (k:Nat) (acc:List Value),
  List.foldl (fun x1 x2=>x1++x2) acc.toArray (List.replicate k its.toArray)=(acc++(List.replicate k its).flatten).toArray
 | 0,acc=>by simp
 | k+1,acc=>by
  have e:acc.toArray++its.toArray=(acc++its).toArray:=by simp
  have e2:(acc++its)++(List.replicate k its).flatten=acc++(List.replicate (k+1) its).flatten:=by
   rw[List.replicate_succ,List.flatten_cons,List.append_assoc]
  rw[← e2,← foldl_rep its k (acc++its),← e,List.replicate_succ,List.foldl_cons]
section
variable {X:Cx}{pins:List (Addr×Obj)}{σ:St}{H:Hp}{s:Shared}{l b:Addr}{xs ys zs:List V}
theorem Inv.lset {its its':List Value}{n:Nat}{f:Array Value→Array Value}{t':Nat} (I:Inv X pins σ H s) (hH:H l=some (.lst xs))
  (e:s.heap.get? l=some { cls:=.type "list",data:=.seq its.toArray n }) (hf:f its.toArray=its'.toArray) (hv:bO ys its') (hz:ys.length≤sizeLine) :
  Inv X pins σ (upd H l (.lst ys)) { s with heap:=s.heap.update l (Obj.mapSeq f),toks:=t' }:=by
 have q:=PySem.IsL.update e f
 rw[hf] at q
 refine I.write (x:=l) (e:=l) (by rw[hH];exact trivial) (.inl rfl) (fun b' u hb hu=>(Heap.get?_update_other s.heap (Obj.mapSeq f) (Ne.symm hb)).trans hu) ⟨_,q⟩ ?_
 exact⟨hz,its',_,hv,q⟩
theorem Inv.lnew {its:List Value}{t':Nat} (I:Inv X pins σ H s) (hv:bO ys its) (hz:ys.length≤sizeLine) :
  Inv X pins σ (upd H s.heap.objs.size (.lst ys)) { s with heap:=s.heap.push { cls:=.type "list",data:=.seq its.toArray },toks:=t' }:=
 I.laid (fun _ _ q=>Heap.get?_push_of_some _ q) (Nat.le_refl _) ⟨hz,its,0,hv,Heap.get?_push_size _ rfl⟩
theorem Inv.fresh (I:Inv X pins σ H s):H s.heap.objs.size=none:=I.hok.fresh (Nat.le_refl _)
theorem Inv.lstM (I:Inv X pins σ H s) (hH:H l=some (.lst xs)):xs.length≤sizeLine∧∃ (its:List Value) (n:Nat),bO xs its∧xs.length=its.length∧s.heap.get? l=some { cls:=.type "list",data:=.seq its.toArray n }:=by
 obtain⟨z,its,n,r,e⟩:=I.hok l _ hH
 exact⟨z,its,n,r,r.length,e⟩
theorem notLongL {n:Nat} (h:n≤sizeLine):Builtin.List.listTooLong n=false:=by
 unfold Builtin.List.listTooLong
 exact decide_eq_false (by omega)
end
section
variable {X:Cx}
noncomputable def rAppend:V→List V→Hp→VK→Prop:=fun x vs H Q=>∃ l xs y,x=.ref l∧vs=[y]∧H l=some (.lst xs)∧xs.length < sizeLine∧Q .non (upd H l (.lst (xs++[y])))
theorem d4:MtM X "list.append" rAppend:=by
 intro pins s σ H x vs v us Q I rx rv h
 obtain⟨l,xs,y,rfl,rfl,hH,hz,q⟩:=h
 cases rx
 obtain⟨u,rfl,ru⟩:=rv.one
 obtain⟨z,its,n,r,hl,e⟩:=I.lstM hH
 refine call_meets F.slot_list_append ⟨_,e,rfl⟩ F.entry_list_append (F.args_list_append_2 _ _) (PySem.list_append l its.toArray n u (by rw[List.size_toArray];omega)) ⟨e,?_⟩
 refine⟨.non,_,I.lset (its':=its++[u]) hH e (by simp) (r.append (.cons ru .nil)) ?_,rfl,q⟩
 rw[List.length_append,List.length_singleton]
 omega
noncomputable def rExtend:V→List V→Hp→VK→Prop:=fun x vs H Q=>∃ l b xs zs,x=.ref l∧vs=[.ref b]∧H l=some (.lst xs)∧H b=some (.lst zs)∧xs.length+zs.length≤sizeLine∧Q .non (upd H l (.lst (xs++zs)))
theorem mt_extend:MtM X "list.extend" rExtend:=by
 intro pins s σ H x vs v us Q I rx rv h
 obtain⟨l,b,xs,zs,rfl,rfl,hH,hB,hz,q⟩:=h
 cases rx
 obtain⟨u,rfl,ru⟩:=rv.one
 cases ru
 obtain⟨z,its,n,r,hl,e⟩:=I.lstM hH
 obtain⟨z2,its2,n2,r2,hl2,e2⟩:=I.lstM hB
 have hsz:its.toArray.size+its2.toArray.size≤sizeLine:=by rw[List.size_toArray,List.size_toArray];omega
 have hlong:¬ (!its.toArray.isEmpty && Builtin.List.listTooLong (its.toArray.size+its2.toArray.size))=true:=by
  rw[notLongL hsz,Bool.and_false]
  exact Bool.false_ne_true
 refine call_meets F.slot_list_extend ⟨_,e,rfl⟩ F.entry_list_extend (F.args_list_extend_2 _ _)
  (AutoSeq1.list_extend_list_list_0 l its.toArray n b its2.toArray n2 hlong (by rw[List.size_toArray];omega) (by omega)) ⟨e,e2,?_⟩
 refine⟨.non,_,I.lset (its':=its++its2) hH e (by simp) (r.append r2) ?_,rfl,q⟩
 rw[List.length_append]
 omega
noncomputable def rCat:R2:=fun x y H Q=>∃ l b xs zs,x=.ref l∧y=.ref b∧H l=some (.lst xs)∧H b=some (.lst zs)∧xs.length+zs.length≤sizeLine∧∀ p,H p=none→Q (.ref p) (upd H p (.lst (xs++zs)))
theorem op_cat:OpR X (binaryOp .Add) rCat:=by
 intro pins s σ H x y v u Q I rx ry h
 obtain⟨l,b,xs,zs,rfl,rfl,hH,hB,hz,q⟩:=h
 cases rx
 cases ry
 obtain⟨z,its,n,r,hl,e⟩:=I.lstM hH
 obtain⟨z2,its2,n2,r2,hl2,e2⟩:=I.lstM hB
 refine PySem.P.add_list e e2 ?_ (by rw[List.size_toArray,List.size_toArray];omega)
 have ea:its.toArray++its2.toArray=(its++its2).toArray:=by simp
 rw[ea]
 exact⟨.ref _,_,I.lnew (t':=s.toks) (r.append r2) (by rw[List.length_append];omega),rfl,q _ I.fresh⟩
noncomputable def rRep:R2:=fun x y H Q=>∃ l k xs,x=.ref l∧y=.int k∧H l=some (.lst xs)∧-(2 ^ 63)≤k∧k < 2 ^ 63∧xs.length * k.toNat≤sizeLine∧
 ∀ p,H p=none→Q (.ref p) (upd H p (.lst (List.replicate k.toNat xs).flatten))
theorem len_rep {α:Type} (xs:List α) (k:Nat):(List.replicate k xs).flatten.length=k * xs.length:=by
 induction k with
 | zero=>simp
 | succ k ih=>rw[List.replicate_succ,List.flatten_cons,List.length_append,ih,Nat.succ_mul,Nat.add_comm]
theorem op_rep:OpR X (binaryOp .Mult) rRep:=by
 intro pins s σ H x y v u Q I rx ry h
 obtain⟨l,k,xs,rfl,rfl,hH,h1,h2,hz,q⟩:=h
 cases rx
 obtain⟨t,rfl⟩:=ry
 obtain⟨z,its,n,r,hl,e⟩:=I.lstM hH
 have hlen:its.toArray.size * k.toNat≤sizeLine:=by rw[List.size_toArray,← hl];exact hz
 have hcap:¬ its.toArray.size * k.toNat > (2 ^ 63 - 1) / 8:=by
  have:(sizeLine:Nat)≤(2 ^ 63 - 1) / 8:=by decide
  omega
 have hfit:¬ (!Builtin.List.listFitsIndex k)=true:=by
  rw[fitsIndex_both h1 h2]
  exact Bool.false_ne_true
 have hlong:¬ Builtin.List.listTooLong (its.toArray.size * k.toNat)=true:=by
  rw[notLongL hlen]
  exact Bool.false_ne_true
 have hnew:List.foldl (fun x1 x2=>x1++x2) #[] (List.replicate (if its.toArray.isEmpty=true then 0 else k.toNat) its.toArray)=(List.replicate k.toNat its).flatten.toArray:=by
  have f0:∀ m:Nat,List.foldl (fun x1 x2=>x1++x2) #[] (List.replicate m its.toArray)=(List.replicate m its).flatten.toArray:=fun m=>by
   have:=foldl_rep its m []
   rw[List.nil_append] at this
   exact this
  rw[f0]
  cases its with
  | nil=>simp
  | cons a r'=>rw[if_neg (by simp)]
 refine wpAny_binaryOp_repeat_ref (T := "list") (U := "int") (by decide) ⟨_,e,rfl⟩ (fun s'=>typeIs_int s' k t) noFill_list_mul F.fills_int_mul F.slot_int_rmul repeat_list F.slot_int_index.lookup
  (call_meets F.slot_int_rmul (typeIs_int s k t) F.entry_int_rmul (F.args_int_rmul_2 _ _) (int___rmul___int_list k t l its.toArray n)
   ⟨e,rfl,⟨_,e,rfl⟩,call_meets F.slot_list_mul ⟨_,e,rfl⟩ F.entry_list_mul (F.args_list_mul_2 _ _) (AutoListH.list___mul___list_int_3 l its.toArray n k t hfit hcap hlong) ⟨e,?_⟩⟩)
 rw[hnew]
 exact⟨.ref _,_,I.lnew (t':=s.toks) (r.rep k.toNat) (by rw[len_rep,Nat.mul_comm];exact hz),rfl,q _ I.fresh⟩
end
section
variable {prog:Program}{w:World}{A:Around}{E:Value→Shared→Prop}{s:Shared}
end
section
variable {X:Cx}
end
end L2
namespace L2
open PySem PySem.Spec PyProof.Rows
section
variable {κ:Type} [DecidableEq κ]
noncomputable def eM (kvs:List (κ×V)) (k:κ):Option V:=(kvs.find? fun kv=>decide (kv.1=k)).map (·.2)
noncomputable def putK (kvs:List (κ×V)) (k:κ) (v:V):List (κ×V):=
 if (kvs.any fun kv=>decide (kv.1=k))=true then kvs.map (fun kv=>if kv.1=k then (kv.1,v) else kv) else kvs++[(k,v)]
theorem dO {p:κ×V}{r:List (κ×V)}{k:κ} (e:p.1=k):eM (p::r) k=some p.2:=by simp [eM,List.find?_cons,e]
theorem dI {p:κ×V}{r:List (κ×V)}{k:κ} (e:¬ p.1=k):eM (p::r) k=eM r k:=by simp [eM,List.find?_cons,e]
theorem valV_any (k:κ):∀ kvs:List (κ×V),(kvs.any fun kv=>decide (kv.1=k))=(eM kvs k).isSome
 | []=>rfl
 | p::r=>by
  rw[List.any_cons]
  by_cases e:p.1=k
  ·simp only [dO e,decide_eq_true e,Bool.true_or,Option.isSome_some]
  ·rw[dI e,decide_eq_false e,Bool.false_or];exact valV_any k r
theorem valV_map (k j:κ) (y:V):∀ kvs:List (κ×V),eM (kvs.map fun kv=>if kv.1=k then (kv.1,y) else kv) j=(eM kvs j).map fun x=>if j=k then y else x
 | []=>rfl
 | p::r=>by
  have ih:=valV_map k j y r
  rw[List.map_cons]
  by_cases h:p.1=k
  ·rw[if_pos h]
   by_cases e:p.1=j
   ·rw[dO (p:=(p.1,y)) e,dO e,Option.map_some,if_pos (e.symm.trans h)]
   ·rw[dI (p:=(p.1,y)) e,dI e,ih]
  ·rw[if_neg h]
   by_cases e:p.1=j
   ·rw[dO (p:=p) e,dO e,Option.map_some,if_neg (fun z=>h (e.trans z))]
   ·rw[dI (p:=p) e,dI e,ih]
theorem valV_snoc (k j:κ) (y:V):∀ kvs:List (κ×V),eM kvs k=none→eM (kvs++[(k,y)]) j=if j=k then some y else eM kvs j
 | [],_=>by
  by_cases e:k=j
  ·rw[if_pos e.symm];exact dO (p:=(k,y)) e
  ·rw[if_neg (fun z=>e z.symm)];exact dI (p:=(k,y)) e
 | p::r,hn=>by
  rw[List.cons_append]
  have hk:¬ p.1=k:=fun z=>by rw[dO z] at hn;cases hn
  rw[dI hk] at hn
  have ih:=valV_snoc k j y r hn
  by_cases e:p.1=j
  ·rw[dO e,dO e,if_neg (fun z=>hk (e.trans z))]
  ·rw[dI e,dI e,ih]
theorem valV_put (kvs:List (κ×V)) (k j:κ) (y:V):eM (putK kvs k y) j=if j=k then some y else eM kvs j:=by
 unfold putK
 by_cases a:(kvs.any fun kv=>decide (kv.1=k))=true
 ·rw[if_pos a,valV_map]
  rw[valV_any] at a
  by_cases e:j=k
  ·obtain⟨x,hx⟩:=Option.isSome_iff_exists.mp a
   rw[if_pos e,e,hx,Option.map_some,if_pos rfl]
  ·rw[if_neg e]
   cases eM kvs j with
   | none=>rfl
   | some x=>rw[Option.map_some,if_neg e]
 ·rw[if_neg a]
  refine valV_snoc k j y kvs ?_
  rw[valV_any] at a
  cases q:eM kvs k with
  | none=>rfl
  | some x=>rw[q] at a;exact (a rfl).elim
theorem length_putK (kvs:List (κ×V)) (k:κ) (v:V):(putK kvs k v).length≤kvs.length+1:=by
 unfold putK
 split
 ·rw[List.length_map];omega
 ·rw[List.length_append,List.length_cons,List.length_nil];omega
theorem putK_new {kvs:List (κ×V)}{k:κ} (v:V) (h:eM kvs k=none):putK kvs k v=kvs++[(k,v)]:=by
 unfold putK
 rw[valV_any,h]
 exact if_neg (by decide)
theorem RelO.isSome_eq {o:Option V}{u:Option Value} (r:RelO o u):o.isSome=u.isSome:=by
 cases o with
 | none=>cases u with
  | none=>rfl
  | some _=>exact (show False from r).elim
 | some _=>cases u with
  | none=>exact (show False from r).elim
  | some _=>rfl
theorem RelO.getD {o:Option V}{u:Option Value}{d:V}{d':Value} (r:RelO o u) (rd:bK d d'):bK (o.getD d) (u.getD d'):=by
 cases o with
 | none=>cases u with
  | none=>exact rd
  | some _=>exact (show False from r).elim
 | some _=>cases u with
  | none=>exact (show False from r).elim
  | some _=>exact r
theorem KV.val {kvs:List (κ×V)}{vs:List (κ×Value)} (r:KV kvs vs) (k:κ):RelO (eM kvs k) (valueAt vs k):=by
 unfold KV at r
 induction r with
 | nil=>exact True.intro
 | @cons p q ps qs h t ih=>
  obtain⟨h1,h2⟩:=h
  by_cases e:p.1=k
  ·have e':q.1=k:=h1.symm.trans e
   have b:valueAt (q::qs) k=some q.2:=by simp [valueAt,List.find?_cons,e']
   rw[dO e,b];exact h2
  ·have e':¬ q.1=k:=fun z=>e (h1.trans z)
   have b:valueAt (q::qs) k=valueAt qs k:=by simp [valueAt,List.find?_cons,e']
   rw[dI e,b];exact ih
theorem KV.any {kvs:List (κ×V)}{vs:List (κ×Value)} (r:KV kvs vs) (k:κ):(kvs.any fun kv=>decide (kv.1=k))=vs.any fun kv=>decide (kv.1=k):=by
 unfold KV at r
 induction r with
 | nil=>rfl
 | cons h t ih=>rw[List.any_cons,List.any_cons,ih,h.1]
theorem KV.repl {kvs:List (κ×V)}{vs:List (κ×Value)} (r:KV kvs vs) (k:κ) {y:V}{u:Value} (ry:bK y u) :
  KV (kvs.map fun kv=>if kv.1=k then (kv.1,y) else kv) (vs.map fun kv=>if kv.1=k then (kv.1,u) else kv):=by
 unfold KV at r ⊢
 induction r with
 | nil=>exact .nil
 | @cons p q ps qs h t ih=>
  rw[List.map_cons,List.map_cons]
  refine .cons ?_ ih
  obtain⟨h1,h2⟩:=h
  by_cases e:p.1=k
  ·rw[if_pos e,if_pos (h1.symm.trans e)];exact⟨h1,ry⟩
  ·rw[if_neg e,if_neg (fun z=>e (h1.trans z))];exact⟨h1,h2⟩
theorem KV.put {kvs:List (κ×V)}{vs:List (κ×Value)} (r:KV kvs vs) (k:κ) {y:V}{u:Value} (ry:bK y u):KV (putK kvs k y) (stored vs k u):=by
 unfold putK stored
 rw[r.any k]
 by_cases e:(vs.any fun kv=>decide (kv.1=k))=true
 ·rw[if_pos e,if_pos e];exact r.repl k ry
 ·rw[if_neg e,if_neg e];exact Paired.snoc r ⟨rfl,ry⟩
theorem KV.length {kvs:List (κ×V)}{vs:List (κ×Value)} (r:KV kvs vs):kvs.length=vs.length:=Paired.length r
end
theorem kV_is {P:Program}{w:World}{k:eF}{u:Value} (r:bK (kV k) u):(cR P w).is k u=true:=by
 cases k with
 | inl i=>obtain⟨t,e⟩:=(show ∃ t,u=Value.int i t from r);subst e;exact mixKind_int P w i t
 | inr z=>cases z with
  | some x=>obtain⟨t,e⟩:=(show ∃ t,u=Value.str x t from r);subst e;exact mixKind_str P w x t
  | none=>obtain rfl:=(show u=Value.none from r);rfl
theorem items_are {P:Program}{w:World}:∀ {ks:List eF}{us:List Value},bO (ks.map kV) us→ItemsAre (cR P w) ks us
 | [],_,r=>by rw[List.map_nil] at r;cases r;exact .nil
 | k::ks,_,r=>by
  rw[List.map_cons] at r
  cases r with
  | cons h t=>exact .cons (kV_is h) (items_are t)
noncomputable abbrev KT (H:Hp):List (List eF×V)→List (List eF×Addr×Value)→Prop:=Paired fun p q=>p.1=q.1∧H q.2.1=some (.tup (p.1.map kV))∧bK p.2 q.2.2
theorem KT.val {H:Hp}{kvs:List (List eF×V)}{xs:List (List eF×Addr×Value)} (r:KT H kvs xs) (k:List eF):RelO (eM kvs k) ((atKey xs k).map (·.2)):=by
 induction r with
 | nil=>exact True.intro
 | @cons p q ps qs h t ih=>
  obtain⟨h1,_,h2⟩:=h
  by_cases e:p.1=k
  ·have e':q.1=k:=h1.symm.trans e
   have b:atKey (q::qs) k=some q.2:=by simp [atKey,List.find?_cons,e']
   rw[dO e,b];exact h2
  ·have e':¬ q.1=k:=fun z=>e (h1.trans z)
   have b:atKey (q::qs) k=atKey qs k:=by simp [atKey,List.find?_cons,e']
   rw[dI e,b];exact ih
theorem KT.repl {H:Hp}{kvs:List (List eF×V)}{xs:List (List eF×Addr×Value)} (r:KT H kvs xs) (k:List eF) {y:V}{u:Value} (ry:bK y u) :
  KT H (kvs.map fun kv=>if kv.1=k then (kv.1,y) else kv) (xs.map (putAt k u)):=by
 induction r with
 | nil=>exact .nil
 | @cons p q ps qs h t ih=>
  rw[List.map_cons,List.map_cons]
  refine .cons ?_ ih
  obtain⟨h1,h2,h3⟩:=h
  unfold putAt
  by_cases e:p.1=k
  ·rw[if_pos e,if_pos (h1.symm.trans e)];exact⟨h1,h2,ry⟩
  ·rw[if_neg e,if_neg (fun z=>e (h1.trans z))];exact⟨h1,h2,h3⟩
theorem KT.put {H:Hp}{kvs:List (List eF×V)}{xs:List (List eF×Addr×Value)} (r:KT H kvs xs) (k:List eF) {b:Addr}{y:V}{u:Value} (hb:H b=some (.tup (k.map kV))) (ry:bK y u) :
  KT H (putK kvs k y) (storedH xs k b u):=by
 have e:(kvs.any fun kv=>decide (kv.1=k))=(atKey xs k).isSome:=by
  rw[valV_any,(r.val k).isSome_eq,Option.isSome_map]
 unfold putK storedH
 rw[e]
 by_cases q:(atKey xs k).isSome=true
 ·rw[if_pos q,if_pos q];exact r.repl k ry
 ·rw[if_neg q,if_neg q];exact Paired.snoc r ⟨rfl,hb,ry⟩
theorem KT.keeps {H H':Hp}{kvs:List (List eF×V)}{xs:List (List eF×Addr×Value)} (r:KT H kvs xs) (ht:∀ b ys,H b=some (.tup ys)→H' b=some (.tup ys)):KT H' kvs xs:=
 Paired.mapP r fun _ _ z=>⟨z.1,ht _ _ z.2.1,z.2.2⟩
section
variable {P:Program}{w:World}{H:Hp}{h:Heap}{a:Addr}
theorem rd_of {u:HO} (ok:HOk P w H h) (e:Rd H a u):dD P w H h a u:=e.ok ok
theorem dk_rd {kvs:List (eF×V)} (ok:HOk P w H h) (e:Rd H a (.dK kvs)):kvs.length≤sizeLine∧(a == sysModules)=false∧∃ vs,KV kvs vs∧h.DictOf (cR P w) a vs:=
 show dD P w H h a (.dK kvs) from rd_of ok e
theorem dk_of {kvs:List (eF×V)} (ok:HOk P w H h) (e:H a=some (.dK kvs)):kvs.length≤sizeLine∧(a == sysModules)=false∧∃ vs,KV kvs vs∧h.DictOf (cR P w) a vs:=dk_rd ok (.inl e)
theorem key_of {ks:List eF} (ok:HOk P w H h) (e:H a=some (.tup (ks.map kV))):(tupleKind (cR P w)).is h ks a:=by
 obtain⟨_,its,r,o,h1,h2,n,h3⟩:=(show dD P w H h a (.tup (ks.map kV)) from ok a _ e)
 exact⟨o,its.toArray,n,h1,h2,h3,by simpa using items_are r⟩
theorem dt_rd {kvs:List (List eF×V)} (ok:HOk P w H h) (e:Rd H a (.dT kvs)):kvs.length≤sizeLine∧(a == sysModules)=false∧
  ∃ xs,KT H kvs xs∧h.DictOfH (tupleKind (cR P w)) a xs:=by
 obtain⟨z,y,xs,r,o,es,ep,h1,h2,h3,h4,h5⟩:=(show dD P w H h a (.dT kvs) from rd_of ok e)
 refine⟨z,y,xs,r,o,es,ep,h1,h2,h3,h4,fun x hx=>?_,h5⟩
 have all:∀ {l:List (List eF×V)}{m:List (List eF×Addr×Value)},KT H l m→∀ x∈m,(tupleKind (cR P w)).is h x.1 x.2.1:=by
  intro l m q
  induction q with
  | nil=>intro x hx;exact nomatch hx
  | @cons p q ps qs hq t ih=>
   intro x hx
   rcases List.mem_cons.mp hx with e | hx
   ·subst e
    exact key_of ok (by rw[← hq.1];exact hq.2.1)
   ·exact ih x hx
 exact all r x hx
theorem dt_of {kvs:List (List eF×V)} (ok:HOk P w H h) (e:H a=some (.dT kvs)):kvs.length≤sizeLine∧(a == sysModules)=false∧
  ∃ xs,KT H kvs xs∧h.DictOfH (tupleKind (cR P w)) a xs:=dt_rd ok (.inl e)
end
noncomputable def DGet (H:Hp) (a:Addr) (y:V) (r:Option V):Prop:=
 (∃ kvs k,Rd H a (.dK kvs)∧y=kV k∧r=eM kvs k)∨∃ kvs k b,Rd H a (.dT kvs)∧y=.ref b∧H b=some (.tup (k.map kV))∧r=eM kvs k
noncomputable def DPut (H:Hp) (a:Addr) (y v:V) (H':Hp):Prop:=
 (∃ kvs k,H a=some (.dK kvs)∧y=kV k∧kvs.length < sizeLine∧H'=upd H a (.dK (putK kvs k v)))∨
 ∃ kvs k b,H a=some (.dT kvs)∧y=.ref b∧H b=some (.tup (k.map kV))∧kvs.length < sizeLine∧H'=upd H a (.dT (putK kvs k v))
theorem DGet.k {H:Hp}{a:Addr}{kvs:List (eF×V)}{k:eF} (e:H a=some (.dK kvs)):DGet H a (kV k) (eM kvs k):=.inl ⟨kvs,k,.inl e,rfl,rfl⟩
theorem DPut.k {H:Hp}{a:Addr}{kvs:List (eF×V)}{k:eF}{v:V} (e:H a=some (.dK kvs)) (hl:kvs.length < sizeLine):DPut H a (kV k) v (upd H a (.dK (putK kvs k v))):=.inl ⟨kvs,k,e,rfl,hl,rfl⟩
section
variable {X:Cx}{pins:List (Addr×Obj)}{σ:St}{H:Hp}{s:Shared}{a:Addr}{y v:V}{u r:Value}{o:Option V}{A:Around}{E:Value→Shared→Prop}
theorem Inv.big (I:Inv X pins σ H s):sysModules < s.heap.objs.size:=by
 have h:mainGlobals < s.heap.objs.size:=(I.mod.glob.keeps I.bk).lt
 exact Nat.lt_trans (by decide) h
theorem d_getItem {Q:Value→Shared→Prop} (hu:A.units+1 < cLine) (I:Inv X pins σ H s) (g:DGet H a y (some v)) (ry:bK y u) (h:∀ w' s',Inv X pins σ H s'→bK v w'→Q w' s') :
  wpAny (model X.prog X.w) A (getItem (.ref a) u) Q E s:=by
 rcases g with ⟨kvs,k,e,ey,l⟩ | ⟨kvs,k,b,e,ey,eb,l⟩
 ·subst ey
  obtain⟨z,hd,vs,rel,dd⟩:=dk_rd I.hok e
  obtain⟨w',hw,rw'⟩:=RelO.some_of (v:=v) (o:=valueAt vs k) (by rw[l];exact rel.val k)
  exact wpAny_getItem_of (kV_is ry) dd.mapOf hw (h w' _ (I.tok _) rw')
 ·subst ey
  cases (show u=Value.ref b from ry)
  obtain⟨z,hd,xs,rel,dd⟩:=dt_rd I.hok e
  obtain⟨w',hw,rw'⟩:=RelO.some_of (v:=v) (o:=(atKey xs k).map (·.2)) (by rw[l];exact rel.val k)
  obtain⟨p,hp,hp2⟩:=Option.map_eq_some_iff.mp hw
  refine wpAny_getItem_heap (tupleKind_room_in1 hu) (key_of I.hok eb) dd hp ?_
  rw[hp2]
  exact h w' _ (I.tok _) rw'
theorem d_in {Q:Value→Shared→Prop} (hu:A.units+1 < cLine) (I:Inv X pins σ H s) (g:DGet H a y o) (ry:bK y u) (h:∀ s',Inv X pins σ H s'→Q (.bool o.isSome) s') :
  wpAny (model X.prog X.w) A (compareOp .In u (.ref a)) Q E s:=by
 rcases g with ⟨kvs,k,e,ey,l⟩ | ⟨kvs,k,b,e,ey,eb,l⟩
 ·subst ey
  obtain⟨z,hd,vs,rel,dd⟩:=dk_rd I.hok e
  refine wpAny_in_of (kV_is ry) hd dd.mapOf ?_
  rw[← (rel.val k).isSome_eq,← l]
  exact h _ (I.tok _)
 ·subst ey
  cases (show u=Value.ref b from ry)
  obtain⟨z,hd,xs,rel,dd⟩:=dt_rd I.hok e
  refine wpAny_in_heap (tupleKind_room_in1 hu) (key_of I.hok eb) hd dd ?_
  have q:=(rel.val k).isSome_eq
  rw[Option.isSome_map] at q
  rw[← q,← l]
  exact h _ (I.tok _)
theorem d_write {h':Heap}{t':Nat}{ob:HO} (I:Inv X pins σ H s) (mu:Mut (H a)) (hs:Heap.SameBut a s.heap h') (he:∃ q,h'.get? a=some q) (new:dD X.prog X.w (upd H a ob) h' a ob) :
  Inv X pins σ (upd H a ob) { s with heap:=h',toks:=t' }:=
 I.write (x:=a) (e:=a) mu (.inl rfl) (fun b q hb z=>(hs.2 b hb).trans z) he new
theorem dk_new {P:Program}{w:World}{H':Hp}{h':Heap}{kvs:List (eF×V)}{vs:List (eF×Value)} (z:kvs.length≤sizeLine) (hd:(a == sysModules)=false) (rel:KV kvs vs) (dd:h'.DictOf (cR P w) a vs) :
  dD P w H' h' a (.dK kvs):=⟨z,hd,vs,rel,dd⟩
theorem d_setItem {H':Hp}{Q:Unit→Shared→Prop} (hu:A.units+1 < cLine) (I:Inv X pins σ H s) (g:DPut H a y v H') (ry:bK y u) (rv:bK v r) (h:∀ s',Inv X pins σ H' s'→Q () s') :
  wpAny (model X.prog X.w) A (setItem (.ref a) u r) Q E s:=by
 rcases g with ⟨kvs,k,e,ey,l,eH⟩ | ⟨kvs,k,b,e,ey,eb,l,eH⟩
 ·subst ey eH
  obtain⟨z,hd,vs,rel,dd⟩:=dk_of I.hok e
  have hz:vs.length≤sizeLine:=by rw[← rel.length];exact z
  have hl:(putK kvs k v).length≤sizeLine:=by have:=length_putK kvs k v;omega
  refine wpAny_setItem_pairs (hsz:=hz) (kV_is ry) dd fun h' dd' hs=>h _ ?_
  have he:∃ q,h'.get? a=some q:=let ⟨q,_,_,hq,_⟩:=dd';⟨q,hq⟩
  exact d_write I (by rw[e];exact True.intro) hs he (dk_new hl hd (rel.put k rv) dd')
 ·subst ey eH
  cases (show u=Value.ref b from ry)
  obtain⟨z,hd,xs,rel,dd⟩:=dt_of I.hok e
  have hz:xs.length≤sizeLine:=by rw[← Paired.length rel];exact z
  have hl:(putK kvs k v).length≤sizeLine:=by have:=length_putK kvs k v;omega
  refine wpAny_setItem_heap (hsz:=hz) (tupleKind_room_in1 hu) (key_of I.hok eb) dd fun h' dd' hs=>h _ ?_
  obtain⟨q,es,ep,hq,h2,h3,h4,_,h5⟩:=dd'
  refine d_write I (by rw[e];exact True.intro) hs ⟨q,hq⟩ ⟨hl,hd,_,(rel.put k eb rv).keeps fun c ys ec=>?_,q,es,ep,hq,h2,h3,h4,h5⟩
  rw[aN (ne_of ec e (fun z=>nomatch z))]
  exact ec
end
section
variable {X:Cx}{pins:List (Addr×Obj)}{σ:St}{H:Hp}{s:Shared}{a:Addr}{kvs:List (eF×V)}{k:eF}{u:Value}{A:Around}{E:Value→Shared→Prop}
end
noncomputable def NoSl (i:Expr):Prop:=∀ ov iv,subscripted i false ov iv=operate [ov,iv] (getItem ov iv)
theorem subD_of {prog:Program}{w:World}{A:Around}{E:Value→Shared→Prop}{s:Shared}{env:Env}{value slice:Expr}{pos:Pos}{T id:String}{Q:Value→Shared→Prop}
  (hl:typeLookup (.type T) "__getitem__" = pure (some (.builtin id))) (hs:NoSl slice)
  (h:wpAny (model prog w) A (eval value env) (fun o s₁=>wpAny (model prog w) A (eval slice env) (fun i s₂=>s₂.TypeIs o T∧wpAny (model prog w) A (getItem o i) Q E s₂) E s₁) E s) :
  wpAny (model prog w) A (eval (.Subscript value slice pos) env) Q E s:=by
 refine Subscript_ (wpAny_mono h (fun o s₁ h₁=>wpAny_mono h₁ (fun i s₂ h₂=>?_) fun _ _ x=>x) fun _ _ x=>x)
 obtain⟨hT,h₂⟩:=h₂
 unfold subscriptTail
 refine wpAny_bind ?_
 rw[getitemInPython_of_ne hT.not_modules]
 refine wpAny_bind (wpAny_specialOf hT hl ?_)
 have fin:wpAny (model prog w) A (subscripted slice false o i) (fun r s₃=>wpAny (model prog w) A (letTemporaryGo value o r >>= fun _=>pure r) Q E s₃) E s₂:=by
  rw[hs o i]
  exact wpAny_operating (wpAny_mono h₂ (fun r s₃ h₃=>wpAny_bind (wpAny_letTemporaryGo (wpAny_pure h₃))) fun _ _ x=>x)
 first
  | exact wpAny_pure (wpAny_bind fin)
  | exact wpAny_bind (wpAny_pure (wpAny_bind fin))
  | exact wpAny_bind fin
theorem dict_typeIs {X:Cx}{pins:List (Addr×Obj)}{σ:St}{H:Hp}{s:Shared}{a:Addr}{y:V}{o:Option V} (I:Inv X pins σ H s) (g:DGet H a y o):s.TypeIs (.ref a) "dict" := by
 rcases g with ⟨kvs,k,e,_,_⟩ | ⟨kvs,k,b,e,_,_,_⟩
 ·obtain⟨_,_,vs,_,dd⟩:=dk_rd I.hok e
  exact dd.typeIs
 ·obtain⟨_,_,xs,_,dd⟩:=dt_rd I.hok e
  exact dd.typeIs
noncomputable def tDGet (td ty:TE):TE:=fun σ H Q=>td σ H fun x H1=>ty σ H1 fun y H2=>∃ a v,x=.ref a∧DGet H2 a y (some v)∧Q v H2
noncomputable def tDIn (ty td:TE):TE:=fun σ H Q=>ty σ H fun y H1=>td σ H1 fun x H2=>∃ a o,x=.ref a∧DGet H2 a y o∧Q (.bl o.isSome) H2
noncomputable def sDPut (td ty tv:TE):TS:=fun D σ H=>tv σ H fun v H1=>td σ H1 fun x H2=>ty σ H2 fun y H3=>∃ a H4,x=.ref a∧DPut H3 a y v H4∧D.nx σ H4
section
variable {X:Cx}{o i e value:Expr}{pos pos' tpos:Pos}{td ty tv:TE}
theorem pe_dget (hu:X.A.units+1 < cLine) (ho:PE X o td) (hi:PE X i ty) (hs:NoSl i):PE X (.Subscript o i pos) (tDGet td ty):=by
 intro pins s σ H Q I h
 refine subD_of PySem.F.slot_dict_getitem.lookup hs (cU (ho pins s σ H _ I h) fun u s1 ⟨x,H1,I1,rx,q1⟩=>cU (hi pins s1 σ H1 _ I1 q1) fun iv s2 ⟨y,H2,I2,ry,a,v,ex,g,q2⟩=>?_)
 subst ex
 obtain rfl:u=Value.ref a:=rx
 exact⟨dict_typeIs I2 g,d_getItem hu I2 g ry fun w' s3 I3 rw'=>⟨v,H2,I3,rw',q2⟩⟩
theorem pc_din (hu:X.A.units+1 < cLine) (hi:PE X i ty) (ho:PE X o td):PC X .In i o (tDIn ty td):=by
 intro pins s σ H Q I h
 refine cU (hi pins s σ H _ I h) fun iv s1 ⟨y,H1,I1,ry,q1⟩=>cU (ho pins s1 σ H1 _ I1 q1) fun u s2 ⟨x,H2,I2,rx,a,ov,ex,g,q2⟩=>?_
 subst ex
 obtain rfl:u=Value.ref a:=rx
 exact d_in hu I2 g ry fun s3 I3=>⟨.bl ov.isSome,H2,I3,rfl,q2⟩
theorem ps_dput (hu:X.A.units+1 < cLine) (ho:PE X o td) (hi:PE X i ty) (hv:PE X value tv) (hs:swapsWith value (some (.Subscript o i pos')) pos.line X.env=pure false) :
  PS X (.Assign [.Subscript o i pos'] value pos) (sDPut td ty tv):=by
 intro pins s σ H D I h
 refine wpAny_Assign_Subscript (cU (hv pins s σ H _ I h) fun r s1 ⟨v,H1,I1,rv,q1⟩=>cU (ho pins s1 σ H1 _ I1 q1) fun u s2 ⟨x,H2,I2,rx,q2⟩=>cU (hi pins s2 σ H2 _ I2 q2) fun iv s3 ⟨y,H3,I3,ry,a,H4,ex,g,q3⟩=>?_) hs
 subst ex
 obtain rfl:u=Value.ref a:=rx
 exact d_setItem hu I3 g ry rv fun s4 I4=>⟨σ,H4,I4,q3⟩
end
theorem dk_empty {P:Program}{w:World}{H:Hp} (h:Heap) (hb:sysModules < h.objs.size):dD P w H (h.push { cls:=.type "dict",data:=.dict #[] }) h.objs.size (.dK []):=
 ⟨Nat.zero_le _,beq_eq_false_iff_ne.mpr (Ne.symm (Nat.ne_of_lt hb)),[],.nil,Heap.DictOf.new h⟩
noncomputable def tDNewK:TE:=fun _ H Q=>∀ p,H p=none→Q (.ref p) (upd H p (.dK []))
section
variable {X:Cx}{pos:Pos}
theorem pe_dnewK:PE X (.Dict [] [] pos) tDNewK:=fun pins s σ H Q I h=>
 wpAny_Dict_empty ⟨.ref s.heap.objs.size,_,I.laid (a:=s.heap.objs.size) (o:=.dK []) (t':=s.toks) (fun _ _ q=>Heap.get?_push_of_some _ q) (Nat.le_refl _) (dk_empty s.heap I.big),rfl,h _ (I.hok.fresh (Nat.le_refl _))⟩
end
structure M1 (X:Cx) (o:Expr) (m:Str) (apos:Pos) (e:Expr) (cpos:Pos):Prop where
 base:attributeBase o m X.env (eval o X.env)=eval o X.env
 few:((backTo cpos (starEach [e] X.env)).all (fun x=>!x.1) && (backToKw cpos (keywordEach [] X.env)).all (fun x=>x.1.isSome)
  && decide (([e]:List Expr).length+([]:List Keyword).length+(if ([]:List Keyword).isEmpty then 0 else 1) < 30))=true
 line:(apos.endLine == cpos.line)=true
 trees:backTo cpos (starEach [e] X.env)=[(false,eval e X.env)]
structure M2 (X:Cx) (o:Expr) (m:Str) (apos:Pos) (e f:Expr) (cpos:Pos):Prop where
 base:attributeBase o m X.env (eval o X.env)=eval o X.env
 few:((backTo cpos (starEach [e,f] X.env)).all (fun x=>!x.1) && (backToKw cpos (keywordEach [] X.env)).all (fun x=>x.1.isSome)
  && decide (([e,f]:List Expr).length+([]:List Keyword).length+(if ([]:List Keyword).isEmpty then 0 else 1) < 30))=true
 line:(apos.endLine == cpos.line)=true
 trees:backTo cpos (starEach [e,f] X.env)=[(false,eval e X.env),(false,eval f X.env)]
noncomputable def IsD (H:Hp) (a:Addr):Prop:=(∃ kvs,Rd H a (.dK kvs))∨∃ kvs,Rd H a (.dT kvs)
theorem isD_at {X:Cx}{pins:List (Addr×Obj)}{σ:St}{H:Hp}{s:Shared}{a:Addr} (I:Inv X pins σ H s) (d:IsD H a) :
  s.TypeIs (.ref a) "dict" ∧ (∀ b,Value.ref a=.ref b→∃ ob,s.heap.get? b=some ob∧ob.dict=none)∧(a == sysModules)=false:=by
 rcases d with ⟨kvs,e⟩ | ⟨kvs,e⟩
 ·obtain⟨_,hd,vs,_,dd⟩:=dk_rd I.hok e
  refine⟨dd.typeIs,fun b q=>?_,hd⟩
  cases q
  obtain⟨ob,_,_,h1,h2,_⟩:=dd
  exact⟨ob,h1,h2.2.1⟩
 ·obtain⟨_,hd,xs,_,dd⟩:=dt_rd I.hok e
  refine⟨dd.typeIs,fun b q=>?_,hd⟩
  cases q
  obtain⟨ob,_,_,h1,h2,_⟩:=dd
  exact⟨ob,h1,h2.2.1⟩
section
variable {X:Cx}{pins:List (Addr×Obj)}{σ:St}{H:Hp}{s:Shared}{a:Addr}{y d:V}{u r:Value}{o:Option V}{A:Around}{E:Value→Shared→Prop}
theorem d_get1 {Q:Value→Shared→Prop} (hu:A.units+1 < cLine) (I:Inv X pins σ H s) (g:DGet H a y o) (ry:bK y u) (h:∀ w' s',Inv X pins σ H s'→bK (o.getD .non) w'→Q w' s') :
  wpAny (model X.prog X.w) A (call (.builtin "dict.get") [.ref a,u]) Q E s:=by
 rcases g with ⟨kvs,k,e,ey,l⟩ | ⟨kvs,k,b,e,ey,eb,l⟩
 ·subst ey
  obtain⟨z,hd,vs,rel,dd⟩:=dk_rd I.hok e
  refine call_meetsIn PySem.F.slot_dict_get dd.typeIs PySem.F.entry_dict_get (PySem.F.args_dict_get_2 _ _) (meets_dict_get (cR X.prog X.w) a (kV_is ry) hd) ⟨_,dd.mapOf,h _ _ (I.tok _) ?_⟩
  rw[l]
  exact (rel.val k).getD rfl
 ·subst ey
  cases (show u=Value.ref b from ry)
  obtain⟨z,hd,xs,rel,dd⟩:=dt_rd I.hok e
  refine call_meetsIn PySem.F.slot_dict_get dd.typeIs PySem.F.entry_dict_get (PySem.F.args_dict_get_2 _ _) (meetsH_dict_get (tupleKind (cR X.prog X.w)) a b hd) ⟨tupleKind_room_in1 hu,k,xs,key_of I.hok eb,dd,h _ _ (I.tok _) ?_⟩
  rw[l]
  exact (rel.val k).getD rfl
theorem d_get2 {Q:Value→Shared→Prop} (hu:A.units+1 < cLine) (I:Inv X pins σ H s) (g:DGet H a y o) (ry:bK y u) (rd:bK d r) (h:∀ w' s',Inv X pins σ H s'→bK (o.getD d) w'→Q w' s') :
  wpAny (model X.prog X.w) A (call (.builtin "dict.get") [.ref a,u,r]) Q E s:=by
 rcases g with ⟨kvs,k,e,ey,l⟩ | ⟨kvs,k,b,e,ey,eb,l⟩
 ·subst ey
  obtain⟨z,hd,vs,rel,dd⟩:=dk_rd I.hok e
  refine call_meetsIn PySem.F.slot_dict_get dd.typeIs PySem.F.entry_dict_get (PySem.F.args_dict_get_3 _ _ _) (meets_dict_get_default (cR X.prog X.w) a (kV_is ry) hd r) ⟨_,dd.mapOf,h _ _ (I.tok _) ?_⟩
  rw[l]
  exact (rel.val k).getD rd
 ·subst ey
  cases (show u=Value.ref b from ry)
  obtain⟨z,hd,xs,rel,dd⟩:=dt_rd I.hok e
  refine call_meetsIn PySem.F.slot_dict_get dd.typeIs PySem.F.entry_dict_get (PySem.F.args_dict_get_3 _ _ _) (meetsH_dict_get_default (tupleKind (cR X.prog X.w)) a b hd r) ⟨tupleKind_room_in1 hu,k,xs,key_of I.hok eb,dd,h _ _ (I.tok _) ?_⟩
  rw[l]
  exact (rel.val k).getD rd
end
noncomputable def tDGet1 (td ty:TE):TE:=fun σ H Q=>td σ H fun x H1=>∃ a,x=.ref a∧IsD H1 a∧ty σ H1 fun y H2=>∃ o,DGet H2 a y o∧Q (o.getD .non) H2
noncomputable def tDGet2 (td ty tx:TE):TE:=fun σ H Q=>td σ H fun x H1=>∃ a,x=.ref a∧IsD H1 a∧ty σ H1 fun y H2=>tx σ H2 fun z H3=>∃ o,DGet H3 a y o∧Q (o.getD z) H3
section
variable {X:Cx}{o e f:Expr}{apos cpos:Pos}{td ty tx:TE}
theorem pe_dget1 (hu:X.A.units+1 < cLine) (ho:PE X o td) (he:PE X e ty) (m:M1 X o "get" apos e cpos):PE X (.Call (.Attribute o "get" apos) [e] [] cpos) (tDGet1 td ty):=by
 intro pins s σ H Q I h
 refine wpAny_Call_method m.base m.few m.line PySem.F.plainAttrs_dict PySem.F.slot_dict_get PySem.F.type_dict_get (cU (ho pins s σ H _ I h) fun u s1 ⟨x,H1,I1,rx,a,ex,d,q1⟩=>?_)
 subst ex
 obtain rfl:u=Value.ref a:=rx
 obtain⟨t1,t2,_⟩:=isD_at I1 d
 refine⟨t1,t2,?_⟩
 rw[m.trees]
 refine Calls.callWith_builtin rfl (Calls.evalArgs_plain (Calls.spliced_cons (cU (he pins s1 σ H1 _ I1 q1) fun iv s2 ⟨y,H2,I2,ry,ov,g,q2⟩=>Calls.spliced_nil ?_)))
 exact d_get1 hu I2 g ry fun w' s3 I3 rw'=>⟨_,H2,I3,rw',q2⟩
theorem pe_dget2 (hu:X.A.units+1 < cLine) (ho:PE X o td) (he:PE X e ty) (hf:PE X f tx) (m:M2 X o "get" apos e f cpos):PE X (.Call (.Attribute o "get" apos) [e,f] [] cpos) (tDGet2 td ty tx):=by
 intro pins s σ H Q I h
 refine wpAny_Call_method m.base m.few m.line PySem.F.plainAttrs_dict PySem.F.slot_dict_get PySem.F.type_dict_get (cU (ho pins s σ H _ I h) fun u s1 ⟨x,H1,I1,rx,a,ex,d,q1⟩=>?_)
 subst ex
 obtain rfl:u=Value.ref a:=rx
 obtain⟨t1,t2,_⟩:=isD_at I1 d
 refine⟨t1,t2,?_⟩
 rw[m.trees]
 refine Calls.callWith_builtin rfl (Calls.evalArgs_plain (Calls.spliced_cons (cU (he pins s1 σ H1 _ I1 q1) fun iv s2 ⟨y,H2,I2,ry,q2⟩=>
  Calls.spliced_cons (cU (hf pins s2 σ H2 _ I2 q2) fun fv s3 ⟨z,H3,I3,rz,ov,g,q3⟩=>Calls.spliced_nil ?_))))
 exact d_get2 hu I3 g ry rz fun w' s4 I4 rw'=>⟨_,H3,I4,rw',q3⟩
end
section
variable {X:Cx}{pins:List (Addr×Obj)}{σ:St}{H:Hp}{s:Shared}{a:Addr}{kvs:List (eF×V)}{A:Around}{E:Value→Shared→Prop}
end
section
variable {X:Cx}{pins:List (Addr×Obj)}{σ:St}{H:Hp}{s:Shared}{a:Addr}{y:V}{u:Value}{A:Around}{E:Value→Shared→Prop}
end
end L2
namespace Att
open PySem PySem.W PySem.Calls PyProof.Rows
theorem ints_of_wellAll {P:Params}{h:Heap}:∀ (ns:List Int) (vs:List Value),WellAll P h vs (ns.map WData.int)→IntsAre vs ns:=by
 intro ns
 induction ns with
 | nil=>
  intro vs w
  rw[List.map_nil] at w
  cases w
  exact .nil
 | cons n ns ih=>
  intro vs w
  rw[List.map_cons] at w
  cases w with
  | cons a b=>
   cases a
   exact .cons _ _ (ih _ b)
theorem script_of {l:OpenLaw}{n:Nat} (hn:l.most=some n) {P:Params}{h:Heap}{args:List WData}{vals:List Value}
  (hpre:l.row.toRowW.claim.pre args=true) (hwl:WellAll P h vals args) :
  ∃ a vs ns,vals=[Value.ref a]∧args=[WData.list (ns.map WData.int)]∧h.get? a=some { cls:=.type "list",data:=.seq vs.toArray }∧IntsAre vs ns∧ns.length≤n:=by
 have hsh:WShape.hasAll [] args [.list .int]=true:=(pre_splitW hpre).1
 have hc:l.pre.holds [] { args:=args }=true:=(pre_splitW hpre).2
 obtain⟨d,r,rfl,h1,h2⟩:=hasAllW_cons hsh
 obtain rfl:=hasAllW_nil h2
 obtain⟨xs,rfl,h3⟩:=hasW_list h1
 obtain⟨ns,rfl⟩:=items_int h3
 have hlen:ns.length≤n:=by
  unfold OpenLaw.pre at hc
  have h4:(WTm.not (.lt (.lit (.int (n:Int))) (.len (.arg 0)))).holds [] { args:=[.list (ns.map .int)] }=true:=by
   have h4:=(holds_andW hc).1
   rw[hn] at h4
   exact h4
  have h5:=condW_of h4 (w_not (w_lt w_lit (w_len_list (w_arg rfl))))
  rw[List.length_map] at h5
  refine Nat.le_of_not_lt fun q=>?_
  have q':(n:Int) < ((ns.length:Nat):Int):=by omega
  first
   | (rw[decide_eq_true q'] at h5;exact absurd h5 (by decide))
   | (simp at h5;omega)
 cases hwl with
 | cons w1 w2=>
  cases w2
  cases w1 with
  | list ho hall=>exact⟨_,_,ns,rfl,rfl,ho,ints_of_wellAll ns _ hall,hlen⟩
theorem post_true (l:OpenLaw) (args:List WData):l.row.toRowW.claim.post args (.bool true) args=true:=
 postW_of (r:=l.row.toRowW) (X:=(true == true))
  (show WShape.has [] (.bool true) .bool=true by first | rfl | decide | simp [WShape.has,WShape.arms,WShape.armsAll])
  (show (WTm.eq .res (.lit (.bool true))).value [] { args:=args,res:=some (.bool true),after:=args }=some (.bool (true == true)) from w_eq_bool (w_res rfl) w_lit) rfl
theorem attach_call {l:OpenLaw}{n:Nat}{q:Program}{loose:List Str}{XP:(Str→Option Value)→Heap→Prop}{YP:World→Heap→Prop}{d:DefRec}
  (hn:l.most=some n) (hdf:d.params.defaults=[])
  (call:∀ (w:World) (s₀ s₁:Shared) (mg mb:Str→Option Value) (fa:Addr) (o:Obj) (pm cd doc:Value) (a:Addr) (vs:List Value) (ns:List Int),
   Ground q loose [] XP w s₀ mg mb s₁.heap→YP w s₁.heap→
   s₁.heap.get? fa=some o→o.data=.func (docDef d.name d.params d.body d.scope pm cd doc)→s₁.heap.CodeRec cd d.name→mg d.name=some (.ref fa)→
   s₁.heap.get? a=some { cls:=.type "list",data:=.seq vs.toArray }→IntsAre vs ns→ns.length≤n→s₁.gens = #[]→
   codeAny (model l.prog w) callerA (.call (.ref fa) ⟨[.ref a],[]⟩) (fun r s'=>r=.ok (.ret (.bool true))∧OldK s₁.heap s'.heap∧s'.os=s₁.os∧AllBare s'.gens) s₁) :
  WalkO q loose XP YP l.row.toRowW d [] (fun f vs=>PySem.call f vs):=by
 intro w s₀ s₁ mg mb G Y fa o pm cd doc dV kV ho hd hcd hD hmg hg args vals as hpre hlay hrd hwl hlo
 obtain rfl:dV=.none:=Dflts.none hD hdf
 obtain rfl:kV=.none:=Dflts.noKw hD
 obtain⟨a,vs,ns,rfl,rfl,hobj,hints,hlen⟩:=script_of hn hpre hwl
 refine enter_call (codeAny_mono (call w s₀ s₁ mg mb fa o pm cd doc a vs ns G Y ho (fd_plain hd) hcd hmg hobj hints hlen hg) fun r s' hq=>?_)
 obtain⟨rfl,h2,h3,h4⟩:=hq
 exact⟨.inl ⟨.bool true,.bool true,[],rfl,fun _=>rfl,.bool true,post_true l _,fun _=>⟨List.Pairwise.nil,fun _ hm=>(nomatch hm)⟩⟩,h2,h3,h4⟩
section
variable {prog:Program}{w:World}{A:Around}{E:Value→Shared→Prop}{s:Shared}{K:Frag}
end
end Att
namespace L2
open PySem PySem.Spec PyProof.Rows
theorem vals_ints:∀ {vs:List Value}{ns:List Int},IntsAre vs ns→bO (ns.map V.int) vs
 | _,_,.nil=>.nil
 | _,_,.cons n t h=>.cons ⟨t,rfl⟩ (vals_ints h)
noncomputable def Only (H:Hp):Prop:=∀ b,H b=none∨∃ o xs,H b=some (.frz o (.lst xs))
theorem law_call {P:Program}{w:World}{K:PySem.W.Frag}{mg mb:Str→Option Value}{CX:CXT}{k:Nat}{fa a:Addr}{fd:FuncData}{x:Str}{sp:Sp}{s₁:Shared}{vs:List Value}{ns:List Int}
  (KX:K.In s₁.heap) (hns:s₁.heap.Ns mainGlobals mg) (hb:s₁.heap.Ns builtinsNs mb) (hbb:∀ x:Str,x ≠ "__name__" → mb x=bootBuiltins x) (hlim:s₁.heap.NoLimit) (hg:s₁.gens = #[])
  (ha:s₁.heap.get? a=some { cls:=.type "list",data:=.seq vs.toArray }) (hi:IntsAre vs ns) (hl:ns.length≤sizeLine) (hr:Room k callerA)
  (F:∀ base:Heap,K.In base→base.Ns mainGlobals mg→FnOk P w K mg base CX k fa fd [x] sp) (hbind:∀ (s:Shared) (u:Value),BindsTo s fd ⟨[u],[]⟩ [(x,u)])
  (hsp:∀ H:Hp,Only H→bY K H a (ns.map V.int)→sp [.ref a] H (fun v _=>v=.bl true) fun _ _ _=>False)
  (hCX:∀ H e s',CX [] H s₁ (fun _ _ _=>False) e s'→False) :
  codeAny (model P w) callerA (.call (.ref fa) ⟨[.ref a],[]⟩) (fun r s'=>r=.ok (.ret (.bool true))∧OldK s₁.heap s'.heap∧s'.os=s₁.os∧AllBare s'.gens) s₁:=by
 have rv:=vals_ints hi
 have lenV:=hi.length
 have core:∀ H:Hp,Only H→bY K H a (ns.map V.int)→HOk P w H s₁.heap→(∀ b,H b≠none→b=a)→(H a≠none→K.lookup a=none)→
   codeAny (model P w) callerA (.call (.ref fa) ⟨[.ref a],[]⟩) (fun r s'=>r=.ok (.ret (.bool true))∧OldK s₁.heap s'.heap∧s'.os=s₁.os∧AllBare s'.gens) s₁:=by
  intro H hO hS hok hA hK
  have base_of:∀ {b:Addr}{o:Obj},s₁.heap.get? b=some o→H b=none→(hidT s₁.heap H).get? b=some o:=fun e n=>hidT_get e n
  have noA:∀ {b:Addr}{o:Obj}{es:Array DictEntry}{ep:Nat},s₁.heap.get? b=some o→o.data=.dict es ep→H b=none:=fun {b o es ep} e d=>by
   cases q:H b with
   | none=>rfl
   | some u=>
    have e':b=a:=hA b (by rw[q];simp)
    subst e'
    rw[ha] at e;cases e
    have d':Data.seq vs.toArray _=Data.dict es ep:=d
    cases d'
  have nsK:∀ {b:Addr}{m:Str→Option Value},s₁.heap.Ns b m→(hidT s₁.heap H).Ns b m:=fun {b m} ⟨o,es,ep,e,d,r⟩=>⟨o,es,ep,base_of e (noA e d),d,r⟩
  have hKb:K.In (hidT s₁.heap H):=fun b o e=>base_of (KX b o e) (by
   cases q:H b with
   | none=>rfl
   | some u=>
    have e':b=a:=hA b (by rw[q];simp)
    subst e'
    rw[hK (by rw[q];simp)] at e;cases e)
  have hM:Mod K mg (hidT s₁.heap H):=⟨hKb,nsK hns,⟨mb,nsK hb,hbb⟩,let ⟨mc,h1,h2⟩:=hlim;⟨mc,nsK h1,h2⟩⟩
  have e0:Env0 P w K mg (hidT s₁.heap H) callerA [] s₁ H:=⟨rfl,hM,fun b o e=>of_hidT e,Nat.le_of_eq (hidT_size _ _),trivial,fun b hb=>absurd (show b∈([]:List Addr) from hb) (by simp),hok,.of_eq hg⟩
  refine codeAny_mono ((F _ hKb (nsK hns)).run callerA [] s₁ H ⟨[.ref a],[]⟩ [.ref a] [.ref a] _ _ hr e0 (hbind s₁ (.ref a)) (.cons rfl .nil) (hsp H hO hS)) fun r s' h=>?_
  cases r with
  | error e=>exact (hCX H e s' h).elim
  | ok fl=>
   cases fl with
   | next=>exact False.elim h
   | brk=>exact False.elim h
   | cont=>exact False.elim h
   | ret u=>
    obtain⟨v,H',os,bare,un,hok',r',q⟩:=h
    have q':v=.bl true:=q
    subst q'
    obtain rfl:u=Value.bool true:=r'
    refine⟨rfl,OldK.of_keep fun b o e=>?_,os,bare⟩
    cases q:H b with
    | none=>exact un.keep b o e q (by intro z;exact absurd (show b∈([]:List Addr) from z) (by simp)) (by simp)
    | some u=>
     rcases hO b with z | ⟨ob,xs,z⟩
     ·rw[q] at z;cases z
     ·have z2:=un.frzs b ob _ z
      obtain⟨e1,_⟩:=hok b _ z
      obtain⟨e2,_⟩:=hok' b _ z2
      rw[e] at e1;cases e1
      exact e2
 cases hk:K.lookup a with
 | some o=>
  have e:=KX a o hk
  rw[ha] at e
  cases e
  refine core (fun _=>none) (fun _=>.inl rfl) (.inr ⟨_,vs.toArray,_,hk,rfl,rfl,rfl,by rw[List.size_toArray,lenV];exact hl,by simpa using rv⟩) (fun b u z=>by have z':(none:Option HO)=some u:=z;cases z') (fun b z=>absurd rfl z) fun z=>absurd rfl z
 | none=>
  refine core (fun b=>if b=a then some (.frz { cls:=.type "list",data:=.seq vs.toArray } (.lst (ns.map V.int))) else none) (fun b=>?_) (.inl (.inr ⟨{ cls:=.type "list",data:=.seq vs.toArray },if_pos rfl⟩)) (fun b u z=>?_) (fun b z=>?_) fun _=>hk
  ·by_cases hb:b=a
   ·exact .inr ⟨_,_,if_pos hb⟩
   ·exact .inl (if_neg hb)
  ·by_cases hb:b=a
   ·have z':=(if_pos hb).symm.trans z
    cases z'
    subst hb
    exact⟨ha,by rw[List.length_map];exact hl,vs,_,rv,ha⟩
   ·have z':=(if_neg hb).symm.trans z
    cases z'
  ·by_cases hb:b=a
   ·exact hb
   ·exact absurd (if_neg hb) z
end L2
namespace L2
open PySem PySem.Spec PyProof.Rows
theorem walk_of {l:PySem.W.OpenLaw}{n k:Nat}{q:Program}{loose:List Str}{XP:(Str→Option Value)→Heap→Prop}{YP:World→Heap→Prop}{d:DefRec}{K:Params→PySem.W.Frag}{CX:World→CXT}{sp:World→Sp}{x:Str}
  (hn:l.most=some n) (hn2:n≤sizeLine) (hdf:d.params.defaults=[]) (hr:Room k callerA)
  (hY:∀ (w:World) (h:Heap),YP w h→(K w.params).In h)
  (F:∀ (w:World) (mg:Str→Option Value) (fa:Addr) (h:Heap),(K w.params).In h→h.Ns mainGlobals mg→mg d.name=some (.ref fa)→
   ∃ fd:FuncData,(∀ (s:Shared) (u:Value),BindsTo s fd ⟨[u],[]⟩ [(x,u)])∧
    ∀ base:Heap,(K w.params).In base→base.Ns mainGlobals mg→FnOk l.prog w (K w.params) mg base (CX w) k fa fd [x] (sp w))
  (hsp:∀ (w:World) (H:Hp) (a:Addr) (ns:List Int),ns.length≤n→Only H→bY (K w.params) H a (ns.map V.int)→sp w [.ref a] H (fun v _=>v=.bl true) fun _ _ _=>False)
  (hCX:∀ (w:World) (H:Hp) (s:Shared) (e:Value) (s':Shared),CX w [] H s (fun _ _ _=>False) e s'→False) :
  PySem.W.WalkO q loose XP YP l.row.toRowW d [] (fun f vs=>PySem.call f vs):=by
 refine Att.attach_call hn hdf fun w s₀ s₁ mg mb fa o pm cd doc a vs ns G Y ho hd hcd hmg hobj hints hlen hg=>?_
 have KX:=hY w _ Y
 obtain⟨fd,hb,hF⟩:=F w mg fa _ KX G.T.g hmg
 exact law_call KX G.T.g G.T.b G.T.builtins G.T.nolimit hg hobj hints (Nat.le_trans hlen hn2) hr hF hb (fun H hO hS=>hsp w H a ns hlen hO hS) fun H e s'=>hCX w H s₁ e s'
end L2
namespace L2
open PySem PySem.Spec PyProof.Rows
noncomputable def bQ (s:Stmt) (j:Nat):Stmt:=match s with
 | .ClassDef _ _ _ body _ _ _ _ _ _ _=>body.getD j (.Pass ⟨0,0,0,0⟩)
 | _=>.Pass ⟨0,0,0,0⟩
noncomputable def bA (s:Stmt):Arguments:=match s with
 | .FunctionDef _ a _ _ _ _ _ _ _ _=>a
 | _=>{ posonlyargs:=[],args:=[],vararg:=none,kwonlyargs:=[],kw_defaults:=[],kwarg:=none,defaults:=[] }
noncomputable def b9 (s:Stmt):List Stmt:=match s with
 | .FunctionDef _ _ b _ _ _ _ _ _ _=>b
 | _=>[]
noncomputable def aJ (s:Stmt):Scope:=match s with
 | .FunctionDef _ _ _ _ _ _ sc _ _ _=>sc
 | _=>{ kind:=.function,names:=[],isGenerator:=false,isCoroutine:=false }
noncomputable abbrev CX0:CXT:=fun _ _ _ _ _ _=>False
noncomputable abbrev E0:XK:=fun _ _ _=>False
theorem pass0 {X:Cx}:Passes CX0 X E0:=fun _ _ _ _ _ _ _ h=>h.elim
structure Fun (K:PySem.W.Frag) (x qual:Str) (st:Stmt) (f:Addr) (fd:FuncData):Prop where
 ex:∃ (oc:Value) (od:Option Addr) (kV doc pm:Value) (an:Option Addr) (cdv ct:Value) (osl:Array (Option Value)),
  fd=PySem.W.fnOf x qual (bA st) (b9 st) (aJ st) .none kV doc pm an cdv ct∧K.lookup f=some ⟨oc,od,.func fd,osl⟩∧PySem.W.codeIn K cdv qual=true
 kp:PySem.W.keepIn K (.ref f)=true
section
variable {P:Program}{w:World}{K:PySem.W.Frag}{mg:Str→Option Value}{base:Heap}
theorem Fun.ok {x qual:Str}{st:Stmt}{f:Addr}{fd:FuncData}{N ps:List Str}{k:Nat}{sp:Sp} (F:Fun K x qual st f fd) (S:FnScope N ps (aJ st)) (len:∀ vs H Q E,sp vs H Q E→vs.length=ps.length)
  (hbody:∀ (cdv:Value) (A:Around) (outer:List Env) (s:Shared) (H:Hp) (vs:List V) (Q:VK) (E:XK),Room k (A.deeper (envOfC qual (aJ st) s.heap.objs.size f cdv))→sp vs H Q E→
   ∃ t,PSs (cxOf CX0 P w K mg base N qual (aJ st) f cdv A outer s H E).nox (b9 st) t∧t { nx:=fun _ H'=>Q .non H',rt:=Q } (start N vs) H):FnOk P w K mg base CX0 (k+1) f fd ps sp:=by
 obtain⟨oc,od,kV,doc,pm,an,cdv,ct,osl,rfl,lk,hcd⟩:=F.ex
 refine fn_of lk hcd S len fun A outer s H vs Q E hr hsp=>?_
 obtain⟨t,h,q⟩:=hbody cdv A outer s H vs Q E hr hsp
 exact⟨t,h.nox,q⟩
theorem Fun.binds {x qual:Str}{st:Stmt}{f:Addr}{fd:FuncData}{ps:List Str} (F:Fun K x qual st f fd)
  (h:∀ (kV doc pm:Value) (an:Option Addr) (cdv ct:Value) (us:List Value),us.length=ps.length→bindArgs (PySem.W.fnOf x qual (bA st) (b9 st) (aJ st) .none kV doc pm an cdv ct) ⟨us,[]⟩=pure (ps.zip us)):Binds K fd ps []:=by
 obtain⟨oc,od,kV,doc,pm,an,cdv,ct,osl,rfl,lk,hcd⟩:=F.ex
 exact .all (h kV doc pm an cdv ct)
theorem bN {x qual:Str}{st:Stmt}{f:Addr}{oc:Value}{od an:Option Addr}{osl:Array (Option Value)}{kV doc pm cdv ct:Value} (l:K.lookup f=some ⟨oc,od,.func (PySem.W.fnOf x qual (bA st) (b9 st) (aJ st) .none kV doc pm an cdv ct),osl⟩)
  (c:PySem.W.codeIn K cdv qual=true) (k:PySem.W.keepIn K (.ref f)=true):Fun K x qual st f (PySem.W.fnOf x qual (bA st) (b9 st) (aJ st) .none kV doc pm an cdv ct):=⟨⟨oc,od,kV,doc,pm,an,cdv,ct,osl,rfl,l,c⟩,k⟩
end
theorem hu_of {A:Around}{k:Nat} (hr:Room k A):A.units+1 < cLine:=Nat.lt_of_le_of_lt (Nat.add_le_add_left (by decide:1≤64) _) hr.units
theorem aQ {n:Nat} (h:n≤1000):n < sizeLine:=Nat.lt_of_le_of_lt h (by decide)
section
variable {X:Cx}
theorem pv (i:Nat) {x:Str}{pos:Pos} (hN:X.N[i]? = some x:=by rfl) (hv:Vis X.env.scope x:=by first | exact Or.inl rfl | exact Or.inr (Or.inl rfl) | exact Or.inr (Or.inr rfl)) (hd:(x == ("__debug__" : Str))=false:=by decide)
  (hcd:(x == ("__classdict__" : Str))=false:=by decide):PE X (.Name x pos) (cZ i):=pe_var hN hv hd hcd
end
theorem eJ {A B:Prop} (h:B):if false=true then A else B:=by
 rw[if_neg Bool.false_ne_true]
 exact h
theorem iteT {A B:Prop} (h:A):if true=true then A else B:=by
 rw[if_pos rfl]
 exact h
theorem ite2 {c A B:Prop} [Decidable c] (h1:c→A) (h2:¬ c→B):if c then A else B:=by
 by_cases h:c
 ·rw[if_pos h]
  exact h1 h
 ·rw[if_neg h]
  exact h2 h
noncomputable def aK (H H':Hp):Prop:=∀ b o,H b=some o→H' b=some o
theorem aK.refl (H:Hp):aK H H:=fun _ _ h=>h
theorem aK.trans {H H1 H2:Hp} (a:aK H H1) (b:aK H1 H2):aK H H2:=fun c o h=>b c o (a c o h)
theorem aK.free {H H':Hp} (e:aK H H') {l:Addr} (h:H' l=Option.none):H l=Option.none:=by
 cases q:H l with
 | none=>rfl
 | some o=>
  rw[e l o q] at h
  cases h
theorem aK.seq {K:PySem.W.Frag}{H H':Hp}{a:Addr}{xs:List V} (e:aK H H') (h:bY K H a xs):bY K H' a xs:=by
 rcases h with (h | ⟨o,h⟩) | h
 ·exact .inl (.inl (e _ _ h))
 ·exact .inl (.inr ⟨o,e _ _ h⟩)
 ·exact .inr h
end L2
set_option maxHeartbeats 4000000
namespace L2
open PySem PySem.Spec PyProof.Rows
theorem lookup_relabel_free {env:Env} (hk:env.scope.kind=.function):∀ {names:List (Str×NameKind)}{x:Str},names.lookup x=some .free→env.kindOf x=some .cell→
  (names.map fun (n,k)=>if (k == NameKind.free && env.scope.kind == .function && env.kindOf n == some .cell) then (n,NameKind.cell) else (n,k)).lookup x=some .cell
 | [],_,h,_=>by simp at h
 | (n,k)::r,x,h,hc=>by
  have ih:=@lookup_relabel_free env hk r x
  show List.lookup x ((if (k == NameKind.free && env.scope.kind == .function && env.kindOf n == some .cell)=true then (n,NameKind.cell) else (n,k))::_)=_
  cases hx:x == n with
  | true=>
   simp only [List.lookup_cons,hx] at h
   cases h
   have e:x=n:=by simpa using hx
   subst e
   rw[if_pos (by rw[hk,hc];decide)]
   simp [List.lookup_cons]
  | false=>
   simp only [List.lookup_cons,hx] at h
   by_cases hq:(k == NameKind.free && env.scope.kind == .function && env.kindOf n == some .cell)=true
   ·rw[if_pos hq];simp only [List.lookup_cons,hx];exact ih h hc
   ·rw[if_neg hq];simp only [List.lookup_cons,hx];exact ih h hc
noncomputable def ClOk (env:Env):List (Str×Addr)→Prop
 | []=>True
 | p::r=>env.cells.lookup p.1=some p.2∧ClOk env r
theorem ClOk.get {env:Env}:∀ {cl:List (Str×Addr)},ClOk env cl→∀ x c,cl.lookup x=some c→env.cells.lookup x=some c
 | [],_,_,_,e=>by simp at e
 | (n,a)::r,h,x,c,e=>by
  cases hx:x == n with
  | true=>
   simp only [List.lookup_cons,hx] at e
   cases e
   have e':x=n:=by simpa using hx
   subst e'
   exact h.1
  | false=>
   simp only [List.lookup_cons,hx] at e
   exact ClOk.get h.2 x c e
noncomputable def FrOk (X:Cx) (scope:Scope) (N':List Str):List (Option Nat)→Nat→Prop
 | [],_=>True
 | none::r,i=>FrOk X scope N' r (i+1)
 | some j::r,i=>(∃ x,N'[i]? = some x∧X.N[j]? = some x∧scope.names.lookup x=some .free∧X.env.kindOf x=some .cell)∧FrOk X scope N' r (i+1)
theorem FrOk.get {X:Cx}{scope:Scope}{N':List Str}:∀ {fr:List (Option Nat)}{k:Nat},FrOk X scope N' fr k→∀ i j,fr[i]? = some (some j)→
  ∃ x,N'[k+i]? = some x∧X.N[j]? = some x∧scope.names.lookup x=some .free∧X.env.kindOf x=some .cell
 | [],_,_,i,j,e=>by simp at e
 | none::r,k,h,0,j,e=>by simp at e
 | some _::r,k,h,0,j,e=>by simp at e;subst e;exact h.1
 | none::r,k,h,i+1,j,e=>by
  have:=FrOk.get (k:=k+1) (show FrOk X scope N' r (k+1) from h) i j (by simpa using e)
  rwa [Nat.add_right_comm] at this
 | some _::r,k,h,i+1,j,e=>by
  have:=FrOk.get (k:=k+1) h.2 i j (by simpa using e)
  rwa [Nat.add_right_comm] at this
structure LcOk (X:Cx) (scope:Scope) (cl:List (Str×Addr)) (N':List Str) (fr:List (Option Nat)):Prop where
 clos:closureFor scope X.env=pure cl
 cls:ClOk X.env cl
 kind:scope.kind=.function
 nocell:(scope.names.all fun p=>p.2 != NameKind.cell)=true
 locs:(scope.names.all fun p=>p.2 != NameKind.local || scope.names.lookup p.1 == some NameKind.local)=true
 frees:(scope.names.all fun p=>p.2 != NameKind.free || (cl.lookup p.1).isSome)=true
 len:fr.length=N'.length
 fr:FrOk X scope N' fr 0
noncomputable def frσ (fr:List (Option Nat)) (σ:St):St:=fr.map fun o=>o.bind fun j=>(σ[j]?).join
noncomputable def cxC (X:Cx) (N':List Str) (scope:Scope) (cl:List (Str×Addr)) (fp:List Addr) (s:Shared) (H:Hp):Cx:=
 { X with N:=N',s₀:=s,H₀:=H,env:=compEnvC scope cl s.heap.objs.size X.env,outer:=X.stack,ex:=fp,fn:=fun _=>false,pn:=[] }
noncomputable def PIf (X:Cx) (ifs:List Expr) (t:TT):Prop:=
 ∀ (pins:List (Addr×Obj)) (s:Shared) (σ:St) (H:Hp) (Q:Bool→Hp→Prop),Inv X pins σ H s→t σ H Q→
  wpAny (model X.prog X.w) X.A (forIn ifs true fun c r=>if r=true then do let ok ← isTrue c X.env (eval c X.env);pure (ForInStep.yield ok) else pure (ForInStep.yield r)) (TP X pins σ Q) X.xe s
noncomputable def tYes:TT:=fun _ H Q=>Q true H
theorem cP {X:Cx}:PIf X [] tYes:=fun _ _ _ H _ I h=>wpAny_tests_nil ⟨H,I,h⟩
theorem pif_one {X:Cx}{c:Expr}{t:TT} (h:PT X c t):PIf X [c] t:=fun pins s σ H Q I hw=>wpAny_tests_one (h pins s σ H Q I hw)
noncomputable def lcRest (J:It) (g:TG) (tc:TT) (te:TE) (fr:List (Option Nat)) (σ:St) (H1:Hp) (Q:Addr→Hp→Prop):Prop:=
 ∀ D,H1 D=none→∃ W:Nat→Nat→List V→St→Hp→Prop,(∃ m,W 0 m [] (frσ fr σ) (upd H1 D (.lst [])))∧
  ∀ i m ys σ' H',W i m ys σ' H'→(J.stop i H'∧Q D H')∨
   (J.go i H'∧∃ N:List V→St→Hp→Prop,(∀ ys' σ'' H'',N ys' σ'' H''→∃ m',m' < m∧W (i+1) m' ys' σ'' H'')∧
    ∀ x H2,J.yld i H' x H2→g x σ' H2 fun σ3 H3=>tc σ3 H3 fun b H4=>
    if b=true then te σ3 H4 fun y H5=>H5 D=some (.lst ys)∧ys.length < sizeLine∧N (ys++[y]) σ3 (upd H5 D (.lst (ys++[y])))
    else N ys σ3 H4)
theorem lc_gen {J:It}{n:Nat}{g:TG}{tc:TT}{te:TE}{fr:List (Option Nat)}{σ:St}{H1:Hp}{Q:Addr→Hp→Prop} (Pv:Addr→Nat→List V→St→Hp→Prop)
  (h0:∀ D,H1 D=none→Pv D 0 [] (frσ fr σ) (upd H1 D (.lst [])))
  (hstop:∀ D ys σ' H',Pv D n ys σ' H'→J.stop n H'∧Q D H')
  (hgo:∀ D i ys σ' H',i < n→Pv D i ys σ' H'→J.go i H'∧∀ x H2,J.yld i H' x H2→g x σ' H2 fun σ3 H3=>tc σ3 H3 fun b H4=>
    if b=true then te σ3 H4 fun y H5=>H5 D=some (.lst ys)∧ys.length < sizeLine∧Pv D (i+1) (ys++[y]) σ3 (upd H5 D (.lst (ys++[y])))
    else Pv D (i+1) ys σ3 H4):lcRest J g tc te fr σ H1 Q:=by
 intro D hD
 refine⟨fun i m ys σ H=>m=n - i∧i≤n∧Pv D i ys σ H,⟨n,by simp,Nat.zero_le _,h0 D hD⟩,?_⟩
 rintro i m ys σ' H' ⟨rfl,hi,p⟩
 by_cases hlt:i < n
 ·obtain⟨go,step⟩:=hgo D i ys σ' H' hlt p
  exact .inr ⟨go,Pv D (i+1),fun ys' σ'' H'' p'=>⟨n - (i+1),by omega,rfl,hlt,p'⟩,step⟩
 ·have e:i=n:=by omega
  subst e
  exact .inl (hstop D ys σ' H' p)
theorem for_gen {J:It}{n:Nat}{g:TG}{tb:TS}{D:Ends}{σ:St}{H:Hp} (Pv:Nat→St→Hp→Prop) (h0:Pv 0 σ H) (hstop:∀ σ H,Pv n σ H→J.stop n H∧D.nx σ H)
  (hgo:∀ i σ H,i < n→Pv i σ H→J.go i H∧∀ x H',J.yld i H x H'→g x σ H' fun σ2 H2=>tb { D with nx:=Pv (i+1),ct:=Pv (i+1),bk:=D.nx } σ2 H2) :
  ∃ W:Nat→Nat→St→Hp→Prop,(∃ m,W 0 m σ H)∧∀ i m σ H,W i m σ H→
   (J.stop i H∧D.nx σ H)∨(J.go i H∧∃ N:St→Hp→Prop,(∀ σ' H',N σ' H'→∃ m',m' < m∧W (i+1) m' σ' H')∧∀ x H',J.yld i H x H'→g x σ H' fun σ2 H2=>tb { D with nx:=N,ct:=N,bk:=D.nx } σ2 H2):=by
 refine⟨fun i m σ H=>m=n - i∧i≤n∧Pv i σ H,⟨n,by simp,Nat.zero_le _,h0⟩,?_⟩
 rintro i m σ H ⟨rfl,hi,p⟩
 by_cases hlt:i < n
 ·obtain⟨go,step⟩:=hgo i σ H hlt p
  exact .inr ⟨go,Pv (i+1),fun σ' H' p'=>⟨n - (i+1),by omega,rfl,hlt,p'⟩,step⟩
 ·have e:i=n:=by omega
  subst e
  exact .inl (hstop σ H p)
noncomputable def tLC (wi:TI) (fr:List (Option Nat)) (g:TG) (tc:TT) (te:TE):TE:=fun σ H Q=>wi σ H fun J H1=>lcRest J g tc te fr σ H1 fun D H'=>Q (.ref D) H'
section
variable {prog:Program}{w:World}{A:Around}{R:Result→Shared→Prop}{s:Shared}
theorem compLoop_any {elt target iter:Expr}{ifs:List Expr}{scope:Scope}{pos:Pos}{it acc:Value}{env:Env} (I:Nat→Shared→Prop)
  (turn:∀ n s,I n s→wpAny (model prog w) A (pyNext it) (fun r s₁=>match r with
   | none=>R (.ok .next) s₁
   | some v=>wpAny (model prog w) A (letOwnedTupleGo target it v) (fun _ s₁'=>wpAny (model prog w) A (assign target env v) (fun _ s₂=>
     wpAny (model prog w) A (forIn ifs true fun c r=>if r=true then do let ok ← isTrue c env (eval c env);pure (ForInStep.yield ok) else pure (ForInStep.yield r)) (fun ok s₃=>
      if ok=true then wpAny (model prog w) A (eval elt env) (fun x s₄=>
       wpAny (model prog w) A (call (.builtin "list.append") [acc,x]) (fun _ s₅=>∃ m,m < n∧I m s₅) (notedBy (model prog w) A env fun e s'=>R (.error e) s') s₄) (notedBy (model prog w) A env fun e s'=>R (.error e) s') s₃
      else ∃ m,m < n∧I m s₃) (notedBy (model prog w) A env fun e s'=>R (.error e) s') s₂) (notedBy (model prog w) A env fun e s'=>R (.error e) s') s₁') (notedBy (model prog w) A env fun e s'=>R (.error e) s') s₁)
    (notedBy (model prog w) A env fun e s'=>R (.error e) s') s)
  (n:Nat) (h:I n s) :
  codeAny (model prog w) A (.compLoop (.ListComp elt [⟨target,iter,ifs,0⟩] scope pos) 0 it acc env) R s:=by
 refine codeAny_loop rfl I (fun n s hI=>?_) n h
 show wpAny _ A ((compTurn (.ListComp elt [⟨target,iter,ifs,0⟩] scope pos) 0 it acc env).onRaise (fun x=>do noteFrame x env;theTreesLotGoes x)) _ _ s
 refine wpAny_noted ?_
 rw[compTurn_list]
 refine wpAny_bind (wpAny_standAt (wpAny_bind (wpAny_mono (turn n s hI) (fun r s₁ h₁=>?_) fun _ _ h'=>h')))
 cases r with
 | none=>exact wpAny_pure h₁
 | some v=>
  refine wpAny_bind (wpAny_mono h₁ (fun _ s₁' h₁'=>?_) fun _ _ h'=>h')
  refine wpAny_bind (wpAny_mono h₁' (fun _ s₂ h₂=>wpAny_bind (wpAny_mono h₂ (fun ok s₃ h₃=>?_) fun _ _ h'=>h')) fun _ _ h'=>h')
  cases ok with
  | false=>exact wpAny_pure ⟨rfl,h₃⟩
  | true=>
   exact wpAny_bind (wpAny_bind (wpAny_mono h₃ (fun x s₄ h₄=>wpAny_bind (wpAny_mono h₄ (fun _ s₅ h₅=>wpAny_pure (wpAny_pure ⟨rfl,h₅⟩)) fun _ _ h'=>h')) fun _ _ h'=>h'))
end
section
variable {X:Cx}
theorem LcOk.invC {scope:Scope}{cl:List (Str×Addr)}{N':List Str}{fr:List (Option Nat)}{pins:List (Addr×Obj)}{σ:St}{H:Hp}{s:Shared}{h1:Heap}{fp:List Addr}{m1:Str→Option Value}{tk:Nat}
  (S:LcOk X scope cl N' fr) (I:Inv X pins σ H s) (hf:∀ b∈fp,FpOk X pins H b) (hfo:∀ b∈fp,b < s.heap.objs.size)
  (k:∀ b o,s.heap.get? b=some o→h1.get? b=some o) (hn:h1.Ns s.heap.objs.size m1):Inv (cxC X N' scope cl fp s H) [] (frσ fr σ) H { s with heap:=h1,toks:=tk }:=by
 have hfree:=S.frees
 have hcell:=S.nocell
 rw[List.all_eq_true] at hfree hcell
 have fresh:H s.heap.objs.size=none:=I.hok.fresh (Nat.le_refl _)
 have clg:=S.cls.get
 refine⟨⟨I.ok.mod,S.kind,I.ok.glob,I.ok.blt,Nat.le_refl _,fun x y c e1 e2=>I.ok.inj x y c (clg x c e1) (clg y c e2),fun x hx=>?_,(fun x c e=>nomatch e),I.ok.hd,I.ok.frames,.inl rfl,fun b hb=>⟨Nat.ne_of_lt (hfo b hb),fun x c e=>(hf b hb).2.2.2.2.1 x c (clg x c e)⟩,
  I.bs,Nat.le_trans I.ok.bsz I.sz,fun b o e hb=>?_,fun b hb hz=>?_,I.stack,I.stkFree⟩,rfl,I.bare,Un.kept k,⟨m1,hn,fun i x v e1 e2 e3=>?_⟩,fun x c e=>?_,fresh,fun x c e=>I.freeC x c (clg x c e),fun p hp=>absurd (show p∈([]:List (Addr×Obj)) from hp) (by simp),I.hok.kept k,?_⟩
 ·
  have hm:∃ k',(x,k')∈scope.names∧k'=NameKind.free:=by
   have hx':(relabel scope X.env).names.lookup x=some .cell∨(relabel scope X.env).names.lookup x=some .free:=hx
   obtain⟨k',e,hk'⟩:∃ k',(relabel scope X.env).names.lookup x=some k'∧(k'=.cell∨k'=.free):=by
    rcases hx' with e | e
    ·exact⟨_,e,.inl rfl⟩
    ·exact⟨_,e,.inr rfl⟩
   have hmem:=PySem.mem_of_lookup e
   obtain⟨⟨n,kn⟩,hp,he⟩:=List.mem_map.mp hmem
   dsimp only at he
   split at he
   ·rename_i hc
    cases he
    have:kn=.free:=by
     simp only [Bool.and_eq_true,beq_iff_eq] at hc
     exact hc.1.1
    exact⟨kn,hp,this⟩
   ·cases he
    rcases hk' with e' | e'
    ·subst e'
     have:=hcell _ hp
     simp at this
    ·exact⟨_,hp,e'⟩
  obtain⟨k',hp,rfl⟩:=hm
  have:=hfree _ hp
  simp only [bne_self_eq_false,Bool.false_or] at this
  exact Option.isSome_iff_exists.mp this
 ·rcases (hf b hb).2.2.2.1 with z | z
  ·exact I.ok.noex b o e z
  ·have:=Heap.lt_size e
   exact absurd (Nat.lt_of_lt_of_le this (Nat.le_trans I.ok.bsz z)) (Nat.lt_irrefl _)
 ·obtain⟨_,f1,f2,_⟩:=hf b hb
  rcases List.mem_cons.mp (I.stkSub b hz) with e | e
  ·exact f1 e
  ·exact f2 e
 ·
  unfold frσ at e2
  rw[List.getElem?_map] at e2
  cases ef:fr[i]? with
  | none=>rw[ef] at e2;cases e2
  | some o=>
   rw[ef] at e2
   cases o with
   | none=>simp at e2
   | some j=>
    have e2':(σ[j]?).join=some v:=by simpa using e2
    obtain⟨x',h1',h2',h3',h4'⟩:=S.fr.get i j ef
    rw[Nat.zero_add] at h1'
    have ex:x'=x:=by
     have:N'[i]? = some x:=e1
     rw[h1'] at this
     exact Option.some.inj this
    subst ex
    have e2'':σ[j]? = some (some v):=by
     cases q:σ[j]? with
     | none=>rw[q] at e2';cases e2'
     | some z=>rw[q] at e2';simp at e2';rw[e2']
    obtain⟨m,hm,hl⟩:=I.loc
    obtain⟨u,r,lk⟩:=hl j x' v h2' e2'' (.inr (.inl h4'))
    refine⟨u,r,?_⟩
    rcases lk with ⟨q,_⟩ | ⟨_,c,hc,z⟩
    ·rw[h4'] at q;cases q
    ·have hcl:∃ c',cl.lookup x'=some c':=by
      have:=hfree _ (PySem.mem_of_lookup h3')
      simp only [bne_self_eq_false,Bool.false_or] at this
      exact Option.isSome_iff_exists.mp this
     obtain⟨c',hc'⟩:=hcl
     have e':=clg x' c' hc'
     rw[hc] at e'
     cases e'
     obtain⟨oc,hoc,hd⟩:=z
     refine .inr ⟨.inl ?_,c,hc',oc,k c oc hoc,hd⟩
     exact lookup_relabel_free I.ok.kind h3' h4'
 ·obtain⟨v,oc,hoc,hd⟩:=I.cell x c (clg x c e)
  exact⟨v,oc,k c oc hoc,hd⟩
 ·show (frσ fr σ).length=N'.length
  unfold frσ
  rw[List.length_map,S.len]
theorem Inv.outC {scope:Scope}{cl:List (Str×Addr)}{N':List Str}{pins pins':List (Addr×Obj)}{σ σ':St}{H H':Hp}{s s':Shared}{fp:List Addr} (I:Inv X pins σ H s) (J:Inv (cxC X N' scope cl fp s H) pins' σ' H' s')
  (hf:∀ b∈fp,FpOk X pins H b):Inv X pins σ H' s':=
 I.call' (ch:=fp) J.os J.base J.hok J.bare fun b hb=>by
  obtain⟨_,f1,_,f3,f4,f5⟩:=hf b hb
  exact⟨f3,f1,f4,f5⟩
theorem Inv.letgo {pins:List (Addr×Obj)}{σ:St}{H:Hp}{s:Shared}{C:Addr}{h':Heap} (I:Inv X pins σ H s) (f:FpOk X pins H C) (hsb:Heap.SameBut C s.heap h'):Inv X pins σ H { s with heap:=h' }:=by
 obtain⟨f0,f1,f2,f3,f4,f5⟩:=f
 exact I.turned (t':=s.toks) (it:=C) (h':=h') (fun b o hb e=>(hsb.2 b hb).trans e) f0 f1 f3 f4 f5
theorem lc_block {elt tg iter:Expr}{ifs:List Expr}{scope:Scope}{pos:Pos}{N':List Str}{fr:List (Option Nat)}{cl:List (Str×Addr)}{g:TG}{tc:TT}{te:TE}
  {pins:List (Addr×Obj)}{σ:St}{H:Hp}{s:Shared}{J:It}{fp:List Addr}{it:Addr}{tn:Nat→Heap→Prop}{Q:Addr→Hp→Prop}{RR:Value→Addr→Result→Shared→Prop}{E:Value→Shared→Prop}
  (hx:∀ e s,¬ X.xe e s) (hc:X.calm=true) (S:LcOk X scope cl N' fr)
  (hg:∀ fp s H,PG (cxC X N' scope cl fp s H) tg g) (ht:∀ fp s H,PIf (cxC X N' scope cl fp s H) ifs tc) (he:∀ fp s H,PE (cxC X N' scope cl fp s H) elt te)
  (I:Inv X pins σ H s) (T:Turn X.prog X.w X.K tg J fp it tn) (st:tn 0 s.heap) (hf:∀ b∈fp,FpOk X pins H b) (h:lcRest J g tc te fr σ H Q)
  (hRR:∀ D C H' s' m',Inv X pins σ H' s'→Q D H'→s'.heap.Ns C m'→FpOk X pins H' C→RR (.ref D) C (.ok .next) s') :
  wpAny (model X.prog X.w) X.A (newList []) (fun acc s₃=>wpAny (model X.prog X.w) X.A (newFunctionEnv scope X.env.globals cl [] X.env.qual none .none (some X.env)) (fun cenv s₄=>
   codeAny (model X.prog X.w) X.A (.compStart (.ListComp elt [⟨tg,iter,ifs,0⟩] scope pos) 0 (.ref it) acc { cenv with scope:=relabel scope X.env }) (RR acc cenv.locals) s₄) E s₃) E s:=by
 have hcell:=S.nocell
 rw[List.all_eq_true] at hcell
 refine wpAny_newObj_type (wpAny_newFunctionEnv (fun x hx'=>by simpa using hcell x hx') (by intro y hy;simp at hy) (fun h₁ hns₁ hsb₁=>?_) S.kind)
 dsimp only at hns₁ hsb₁ ⊢
 have fresh:H s.heap.objs.size=none:=I.hok.fresh (Nat.le_refl _)
 have I3:Inv X pins σ (upd H s.heap.objs.size (.lst [])) { s with heap:=s.heap.push { cls:=.type "list",data:=.seq ([]:List Value).toArray },toks:=s.toks }:=I.lnew (ys:=[]) (its:=[]) .nil (Nat.zero_le _)
 have hf3:∀ b∈fp,FpOk X pins (upd H s.heap.objs.size (.lst [])) b:=fun b hb=>by
  obtain⟨o,ho,_⟩:=T.obj _ _ st b hb
  exact⟨by rw[aN (Nat.ne_of_lt (Heap.lt_size ho))];exact (hf b hb).1,(hf b hb).2⟩
 generalize hs3:({ s with heap:=s.heap.push { cls:=.type "list",data:=.seq ([]:List Value).toArray },toks:=s.toks }:Shared)=s3 at I3
 have e3:s3.heap=s.heap.push { cls:=.type "list",dict:=none,data:=.seq ([]:List Value).toArray }:=by rw[← hs3]
 have e3s:({ s with heap:=s.heap.push { cls:=.type "list",dict:=none,data:=.seq ([]:List Value).toArray } }:Shared)=s3:=hs3
 have hsz3:s3.heap.objs.size=s.heap.objs.size+1:=by rw[e3,Heap.size_push]
 have hfo:∀ b∈fp,b < s3.heap.objs.size:=fun b hb=>by
  obtain⟨o,ho,_⟩:=T.obj _ _ st b hb
  rw[hsz3]
  exact Nat.lt_succ_of_lt (Heap.lt_size ho)
 rw[← e3] at hns₁ hsb₁ ⊢
 have old3:∀ b o,s3.heap.get? b=some o→h₁.get? b=some o:=fun b o e=>hsb₁.extBut b o (Nat.ne_of_lt (Heap.lt_size e)) (Heap.get?_push_of_some _ e)
 have old:∀ b o,s.heap.get? b=some o→s3.heap.get? b=some o:=fun b o e=>by rw[e3];exact Heap.get?_push_of_some _ e
 have I4:=S.invC (tk:=s3.toks) I3 hf3 hfo old3 hns₁
 obtain⟨W,⟨m0,w0⟩,turn⟩:=h s.heap.objs.size fresh
 have stat:∀ {H':Hp},(∀ b∈fp,H' b=none)→∀ b∈fp,FpOk (cxC X N' scope cl fp s3 (upd H s.heap.objs.size (.lst []))) [] H' b:=fun hn b hb=>by
  refine⟨hn b hb,Nat.ne_of_lt (hfo b hb),?_,.inl hb,fun x c e=>(hf b hb).2.2.2.2.1 x c (S.cls.get x c e),fun p hp=>absurd (show p∈([]:List (Addr×Obj)) from hp) (by simp)⟩
  intro hz
  obtain⟨_,f1,f2,_⟩:=hf b hb
  rcases List.mem_cons.mp (I.stkSub b hz) with e | e
  ·exact f1 e
  ·exact f2 e
 have loop:∀ s4:Shared,s4={ s3 with heap:=h₁,toks:=s3.toks }→
   codeAny (model X.prog X.w) X.A (.compLoop (.ListComp elt [⟨tg,iter,ifs,0⟩] scope pos) 0 (.ref it) (.ref s.heap.objs.size) (compEnvC scope cl s3.heap.objs.size X.env)) (RR (.ref s.heap.objs.size) s3.heap.objs.size) s4:=by
  intro s4 hs4
  refine compLoop_any (fun n s'=>∃ i ys σ' H',Inv (cxC X N' scope cl fp s3 (upd H s.heap.objs.size (.lst []))) [] σ' H' s'∧tn i s'.heap∧(∀ b∈fp,H' b=none)∧W i n ys σ' H') ?_ m0
   ⟨0,[],frσ fr σ,_,by rw[hs4];exact I4,by rw[hs4];exact T.keep _ _ _ st fun b _ o e=>old3 b o (old b o e),fun b hb=>(hf3 b hb).1,w0⟩
  rintro n s5 ⟨i,ys,σ5,H5,I5,st5,fr5,w5⟩
  rcases turn i n ys σ5 H5 w5 with ⟨stop,qn⟩ | ⟨go,N,hN,step⟩
  ·refine cU (T.done (cxC X N' scope cl fp s3 (upd H s.heap.objs.size (.lst []))) rfl rfl rfl hc i [] s5 σ5 H5 _ I5 (stat fr5) st5 stop) fun r s6 ⟨hr,I6⟩=>?_
   subst hr
   obtain⟨m',hm',_⟩:=I6.loc
   exact hRR _ _ H5 s6 m' (I3.outC I6 hf3) qn hm' (I3.fpOk (Nat.le_refl _) I6.free)
  ·refine cU (T.item (cxC X N' scope cl fp s3 (upd H s.heap.objs.size (.lst []))) rfl rfl rfl hc i [] s5 σ5 H5 _ I5 (stat fr5) st5 go) fun r s6 ⟨u,hr,h6⟩=>?_
   subst hr
   refine cU h6 fun _ s7 ⟨x,H7,I7,r7,y7,st7,fr7⟩=>?_
   have I7':=I7.pinned (stat fr7) (T.obj _ _ st7)
   refine wpAny_mono (hg fp s3 _ _ s7 σ5 H7 x u _ I7' r7 (step x H7 y7)) (fun _ s8 ⟨σ8,H8,I8,q8⟩=>?_) fun e s' z=>(hx e s' z).elim
   refine wpAny_mono (ht fp s3 _ _ s8 σ8 H8 _ I8 q8) (fun ok s9 ⟨H9,I9,q9⟩=>?_) fun e s' z=>(hx e s' z).elim
   have again:∀ {s10:Shared}{H10:Hp}{ys':List V},Inv (cxC X N' scope cl fp s3 (upd H s.heap.objs.size (.lst []))) ([]++pinsAt fp s7.heap) σ8 H10 s10→N ys' σ8 H10→
     ∃ m,m < n∧∃ i ys σ' H',Inv (cxC X N' scope cl fp s3 (upd H s.heap.objs.size (.lst []))) [] σ' H' s10∧tn i s10.heap∧(∀ b∈fp,H' b=none)∧W i m ys σ' H':=fun {s10 H10 ys'} I10 n10=>by
    obtain⟨m',hm,w10⟩:=hN ys' σ8 H10 n10
    refine⟨m',hm,i+1,ys',σ8,H10,I10.unpinned,T.keep _ _ _ st7 fun b hb o e=>(I10.pin (b,o) (List.mem_append_right _ (List.mem_append_right _ (mem_pinsAt hb e)))).1,fun b hb=>?_,w10⟩
    obtain⟨o,e,d⟩:=T.obj _ _ st7 b hb
    exact (I10.pin (b,o) (List.mem_append_right _ (List.mem_append_right _ (mem_pinsAt hb e)))).2.1
   cases ok with
   | false=>
    rw[if_neg Bool.false_ne_true] at q9 ⊢
    exact again I9 q9
   | true=>
    rw[if_pos rfl] at q9 ⊢
    refine wpAny_mono (he fp s3 _ _ s9 σ8 H9 _ I9 q9) (fun y s10 ⟨yv,H10,I10,r10,hD,hlen,q10⟩=>?_) fun e s' z=>(hx e s' z).elim
    refine wpAny_mono (d4 (X:=cxC X N' scope cl fp s3 (upd H s.heap.objs.size (.lst []))) _ s10 σ8 H10 (.ref s.heap.objs.size) [yv] (.ref s.heap.objs.size) [y] (fun _ H11=>H11=upd H10 s.heap.objs.size (.lst (ys++[yv]))) I10 rfl (.cons r10 .nil)
     ⟨_,ys,yv,rfl,rfl,hD,hlen,rfl⟩) (fun _ s11 ⟨_,H11,I11,_,e11⟩=>?_) fun e s' z=>(hx e s' z).elim
    subst e11
    exact again I11 q10
 exact codeAny_compStart_list (loop _ (by rw[← e3s];rfl)) (T.self X.A 0 _ _ _ (T.keep _ _ _ st fun b _ o e=>old3 b o (old b o e)) (loop _ (by rw[← e3s];rfl)))
theorem pe_lc {elt tg iter:Expr}{ifs:List Expr}{scope:Scope}{pos:Pos}{N':List Str}{fr:List (Option Nat)}{cl:List (Str×Addr)}{wi:TI}{g:TG}{tc:TT}{te:TE}
  (hx:∀ e s,¬ X.xe e s) (hc:X.calm=true) (S:LcOk X scope cl N' fr) (hi:PI X tg iter wi)
  (hg:∀ fp s H,PG (cxC X N' scope cl fp s H) tg g) (ht:∀ fp s H,PIf (cxC X N' scope cl fp s H) ifs tc) (he:∀ fp s H,PE (cxC X N' scope cl fp s H) elt te)
  (hs:∀ x,foldedSetIterable iter X.env x=pure x:=by intro _;rfl):PE X (.ListComp elt [⟨tg,iter,ifs,0⟩] scope pos) (tLC wi fr g tc te):=by
 intro pins s σ H Q I h
 have hloc:=S.locs
 rw[List.all_eq_true] at hloc
 rw[eval_ListComp]
 refine wpAny_comprehension_free (use:=none) rfl hs S.clos S.kind (fun x hx' hl=>by have:=hloc x hx';rw[hl] at this;simpa using this) (cU (hi pins s σ H _ I h) fun v s1 h1=>cU h1 fun itv s2 h2=>?_)
 obtain⟨it,fp,tn,J,H2,e,I2,T,st2,f2,rest⟩:=h2
 subst e
 refine lc_block (RR:=fun acc C=>compPost (model X.prog X.w) X.A X.xe none (EP X pins σ Q) acc C) hx hc S hg ht he I2 T st2 f2 rest ?_
 intro D C H' s' m' I' q hn f
 exact⟨m',hn,fun h' hsb=>⟨.ref D,H',I'.letgo f hsb,rfl,q⟩⟩
theorem eD {i:Nat}{y:Str}{py:Pos}{spos:Pos}{elt tg iter:Expr}{ifs:List Expr}{scope:Scope}{pos:Pos}{N':List Str}{fr:List (Option Nat)}{cl:List (Str×Addr)}{wi:TI}{g:TG}{tc:TT}{te:TE}
  (hN:X.N.Nodup) (hy:X.N[i]? = some y) (hk:X.env.scope.names.lookup y=some .local)
  (hx:∀ e s,¬ X.xe e s) (hc:X.calm=true) (S:LcOk X scope cl N' fr) (hi:PI X tg iter wi)
  (hg:∀ fp s H,PG (cxC X N' scope cl fp s H) tg g) (ht:∀ fp s H,PIf (cxC X N' scope cl fp s H) ifs tc) (he:∀ fp s H,PE (cxC X N' scope cl fp s H) elt te)
  (hsw:swapsWith (.ListComp elt [⟨tg,iter,ifs,0⟩] scope pos) (some (.Name y py)) spos.line X.env=pure true:=by rfl)
  (hs:∀ x,foldedSetIterable iter X.env x=pure x:=by intro _;rfl):PS X (.Assign [.Name y py] (.ListComp elt [⟨tg,iter,ifs,0⟩] scope pos) spos) (tAsg (tLC wi fr g tc te) (gName i)):=by
 intro pins s σ H D I h
 have hloc:=S.locs
 rw[List.all_eq_true] at hloc
 rw[exec_Assign_Name_used _ _ _ _ hsw]
 refine wpAny_bind (wpAny_standAt (wpAny_bind ?_))
 show wpAny _ X.A (do let _ ← comprehension (.ListComp elt [⟨tg,iter,ifs,0⟩] scope pos) scope X.env _ (newList []) false (eval iter X.env) (some (assign (.Name y py) X.env))) _ _ s
 refine wpAny_bind (wpAny_mono (wpAny_comprehension_free (use:=some (assign (.Name y py) X.env)) (Q:=fun _ s'=>SP X pins D .next s') rfl hs S.clos S.kind (fun x hx' hl=>by have:=hloc x hx';rw[hl] at this;simpa using this)
  (cU (hi pins s σ H _ I h) fun v s1 h1=>cU h1 fun itv s2 h2=>?_)) (fun _ s' hq=>wpAny_pure (wpAny_pure hq)) fun _ _ e=>e)
 obtain⟨it,fp,tn,J,H2,e,I2,T,st2,f2,rest⟩:=h2
 subst e
 refine lc_block (RR:=fun acc C=>compPost (model X.prog X.w) X.A X.xe (some (assign (.Name y py) X.env)) (fun _ s'=>SP X pins D .next s') acc C) hx hc S hg ht he I2 T st2 f2 rest ?_
 intro Da C H' s' m' I' q hn f
 show wpAny _ X.A (assign (.Name y py) X.env (.ref Da)) _ _ _
 refine wpAny_assign_Name (store_ok2 I' hN hy (.inl hk) (v:=.ref Da) rfl (fun s'' I'' hch=>?_) (.inr hk))
 obtain⟨a,hsb,ha⟩:=hch
 have haC:a≠C:=by
  rcases ha with e | e
  ·rw[e];exact Ne.symm f.2.1
  ·exact f.2.2.2.2.1 _ _ e
 exact⟨m',hn.sameBut hsb (Ne.symm haC),fun h' hs'=>⟨_,H',I''.letgo f hs',q⟩⟩
end
end L2
namespace TwZ
open PySem
open Sem (wp)
noncomputable def dB (h:Heap) (t:Bool) (it a:Addr) (i:Nat):Prop:=if t=true then h.IsTupleIter it a i else h.IsListIter it a i
noncomputable def cA (h:Heap) (t:Bool) (a:Addr) (items:Array Value):Prop:=if t=true then h.IsTuple a items else h.IsList a items
theorem dB.at {h h':Heap}{t:Bool}{it a:Addr}{i:Nat} (x:dB h t it a i) (k:∀ o,h.get? it=some o→h'.get? it=some o):dB h' t it a i:=by
 cases t <;> (obtain⟨o,ho,r⟩:=x;exact⟨o,k o ho,r⟩)
theorem ex {h h':Heap}{b c:Addr}{o:Obj} (hs:Heap.SameBut b h h') (hc:@Ne Nat c b) (e:h.get? c=some o):h'.get? c=some o:=hs.extBut _ _ hc e
theorem dB.ext {h h':Heap}{t:Bool}{it a b:Addr}{i:Nat} (x:dB h t it a i) (hs:Heap.SameBut b h h') (hab:@Ne Nat it b):dB h' t it a i:=x.at fun o e=>hs.extBut _ _ hab e
theorem cA.at {h h':Heap}{t:Bool}{a:Addr}{xs:Array Value} (x:cA h t a xs) (k:∀ o,h.get? a=some o→h'.get? a=some o):cA h' t a xs:=by
 cases t <;> (obtain⟨o,ho,r⟩:=x;exact⟨o,k o ho,r⟩)
theorem cA.ext {h h':Heap}{t:Bool}{a b:Addr}{xs:Array Value} (x:cA h t a xs) (hs:Heap.SameBut b h h') (hab:@Ne Nat a b):cA h' t a xs:=x.at fun o e=>hs.extBut _ _ hab e
theorem cA.lt {h:Heap}{t:Bool}{a:Addr}{xs:Array Value} (x:cA h t a xs):a < h.objs.size:=by
 cases t <;> (obtain⟨o,ho,r⟩:=x;exact Heap.lt_size ho)
theorem dB.obj {h:Heap}{t:Bool}{it a:Addr}{i:Nat} (x:dB h t it a i):∃ o,h.get? it=some o∧∀ v,o.data≠.cell v:=by
 cases t <;> (obtain⟨o,ho,_,d⟩:=x;exact⟨o,ho,fun v z=>by rw[d] at z;cases z⟩)
section
variable {prog:Program}{w:World}{M:Model}{A:Around}{E:Value→Shared→Prop}{s:Shared}
theorem wpAny_alive {a:Addr}{Q:Option Obj→Shared→Prop} (h:Q (s.heap.get? a) s):wpAny M A (loadIfAlive a) Q E s:=fun Γ p _=>by
 unfold loadIfAlive
 rw[Sem.wp_loadIfAlive]
 exact h
theorem nextOf_tuple_item {it l:Addr}{i:Nat}{items}{x:Value}{Q:Value→Shared→Prop} (hit:s.heap.IsTupleIter it l i)
  (hl:s.heap.IsTuple l items) (hx:items[i]? = some x)
  (hQ:∀ h',h'.IsTupleIter it l (i+1)→Heap.SameBut it s.heap h'→Q x { s with heap:=h' }) :
  wpAny (model prog w) A (Builtin.SmallTypes.nextOf (.ref it)) Q E s:=by
 obtain⟨o,ho,hc,hd⟩:=id hit
 obtain⟨ol,hol,_,nl,hdl⟩:=hl
 unfold Builtin.SmallTypes.nextOf
 refine wpAny_bind (wpAny_callSpecial?_slot (name:=Str.ofString "__next__") hit.typeIs F.slot_tuple_iterator_next
  (wpAny_call_entry F.slot_tuple_iterator_next hit.typeIs F.entry_tuple_iterator_next ?_ (F.args_tuple_iterator_next_1 _)))
 show wpAny _ _ (field (.ref it) 0 >>= _) _ _ s
 refine wpAny_bind (wpAny_field ho hd (x:=.ref l) rfl ?_)
 show wpAny _ _ (if (Value.ref l == Value.none)=true then _ else _) _ _ s
 rw[if_neg (show ¬ ((Value.ref l == Value.none)=true) from Bool.false_ne_true)]
 show wpAny _ _ (field (.ref it) 1 >>= _) _ _ s
 refine wpAny_bind (wpAny_field ho hd (x:=.int i 0) rfl ?_)
 show wpAny _ _ (seqItems? (.ref l) >>= _) _ _ s
 refine wpAny_bind (wpAny_seqItems hol hdl ?_)
 simp only [Int.toNat_natCast,hx]
 refine wpAny_bind (wpAny_setField ho hd (by simp) (wpAny_pure ⟨x,rfl,wpAny_pure (hQ _ ?_ (Heap.SameBut.update ..))⟩))
 exact⟨_,Heap.get?_update_self _ ho (Obj.isFreed_of_fields (Obj.data_mapFields hd _)),(Obj.cls_mapFields ..).trans hc,by
  rw[Obj.data_mapFields hd];simp [rawInt]⟩
theorem nextOf_tuple_end {it l:Addr}{i:Nat}{items}{Q:Value→Shared→Prop} (hh:A.handled=none)
  (hit:s.heap.IsTupleIter it l i) (hl:s.heap.IsTuple l items) (hx:items[i]? = none)
  (hE:∀ h' e,Heap.ExtBut it s.heap h'→(∃ o,h'.get? e=some o∧o.cls=.type "StopIteration")→E (.ref e) { s with heap:=h' }) :
  wpAny (model prog w) A (Builtin.SmallTypes.nextOf (.ref it)) Q E s:=by
 obtain⟨o,ho,hc,hd⟩:=id hit
 obtain⟨ol,hol,_,nl,hdl⟩:=hl
 unfold Builtin.SmallTypes.nextOf
 refine wpAny_bind (wpAny_callSpecial?_slot (name:=Str.ofString "__next__") hit.typeIs F.slot_tuple_iterator_next
  (wpAny_call_entry F.slot_tuple_iterator_next hit.typeIs F.entry_tuple_iterator_next ?_ (F.args_tuple_iterator_next_1 _)))
 show wpAny _ _ (field (.ref it) 0 >>= _) _ _ s
 refine wpAny_bind (wpAny_field ho hd (x:=.ref l) rfl ?_)
 show wpAny _ _ (if (Value.ref l == Value.none)=true then _ else _) _ _ s
 rw[if_neg (show ¬ ((Value.ref l == Value.none)=true) from Bool.false_ne_true)]
 show wpAny _ _ (field (.ref it) 1 >>= _) _ _ s
 refine wpAny_bind (wpAny_field ho hd (x:=.int i 0) rfl ?_)
 show wpAny _ _ (seqItems? (.ref l) >>= _) _ _ s
 refine wpAny_bind (wpAny_seqItems hol hdl ?_)
 simp only [Int.toNat_natCast,hx]
 refine wpAny_bind (wpAny_rule (wpAny_bind (wpAny_setField ho hd (by simp) ?_)))
 show wpAny _ _ (newExc (.type "StopIteration") [] >>= _) _ _ _
 refine wpAny_bind ?_
 simp only [newExc,newTuple]
 refine wpAny_bind (wpAny_newObj_type ?_ (by size_fits))
 refine wpAny_bind (m:=firstArgMember _ _) (wpAny_of_eq (a:=Value.none) (by first | rfl | (simp only [firstArgMember];rfl)) ?_)
 refine wpAny_newObj_type ?_ (by size_fits)
 simp only [raiseNew]
 refine wpAny_bind (wpAny_handled ?_)
 first | rw[show A.in1.handled=none from hh] | rw[hh]
 refine wpAny_bind (wpAny_pure (wpAny_throw ?_))
 exact hE _ _ (((Heap.SameBut.update ..).extBut.push _).push _) ⟨_,Heap.get?_push_size _ rfl,rfl⟩
theorem bM {t:Bool}{it l:Addr}{i:Nat}{items}{x:Value}{Q:Value→Shared→Prop} (hit:dB s.heap t it l i)
  (hl:cA s.heap t l items) (hx:items[i]? = some x)
  (hQ:∀ h',dB h' t it l (i+1)→Heap.SameBut it s.heap h'→Q x { s with heap:=h' }) :
  wpAny (model prog w) A (Builtin.SmallTypes.nextOf (.ref it)) Q E s:=by
 cases t with
 | true=>exact nextOf_tuple_item hit hl hx hQ
 | false=>exact wpAny_nextOf_list_item hit hl hx hQ
theorem d5 {t:Bool}{it l:Addr}{i:Nat}{items}{Q:Value→Shared→Prop} (hh:A.handled=none)
  (hit:dB s.heap t it l i) (hl:cA s.heap t l items) (hx:items[i]? = none)
  (hE:∀ h' e,Heap.ExtBut it s.heap h'→(∃ o,h'.get? e=some o∧o.cls=.type "StopIteration")→E (.ref e) { s with heap:=h' }) :
  wpAny (model prog w) A (Builtin.SmallTypes.nextOf (.ref it)) Q E s:=by
 cases t with
 | true=>exact nextOf_tuple_end hh hit hl hx hE
 | false=>exact wpAny_nextOf_list_end hh hit hl hx hE
noncomputable abbrev IsZ (h:Heap) (z TI TO:Addr) (f0:Value) (f1:Bool):Prop:=
 h.get? z=some { cls:=.type "zip",dict:=none,data:=.fields #[f0,.bool f1,.bool false,.ref TI,.ref TO],slots:=#[] }
noncomputable abbrev d6 (h:Heap) (T:Addr) (vs:Array Value):Prop:=h.get? T=some { cls:=.type "tuple",data:=.seq vs }
noncomputable def Free0 (f0:Value):Prop:=f0=.none∨∃ a:Int,f0=.int a 0
theorem owned_free {z TI TO:Addr}{f0:Value}{f1:Bool}{Q:Bool→Shared→Prop} (hz:IsZ s.heap z TI TO f0 f1) (hf:Free0 f0) (yes:Q true s)
  (no:∀ h',IsZ h' z TI TO f0 true→Heap.SameBut z s.heap h'→Q false { s with heap:=h' }):wpAny (model prog w) A (Builtin.SmallTypes.ownedTupleIsFree (.ref z)) Q E s:=by
 unfold Builtin.SmallTypes.ownedTupleIsFree
 refine wpAny_bind (wpAny_field hz rfl (x:=f0) rfl ?_)
 rcases hf with rfl | ⟨a,rfl⟩
 ·exact wpAny_pure yes
 ·refine wpAny_bind (wpAny_alive ?_)
  cases h:s.heap.get? a.toNat with
  | none=>exact wpAny_pure yes
  | some o=>
   show wpAny _ _ (field (.ref z) 1 >>= _) _ _ _
   refine wpAny_bind (wpAny_field hz rfl (x:=.bool f1) rfl ?_)
   cases f1 with
   | true=>exact wpAny_pure (no s.heap hz (Heap.SameBut.refl ..))
   | false=>
    show wpAny _ _ (setField (.ref z) 1 (.bool true) >>= _) _ _ _
    refine wpAny_bind (wpAny_setField_rec hz (by simp) fun h₁ hz₁ hs₁=>wpAny_pure (no h₁ hz₁ hs₁))
theorem handOut {z TI TO:Addr}{f0:Value}{f1:Bool}{T:Addr}{Q:Unit→Shared→Prop} (hz:IsZ s.heap z TI TO f0 f1)
  (h:∀ h',IsZ h' z TI TO (rawInt T) false→Heap.SameBut z s.heap h'→Q () { s with heap:=h' }):wpAny (model prog w) A (Builtin.SmallTypes.ownedTupleHandOut (.ref z) (.ref T)) Q E s:=by
 unfold Builtin.SmallTypes.ownedTupleHandOut
 refine wpAny_bind (wpAny_setField_rec hz (by simp) fun h₁ hz₁ hs₁=>?_)
 replace hz₁:IsZ h₁ z TI TO (rawInt T) f1:=hz₁
 refine wpAny_setField_rec hz₁ (by simp) fun h₂ hz₂ hs₂=>?_
 exact h h₂ hz₂ (Heap.SameBut.trans hs₁ hs₂)
theorem seq_set {T:Addr}{vs:Array Value}{x:Value}{k:Nat}{Q:Unit→Shared→Prop} (hT:d6 s.heap T vs) (h3:vs.size≤3)
  (h:∀ h',d6 h' T (vs.setIfInBounds k x)→Heap.SameBut T s.heap h'→Q () { s with heap:=h' }):wpAny (model prog w) A (updateSeq T (·.setIfInBounds k x)) Q E s:=by
 have hl:vs.size≤sizeLine:=Nat.le_trans h3 (by decide)
 refine wpAny_updateSeq (hz:=hl) (_hz':=by rw[Array.size_setIfInBounds];omega) hT rfl (h _ ?_ (Heap.SameBut.update ..))
 show Heap.get? _ _=_
 rw[Heap.get?_update_self _ hT rfl]
 simp [Obj.mapSeq]
theorem nn {n i j:Nat} (h:i≠j):n+i≠n+j:=fun e=>h (Nat.add_left_cancel e)
theorem n0 {n j:Nat} (h:0 < j):n≠n+j:=fun e=>absurd e (Nat.ne_of_lt (Nat.lt_add_of_pos_right h))
theorem aT {n j:Nat} (h:0 < j):n+j≠n:=Ne.symm (n0 h)
theorem al {a n:Nat} (h:a < n) (j:Nat):a≠n+j:=Nat.ne_of_lt (Nat.lt_of_lt_of_le h (Nat.le_add_right n j))
theorem aI {a n:Nat} (h:a < n):a≠n:=Nat.ne_of_lt h
theorem co {c n m k:Nat} (h:c < n∨n+m < c) (hk:k≤m):c≠n+k:=fun e=>h.elim (fun h=>absurd e (al h k)) fun h=>absurd (Nat.lt_of_le_of_lt (Nat.add_le_add_left hk n) h) (by rw[e];exact Nat.lt_irrefl _)
theorem aU {c n m:Nat} (h:c < n∨n+m < c):c≠n:=co (k:=0) h (Nat.zero_le m)
theorem zip3_next {n a1 a2 a3:Nat}{t1 t2 t3:Bool}{k:Nat}{xs ys zs:Array Value}{x y z c1 c2 c3 f0:Value}{f1:Bool}{Q:Value→Shared→Prop} (hf:Free0 f0)
  (hz:IsZ s.heap (n+5) (n+3) (n+4) f0 f1) (hTI:d6 s.heap (n+3) #[.ref n,.ref (n+1),.ref (n+2)]) (hTO:d6 s.heap (n+4) #[c1,c2,c3])
  (i1:dB s.heap t1 n a1 k) (i2:dB s.heap t2 (n+1) a2 k) (i3:dB s.heap t3 (n+2) a3 k) (s1:cA s.heap t1 a1 xs) (s2:cA s.heap t2 a2 ys) (s3:cA s.heap t3 a3 zs)
  (l1:a1 < n) (l2:a2 < n) (l3:a3 < n) (hx:xs[k]? = some x) (hy:ys[k]? = some y) (hw:zs[k]? = some z)
  (hQ:∀ (T:Nat) h' f0' f1' d1 d2 d3,s.heap.objs.size≤T→Free0 f0'→IsZ h' (n+5) (n+3) (n+4) f0' f1'→d6 h' (n+3) #[.ref n,.ref (n+1),.ref (n+2)]→d6 h' (n+4) #[d1,d2,d3]→
   dB h' t1 n a1 (k+1)→dB h' t2 (n+1) a2 (k+1)→dB h' t3 (n+2) a3 (k+1)→d6 h' T #[x,y,z]→
   (∀ (c:Nat) o,(c < n∨n+5 < c)→s.heap.get? c=some o→h'.get? c=some o)→Q (.ref T) { s with heap:=h' }) :
  wpAny (model prog w) A (Builtin.«zip.__next__» ⟨[.ref (n+5)],[]⟩) (fun fin s'=>∃ v,fin=.done (.ret v)∧Q v s') E s:=by
 have hzlt:n+5 < s.heap.objs.size:=Heap.lt_size hz
 show wpAny _ _ (field (.ref (n+5)) 2 >>= _) _ _ _
 refine wpAny_bind (wpAny_field hz rfl (x:=.bool false) rfl ?_)
 show wpAny _ _ (field (.ref (n+5)) 3 >>= _) _ _ _
 refine wpAny_bind (wpAny_field hz rfl (x:=.ref (n+3)) rfl ?_)
 refine wpAny_bind (wpAny_seqItems hTI rfl ?_)
 show wpAny _ _ (Builtin.SmallTypes.ownedTupleIsFree (.ref (n+5)) >>= _) _ _ _
 refine wpAny_bind (owned_free hz hf ?_ ?_)
 ·simp only [if_true]
  refine wpAny_bind (wpAny_rule ?_)
  refine wpAny_bind (wpAny_field hz rfl (x:=.ref (n+4)) rfl ?_)
  refine wpAny_bind (wpAny_setField_rec hz (by simp) fun h₁ hz₁ hs₁=>?_)
  replace hz₁:IsZ h₁ (n+5) (n+3) (n+4) .ellipsis f1:=hz₁
  refine wpAny_bind ?_
  simp only [List.zipIdx_cons,List.zipIdx_nil,List.forIn_cons,List.forIn_nil]
  refine wpAny_bind (wpAny_bind (wpAny_onRaise ?_))
  show wpAny _ _ (Builtin.SmallTypes.nextOf (.ref n) >>= _) _ _ _
  refine wpAny_bind (bM (i1.ext hs₁ (by first | exact nn (by decide) | exact n0 (by decide) | exact aT (by decide) | exact al l1 _ | exact al l2 _ | exact al l3 _ | exact aI l1 | exact aI l2 | exact aI l3 | exact co hc (by decide) | exact aU hc | omega)) (s1.ext hs₁ (by first | exact nn (by decide) | exact n0 (by decide) | exact aT (by decide) | exact al l1 _ | exact al l2 _ | exact al l3 _ | exact aI l1 | exact aI l2 | exact aI l3 | exact co hc (by decide) | exact aU hc | omega)) hx fun h₂ i1₂ hs₂=>wpAny_pure ?_)
  have hTO₂:d6 h₂ (n+4) #[c1,c2,c3]:=ex hs₂ (by first | exact nn (by decide) | exact n0 (by decide) | exact aT (by decide) | exact al l1 _ | exact al l2 _ | exact al l3 _ | exact aI l1 | exact aI l2 | exact aI l3 | exact co hc (by decide) | exact aU hc | omega) (ex hs₁ (by first | exact nn (by decide) | exact n0 (by decide) | exact aT (by decide) | exact al l1 _ | exact al l2 _ | exact al l3 _ | exact aI l1 | exact aI l2 | exact aI l3 | exact co hc (by decide) | exact aU hc | omega) hTO)
  refine wpAny_bind (wpAny_seqItems hTO₂ rfl ?_)
  refine wpAny_bind (seq_set hTO₂ (by simp) fun h₃ hTO₃ hs₃=>?_)
  replace hTO₃:d6 h₃ (n+4) #[x,c2,c3]:=hTO₃
  refine wpAny_bind (wpAny_letGo (wpAny_pure ?_))
  refine wpAny_bind (wpAny_bind (wpAny_onRaise ?_))
  show wpAny _ _ (Builtin.SmallTypes.nextOf (.ref (n+1)) >>= _) _ _ _
  refine wpAny_bind (bM (((i2.ext hs₁ (by first | exact nn (by decide) | exact n0 (by decide) | exact aT (by decide) | exact al l1 _ | exact al l2 _ | exact al l3 _ | exact aI l1 | exact aI l2 | exact aI l3 | exact co hc (by decide) | exact aU hc | omega)).ext hs₂ (by first | exact nn (by decide) | exact n0 (by decide) | exact aT (by decide) | exact al l1 _ | exact al l2 _ | exact al l3 _ | exact aI l1 | exact aI l2 | exact aI l3 | exact co hc (by decide) | exact aU hc | omega)).ext hs₃ (by first | exact nn (by decide) | exact n0 (by decide) | exact aT (by decide) | exact al l1 _ | exact al l2 _ | exact al l3 _ | exact aI l1 | exact aI l2 | exact aI l3 | exact co hc (by decide) | exact aU hc | omega)) (((s2.ext hs₁ (by first | exact nn (by decide) | exact n0 (by decide) | exact aT (by decide) | exact al l1 _ | exact al l2 _ | exact al l3 _ | exact aI l1 | exact aI l2 | exact aI l3 | exact co hc (by decide) | exact aU hc | omega)).ext hs₂ (by first | exact nn (by decide) | exact n0 (by decide) | exact aT (by decide) | exact al l1 _ | exact al l2 _ | exact al l3 _ | exact aI l1 | exact aI l2 | exact aI l3 | exact co hc (by decide) | exact aU hc | omega)).ext hs₃ (by first | exact nn (by decide) | exact n0 (by decide) | exact aT (by decide) | exact al l1 _ | exact al l2 _ | exact al l3 _ | exact aI l1 | exact aI l2 | exact aI l3 | exact co hc (by decide) | exact aU hc | omega)) hy fun h₄ i2₄ hs₄=>wpAny_pure ?_)
  have hTO₄:d6 h₄ (n+4) #[x,c2,c3]:=ex hs₄ (by first | exact nn (by decide) | exact n0 (by decide) | exact aT (by decide) | exact al l1 _ | exact al l2 _ | exact al l3 _ | exact aI l1 | exact aI l2 | exact aI l3 | exact co hc (by decide) | exact aU hc | omega) hTO₃
  refine wpAny_bind (wpAny_seqItems hTO₄ rfl ?_)
  refine wpAny_bind (seq_set hTO₄ (by simp) fun h₅ hTO₅ hs₅=>?_)
  replace hTO₅:d6 h₅ (n+4) #[x,y,c3]:=hTO₅
  refine wpAny_bind (wpAny_letGo (wpAny_pure ?_))
  refine wpAny_bind (wpAny_bind (wpAny_onRaise ?_))
  show wpAny _ _ (Builtin.SmallTypes.nextOf (.ref (n+2)) >>= _) _ _ _
  refine wpAny_bind (bM (((((i3.ext hs₁ (by first | exact nn (by decide) | exact n0 (by decide) | exact aT (by decide) | exact al l1 _ | exact al l2 _ | exact al l3 _ | exact aI l1 | exact aI l2 | exact aI l3 | exact co hc (by decide) | exact aU hc | omega)).ext hs₂ (by first | exact nn (by decide) | exact n0 (by decide) | exact aT (by decide) | exact al l1 _ | exact al l2 _ | exact al l3 _ | exact aI l1 | exact aI l2 | exact aI l3 | exact co hc (by decide) | exact aU hc | omega)).ext hs₃ (by first | exact nn (by decide) | exact n0 (by decide) | exact aT (by decide) | exact al l1 _ | exact al l2 _ | exact al l3 _ | exact aI l1 | exact aI l2 | exact aI l3 | exact co hc (by decide) | exact aU hc | omega)).ext hs₄ (by first | exact nn (by decide) | exact n0 (by decide) | exact aT (by decide) | exact al l1 _ | exact al l2 _ | exact al l3 _ | exact aI l1 | exact aI l2 | exact aI l3 | exact co hc (by decide) | exact aU hc | omega)).ext hs₅ (by first | exact nn (by decide) | exact n0 (by decide) | exact aT (by decide) | exact al l1 _ | exact al l2 _ | exact al l3 _ | exact aI l1 | exact aI l2 | exact aI l3 | exact co hc (by decide) | exact aU hc | omega))
   (((((s3.ext hs₁ (by first | exact nn (by decide) | exact n0 (by decide) | exact aT (by decide) | exact al l1 _ | exact al l2 _ | exact al l3 _ | exact aI l1 | exact aI l2 | exact aI l3 | exact co hc (by decide) | exact aU hc | omega)).ext hs₂ (by first | exact nn (by decide) | exact n0 (by decide) | exact aT (by decide) | exact al l1 _ | exact al l2 _ | exact al l3 _ | exact aI l1 | exact aI l2 | exact aI l3 | exact co hc (by decide) | exact aU hc | omega)).ext hs₃ (by first | exact nn (by decide) | exact n0 (by decide) | exact aT (by decide) | exact al l1 _ | exact al l2 _ | exact al l3 _ | exact aI l1 | exact aI l2 | exact aI l3 | exact co hc (by decide) | exact aU hc | omega)).ext hs₄ (by first | exact nn (by decide) | exact n0 (by decide) | exact aT (by decide) | exact al l1 _ | exact al l2 _ | exact al l3 _ | exact aI l1 | exact aI l2 | exact aI l3 | exact co hc (by decide) | exact aU hc | omega)).ext hs₅ (by first | exact nn (by decide) | exact n0 (by decide) | exact aT (by decide) | exact al l1 _ | exact al l2 _ | exact al l3 _ | exact aI l1 | exact aI l2 | exact aI l3 | exact co hc (by decide) | exact aU hc | omega)) hw fun h₆ i3₆ hs₆=>wpAny_pure ?_)
  have hTO₆:d6 h₆ (n+4) #[x,y,c3]:=ex hs₆ (by first | exact nn (by decide) | exact n0 (by decide) | exact aT (by decide) | exact al l1 _ | exact al l2 _ | exact al l3 _ | exact aI l1 | exact aI l2 | exact aI l3 | exact co hc (by decide) | exact aU hc | omega) hTO₅
  refine wpAny_bind (wpAny_seqItems hTO₆ rfl ?_)
  refine wpAny_bind (seq_set hTO₆ (by simp) fun h₇ hTO₇ hs₇=>?_)
  replace hTO₇:d6 h₇ (n+4) #[x,y,z]:=hTO₇
  refine wpAny_bind (wpAny_letGo (wpAny_pure (wpAny_pure ?_)))
  refine wpAny_bind (wpAny_seqItems hTO₇ rfl ?_)
  refine wpAny_bind (wpAny_newTuple ?_)
  have hsz:h₇.objs.size=s.heap.objs.size:=by rw[hs₇.1,hs₆.1,hs₅.1,hs₄.1,hs₃.1,hs₂.1,hs₁.1]
  have keep:∀ (c:Nat) o,(c < n∨n+5 < c)→s.heap.get? c=some o→h₇.get? c=some o:=fun c o hc e=>
   ex hs₇ (by first | exact nn (by decide) | exact n0 (by decide) | exact aT (by decide) | exact al l1 _ | exact al l2 _ | exact al l3 _ | exact aI l1 | exact aI l2 | exact aI l3 | exact co hc (by decide) | exact aU hc | omega) (ex hs₆ (by first | exact nn (by decide) | exact n0 (by decide) | exact aT (by decide) | exact al l1 _ | exact al l2 _ | exact al l3 _ | exact aI l1 | exact aI l2 | exact aI l3 | exact co hc (by decide) | exact aU hc | omega) (ex hs₅ (by first | exact nn (by decide) | exact n0 (by decide) | exact aT (by decide) | exact al l1 _ | exact al l2 _ | exact al l3 _ | exact aI l1 | exact aI l2 | exact aI l3 | exact co hc (by decide) | exact aU hc | omega) (ex hs₄ (by first | exact nn (by decide) | exact n0 (by decide) | exact aT (by decide) | exact al l1 _ | exact al l2 _ | exact al l3 _ | exact aI l1 | exact aI l2 | exact aI l3 | exact co hc (by decide) | exact aU hc | omega) (ex hs₃ (by first | exact nn (by decide) | exact n0 (by decide) | exact aT (by decide) | exact al l1 _ | exact al l2 _ | exact al l3 _ | exact aI l1 | exact aI l2 | exact aI l3 | exact co hc (by decide) | exact aU hc | omega) (ex hs₂ (by first | exact nn (by decide) | exact n0 (by decide) | exact aT (by decide) | exact al l1 _ | exact al l2 _ | exact al l3 _ | exact aI l1 | exact aI l2 | exact aI l3 | exact co hc (by decide) | exact aU hc | omega) (ex hs₁ (by first | exact nn (by decide) | exact n0 (by decide) | exact aT (by decide) | exact al l1 _ | exact al l2 _ | exact al l3 _ | exact aI l1 | exact aI l2 | exact aI l3 | exact co hc (by decide) | exact aU hc | omega) e))))))
  have hz₇:IsZ h₇ (n+5) (n+3) (n+4) .ellipsis f1:=ex hs₇ (by first | exact nn (by decide) | exact n0 (by decide) | exact aT (by decide) | exact al l1 _ | exact al l2 _ | exact al l3 _ | exact aI l1 | exact aI l2 | exact aI l3 | exact co hc (by decide) | exact aU hc | omega) (ex hs₆ (by first | exact nn (by decide) | exact n0 (by decide) | exact aT (by decide) | exact al l1 _ | exact al l2 _ | exact al l3 _ | exact aI l1 | exact aI l2 | exact aI l3 | exact co hc (by decide) | exact aU hc | omega) (ex hs₅ (by first | exact nn (by decide) | exact n0 (by decide) | exact aT (by decide) | exact al l1 _ | exact al l2 _ | exact al l3 _ | exact aI l1 | exact aI l2 | exact aI l3 | exact co hc (by decide) | exact aU hc | omega) (ex hs₄ (by first | exact nn (by decide) | exact n0 (by decide) | exact aT (by decide) | exact al l1 _ | exact al l2 _ | exact al l3 _ | exact aI l1 | exact aI l2 | exact aI l3 | exact co hc (by decide) | exact aU hc | omega) (ex hs₃ (by first | exact nn (by decide) | exact n0 (by decide) | exact aT (by decide) | exact al l1 _ | exact al l2 _ | exact al l3 _ | exact aI l1 | exact aI l2 | exact aI l3 | exact co hc (by decide) | exact aU hc | omega) (ex hs₂ (by first | exact nn (by decide) | exact n0 (by decide) | exact aT (by decide) | exact al l1 _ | exact al l2 _ | exact al l3 _ | exact aI l1 | exact aI l2 | exact aI l3 | exact co hc (by decide) | exact aU hc | omega) hz₁)))))
  have hTI₇:d6 h₇ (n+3) #[.ref n,.ref (n+1),.ref (n+2)]:=ex hs₇ (by first | exact nn (by decide) | exact n0 (by decide) | exact aT (by decide) | exact al l1 _ | exact al l2 _ | exact al l3 _ | exact aI l1 | exact aI l2 | exact aI l3 | exact co hc (by decide) | exact aU hc | omega) (ex hs₆ (by first | exact nn (by decide) | exact n0 (by decide) | exact aT (by decide) | exact al l1 _ | exact al l2 _ | exact al l3 _ | exact aI l1 | exact aI l2 | exact aI l3 | exact co hc (by decide) | exact aU hc | omega) (ex hs₅ (by first | exact nn (by decide) | exact n0 (by decide) | exact aT (by decide) | exact al l1 _ | exact al l2 _ | exact al l3 _ | exact aI l1 | exact aI l2 | exact aI l3 | exact co hc (by decide) | exact aU hc | omega) (ex hs₄ (by first | exact nn (by decide) | exact n0 (by decide) | exact aT (by decide) | exact al l1 _ | exact al l2 _ | exact al l3 _ | exact aI l1 | exact aI l2 | exact aI l3 | exact co hc (by decide) | exact aU hc | omega) (ex hs₃ (by first | exact nn (by decide) | exact n0 (by decide) | exact aT (by decide) | exact al l1 _ | exact al l2 _ | exact al l3 _ | exact aI l1 | exact aI l2 | exact aI l3 | exact co hc (by decide) | exact aU hc | omega) (ex hs₂ (by first | exact nn (by decide) | exact n0 (by decide) | exact aT (by decide) | exact al l1 _ | exact al l2 _ | exact al l3 _ | exact aI l1 | exact aI l2 | exact aI l3 | exact co hc (by decide) | exact aU hc | omega) (ex hs₁ (by first | exact nn (by decide) | exact n0 (by decide) | exact aT (by decide) | exact al l1 _ | exact al l2 _ | exact al l3 _ | exact aI l1 | exact aI l2 | exact aI l3 | exact co hc (by decide) | exact aU hc | omega) hTI))))))
  have i1₇:=((((i1₂.ext hs₃ (by first | exact nn (by decide) | exact n0 (by decide) | exact aT (by decide) | exact al l1 _ | exact al l2 _ | exact al l3 _ | exact aI l1 | exact aI l2 | exact aI l3 | exact co hc (by decide) | exact aU hc | omega)).ext hs₄ (by first | exact nn (by decide) | exact n0 (by decide) | exact aT (by decide) | exact al l1 _ | exact al l2 _ | exact al l3 _ | exact aI l1 | exact aI l2 | exact aI l3 | exact co hc (by decide) | exact aU hc | omega)).ext hs₅ (by first | exact nn (by decide) | exact n0 (by decide) | exact aT (by decide) | exact al l1 _ | exact al l2 _ | exact al l3 _ | exact aI l1 | exact aI l2 | exact aI l3 | exact co hc (by decide) | exact aU hc | omega)).ext hs₆ (by first | exact nn (by decide) | exact n0 (by decide) | exact aT (by decide) | exact al l1 _ | exact al l2 _ | exact al l3 _ | exact aI l1 | exact aI l2 | exact aI l3 | exact co hc (by decide) | exact aU hc | omega)).ext hs₇ (by first | exact nn (by decide) | exact n0 (by decide) | exact aT (by decide) | exact al l1 _ | exact al l2 _ | exact al l3 _ | exact aI l1 | exact aI l2 | exact aI l3 | exact co hc (by decide) | exact aU hc | omega)
  have i2₇:=((i2₄.ext hs₅ (by first | exact nn (by decide) | exact n0 (by decide) | exact aT (by decide) | exact al l1 _ | exact al l2 _ | exact al l3 _ | exact aI l1 | exact aI l2 | exact aI l3 | exact co hc (by decide) | exact aU hc | omega)).ext hs₆ (by first | exact nn (by decide) | exact n0 (by decide) | exact aT (by decide) | exact al l1 _ | exact al l2 _ | exact al l3 _ | exact aI l1 | exact aI l2 | exact aI l3 | exact co hc (by decide) | exact aU hc | omega)).ext hs₇ (by first | exact nn (by decide) | exact n0 (by decide) | exact aT (by decide) | exact al l1 _ | exact al l2 _ | exact al l3 _ | exact aI l1 | exact aI l2 | exact aI l3 | exact co hc (by decide) | exact aU hc | omega)
  have i3₇:=i3₆.ext hs₇ (by first | exact nn (by decide) | exact n0 (by decide) | exact aT (by decide) | exact al l1 _ | exact al l2 _ | exact al l3 _ | exact aI l1 | exact aI l2 | exact aI l3 | exact co hc (by decide) | exact aU hc | omega)
  have hzlt₇:n+5 < h₇.objs.size:=by rw[hsz];exact hzlt
  have up:∀ {c o},h₇.get? c=some o→(h₇.push { cls:=.type "tuple",data:=.seq #[x,y,z] }).get? c=some o:=fun e=>Heap.get?_push_of_some _ e
  refine wpAny_bind (handOut (z:=n+5) (TI:=n+3) (TO:=n+4) (f0:=.ellipsis) (f1:=f1) (up hz₇) fun h₈ hz₈ hs₈=>?_)
  have up8:∀ {c:Nat}{o},c≠n+5→h₇.get? c=some o→h₈.get? c=some o:=fun hc e=>ex hs₈ hc (up e)
  refine wpAny_pure ⟨_,rfl,hQ h₇.objs.size h₈ (rawInt h₇.objs.size) false x y z (by rw[hsz];exact Nat.le_refl _) (.inr ⟨_,rfl⟩) hz₈ (up8 (by first | exact nn (by decide) | exact n0 (by decide) | exact aT (by decide) | exact al l1 _ | exact al l2 _ | exact al l3 _ | exact aI l1 | exact aI l2 | exact aI l3 | exact co hc (by decide) | exact aU hc | omega) hTI₇) (up8 (by first | exact nn (by decide) | exact n0 (by decide) | exact aT (by decide) | exact al l1 _ | exact al l2 _ | exact al l3 _ | exact aI l1 | exact aI l2 | exact aI l3 | exact co hc (by decide) | exact aU hc | omega) hTO₇) (i1₇.at fun o e=>up8 (by first | exact nn (by decide) | exact n0 (by decide) | exact aT (by decide) | exact al l1 _ | exact al l2 _ | exact al l3 _ | exact aI l1 | exact aI l2 | exact aI l3 | exact co hc (by decide) | exact aU hc | omega) e) (i2₇.at fun o e=>up8 (by first | exact nn (by decide) | exact n0 (by decide) | exact aT (by decide) | exact al l1 _ | exact al l2 _ | exact al l3 _ | exact aI l1 | exact aI l2 | exact aI l3 | exact co hc (by decide) | exact aU hc | omega) e) (i3₇.at fun o e=>up8 (by first | exact nn (by decide) | exact n0 (by decide) | exact aT (by decide) | exact al l1 _ | exact al l2 _ | exact al l3 _ | exact aI l1 | exact aI l2 | exact aI l3 | exact co hc (by decide) | exact aU hc | omega) e)
   (ex hs₈ (by first | exact nn (by decide) | exact n0 (by decide) | exact aT (by decide) | exact al l1 _ | exact al l2 _ | exact al l3 _ | exact aI l1 | exact aI l2 | exact aI l3 | exact co hc (by decide) | exact aU hc | omega) (Heap.get?_push_size _ rfl)) fun c o hc e=>up8 (by first | exact nn (by decide) | exact n0 (by decide) | exact aT (by decide) | exact al l1 _ | exact al l2 _ | exact al l3 _ | exact aI l1 | exact aI l2 | exact aI l3 | exact co hc (by decide) | exact aU hc | omega) (keep c o hc e)⟩
 ·intro h₁ hz₁ hs₁
  simp only [Bool.false_eq_true,if_false]
  refine wpAny_bind ?_
  rw[← Array.forIn_toList]
  simp only [List.forIn_cons,List.forIn_nil]
  refine wpAny_bind (wpAny_bind (wpAny_holding ?_))
  show wpAny _ _ (Builtin.SmallTypes.nextOf (.ref n) >>= _) _ _ _
  refine wpAny_bind (bM (i1.ext hs₁ (by first | exact nn (by decide) | exact n0 (by decide) | exact aT (by decide) | exact al l1 _ | exact al l2 _ | exact al l3 _ | exact aI l1 | exact aI l2 | exact aI l3 | exact co hc (by decide) | exact aU hc | omega)) (s1.ext hs₁ (by first | exact nn (by decide) | exact n0 (by decide) | exact aT (by decide) | exact al l1 _ | exact al l2 _ | exact al l3 _ | exact aI l1 | exact aI l2 | exact aI l3 | exact co hc (by decide) | exact aU hc | omega)) hx fun h₂ i1₂ hs₂=>wpAny_pure (wpAny_pure ?_))
  refine wpAny_bind (wpAny_bind (wpAny_holding ?_))
  show wpAny _ _ (Builtin.SmallTypes.nextOf (.ref (n+1)) >>= _) _ _ _
  refine wpAny_bind (bM ((i2.ext hs₁ (by first | exact nn (by decide) | exact n0 (by decide) | exact aT (by decide) | exact al l1 _ | exact al l2 _ | exact al l3 _ | exact aI l1 | exact aI l2 | exact aI l3 | exact co hc (by decide) | exact aU hc | omega)).ext hs₂ (by first | exact nn (by decide) | exact n0 (by decide) | exact aT (by decide) | exact al l1 _ | exact al l2 _ | exact al l3 _ | exact aI l1 | exact aI l2 | exact aI l3 | exact co hc (by decide) | exact aU hc | omega)) ((s2.ext hs₁ (by first | exact nn (by decide) | exact n0 (by decide) | exact aT (by decide) | exact al l1 _ | exact al l2 _ | exact al l3 _ | exact aI l1 | exact aI l2 | exact aI l3 | exact co hc (by decide) | exact aU hc | omega)).ext hs₂ (by first | exact nn (by decide) | exact n0 (by decide) | exact aT (by decide) | exact al l1 _ | exact al l2 _ | exact al l3 _ | exact aI l1 | exact aI l2 | exact aI l3 | exact co hc (by decide) | exact aU hc | omega)) hy fun h₃ i2₃ hs₃=>wpAny_pure (wpAny_pure ?_))
  refine wpAny_bind (wpAny_bind (wpAny_holding ?_))
  show wpAny _ _ (Builtin.SmallTypes.nextOf (.ref (n+2)) >>= _) _ _ _
  refine wpAny_bind (bM (((i3.ext hs₁ (by first | exact nn (by decide) | exact n0 (by decide) | exact aT (by decide) | exact al l1 _ | exact al l2 _ | exact al l3 _ | exact aI l1 | exact aI l2 | exact aI l3 | exact co hc (by decide) | exact aU hc | omega)).ext hs₂ (by first | exact nn (by decide) | exact n0 (by decide) | exact aT (by decide) | exact al l1 _ | exact al l2 _ | exact al l3 _ | exact aI l1 | exact aI l2 | exact aI l3 | exact co hc (by decide) | exact aU hc | omega)).ext hs₃ (by first | exact nn (by decide) | exact n0 (by decide) | exact aT (by decide) | exact al l1 _ | exact al l2 _ | exact al l3 _ | exact aI l1 | exact aI l2 | exact aI l3 | exact co hc (by decide) | exact aU hc | omega)) (((s3.ext hs₁ (by first | exact nn (by decide) | exact n0 (by decide) | exact aT (by decide) | exact al l1 _ | exact al l2 _ | exact al l3 _ | exact aI l1 | exact aI l2 | exact aI l3 | exact co hc (by decide) | exact aU hc | omega)).ext hs₂ (by first | exact nn (by decide) | exact n0 (by decide) | exact aT (by decide) | exact al l1 _ | exact al l2 _ | exact al l3 _ | exact aI l1 | exact aI l2 | exact aI l3 | exact co hc (by decide) | exact aU hc | omega)).ext hs₃ (by first | exact nn (by decide) | exact n0 (by decide) | exact aT (by decide) | exact al l1 _ | exact al l2 _ | exact al l3 _ | exact aI l1 | exact aI l2 | exact aI l3 | exact co hc (by decide) | exact aU hc | omega)) hw fun h₄ i3₄ hs₄=>wpAny_pure (wpAny_pure (wpAny_pure ?_)))
  refine wpAny_bind (wpAny_newTuple (hsz:=by show 3≤sizeLine;decide) (wpAny_pure ⟨_,rfl,?_⟩))
  have hsz:h₄.objs.size=s.heap.objs.size:=by rw[hs₄.1,hs₃.1,hs₂.1,hs₁.1]
  have up:∀ {c o},h₄.get? c=some o→(h₄.push { cls:=.type "tuple",data:=.seq #[x,y,z] }).get? c=some o:=fun e=>Heap.get?_push_of_some _ e
  have keep:∀ (c:Nat) o,(c < n∨n+5 < c)→s.heap.get? c=some o→h₄.get? c=some o:=fun c o hc e=>ex hs₄ (by first | exact nn (by decide) | exact n0 (by decide) | exact aT (by decide) | exact al l1 _ | exact al l2 _ | exact al l3 _ | exact aI l1 | exact aI l2 | exact aI l3 | exact co hc (by decide) | exact aU hc | omega) (ex hs₃ (by first | exact nn (by decide) | exact n0 (by decide) | exact aT (by decide) | exact al l1 _ | exact al l2 _ | exact al l3 _ | exact aI l1 | exact aI l2 | exact aI l3 | exact co hc (by decide) | exact aU hc | omega) (ex hs₂ (by first | exact nn (by decide) | exact n0 (by decide) | exact aT (by decide) | exact al l1 _ | exact al l2 _ | exact al l3 _ | exact aI l1 | exact aI l2 | exact aI l3 | exact co hc (by decide) | exact aU hc | omega) (ex hs₁ (by first | exact nn (by decide) | exact n0 (by decide) | exact aT (by decide) | exact al l1 _ | exact al l2 _ | exact al l3 _ | exact aI l1 | exact aI l2 | exact aI l3 | exact co hc (by decide) | exact aU hc | omega) e)))
  refine hQ h₄.objs.size (h₄.push { cls:=.type "tuple",data:=.seq #[x,y,z] }) f0 true c1 c2 c3 (by rw[hsz];exact Nat.le_refl _) hf (up (ex hs₄ (by first | exact nn (by decide) | exact n0 (by decide) | exact aT (by decide) | exact al l1 _ | exact al l2 _ | exact al l3 _ | exact aI l1 | exact aI l2 | exact aI l3 | exact co hc (by decide) | exact aU hc | omega) (ex hs₃ (by first | exact nn (by decide) | exact n0 (by decide) | exact aT (by decide) | exact al l1 _ | exact al l2 _ | exact al l3 _ | exact aI l1 | exact aI l2 | exact aI l3 | exact co hc (by decide) | exact aU hc | omega) (ex hs₂ (by first | exact nn (by decide) | exact n0 (by decide) | exact aT (by decide) | exact al l1 _ | exact al l2 _ | exact al l3 _ | exact aI l1 | exact aI l2 | exact aI l3 | exact co hc (by decide) | exact aU hc | omega) hz₁))))
   (up (ex hs₄ (by first | exact nn (by decide) | exact n0 (by decide) | exact aT (by decide) | exact al l1 _ | exact al l2 _ | exact al l3 _ | exact aI l1 | exact aI l2 | exact aI l3 | exact co hc (by decide) | exact aU hc | omega) (ex hs₃ (by first | exact nn (by decide) | exact n0 (by decide) | exact aT (by decide) | exact al l1 _ | exact al l2 _ | exact al l3 _ | exact aI l1 | exact aI l2 | exact aI l3 | exact co hc (by decide) | exact aU hc | omega) (ex hs₂ (by first | exact nn (by decide) | exact n0 (by decide) | exact aT (by decide) | exact al l1 _ | exact al l2 _ | exact al l3 _ | exact aI l1 | exact aI l2 | exact aI l3 | exact co hc (by decide) | exact aU hc | omega) (ex hs₁ (by first | exact nn (by decide) | exact n0 (by decide) | exact aT (by decide) | exact al l1 _ | exact al l2 _ | exact al l3 _ | exact aI l1 | exact aI l2 | exact aI l3 | exact co hc (by decide) | exact aU hc | omega) hTI))))) (up (ex hs₄ (by first | exact nn (by decide) | exact n0 (by decide) | exact aT (by decide) | exact al l1 _ | exact al l2 _ | exact al l3 _ | exact aI l1 | exact aI l2 | exact aI l3 | exact co hc (by decide) | exact aU hc | omega) (ex hs₃ (by first | exact nn (by decide) | exact n0 (by decide) | exact aT (by decide) | exact al l1 _ | exact al l2 _ | exact al l3 _ | exact aI l1 | exact aI l2 | exact aI l3 | exact co hc (by decide) | exact aU hc | omega) (ex hs₂ (by first | exact nn (by decide) | exact n0 (by decide) | exact aT (by decide) | exact al l1 _ | exact al l2 _ | exact al l3 _ | exact aI l1 | exact aI l2 | exact aI l3 | exact co hc (by decide) | exact aU hc | omega) (ex hs₁ (by first | exact nn (by decide) | exact n0 (by decide) | exact aT (by decide) | exact al l1 _ | exact al l2 _ | exact al l3 _ | exact aI l1 | exact aI l2 | exact aI l3 | exact co hc (by decide) | exact aU hc | omega) hTO)))))
   (((i1₂.ext hs₃ (by first | exact nn (by decide) | exact n0 (by decide) | exact aT (by decide) | exact al l1 _ | exact al l2 _ | exact al l3 _ | exact aI l1 | exact aI l2 | exact aI l3 | exact co hc (by decide) | exact aU hc | omega)).ext hs₄ (by first | exact nn (by decide) | exact n0 (by decide) | exact aT (by decide) | exact al l1 _ | exact al l2 _ | exact al l3 _ | exact aI l1 | exact aI l2 | exact aI l3 | exact co hc (by decide) | exact aU hc | omega)).at fun o e=>up e) ((i2₃.ext hs₄ (by first | exact nn (by decide) | exact n0 (by decide) | exact aT (by decide) | exact al l1 _ | exact al l2 _ | exact al l3 _ | exact aI l1 | exact aI l2 | exact aI l3 | exact co hc (by decide) | exact aU hc | omega)).at fun o e=>up e) (i3₄.at fun o e=>up e) (Heap.get?_push_size _ rfl) fun c o hc e=>up (keep c o hc e)
theorem zip3_end {n a1 a2 a3:Nat}{t1 t2 t3:Bool}{k:Nat}{xs ys zs:Array Value}{c1 c2 c3 f0:Value}{f1:Bool}{Q:Fin→Shared→Prop} (hh:A.handled=none) (hf:Free0 f0)
  (hz:IsZ s.heap (n+5) (n+3) (n+4) f0 f1) (hTI:d6 s.heap (n+3) #[.ref n,.ref (n+1),.ref (n+2)]) (hTO:d6 s.heap (n+4) #[c1,c2,c3])
  (i1:dB s.heap t1 n a1 k) (i2:dB s.heap t2 (n+1) a2 k) (i3:dB s.heap t3 (n+2) a3 k) (s1:cA s.heap t1 a1 xs) (s2:cA s.heap t2 a2 ys) (s3:cA s.heap t3 a3 zs)
  (l1:a1 < n) (l2:a2 < n) (l3:a3 < n) (hend:xs[k]? = none∨ys[k]? = none∨zs[k]? = none)
  (hE:∀ h' e,(∀ (c:Nat) o,(c < n∨n+5 < c)→s.heap.get? c=some o→h'.get? c=some o)→(∃ o,h'.get? e=some o∧o.cls=.type "StopIteration")→E (.ref e) { s with heap:=h' }) :
  wpAny (model prog w) A (Builtin.«zip.__next__» ⟨[.ref (n+5)],[]⟩) Q E s:=by
 show wpAny _ _ (field (.ref (n+5)) 2 >>= _) _ _ _
 refine wpAny_bind (wpAny_field hz rfl (x:=.bool false) rfl ?_)
 show wpAny _ _ (field (.ref (n+5)) 3 >>= _) _ _ _
 refine wpAny_bind (wpAny_field hz rfl (x:=.ref (n+3)) rfl ?_)
 refine wpAny_bind (wpAny_seqItems hTI rfl ?_)
 show wpAny _ _ (Builtin.SmallTypes.ownedTupleIsFree (.ref (n+5)) >>= _) _ _ _
 refine wpAny_bind (owned_free hz hf ?_ ?_)
 ·simp only [if_true]
  refine wpAny_bind (wpAny_rule ?_)
  refine wpAny_bind (wpAny_field hz rfl (x:=.ref (n+4)) rfl ?_)
  refine wpAny_bind (wpAny_setField_rec hz (by simp) fun h₁ hz₁ hs₁=>?_)
  replace hz₁:IsZ h₁ (n+5) (n+3) (n+4) .ellipsis f1:=hz₁
  refine wpAny_bind ?_
  simp only [List.zipIdx_cons,List.zipIdx_nil,List.forIn_cons,List.forIn_nil]
  have fin:∀ {h₂ h₃:Heap}{e j:Nat}{oe:Obj},IsZ h₂ (n+5) (n+3) (n+4) .ellipsis f1→Heap.ExtBut j h₂ h₃→@Ne Nat (n+5) j→(n≤j∧j≤n+5)→(∀ (c:Nat) o,(c < n∨n+5 < c)→s.heap.get? c=some o→h₂.get? c=some o)→h₃.get? e=some oe→oe.cls=.type "StopIteration" →
    wpAny (model prog w) A (setField (.ref (n+5)) 0 .none) (fun _ s'=>E (.ref e) s') E { s with heap:=h₃ }:=fun {h₂ h₃ e j oe} hz₂ hx hj hr hk hoe hce=>by
   have hz₃:IsZ h₃ (n+5) (n+3) (n+4) .ellipsis f1:=hx _ _ hj hz₂
   have hez:e≠n+5:=fun q=>by subst q;rw[hz₃] at hoe;cases hoe;simp at hce
   refine wpAny_setField_rec hz₃ (by simp) fun h₄ _ hs₄=>hE h₄ e (fun c o hc q=>ex hs₄ (by first | exact nn (by decide) | exact n0 (by decide) | exact aT (by decide) | exact al l1 _ | exact al l2 _ | exact al l3 _ | exact aI l1 | exact aI l2 | exact aI l3 | exact co hc (by decide) | exact aU hc | omega) (hx c o (show @Ne Nat c j by omega) (hk c o hc q))) ⟨oe,hs₄.extBut _ _ hez hoe,hce⟩
  refine wpAny_bind (wpAny_bind (wpAny_onRaise ?_))
  show wpAny _ _ (Builtin.SmallTypes.nextOf (.ref n) >>= _) _ _ _
  cases hx:xs[k]? with
  | none=>
   refine wpAny_bind (d5 hh (i1.ext hs₁ (by first | exact nn (by decide) | exact n0 (by decide) | exact aT (by decide) | exact al l1 _ | exact al l2 _ | exact al l3 _ | exact aI l1 | exact aI l2 | exact aI l3 | exact co hc (by decide) | exact aU hc | omega)) (s1.ext hs₁ (by first | exact nn (by decide) | exact n0 (by decide) | exact aT (by decide) | exact al l1 _ | exact al l2 _ | exact al l3 _ | exact aI l1 | exact aI l2 | exact aI l3 | exact co hc (by decide) | exact aU hc | omega)) hx fun h₂ e hs₂ he=>?_)
   obtain⟨oe,hoe,hce⟩:=he
   exact fin hz₁ hs₂ (by first | exact nn (by decide) | exact n0 (by decide) | exact aT (by decide) | exact al l1 _ | exact al l2 _ | exact al l3 _ | exact aI l1 | exact aI l2 | exact aI l3 | exact co hc (by decide) | exact aU hc | omega) (by first | exact nn (by decide) | exact n0 (by decide) | exact aT (by decide) | exact al l1 _ | exact al l2 _ | exact al l3 _ | exact aI l1 | exact aI l2 | exact aI l3 | exact co hc (by decide) | exact aU hc | omega) (fun c o hc q=>ex hs₁ (by first | exact nn (by decide) | exact n0 (by decide) | exact aT (by decide) | exact al l1 _ | exact al l2 _ | exact al l3 _ | exact aI l1 | exact aI l2 | exact aI l3 | exact co hc (by decide) | exact aU hc | omega) q) hoe hce
  | some x=>
   refine wpAny_bind (bM (i1.ext hs₁ (by first | exact nn (by decide) | exact n0 (by decide) | exact aT (by decide) | exact al l1 _ | exact al l2 _ | exact al l3 _ | exact aI l1 | exact aI l2 | exact aI l3 | exact co hc (by decide) | exact aU hc | omega)) (s1.ext hs₁ (by first | exact nn (by decide) | exact n0 (by decide) | exact aT (by decide) | exact al l1 _ | exact al l2 _ | exact al l3 _ | exact aI l1 | exact aI l2 | exact aI l3 | exact co hc (by decide) | exact aU hc | omega)) hx fun h₂ i1₂ hs₂=>wpAny_pure ?_)
   have hTO₂:d6 h₂ (n+4) #[c1,c2,c3]:=ex hs₂ (by first | exact nn (by decide) | exact n0 (by decide) | exact aT (by decide) | exact al l1 _ | exact al l2 _ | exact al l3 _ | exact aI l1 | exact aI l2 | exact aI l3 | exact co hc (by decide) | exact aU hc | omega) (ex hs₁ (by first | exact nn (by decide) | exact n0 (by decide) | exact aT (by decide) | exact al l1 _ | exact al l2 _ | exact al l3 _ | exact aI l1 | exact aI l2 | exact aI l3 | exact co hc (by decide) | exact aU hc | omega) hTO)
   refine wpAny_bind (wpAny_seqItems hTO₂ rfl ?_)
   refine wpAny_bind (seq_set hTO₂ (by simp) fun h₃ hTO₃ hs₃=>?_)
   replace hTO₃:d6 h₃ (n+4) #[x,c2,c3]:=hTO₃
   refine wpAny_bind (wpAny_letGo (wpAny_pure ?_))
   have hz₃:IsZ h₃ (n+5) (n+3) (n+4) .ellipsis f1:=ex hs₃ (by first | exact nn (by decide) | exact n0 (by decide) | exact aT (by decide) | exact al l1 _ | exact al l2 _ | exact al l3 _ | exact aI l1 | exact aI l2 | exact aI l3 | exact co hc (by decide) | exact aU hc | omega) (ex hs₂ (by first | exact nn (by decide) | exact n0 (by decide) | exact aT (by decide) | exact al l1 _ | exact al l2 _ | exact al l3 _ | exact aI l1 | exact aI l2 | exact aI l3 | exact co hc (by decide) | exact aU hc | omega) hz₁)
   have k₃:∀ (c:Nat) o,(c < n∨n+5 < c)→s.heap.get? c=some o→h₃.get? c=some o:=fun c o hc e=>ex hs₃ (by first | exact nn (by decide) | exact n0 (by decide) | exact aT (by decide) | exact al l1 _ | exact al l2 _ | exact al l3 _ | exact aI l1 | exact aI l2 | exact aI l3 | exact co hc (by decide) | exact aU hc | omega) (ex hs₂ (by first | exact nn (by decide) | exact n0 (by decide) | exact aT (by decide) | exact al l1 _ | exact al l2 _ | exact al l3 _ | exact aI l1 | exact aI l2 | exact aI l3 | exact co hc (by decide) | exact aU hc | omega) (ex hs₁ (by first | exact nn (by decide) | exact n0 (by decide) | exact aT (by decide) | exact al l1 _ | exact al l2 _ | exact al l3 _ | exact aI l1 | exact aI l2 | exact aI l3 | exact co hc (by decide) | exact aU hc | omega) e))
   refine wpAny_bind (wpAny_bind (wpAny_onRaise ?_))
   show wpAny _ _ (Builtin.SmallTypes.nextOf (.ref (n+1)) >>= _) _ _ _
   cases hy:ys[k]? with
   | none=>
    refine wpAny_bind (d5 hh (((i2.ext hs₁ (by first | exact nn (by decide) | exact n0 (by decide) | exact aT (by decide) | exact al l1 _ | exact al l2 _ | exact al l3 _ | exact aI l1 | exact aI l2 | exact aI l3 | exact co hc (by decide) | exact aU hc | omega)).ext hs₂ (by first | exact nn (by decide) | exact n0 (by decide) | exact aT (by decide) | exact al l1 _ | exact al l2 _ | exact al l3 _ | exact aI l1 | exact aI l2 | exact aI l3 | exact co hc (by decide) | exact aU hc | omega)).ext hs₃ (by first | exact nn (by decide) | exact n0 (by decide) | exact aT (by decide) | exact al l1 _ | exact al l2 _ | exact al l3 _ | exact aI l1 | exact aI l2 | exact aI l3 | exact co hc (by decide) | exact aU hc | omega)) (((s2.ext hs₁ (by first | exact nn (by decide) | exact n0 (by decide) | exact aT (by decide) | exact al l1 _ | exact al l2 _ | exact al l3 _ | exact aI l1 | exact aI l2 | exact aI l3 | exact co hc (by decide) | exact aU hc | omega)).ext hs₂ (by first | exact nn (by decide) | exact n0 (by decide) | exact aT (by decide) | exact al l1 _ | exact al l2 _ | exact al l3 _ | exact aI l1 | exact aI l2 | exact aI l3 | exact co hc (by decide) | exact aU hc | omega)).ext hs₃ (by first | exact nn (by decide) | exact n0 (by decide) | exact aT (by decide) | exact al l1 _ | exact al l2 _ | exact al l3 _ | exact aI l1 | exact aI l2 | exact aI l3 | exact co hc (by decide) | exact aU hc | omega)) hy fun h₄ e hs₄ he=>?_)
    obtain⟨oe,hoe,hce⟩:=he
    exact fin hz₃ hs₄ (by first | exact nn (by decide) | exact n0 (by decide) | exact aT (by decide) | exact al l1 _ | exact al l2 _ | exact al l3 _ | exact aI l1 | exact aI l2 | exact aI l3 | exact co hc (by decide) | exact aU hc | omega) (by first | exact nn (by decide) | exact n0 (by decide) | exact aT (by decide) | exact al l1 _ | exact al l2 _ | exact al l3 _ | exact aI l1 | exact aI l2 | exact aI l3 | exact co hc (by decide) | exact aU hc | omega) k₃ hoe hce
   | some y=>
    have hw:zs[k]? = none:=by rcases hend with h | h | h;rw[hx] at h;cases h;rw[hy] at h;cases h;exact h
    refine wpAny_bind (bM (((i2.ext hs₁ (by first | exact nn (by decide) | exact n0 (by decide) | exact aT (by decide) | exact al l1 _ | exact al l2 _ | exact al l3 _ | exact aI l1 | exact aI l2 | exact aI l3 | exact co hc (by decide) | exact aU hc | omega)).ext hs₂ (by first | exact nn (by decide) | exact n0 (by decide) | exact aT (by decide) | exact al l1 _ | exact al l2 _ | exact al l3 _ | exact aI l1 | exact aI l2 | exact aI l3 | exact co hc (by decide) | exact aU hc | omega)).ext hs₃ (by first | exact nn (by decide) | exact n0 (by decide) | exact aT (by decide) | exact al l1 _ | exact al l2 _ | exact al l3 _ | exact aI l1 | exact aI l2 | exact aI l3 | exact co hc (by decide) | exact aU hc | omega)) (((s2.ext hs₁ (by first | exact nn (by decide) | exact n0 (by decide) | exact aT (by decide) | exact al l1 _ | exact al l2 _ | exact al l3 _ | exact aI l1 | exact aI l2 | exact aI l3 | exact co hc (by decide) | exact aU hc | omega)).ext hs₂ (by first | exact nn (by decide) | exact n0 (by decide) | exact aT (by decide) | exact al l1 _ | exact al l2 _ | exact al l3 _ | exact aI l1 | exact aI l2 | exact aI l3 | exact co hc (by decide) | exact aU hc | omega)).ext hs₃ (by first | exact nn (by decide) | exact n0 (by decide) | exact aT (by decide) | exact al l1 _ | exact al l2 _ | exact al l3 _ | exact aI l1 | exact aI l2 | exact aI l3 | exact co hc (by decide) | exact aU hc | omega)) hy fun h₄ i2₄ hs₄=>wpAny_pure ?_)
    have hTO₄:d6 h₄ (n+4) #[x,c2,c3]:=ex hs₄ (by first | exact nn (by decide) | exact n0 (by decide) | exact aT (by decide) | exact al l1 _ | exact al l2 _ | exact al l3 _ | exact aI l1 | exact aI l2 | exact aI l3 | exact co hc (by decide) | exact aU hc | omega) hTO₃
    refine wpAny_bind (wpAny_seqItems hTO₄ rfl ?_)
    refine wpAny_bind (seq_set hTO₄ (by simp) fun h₅ hTO₅ hs₅=>?_)
    refine wpAny_bind (wpAny_letGo (wpAny_pure ?_))
    refine wpAny_bind (wpAny_bind (wpAny_onRaise ?_))
    show wpAny _ _ (Builtin.SmallTypes.nextOf (.ref (n+2)) >>= _) _ _ _
    refine wpAny_bind (d5 hh (((((i3.ext hs₁ (by first | exact nn (by decide) | exact n0 (by decide) | exact aT (by decide) | exact al l1 _ | exact al l2 _ | exact al l3 _ | exact aI l1 | exact aI l2 | exact aI l3 | exact co hc (by decide) | exact aU hc | omega)).ext hs₂ (by first | exact nn (by decide) | exact n0 (by decide) | exact aT (by decide) | exact al l1 _ | exact al l2 _ | exact al l3 _ | exact aI l1 | exact aI l2 | exact aI l3 | exact co hc (by decide) | exact aU hc | omega)).ext hs₃ (by first | exact nn (by decide) | exact n0 (by decide) | exact aT (by decide) | exact al l1 _ | exact al l2 _ | exact al l3 _ | exact aI l1 | exact aI l2 | exact aI l3 | exact co hc (by decide) | exact aU hc | omega)).ext hs₄ (by first | exact nn (by decide) | exact n0 (by decide) | exact aT (by decide) | exact al l1 _ | exact al l2 _ | exact al l3 _ | exact aI l1 | exact aI l2 | exact aI l3 | exact co hc (by decide) | exact aU hc | omega)).ext hs₅ (by first | exact nn (by decide) | exact n0 (by decide) | exact aT (by decide) | exact al l1 _ | exact al l2 _ | exact al l3 _ | exact aI l1 | exact aI l2 | exact aI l3 | exact co hc (by decide) | exact aU hc | omega))
     (((((s3.ext hs₁ (by first | exact nn (by decide) | exact n0 (by decide) | exact aT (by decide) | exact al l1 _ | exact al l2 _ | exact al l3 _ | exact aI l1 | exact aI l2 | exact aI l3 | exact co hc (by decide) | exact aU hc | omega)).ext hs₂ (by first | exact nn (by decide) | exact n0 (by decide) | exact aT (by decide) | exact al l1 _ | exact al l2 _ | exact al l3 _ | exact aI l1 | exact aI l2 | exact aI l3 | exact co hc (by decide) | exact aU hc | omega)).ext hs₃ (by first | exact nn (by decide) | exact n0 (by decide) | exact aT (by decide) | exact al l1 _ | exact al l2 _ | exact al l3 _ | exact aI l1 | exact aI l2 | exact aI l3 | exact co hc (by decide) | exact aU hc | omega)).ext hs₄ (by first | exact nn (by decide) | exact n0 (by decide) | exact aT (by decide) | exact al l1 _ | exact al l2 _ | exact al l3 _ | exact aI l1 | exact aI l2 | exact aI l3 | exact co hc (by decide) | exact aU hc | omega)).ext hs₅ (by first | exact nn (by decide) | exact n0 (by decide) | exact aT (by decide) | exact al l1 _ | exact al l2 _ | exact al l3 _ | exact aI l1 | exact aI l2 | exact aI l3 | exact co hc (by decide) | exact aU hc | omega)) hw fun h₆ e hs₆ he=>?_)
    obtain⟨oe,hoe,hce⟩:=he
    exact fin (ex hs₅ (by first | exact nn (by decide) | exact n0 (by decide) | exact aT (by decide) | exact al l1 _ | exact al l2 _ | exact al l3 _ | exact aI l1 | exact aI l2 | exact aI l3 | exact co hc (by decide) | exact aU hc | omega) (ex hs₄ (by first | exact nn (by decide) | exact n0 (by decide) | exact aT (by decide) | exact al l1 _ | exact al l2 _ | exact al l3 _ | exact aI l1 | exact aI l2 | exact aI l3 | exact co hc (by decide) | exact aU hc | omega) hz₃)) hs₆ (by first | exact nn (by decide) | exact n0 (by decide) | exact aT (by decide) | exact al l1 _ | exact al l2 _ | exact al l3 _ | exact aI l1 | exact aI l2 | exact aI l3 | exact co hc (by decide) | exact aU hc | omega) (by first | exact nn (by decide) | exact n0 (by decide) | exact aT (by decide) | exact al l1 _ | exact al l2 _ | exact al l3 _ | exact aI l1 | exact aI l2 | exact aI l3 | exact co hc (by decide) | exact aU hc | omega) (fun c o hc q=>ex hs₅ (by first | exact nn (by decide) | exact n0 (by decide) | exact aT (by decide) | exact al l1 _ | exact al l2 _ | exact al l3 _ | exact aI l1 | exact aI l2 | exact aI l3 | exact co hc (by decide) | exact aU hc | omega) (ex hs₄ (by first | exact nn (by decide) | exact n0 (by decide) | exact aT (by decide) | exact al l1 _ | exact al l2 _ | exact al l3 _ | exact aI l1 | exact aI l2 | exact aI l3 | exact co hc (by decide) | exact aU hc | omega) (k₃ c o hc q))) hoe hce
 ·intro h₁ hz₁ hs₁
  simp only [Bool.false_eq_true,if_false]
  refine wpAny_bind ?_
  rw[← Array.forIn_toList]
  simp only [List.forIn_cons,List.forIn_nil]
  refine wpAny_bind (wpAny_bind (wpAny_holding ?_))
  show wpAny _ _ (Builtin.SmallTypes.nextOf (.ref n) >>= _) _ _ _
  cases hx:xs[k]? with
  | none=>
   refine wpAny_bind (d5 hh (i1.ext hs₁ (by first | exact nn (by decide) | exact n0 (by decide) | exact aT (by decide) | exact al l1 _ | exact al l2 _ | exact al l3 _ | exact aI l1 | exact aI l2 | exact aI l3 | exact co hc (by decide) | exact aU hc | omega)) (s1.ext hs₁ (by first | exact nn (by decide) | exact n0 (by decide) | exact aT (by decide) | exact al l1 _ | exact al l2 _ | exact al l3 _ | exact aI l1 | exact aI l2 | exact aI l3 | exact co hc (by decide) | exact aU hc | omega)) hx fun h₂ e hs₂ he=>?_)
   exact hE h₂ e (fun c o hc q=>hs₂ c o (show @Ne Nat c n by omega) (ex hs₁ (by first | exact nn (by decide) | exact n0 (by decide) | exact aT (by decide) | exact al l1 _ | exact al l2 _ | exact al l3 _ | exact aI l1 | exact aI l2 | exact aI l3 | exact co hc (by decide) | exact aU hc | omega) q)) he
  | some x=>
   refine wpAny_bind (bM (i1.ext hs₁ (by first | exact nn (by decide) | exact n0 (by decide) | exact aT (by decide) | exact al l1 _ | exact al l2 _ | exact al l3 _ | exact aI l1 | exact aI l2 | exact aI l3 | exact co hc (by decide) | exact aU hc | omega)) (s1.ext hs₁ (by first | exact nn (by decide) | exact n0 (by decide) | exact aT (by decide) | exact al l1 _ | exact al l2 _ | exact al l3 _ | exact aI l1 | exact aI l2 | exact aI l3 | exact co hc (by decide) | exact aU hc | omega)) hx fun h₂ i1₂ hs₂=>wpAny_pure (wpAny_pure ?_))
   refine wpAny_bind (wpAny_bind (wpAny_holding ?_))
   show wpAny _ _ (Builtin.SmallTypes.nextOf (.ref (n+1)) >>= _) _ _ _
   cases hy:ys[k]? with
   | none=>
    refine wpAny_bind (d5 hh ((i2.ext hs₁ (by first | exact nn (by decide) | exact n0 (by decide) | exact aT (by decide) | exact al l1 _ | exact al l2 _ | exact al l3 _ | exact aI l1 | exact aI l2 | exact aI l3 | exact co hc (by decide) | exact aU hc | omega)).ext hs₂ (by first | exact nn (by decide) | exact n0 (by decide) | exact aT (by decide) | exact al l1 _ | exact al l2 _ | exact al l3 _ | exact aI l1 | exact aI l2 | exact aI l3 | exact co hc (by decide) | exact aU hc | omega)) ((s2.ext hs₁ (by first | exact nn (by decide) | exact n0 (by decide) | exact aT (by decide) | exact al l1 _ | exact al l2 _ | exact al l3 _ | exact aI l1 | exact aI l2 | exact aI l3 | exact co hc (by decide) | exact aU hc | omega)).ext hs₂ (by first | exact nn (by decide) | exact n0 (by decide) | exact aT (by decide) | exact al l1 _ | exact al l2 _ | exact al l3 _ | exact aI l1 | exact aI l2 | exact aI l3 | exact co hc (by decide) | exact aU hc | omega)) hy fun h₃ e hs₃ he=>?_)
    exact hE h₃ e (fun c o hc q=>hs₃ c o (show @Ne Nat c (n+1) by omega) (ex hs₂ (by first | exact nn (by decide) | exact n0 (by decide) | exact aT (by decide) | exact al l1 _ | exact al l2 _ | exact al l3 _ | exact aI l1 | exact aI l2 | exact aI l3 | exact co hc (by decide) | exact aU hc | omega) (ex hs₁ (by first | exact nn (by decide) | exact n0 (by decide) | exact aT (by decide) | exact al l1 _ | exact al l2 _ | exact al l3 _ | exact aI l1 | exact aI l2 | exact aI l3 | exact co hc (by decide) | exact aU hc | omega) q))) he
   | some y=>
    have hw:zs[k]? = none:=by rcases hend with h | h | h;rw[hx] at h;cases h;rw[hy] at h;cases h;exact h
    refine wpAny_bind (bM ((i2.ext hs₁ (by first | exact nn (by decide) | exact n0 (by decide) | exact aT (by decide) | exact al l1 _ | exact al l2 _ | exact al l3 _ | exact aI l1 | exact aI l2 | exact aI l3 | exact co hc (by decide) | exact aU hc | omega)).ext hs₂ (by first | exact nn (by decide) | exact n0 (by decide) | exact aT (by decide) | exact al l1 _ | exact al l2 _ | exact al l3 _ | exact aI l1 | exact aI l2 | exact aI l3 | exact co hc (by decide) | exact aU hc | omega)) ((s2.ext hs₁ (by first | exact nn (by decide) | exact n0 (by decide) | exact aT (by decide) | exact al l1 _ | exact al l2 _ | exact al l3 _ | exact aI l1 | exact aI l2 | exact aI l3 | exact co hc (by decide) | exact aU hc | omega)).ext hs₂ (by first | exact nn (by decide) | exact n0 (by decide) | exact aT (by decide) | exact al l1 _ | exact al l2 _ | exact al l3 _ | exact aI l1 | exact aI l2 | exact aI l3 | exact co hc (by decide) | exact aU hc | omega)) hy fun h₃ i2₃ hs₃=>wpAny_pure (wpAny_pure ?_))
    refine wpAny_bind (wpAny_bind (wpAny_holding ?_))
    show wpAny _ _ (Builtin.SmallTypes.nextOf (.ref (n+2)) >>= _) _ _ _
    refine wpAny_bind (d5 hh (((i3.ext hs₁ (by first | exact nn (by decide) | exact n0 (by decide) | exact aT (by decide) | exact al l1 _ | exact al l2 _ | exact al l3 _ | exact aI l1 | exact aI l2 | exact aI l3 | exact co hc (by decide) | exact aU hc | omega)).ext hs₂ (by first | exact nn (by decide) | exact n0 (by decide) | exact aT (by decide) | exact al l1 _ | exact al l2 _ | exact al l3 _ | exact aI l1 | exact aI l2 | exact aI l3 | exact co hc (by decide) | exact aU hc | omega)).ext hs₃ (by first | exact nn (by decide) | exact n0 (by decide) | exact aT (by decide) | exact al l1 _ | exact al l2 _ | exact al l3 _ | exact aI l1 | exact aI l2 | exact aI l3 | exact co hc (by decide) | exact aU hc | omega)) (((s3.ext hs₁ (by first | exact nn (by decide) | exact n0 (by decide) | exact aT (by decide) | exact al l1 _ | exact al l2 _ | exact al l3 _ | exact aI l1 | exact aI l2 | exact aI l3 | exact co hc (by decide) | exact aU hc | omega)).ext hs₂ (by first | exact nn (by decide) | exact n0 (by decide) | exact aT (by decide) | exact al l1 _ | exact al l2 _ | exact al l3 _ | exact aI l1 | exact aI l2 | exact aI l3 | exact co hc (by decide) | exact aU hc | omega)).ext hs₃ (by first | exact nn (by decide) | exact n0 (by decide) | exact aT (by decide) | exact al l1 _ | exact al l2 _ | exact al l3 _ | exact aI l1 | exact aI l2 | exact aI l3 | exact co hc (by decide) | exact aU hc | omega)) hw fun h₄ e hs₄ he=>?_)
    exact hE h₄ e (fun c o hc q=>hs₄ c o (show @Ne Nat c (n+2) by omega) (ex hs₃ (by first | exact nn (by decide) | exact n0 (by decide) | exact aT (by decide) | exact al l1 _ | exact al l2 _ | exact al l3 _ | exact aI l1 | exact aI l2 | exact aI l3 | exact co hc (by decide) | exact aU hc | omega) (ex hs₂ (by first | exact nn (by decide) | exact n0 (by decide) | exact aT (by decide) | exact al l1 _ | exact al l2 _ | exact al l3 _ | exact aI l1 | exact aI l2 | exact aI l3 | exact co hc (by decide) | exact aU hc | omega) (ex hs₁ (by first | exact nn (by decide) | exact n0 (by decide) | exact aT (by decide) | exact al l1 _ | exact al l2 _ | exact al l3 _ | exact aI l1 | exact aI l2 | exact aI l3 | exact co hc (by decide) | exact aU hc | omega) q)))) he
theorem zip2_next {n a1 a2:Nat}{t1 t2:Bool}{k:Nat}{xs ys:Array Value}{x y c1 c2 f0:Value}{f1:Bool}{Q:Value→Shared→Prop} (hf:Free0 f0)
  (hz:IsZ s.heap (n+4) (n+2) (n+3) f0 f1) (hTI:d6 s.heap (n+2) #[.ref n,.ref (n+1)]) (hTO:d6 s.heap (n+3) #[c1,c2])
  (i1:dB s.heap t1 n a1 k) (i2:dB s.heap t2 (n+1) a2 k) (s1:cA s.heap t1 a1 xs) (s2:cA s.heap t2 a2 ys)
  (l1:a1 < n) (l2:a2 < n) (hx:xs[k]? = some x) (hy:ys[k]? = some y)
  (hQ:∀ (T:Nat) h' f0' f1' d1 d2,s.heap.objs.size≤T→Free0 f0'→IsZ h' (n+4) (n+2) (n+3) f0' f1'→d6 h' (n+2) #[.ref n,.ref (n+1)]→d6 h' (n+3) #[d1,d2]→
   dB h' t1 n a1 (k+1)→dB h' t2 (n+1) a2 (k+1)→d6 h' T #[x,y]→
   (∀ (c:Nat) o,(c < n∨n+4 < c)→s.heap.get? c=some o→h'.get? c=some o)→Q (.ref T) { s with heap:=h' }) :
  wpAny (model prog w) A (Builtin.«zip.__next__» ⟨[.ref (n+4)],[]⟩) (fun fin s'=>∃ v,fin=.done (.ret v)∧Q v s') E s:=by
 have hzlt:n+4 < s.heap.objs.size:=Heap.lt_size hz
 show wpAny _ _ (field (.ref (n+4)) 2 >>= _) _ _ _
 refine wpAny_bind (wpAny_field hz rfl (x:=.bool false) rfl ?_)
 show wpAny _ _ (field (.ref (n+4)) 3 >>= _) _ _ _
 refine wpAny_bind (wpAny_field hz rfl (x:=.ref (n+2)) rfl ?_)
 refine wpAny_bind (wpAny_seqItems hTI rfl ?_)
 show wpAny _ _ (Builtin.SmallTypes.ownedTupleIsFree (.ref (n+4)) >>= _) _ _ _
 refine wpAny_bind (owned_free hz hf ?_ ?_)
 ·simp only [if_true]
  refine wpAny_bind (wpAny_rule ?_)
  refine wpAny_bind (wpAny_field hz rfl (x:=.ref (n+3)) rfl ?_)
  refine wpAny_bind (wpAny_setField_rec hz (by simp) fun h₁ hz₁ hs₁=>?_)
  replace hz₁:IsZ h₁ (n+4) (n+2) (n+3) .ellipsis f1:=hz₁
  refine wpAny_bind ?_
  simp only [List.zipIdx_cons,List.zipIdx_nil,List.forIn_cons,List.forIn_nil]
  refine wpAny_bind (wpAny_bind (wpAny_onRaise ?_))
  show wpAny _ _ (Builtin.SmallTypes.nextOf (.ref n) >>= _) _ _ _
  refine wpAny_bind (bM (i1.ext hs₁ (by first | exact nn (by decide) | exact n0 (by decide) | exact aT (by decide) | exact al l1 _ | exact al l2 _ | exact aI l1 | exact aI l2 | exact co hc (by decide) | exact aU hc | omega)) (s1.ext hs₁ (by first | exact nn (by decide) | exact n0 (by decide) | exact aT (by decide) | exact al l1 _ | exact al l2 _ | exact aI l1 | exact aI l2 | exact co hc (by decide) | exact aU hc | omega)) hx fun h₂ i1₂ hs₂=>wpAny_pure ?_)
  have hTO₂:d6 h₂ (n+3) #[c1,c2]:=ex hs₂ (by first | exact nn (by decide) | exact n0 (by decide) | exact aT (by decide) | exact al l1 _ | exact al l2 _ | exact aI l1 | exact aI l2 | exact co hc (by decide) | exact aU hc | omega) (ex hs₁ (by first | exact nn (by decide) | exact n0 (by decide) | exact aT (by decide) | exact al l1 _ | exact al l2 _ | exact aI l1 | exact aI l2 | exact co hc (by decide) | exact aU hc | omega) hTO)
  refine wpAny_bind (wpAny_seqItems hTO₂ rfl ?_)
  refine wpAny_bind (seq_set hTO₂ (by simp) fun h₃ hTO₃ hs₃=>?_)
  replace hTO₃:d6 h₃ (n+3) #[x,c2]:=hTO₃
  refine wpAny_bind (wpAny_letGo (wpAny_pure ?_))
  refine wpAny_bind (wpAny_bind (wpAny_onRaise ?_))
  show wpAny _ _ (Builtin.SmallTypes.nextOf (.ref (n+1)) >>= _) _ _ _
  refine wpAny_bind (bM (((i2.ext hs₁ (by first | exact nn (by decide) | exact n0 (by decide) | exact aT (by decide) | exact al l1 _ | exact al l2 _ | exact aI l1 | exact aI l2 | exact co hc (by decide) | exact aU hc | omega)).ext hs₂ (by first | exact nn (by decide) | exact n0 (by decide) | exact aT (by decide) | exact al l1 _ | exact al l2 _ | exact aI l1 | exact aI l2 | exact co hc (by decide) | exact aU hc | omega)).ext hs₃ (by first | exact nn (by decide) | exact n0 (by decide) | exact aT (by decide) | exact al l1 _ | exact al l2 _ | exact aI l1 | exact aI l2 | exact co hc (by decide) | exact aU hc | omega)) (((s2.ext hs₁ (by first | exact nn (by decide) | exact n0 (by decide) | exact aT (by decide) | exact al l1 _ | exact al l2 _ | exact aI l1 | exact aI l2 | exact co hc (by decide) | exact aU hc | omega)).ext hs₂ (by first | exact nn (by decide) | exact n0 (by decide) | exact aT (by decide) | exact al l1 _ | exact al l2 _ | exact aI l1 | exact aI l2 | exact co hc (by decide) | exact aU hc | omega)).ext hs₃ (by first | exact nn (by decide) | exact n0 (by decide) | exact aT (by decide) | exact al l1 _ | exact al l2 _ | exact aI l1 | exact aI l2 | exact co hc (by decide) | exact aU hc | omega)) hy fun h₄ i2₄ hs₄=>wpAny_pure ?_)
  have hTO₄:d6 h₄ (n+3) #[x,c2]:=ex hs₄ (by first | exact nn (by decide) | exact n0 (by decide) | exact aT (by decide) | exact al l1 _ | exact al l2 _ | exact aI l1 | exact aI l2 | exact co hc (by decide) | exact aU hc | omega) hTO₃
  refine wpAny_bind (wpAny_seqItems hTO₄ rfl ?_)
  refine wpAny_bind (seq_set hTO₄ (by simp) fun h₇ hTO₇ hs₇=>?_)
  replace hTO₇:d6 h₇ (n+3) #[x,y]:=hTO₇
  refine wpAny_bind (wpAny_letGo (wpAny_pure (wpAny_pure ?_)))
  refine wpAny_bind (wpAny_seqItems hTO₇ rfl ?_)
  refine wpAny_bind (wpAny_newTuple ?_)
  have hsz:h₇.objs.size=s.heap.objs.size:=by rw[hs₇.1,hs₄.1,hs₃.1,hs₂.1,hs₁.1]
  have keep:∀ (c:Nat) o,(c < n∨n+4 < c)→s.heap.get? c=some o→h₇.get? c=some o:=fun c o hc e=>
   ex hs₇ (by first | exact nn (by decide) | exact n0 (by decide) | exact aT (by decide) | exact al l1 _ | exact al l2 _ | exact aI l1 | exact aI l2 | exact co hc (by decide) | exact aU hc | omega) (ex hs₄ (by first | exact nn (by decide) | exact n0 (by decide) | exact aT (by decide) | exact al l1 _ | exact al l2 _ | exact aI l1 | exact aI l2 | exact co hc (by decide) | exact aU hc | omega) (ex hs₃ (by first | exact nn (by decide) | exact n0 (by decide) | exact aT (by decide) | exact al l1 _ | exact al l2 _ | exact aI l1 | exact aI l2 | exact co hc (by decide) | exact aU hc | omega) (ex hs₂ (by first | exact nn (by decide) | exact n0 (by decide) | exact aT (by decide) | exact al l1 _ | exact al l2 _ | exact aI l1 | exact aI l2 | exact co hc (by decide) | exact aU hc | omega) (ex hs₁ (by first | exact nn (by decide) | exact n0 (by decide) | exact aT (by decide) | exact al l1 _ | exact al l2 _ | exact aI l1 | exact aI l2 | exact co hc (by decide) | exact aU hc | omega) e))))
  have hz₇:IsZ h₇ (n+4) (n+2) (n+3) .ellipsis f1:=ex hs₇ (by first | exact nn (by decide) | exact n0 (by decide) | exact aT (by decide) | exact al l1 _ | exact al l2 _ | exact aI l1 | exact aI l2 | exact co hc (by decide) | exact aU hc | omega) (ex hs₄ (by first | exact nn (by decide) | exact n0 (by decide) | exact aT (by decide) | exact al l1 _ | exact al l2 _ | exact aI l1 | exact aI l2 | exact co hc (by decide) | exact aU hc | omega) (ex hs₃ (by first | exact nn (by decide) | exact n0 (by decide) | exact aT (by decide) | exact al l1 _ | exact al l2 _ | exact aI l1 | exact aI l2 | exact co hc (by decide) | exact aU hc | omega) (ex hs₂ (by first | exact nn (by decide) | exact n0 (by decide) | exact aT (by decide) | exact al l1 _ | exact al l2 _ | exact aI l1 | exact aI l2 | exact co hc (by decide) | exact aU hc | omega) hz₁)))
  have hTI₇:d6 h₇ (n+2) #[.ref n,.ref (n+1)]:=ex hs₇ (by first | exact nn (by decide) | exact n0 (by decide) | exact aT (by decide) | exact al l1 _ | exact al l2 _ | exact aI l1 | exact aI l2 | exact co hc (by decide) | exact aU hc | omega) (ex hs₄ (by first | exact nn (by decide) | exact n0 (by decide) | exact aT (by decide) | exact al l1 _ | exact al l2 _ | exact aI l1 | exact aI l2 | exact co hc (by decide) | exact aU hc | omega) (ex hs₃ (by first | exact nn (by decide) | exact n0 (by decide) | exact aT (by decide) | exact al l1 _ | exact al l2 _ | exact aI l1 | exact aI l2 | exact co hc (by decide) | exact aU hc | omega) (ex hs₂ (by first | exact nn (by decide) | exact n0 (by decide) | exact aT (by decide) | exact al l1 _ | exact al l2 _ | exact aI l1 | exact aI l2 | exact co hc (by decide) | exact aU hc | omega) (ex hs₁ (by first | exact nn (by decide) | exact n0 (by decide) | exact aT (by decide) | exact al l1 _ | exact al l2 _ | exact aI l1 | exact aI l2 | exact co hc (by decide) | exact aU hc | omega) hTI))))
  have i1₇:=((i1₂.ext hs₃ (by first | exact nn (by decide) | exact n0 (by decide) | exact aT (by decide) | exact al l1 _ | exact al l2 _ | exact aI l1 | exact aI l2 | exact co hc (by decide) | exact aU hc | omega)).ext hs₄ (by first | exact nn (by decide) | exact n0 (by decide) | exact aT (by decide) | exact al l1 _ | exact al l2 _ | exact aI l1 | exact aI l2 | exact co hc (by decide) | exact aU hc | omega)).ext hs₇ (by first | exact nn (by decide) | exact n0 (by decide) | exact aT (by decide) | exact al l1 _ | exact al l2 _ | exact aI l1 | exact aI l2 | exact co hc (by decide) | exact aU hc | omega)
  have i2₇:=i2₄.ext hs₇ (by first | exact nn (by decide) | exact n0 (by decide) | exact aT (by decide) | exact al l1 _ | exact al l2 _ | exact aI l1 | exact aI l2 | exact co hc (by decide) | exact aU hc | omega)
  have hzlt₇:n+4 < h₇.objs.size:=by rw[hsz];exact hzlt
  have up:∀ {c o},h₇.get? c=some o→(h₇.push { cls:=.type "tuple",data:=.seq #[x,y] }).get? c=some o:=fun e=>Heap.get?_push_of_some _ e
  refine wpAny_bind (handOut (z:=n+4) (TI:=n+2) (TO:=n+3) (f0:=.ellipsis) (f1:=f1) (up hz₇) fun h₈ hz₈ hs₈=>?_)
  have up8:∀ {c:Nat}{o},c≠n+4→h₇.get? c=some o→h₈.get? c=some o:=fun hc e=>ex hs₈ hc (up e)
  refine wpAny_pure ⟨_,rfl,hQ h₇.objs.size h₈ (rawInt h₇.objs.size) false x y (by rw[hsz];exact Nat.le_refl _) (.inr ⟨_,rfl⟩) hz₈ (up8 (by first | exact nn (by decide) | exact n0 (by decide) | exact aT (by decide) | exact al l1 _ | exact al l2 _ | exact aI l1 | exact aI l2 | exact co hc (by decide) | exact aU hc | omega) hTI₇) (up8 (by first | exact nn (by decide) | exact n0 (by decide) | exact aT (by decide) | exact al l1 _ | exact al l2 _ | exact aI l1 | exact aI l2 | exact co hc (by decide) | exact aU hc | omega) hTO₇) (i1₇.at fun o e=>up8 (by first | exact nn (by decide) | exact n0 (by decide) | exact aT (by decide) | exact al l1 _ | exact al l2 _ | exact aI l1 | exact aI l2 | exact co hc (by decide) | exact aU hc | omega) e) (i2₇.at fun o e=>up8 (by first | exact nn (by decide) | exact n0 (by decide) | exact aT (by decide) | exact al l1 _ | exact al l2 _ | exact aI l1 | exact aI l2 | exact co hc (by decide) | exact aU hc | omega) e)
   (ex hs₈ (by first | exact nn (by decide) | exact n0 (by decide) | exact aT (by decide) | exact al l1 _ | exact al l2 _ | exact aI l1 | exact aI l2 | exact co hc (by decide) | exact aU hc | omega) (Heap.get?_push_size _ rfl)) fun c o hc e=>up8 (by first | exact nn (by decide) | exact n0 (by decide) | exact aT (by decide) | exact al l1 _ | exact al l2 _ | exact aI l1 | exact aI l2 | exact co hc (by decide) | exact aU hc | omega) (keep c o hc e)⟩
 ·intro h₁ hz₁ hs₁
  simp only [Bool.false_eq_true,if_false]
  refine wpAny_bind ?_
  rw[← Array.forIn_toList]
  simp only [List.forIn_cons,List.forIn_nil]
  refine wpAny_bind (wpAny_bind (wpAny_holding ?_))
  show wpAny _ _ (Builtin.SmallTypes.nextOf (.ref n) >>= _) _ _ _
  refine wpAny_bind (bM (i1.ext hs₁ (by first | exact nn (by decide) | exact n0 (by decide) | exact aT (by decide) | exact al l1 _ | exact al l2 _ | exact aI l1 | exact aI l2 | exact co hc (by decide) | exact aU hc | omega)) (s1.ext hs₁ (by first | exact nn (by decide) | exact n0 (by decide) | exact aT (by decide) | exact al l1 _ | exact al l2 _ | exact aI l1 | exact aI l2 | exact co hc (by decide) | exact aU hc | omega)) hx fun h₂ i1₂ hs₂=>wpAny_pure (wpAny_pure ?_))
  refine wpAny_bind (wpAny_bind (wpAny_holding ?_))
  show wpAny _ _ (Builtin.SmallTypes.nextOf (.ref (n+1)) >>= _) _ _ _
  refine wpAny_bind (bM ((i2.ext hs₁ (by first | exact nn (by decide) | exact n0 (by decide) | exact aT (by decide) | exact al l1 _ | exact al l2 _ | exact aI l1 | exact aI l2 | exact co hc (by decide) | exact aU hc | omega)).ext hs₂ (by first | exact nn (by decide) | exact n0 (by decide) | exact aT (by decide) | exact al l1 _ | exact al l2 _ | exact aI l1 | exact aI l2 | exact co hc (by decide) | exact aU hc | omega)) ((s2.ext hs₁ (by first | exact nn (by decide) | exact n0 (by decide) | exact aT (by decide) | exact al l1 _ | exact al l2 _ | exact aI l1 | exact aI l2 | exact co hc (by decide) | exact aU hc | omega)).ext hs₂ (by first | exact nn (by decide) | exact n0 (by decide) | exact aT (by decide) | exact al l1 _ | exact al l2 _ | exact aI l1 | exact aI l2 | exact co hc (by decide) | exact aU hc | omega)) hy fun h₄ i2₄ hs₄=>wpAny_pure (wpAny_pure (wpAny_pure ?_)))
  refine wpAny_bind (wpAny_newTuple (hsz:=by show 2≤sizeLine;decide) (wpAny_pure ⟨_,rfl,?_⟩))
  have hsz:h₄.objs.size=s.heap.objs.size:=by rw[hs₄.1,hs₂.1,hs₁.1]
  have up:∀ {c o},h₄.get? c=some o→(h₄.push { cls:=.type "tuple",data:=.seq #[x,y] }).get? c=some o:=fun e=>Heap.get?_push_of_some _ e
  have keep:∀ (c:Nat) o,(c < n∨n+4 < c)→s.heap.get? c=some o→h₄.get? c=some o:=fun c o hc e=>ex hs₄ (by first | exact nn (by decide) | exact n0 (by decide) | exact aT (by decide) | exact al l1 _ | exact al l2 _ | exact aI l1 | exact aI l2 | exact co hc (by decide) | exact aU hc | omega) (ex hs₂ (by first | exact nn (by decide) | exact n0 (by decide) | exact aT (by decide) | exact al l1 _ | exact al l2 _ | exact aI l1 | exact aI l2 | exact co hc (by decide) | exact aU hc | omega) (ex hs₁ (by first | exact nn (by decide) | exact n0 (by decide) | exact aT (by decide) | exact al l1 _ | exact al l2 _ | exact aI l1 | exact aI l2 | exact co hc (by decide) | exact aU hc | omega) e))
  refine hQ h₄.objs.size (h₄.push { cls:=.type "tuple",data:=.seq #[x,y] }) f0 true c1 c2 (by rw[hsz];exact Nat.le_refl _) hf (up (ex hs₄ (by first | exact nn (by decide) | exact n0 (by decide) | exact aT (by decide) | exact al l1 _ | exact al l2 _ | exact aI l1 | exact aI l2 | exact co hc (by decide) | exact aU hc | omega) (ex hs₂ (by first | exact nn (by decide) | exact n0 (by decide) | exact aT (by decide) | exact al l1 _ | exact al l2 _ | exact aI l1 | exact aI l2 | exact co hc (by decide) | exact aU hc | omega) hz₁)))
   (up (ex hs₄ (by first | exact nn (by decide) | exact n0 (by decide) | exact aT (by decide) | exact al l1 _ | exact al l2 _ | exact aI l1 | exact aI l2 | exact co hc (by decide) | exact aU hc | omega) (ex hs₂ (by first | exact nn (by decide) | exact n0 (by decide) | exact aT (by decide) | exact al l1 _ | exact al l2 _ | exact aI l1 | exact aI l2 | exact co hc (by decide) | exact aU hc | omega) (ex hs₁ (by first | exact nn (by decide) | exact n0 (by decide) | exact aT (by decide) | exact al l1 _ | exact al l2 _ | exact aI l1 | exact aI l2 | exact co hc (by decide) | exact aU hc | omega) hTI)))) (up (ex hs₄ (by first | exact nn (by decide) | exact n0 (by decide) | exact aT (by decide) | exact al l1 _ | exact al l2 _ | exact aI l1 | exact aI l2 | exact co hc (by decide) | exact aU hc | omega) (ex hs₂ (by first | exact nn (by decide) | exact n0 (by decide) | exact aT (by decide) | exact al l1 _ | exact al l2 _ | exact aI l1 | exact aI l2 | exact co hc (by decide) | exact aU hc | omega) (ex hs₁ (by first | exact nn (by decide) | exact n0 (by decide) | exact aT (by decide) | exact al l1 _ | exact al l2 _ | exact aI l1 | exact aI l2 | exact co hc (by decide) | exact aU hc | omega) hTO))))
   ((i1₂.ext hs₄ (by first | exact nn (by decide) | exact n0 (by decide) | exact aT (by decide) | exact al l1 _ | exact al l2 _ | exact aI l1 | exact aI l2 | exact co hc (by decide) | exact aU hc | omega)).at fun o e=>up e) (i2₄.at fun o e=>up e) (Heap.get?_push_size _ rfl) fun c o hc e=>up (keep c o hc e)
theorem zip2_end {n a1 a2:Nat}{t1 t2:Bool}{k:Nat}{xs ys:Array Value}{c1 c2 f0:Value}{f1:Bool}{Q:Fin→Shared→Prop} (hh:A.handled=none) (hf:Free0 f0)
  (hz:IsZ s.heap (n+4) (n+2) (n+3) f0 f1) (hTI:d6 s.heap (n+2) #[.ref n,.ref (n+1)]) (hTO:d6 s.heap (n+3) #[c1,c2])
  (i1:dB s.heap t1 n a1 k) (i2:dB s.heap t2 (n+1) a2 k) (s1:cA s.heap t1 a1 xs) (s2:cA s.heap t2 a2 ys)
  (l1:a1 < n) (l2:a2 < n) (hend:xs[k]? = none∨ys[k]? = none)
  (hE:∀ h' e,(∀ (c:Nat) o,(c < n∨n+4 < c)→s.heap.get? c=some o→h'.get? c=some o)→(∃ o,h'.get? e=some o∧o.cls=.type "StopIteration")→E (.ref e) { s with heap:=h' }) :
  wpAny (model prog w) A (Builtin.«zip.__next__» ⟨[.ref (n+4)],[]⟩) Q E s:=by
 show wpAny _ _ (field (.ref (n+4)) 2 >>= _) _ _ _
 refine wpAny_bind (wpAny_field hz rfl (x:=.bool false) rfl ?_)
 show wpAny _ _ (field (.ref (n+4)) 3 >>= _) _ _ _
 refine wpAny_bind (wpAny_field hz rfl (x:=.ref (n+2)) rfl ?_)
 refine wpAny_bind (wpAny_seqItems hTI rfl ?_)
 show wpAny _ _ (Builtin.SmallTypes.ownedTupleIsFree (.ref (n+4)) >>= _) _ _ _
 refine wpAny_bind (owned_free hz hf ?_ ?_)
 ·simp only [if_true]
  refine wpAny_bind (wpAny_rule ?_)
  refine wpAny_bind (wpAny_field hz rfl (x:=.ref (n+3)) rfl ?_)
  refine wpAny_bind (wpAny_setField_rec hz (by simp) fun h₁ hz₁ hs₁=>?_)
  replace hz₁:IsZ h₁ (n+4) (n+2) (n+3) .ellipsis f1:=hz₁
  refine wpAny_bind ?_
  simp only [List.zipIdx_cons,List.zipIdx_nil,List.forIn_cons,List.forIn_nil]
  have fin:∀ {h₂ h₃:Heap}{e j:Nat}{oe:Obj},IsZ h₂ (n+4) (n+2) (n+3) .ellipsis f1→Heap.ExtBut j h₂ h₃→@Ne Nat (n+4) j→(n≤j∧j≤n+4)→(∀ (c:Nat) o,(c < n∨n+4 < c)→s.heap.get? c=some o→h₂.get? c=some o)→h₃.get? e=some oe→oe.cls=.type "StopIteration" →
    wpAny (model prog w) A (setField (.ref (n+4)) 0 .none) (fun _ s'=>E (.ref e) s') E { s with heap:=h₃ }:=fun {h₂ h₃ e j oe} hz₂ hx hj hr hk hoe hce=>by
   have hz₃:IsZ h₃ (n+4) (n+2) (n+3) .ellipsis f1:=hx _ _ hj hz₂
   have hez:e≠n+4:=fun q=>by subst q;rw[hz₃] at hoe;cases hoe;simp at hce
   refine wpAny_setField_rec hz₃ (by simp) fun h₄ _ hs₄=>hE h₄ e (fun c o hc q=>ex hs₄ (by first | exact nn (by decide) | exact n0 (by decide) | exact aT (by decide) | exact al l1 _ | exact al l2 _ | exact aI l1 | exact aI l2 | exact co hc (by decide) | exact aU hc | omega) (hx c o (show @Ne Nat c j by omega) (hk c o hc q))) ⟨oe,hs₄.extBut _ _ hez hoe,hce⟩
  refine wpAny_bind (wpAny_bind (wpAny_onRaise ?_))
  show wpAny _ _ (Builtin.SmallTypes.nextOf (.ref n) >>= _) _ _ _
  cases hx:xs[k]? with
  | none=>
   refine wpAny_bind (d5 hh (i1.ext hs₁ (by first | exact nn (by decide) | exact n0 (by decide) | exact aT (by decide) | exact al l1 _ | exact al l2 _ | exact aI l1 | exact aI l2 | exact co hc (by decide) | exact aU hc | omega)) (s1.ext hs₁ (by first | exact nn (by decide) | exact n0 (by decide) | exact aT (by decide) | exact al l1 _ | exact al l2 _ | exact aI l1 | exact aI l2 | exact co hc (by decide) | exact aU hc | omega)) hx fun h₂ e hs₂ he=>?_)
   obtain⟨oe,hoe,hce⟩:=he
   exact fin hz₁ hs₂ (by first | exact nn (by decide) | exact n0 (by decide) | exact aT (by decide) | exact al l1 _ | exact al l2 _ | exact aI l1 | exact aI l2 | exact co hc (by decide) | exact aU hc | omega) (by first | exact nn (by decide) | exact n0 (by decide) | exact aT (by decide) | exact al l1 _ | exact al l2 _ | exact aI l1 | exact aI l2 | exact co hc (by decide) | exact aU hc | omega) (fun c o hc q=>ex hs₁ (by first | exact nn (by decide) | exact n0 (by decide) | exact aT (by decide) | exact al l1 _ | exact al l2 _ | exact aI l1 | exact aI l2 | exact co hc (by decide) | exact aU hc | omega) q) hoe hce
  | some x=>
   have hy:ys[k]? = none:=by rcases hend with h | h;rw[hx] at h;cases h;exact h
   refine wpAny_bind (bM (i1.ext hs₁ (by first | exact nn (by decide) | exact n0 (by decide) | exact aT (by decide) | exact al l1 _ | exact al l2 _ | exact aI l1 | exact aI l2 | exact co hc (by decide) | exact aU hc | omega)) (s1.ext hs₁ (by first | exact nn (by decide) | exact n0 (by decide) | exact aT (by decide) | exact al l1 _ | exact al l2 _ | exact aI l1 | exact aI l2 | exact co hc (by decide) | exact aU hc | omega)) hx fun h₂ i1₂ hs₂=>wpAny_pure ?_)
   have hTO₂:d6 h₂ (n+3) #[c1,c2]:=ex hs₂ (by first | exact nn (by decide) | exact n0 (by decide) | exact aT (by decide) | exact al l1 _ | exact al l2 _ | exact aI l1 | exact aI l2 | exact co hc (by decide) | exact aU hc | omega) (ex hs₁ (by first | exact nn (by decide) | exact n0 (by decide) | exact aT (by decide) | exact al l1 _ | exact al l2 _ | exact aI l1 | exact aI l2 | exact co hc (by decide) | exact aU hc | omega) hTO)
   refine wpAny_bind (wpAny_seqItems hTO₂ rfl ?_)
   refine wpAny_bind (seq_set hTO₂ (by simp) fun h₃ hTO₃ hs₃=>?_)
   refine wpAny_bind (wpAny_letGo (wpAny_pure ?_))
   have hz₃:IsZ h₃ (n+4) (n+2) (n+3) .ellipsis f1:=ex hs₃ (by first | exact nn (by decide) | exact n0 (by decide) | exact aT (by decide) | exact al l1 _ | exact al l2 _ | exact aI l1 | exact aI l2 | exact co hc (by decide) | exact aU hc | omega) (ex hs₂ (by first | exact nn (by decide) | exact n0 (by decide) | exact aT (by decide) | exact al l1 _ | exact al l2 _ | exact aI l1 | exact aI l2 | exact co hc (by decide) | exact aU hc | omega) hz₁)
   have k₃:∀ (c:Nat) o,(c < n∨n+4 < c)→s.heap.get? c=some o→h₃.get? c=some o:=fun c o hc e=>ex hs₃ (by first | exact nn (by decide) | exact n0 (by decide) | exact aT (by decide) | exact al l1 _ | exact al l2 _ | exact aI l1 | exact aI l2 | exact co hc (by decide) | exact aU hc | omega) (ex hs₂ (by first | exact nn (by decide) | exact n0 (by decide) | exact aT (by decide) | exact al l1 _ | exact al l2 _ | exact aI l1 | exact aI l2 | exact co hc (by decide) | exact aU hc | omega) (ex hs₁ (by first | exact nn (by decide) | exact n0 (by decide) | exact aT (by decide) | exact al l1 _ | exact al l2 _ | exact aI l1 | exact aI l2 | exact co hc (by decide) | exact aU hc | omega) e))
   refine wpAny_bind (wpAny_bind (wpAny_onRaise ?_))
   show wpAny _ _ (Builtin.SmallTypes.nextOf (.ref (n+1)) >>= _) _ _ _
   refine wpAny_bind (d5 hh (((i2.ext hs₁ (by first | exact nn (by decide) | exact n0 (by decide) | exact aT (by decide) | exact al l1 _ | exact al l2 _ | exact aI l1 | exact aI l2 | exact co hc (by decide) | exact aU hc | omega)).ext hs₂ (by first | exact nn (by decide) | exact n0 (by decide) | exact aT (by decide) | exact al l1 _ | exact al l2 _ | exact aI l1 | exact aI l2 | exact co hc (by decide) | exact aU hc | omega)).ext hs₃ (by first | exact nn (by decide) | exact n0 (by decide) | exact aT (by decide) | exact al l1 _ | exact al l2 _ | exact aI l1 | exact aI l2 | exact co hc (by decide) | exact aU hc | omega)) (((s2.ext hs₁ (by first | exact nn (by decide) | exact n0 (by decide) | exact aT (by decide) | exact al l1 _ | exact al l2 _ | exact aI l1 | exact aI l2 | exact co hc (by decide) | exact aU hc | omega)).ext hs₂ (by first | exact nn (by decide) | exact n0 (by decide) | exact aT (by decide) | exact al l1 _ | exact al l2 _ | exact aI l1 | exact aI l2 | exact co hc (by decide) | exact aU hc | omega)).ext hs₃ (by first | exact nn (by decide) | exact n0 (by decide) | exact aT (by decide) | exact al l1 _ | exact al l2 _ | exact aI l1 | exact aI l2 | exact co hc (by decide) | exact aU hc | omega)) hy fun h₄ e hs₄ he=>?_)
   obtain⟨oe,hoe,hce⟩:=he
   exact fin hz₃ hs₄ (by first | exact nn (by decide) | exact n0 (by decide) | exact aT (by decide) | exact al l1 _ | exact al l2 _ | exact aI l1 | exact aI l2 | exact co hc (by decide) | exact aU hc | omega) (by first | exact nn (by decide) | exact n0 (by decide) | exact aT (by decide) | exact al l1 _ | exact al l2 _ | exact aI l1 | exact aI l2 | exact co hc (by decide) | exact aU hc | omega) k₃ hoe hce
 ·intro h₁ hz₁ hs₁
  simp only [Bool.false_eq_true,if_false]
  refine wpAny_bind ?_
  rw[← Array.forIn_toList]
  simp only [List.forIn_cons,List.forIn_nil]
  refine wpAny_bind (wpAny_bind (wpAny_holding ?_))
  show wpAny _ _ (Builtin.SmallTypes.nextOf (.ref n) >>= _) _ _ _
  cases hx:xs[k]? with
  | none=>
   refine wpAny_bind (d5 hh (i1.ext hs₁ (by first | exact nn (by decide) | exact n0 (by decide) | exact aT (by decide) | exact al l1 _ | exact al l2 _ | exact aI l1 | exact aI l2 | exact co hc (by decide) | exact aU hc | omega)) (s1.ext hs₁ (by first | exact nn (by decide) | exact n0 (by decide) | exact aT (by decide) | exact al l1 _ | exact al l2 _ | exact aI l1 | exact aI l2 | exact co hc (by decide) | exact aU hc | omega)) hx fun h₂ e hs₂ he=>?_)
   exact hE h₂ e (fun c o hc q=>hs₂ c o (show @Ne Nat c n by omega) (ex hs₁ (by first | exact nn (by decide) | exact n0 (by decide) | exact aT (by decide) | exact al l1 _ | exact al l2 _ | exact aI l1 | exact aI l2 | exact co hc (by decide) | exact aU hc | omega) q)) he
  | some x=>
   have hy:ys[k]? = none:=by rcases hend with h | h;rw[hx] at h;cases h;exact h
   refine wpAny_bind (bM (i1.ext hs₁ (by first | exact nn (by decide) | exact n0 (by decide) | exact aT (by decide) | exact al l1 _ | exact al l2 _ | exact aI l1 | exact aI l2 | exact co hc (by decide) | exact aU hc | omega)) (s1.ext hs₁ (by first | exact nn (by decide) | exact n0 (by decide) | exact aT (by decide) | exact al l1 _ | exact al l2 _ | exact aI l1 | exact aI l2 | exact co hc (by decide) | exact aU hc | omega)) hx fun h₂ i1₂ hs₂=>wpAny_pure (wpAny_pure ?_))
   refine wpAny_bind (wpAny_bind (wpAny_holding ?_))
   show wpAny _ _ (Builtin.SmallTypes.nextOf (.ref (n+1)) >>= _) _ _ _
   refine wpAny_bind (d5 hh ((i2.ext hs₁ (by first | exact nn (by decide) | exact n0 (by decide) | exact aT (by decide) | exact al l1 _ | exact al l2 _ | exact aI l1 | exact aI l2 | exact co hc (by decide) | exact aU hc | omega)).ext hs₂ (by first | exact nn (by decide) | exact n0 (by decide) | exact aT (by decide) | exact al l1 _ | exact al l2 _ | exact aI l1 | exact aI l2 | exact co hc (by decide) | exact aU hc | omega)) ((s2.ext hs₁ (by first | exact nn (by decide) | exact n0 (by decide) | exact aT (by decide) | exact al l1 _ | exact al l2 _ | exact aI l1 | exact aI l2 | exact co hc (by decide) | exact aU hc | omega)).ext hs₂ (by first | exact nn (by decide) | exact n0 (by decide) | exact aT (by decide) | exact al l1 _ | exact al l2 _ | exact aI l1 | exact aI l2 | exact co hc (by decide) | exact aU hc | omega)) hy fun h₃ e hs₃ he=>?_)
   exact hE h₃ e (fun c o hc q=>hs₃ c o (show @Ne Nat c (n+1) by omega) (ex hs₂ (by first | exact nn (by decide) | exact n0 (by decide) | exact aT (by decide) | exact al l1 _ | exact al l2 _ | exact aI l1 | exact aI l2 | exact co hc (by decide) | exact aU hc | omega) (ex hs₁ (by first | exact nn (by decide) | exact n0 (by decide) | exact aT (by decide) | exact al l1 _ | exact al l2 _ | exact aI l1 | exact aI l2 | exact co hc (by decide) | exact aU hc | omega) q))) he
theorem pyNext_zip {z TI TO:Addr}{f0:Value}{f1:Bool}{Q:Option Value→Shared→Prop} (hz:IsZ s.heap z TI TO f0 f1)
  (h:wpAny (model prog w) A.in1 (Builtin.«zip.__next__» ⟨[.ref z],[]⟩) (fun fin s'=>∃ v,fin=.done (.ret v)∧Q (some v) s') (fun e s'=>(∃ a o,e=.ref a∧s'.heap.get? a=some o∧o.cls=.type "StopIteration")∧Q none s') s) :
  wpAny (model prog w) A (pyNext (.ref z)) Q E s:=by
 have hT:s.TypeIs (.ref z) "zip" := ⟨_,hz,rfl⟩
 unfold pyNext
 refine wpAny_bind (wpAny_attempt (wpAny_callSpecial?_slot (name:=Str.ofString "__next__") hT F.slot_zip_next
  (wpAny_call_entry F.slot_zip_next hT F.entry_zip_next (wpAny_mono h (fun fin s' h'=>?_) fun e s' h'=>?_) (F.args_zip_next_1 _))))
 ·obtain⟨v,rfl,q⟩:=h'
  exact⟨v,rfl,wpAny_pure q⟩
 ·obtain⟨⟨a,o,rfl,ho,hc⟩,q⟩:=h'
  exact wpAny_bind (wpAny_isInstance (T := "StopIteration") (b:=true) ⟨o,ho,hc⟩ isSubtype_stop (wpAny_pure q))
theorem letGo_zip {tg:Expr}{z TI TO T:Addr}{f0:Value}{f1:Bool}{Q:Unit→Shared→Prop} (hf:Free0 f0) (hz:IsZ s.heap z TI TO f0 f1)
  (hQ:∀ h' f0',Free0 f0'→IsZ h' z TI TO f0' f1→Heap.SameBut z s.heap h'→Q () { s with heap:=h' }):wpAny (model prog w) A (letOwnedTupleGo tg (.ref z) (.ref T)) Q E s:=by
 have same:Q () s:=hQ s.heap f0 hf hz (Heap.SameBut.refl ..)
 have core:wpAny (model prog w) A (do
   let o ← load z
   match o.cls,o.data with
   | .type n,.fields vs=>
    if ["enumerate","zip","dict_itemiterator","dict_reverseitemiterator","odict_iterator","itertools.zip_longest","itertools.pairwise"].contains n && vs[0]? == some (rawInt T) then
     rule "for.unpacks-the-owned-tuple"
     updateField z 0 .none
   | _,_=>pure ()) Q E s:=by
  refine wpAny_bind (wpAny_load hz ?_)
  show wpAny _ _ (if (["enumerate","zip","dict_itemiterator","dict_reverseitemiterator","odict_iterator","itertools.zip_longest","itertools.pairwise"].contains "zip" &&
   (#[f0,.bool f1,.bool false,.ref TI,.ref TO]:Array Value)[0]? == some (rawInt T))=true then _ else _) Q E s
  split
  ·refine wpAny_bind (wpAny_rule ?_)
   show wpAny _ _ (setField (.ref z) 0 .none) Q E s
   exact wpAny_setField_rec hz (by simp) fun h' hz' hs'=>hQ h' .none (.inl rfl) hz' hs'
  ·exact wpAny_pure same
 unfold letOwnedTupleGo
 cases tg <;> first
  | exact wpAny_pure same
  | exact core
theorem pyIter_zip {z TI TO:Addr}{f0:Value}{f1:Bool}{Q:Value→Shared→Prop} (hz:IsZ s.heap z TI TO f0 f1) (h:Q (.ref z) s):wpAny (model prog w) A (pyIter (.ref z)) Q E s:=by
 have hT:s.TypeIs (.ref z) "zip" := ⟨_,hz,rfl⟩
 refine wpAny_pyIter_slot hT F.slot_zip_iter (wpAny_call_entry F.slot_zip_iter hT F.entry_zip_iter ?_ (F.args_zip_iter_1 _))
 show wpAny _ _ (ret (.ref z)) _ _ s
 exact wpAny_pure ⟨_,rfl,"zip",_,hT,F.slot_zip_next.lookup,h⟩
noncomputable def itObj (t:Bool) (a:Addr):Obj:={ cls:=.type (if t=true then "tuple_iterator" else "list_iterator"),data:=.fields #[.ref a,.int 0 0] }
theorem dZ {t:Bool}{a:Addr}{items:Array Value}{Q:Value→Shared→Prop} (hs:cA s.heap t a items) (hQ:Q (.ref s.heap.objs.size) { s with heap:=s.heap.push (itObj t a) }) :
  wpAny (model prog w) A (pyIter (.ref a)) Q E s:=by
 cases t with
 | true=>exact wpAny_pyIter_tuple hs hQ
 | false=>exact wpAny_pyIter_list hs hQ
theorem itObj_is {h:Heap}{t:Bool}{a it:Addr} (e:h.get? it=some (itObj t a)):dB h t it a 0:=by
 cases t <;> exact⟨_,e,rfl,rfl⟩
noncomputable abbrev zA (h:Heap) (t:Bool) (a:Addr):Heap:=h.push (itObj t a)
noncomputable abbrev zTup (h:Heap) (vs:List Value):Heap:=h.push { cls:=.type "tuple",data:=.seq vs.toArray }
noncomputable abbrev z2B (h:Heap) (t1 t2:Bool) (l1 l2:Addr):Heap:=zTup (zA (zA h t1 l1) t2 l2) [.ref h.objs.size,.ref (zA h t1 l1).objs.size]
noncomputable abbrev z2H (h:Heap) (t1 t2:Bool) (l1 l2:Addr):Heap:=zTup (z2B h t1 t2 l1 l2) [.none,.none]
noncomputable abbrev z2E (h:Heap) (t1 t2:Bool) (l1 l2:Addr):Heap:=(z2H h t1 t2 l1 l2).push { cls:=.type "zip",data:=.fields #[.none,.bool false,.bool false,.ref (zA (zA h t1 l1) t2 l2).objs.size,.ref (z2B h t1 t2 l1 l2).objs.size] }
noncomputable abbrev z3B (h:Heap) (t1 t2 t3:Bool) (l1 l2 l3:Addr):Heap:=zTup (zA (zA (zA h t1 l1) t2 l2) t3 l3) [.ref h.objs.size,.ref (zA h t1 l1).objs.size,.ref (zA (zA h t1 l1) t2 l2).objs.size]
noncomputable abbrev z3H (h:Heap) (t1 t2 t3:Bool) (l1 l2 l3:Addr):Heap:=zTup (z3B h t1 t2 t3 l1 l2 l3) [.none,.none,.none]
noncomputable abbrev z3E (h:Heap) (t1 t2 t3:Bool) (l1 l2 l3:Addr):Heap:=(z3H h t1 t2 t3 l1 l2 l3).push { cls:=.type "zip",data:=.fields #[.none,.bool false,.bool false,.ref (zA (zA (zA h t1 l1) t2 l2) t3 l3).objs.size,.ref (z3B h t1 t2 t3 l1 l2 l3).objs.size] }
theorem meets_zip2 (t1 t2:Bool) (l1 l2:Addr) (xs ys:Array Value) :
  Meets (Builtin.«zip.__new__» ⟨[.type "zip",.ref l1,.ref l2],[]⟩) (fun _ R s=>cA s.heap t1 l1 xs∧cA s.heap t2 l2 ys∧
   R (.ok (.ret (.ref (z2H s.heap t1 t2 l1 l2).objs.size))) { s with heap:=z2E s.heap t1 t2 l1 l2 }):=
 .of_wp fun prog w A R s h=>by
  obtain⟨hp,g,d,tk,os⟩:=s;obtain⟨hl1,hl2,h⟩:=h
  have hsub:=sub_zip
  have hL1:cA (Shared.heap ⟨hp,g,d,tk,os⟩) t1 l1 xs:=hl1
  have hL2:cA (Shared.heap ⟨hp.push (itObj t1 l1),g,d,tk,os⟩) t2 l2 ys:=hl2.at fun o e=>Heap.get?_push_of_some _ e
  wp_walk using dZ hL1,dZ hL2
  exact⟨_,rfl,h⟩
theorem meets_zip3 (t1 t2 t3:Bool) (l1 l2 l3:Addr) (xs ys zs:Array Value) :
  Meets (Builtin.«zip.__new__» ⟨[.type "zip",.ref l1,.ref l2,.ref l3],[]⟩) (fun _ R s=>cA s.heap t1 l1 xs∧cA s.heap t2 l2 ys∧cA s.heap t3 l3 zs∧
   R (.ok (.ret (.ref (z3H s.heap t1 t2 t3 l1 l2 l3).objs.size))) { s with heap:=z3E s.heap t1 t2 t3 l1 l2 l3 }):=
 .of_wp fun prog w A R s h=>by
  obtain⟨hp,g,d,tk,os⟩:=s;obtain⟨hl1,hl2,hl3,h⟩:=h
  have hsub:=sub_zip
  have hL1:cA (Shared.heap ⟨hp,g,d,tk,os⟩) t1 l1 xs:=hl1
  have hL2:cA (Shared.heap ⟨hp.push (itObj t1 l1),g,d,tk,os⟩) t2 l2 ys:=hl2.at fun o e=>Heap.get?_push_of_some _ e
  have hL3:cA (Shared.heap ⟨(hp.push (itObj t1 l1)).push (itObj t2 l2),g,d,tk,os⟩) t3 l3 zs:=hl3.at fun o e=>Heap.get?_push_of_some _ (Heap.get?_push_of_some _ e)
  wp_walk using dZ hL1,dZ hL2,dZ hL3
  exact⟨_,rfl,h⟩
theorem typeCall_zip_3 (a b c:Value):checkTypeCall "zip" ⟨[a,b,c],[]⟩=pure ():=by kernel_rfl
theorem newCall_zip_3 (a b c:Value):checkBuiltinCall "zip.__new__" ⟨[.type "zip",a,b,c],[]⟩=pure ():=by kernel_rfl
theorem args_object_init_4 (a b c d:Value):argsOk "object.__init__" ⟨[a,b,c,d],[]⟩:=by
 unfold argsOk;rw[signature?_of (id := "object.__init__") (n:=['_','_','t','i','n','i','_','_']) (o:=['t','c','e','j','b','o']) (by kernel_rfl) F.owner_object];kernel_rfl
theorem call_zip2 {t1 t2:Bool}{l1 l2:Addr}{xs ys:Array Value}{Q:Value→Shared→Prop} (hl1:cA s.heap t1 l1 xs) (hl2:cA s.heap t2 l2 ys)
  (h:∀ h',IsZ h' (s.heap.objs.size+4) (s.heap.objs.size+2) (s.heap.objs.size+3) .none false→d6 h' (s.heap.objs.size+2) #[.ref s.heap.objs.size,.ref (s.heap.objs.size+1)]→
   d6 h' (s.heap.objs.size+3) #[.none,.none]→dB h' t1 s.heap.objs.size l1 0→dB h' t2 (s.heap.objs.size+1) l2 0→
   (∀ c o,s.heap.get? c=some o→h'.get? c=some o)→Q (.ref (s.heap.objs.size+4)) { s with heap:=h' }):wpAny (model prog w) A (call (.type "zip") [.ref l1,.ref l2]) Q E s:=by
 refine callType_new F.called_zip (by decide) (F.typeCall_zip_2 _ _) (F.newCall_zip_2 _ _) (fun obj=>F.args_object_init_3 obj _ _) F.entry_zip_new (meets_zip2 t1 t2 l1 l2 xs ys) ⟨hl1,hl2,?_⟩
 generalize s.heap=h0 at *
 have z1:(zA h0 t1 l1).objs.size=h0.objs.size+1:=Heap.size_push ..
 have z2:(zA (zA h0 t1 l1) t2 l2).objs.size=h0.objs.size+2:=by rw[Heap.size_push,z1]
 have z3:(z2B h0 t1 t2 l1 l2).objs.size=h0.objs.size+3:=by rw[Heap.size_push,z2]
 have z4:(z2H h0 t1 t2 l1 l2).objs.size=h0.objs.size+4:=by rw[Heap.size_push,z3]
 have g5:(z2E h0 t1 t2 l1 l2).get? (z2H h0 t1 t2 l1 l2).objs.size=some _:=Heap.get?_push_size _ rfl
 have g4:(z2E h0 t1 t2 l1 l2).get? (z2B h0 t1 t2 l1 l2).objs.size=some _:=Heap.get?_push_of_some _ (Heap.get?_push_size _ rfl)
 have g3:(z2E h0 t1 t2 l1 l2).get? (zA (zA h0 t1 l1) t2 l2).objs.size=some _:=Heap.get?_push_of_some _ (Heap.get?_push_of_some _ (Heap.get?_push_size _ rfl))
 have g2:(z2E h0 t1 t2 l1 l2).get? (zA h0 t1 l1).objs.size=some _:=Heap.get?_push_of_some _ (Heap.get?_push_of_some _ (Heap.get?_push_of_some _ (Heap.get?_push_size _ rfl)))
 have g1:(z2E h0 t1 t2 l1 l2).get? h0.objs.size=some _:=Heap.get?_push_of_some _ (Heap.get?_push_of_some _ (Heap.get?_push_of_some _ (Heap.get?_push_of_some _ (Heap.get?_push_size _ rfl))))
 show _∧_
 rw[z2,z3,z4] at g5
 rw[z1,z2] at g3
 rw[z3] at g4
 rw[z1] at g2
 rw[z4]
 exact⟨⟨_,g5,rfl⟩,h _ g5 g3 g4 (itObj_is g1) (itObj_is g2) fun c o x=>Heap.get?_push_of_some _ (Heap.get?_push_of_some _ (Heap.get?_push_of_some _ (Heap.get?_push_of_some _ (Heap.get?_push_of_some _ x))))⟩
theorem call_zip3 {t1 t2 t3:Bool}{l1 l2 l3:Addr}{xs ys zs:Array Value}{Q:Value→Shared→Prop} (hl1:cA s.heap t1 l1 xs) (hl2:cA s.heap t2 l2 ys) (hl3:cA s.heap t3 l3 zs)
  (h:∀ h',IsZ h' (s.heap.objs.size+5) (s.heap.objs.size+3) (s.heap.objs.size+4) .none false→d6 h' (s.heap.objs.size+3) #[.ref s.heap.objs.size,.ref (s.heap.objs.size+1),.ref (s.heap.objs.size+2)]→
   d6 h' (s.heap.objs.size+4) #[.none,.none,.none]→dB h' t1 s.heap.objs.size l1 0→dB h' t2 (s.heap.objs.size+1) l2 0→dB h' t3 (s.heap.objs.size+2) l3 0→
   (∀ c o,s.heap.get? c=some o→h'.get? c=some o)→Q (.ref (s.heap.objs.size+5)) { s with heap:=h' }):wpAny (model prog w) A (call (.type "zip") [.ref l1,.ref l2,.ref l3]) Q E s:=by
 refine callType_new F.called_zip (by decide) (typeCall_zip_3 _ _ _) (newCall_zip_3 _ _ _) (fun obj=>args_object_init_4 obj _ _ _) F.entry_zip_new (meets_zip3 t1 t2 t3 l1 l2 l3 xs ys zs) ⟨hl1,hl2,hl3,?_⟩
 generalize s.heap=h0 at *
 have z1:(zA h0 t1 l1).objs.size=h0.objs.size+1:=Heap.size_push ..
 have z2:(zA (zA h0 t1 l1) t2 l2).objs.size=h0.objs.size+2:=by rw[Heap.size_push,z1]
 have z2':(zA (zA (zA h0 t1 l1) t2 l2) t3 l3).objs.size=h0.objs.size+3:=by rw[Heap.size_push,z2]
 have z3:(z3B h0 t1 t2 t3 l1 l2 l3).objs.size=h0.objs.size+4:=by rw[Heap.size_push,z2']
 have z4:(z3H h0 t1 t2 t3 l1 l2 l3).objs.size=h0.objs.size+5:=by rw[Heap.size_push,z3]
 have g5:(z3E h0 t1 t2 t3 l1 l2 l3).get? (z3H h0 t1 t2 t3 l1 l2 l3).objs.size=some _:=Heap.get?_push_size _ rfl
 have g4:(z3E h0 t1 t2 t3 l1 l2 l3).get? (z3B h0 t1 t2 t3 l1 l2 l3).objs.size=some _:=Heap.get?_push_of_some _ (Heap.get?_push_size _ rfl)
 have g3:(z3E h0 t1 t2 t3 l1 l2 l3).get? (zA (zA (zA h0 t1 l1) t2 l2) t3 l3).objs.size=some _:=Heap.get?_push_of_some _ (Heap.get?_push_of_some _ (Heap.get?_push_size _ rfl))
 have g2':(z3E h0 t1 t2 t3 l1 l2 l3).get? (zA (zA h0 t1 l1) t2 l2).objs.size=some _:=Heap.get?_push_of_some _ (Heap.get?_push_of_some _ (Heap.get?_push_of_some _ (Heap.get?_push_size _ rfl)))
 have g2:(z3E h0 t1 t2 t3 l1 l2 l3).get? (zA h0 t1 l1).objs.size=some _:=Heap.get?_push_of_some _ (Heap.get?_push_of_some _ (Heap.get?_push_of_some _ (Heap.get?_push_of_some _ (Heap.get?_push_size _ rfl))))
 have g1:(z3E h0 t1 t2 t3 l1 l2 l3).get? h0.objs.size=some _:=Heap.get?_push_of_some _ (Heap.get?_push_of_some _ (Heap.get?_push_of_some _ (Heap.get?_push_of_some _ (Heap.get?_push_of_some _ (Heap.get?_push_size _ rfl)))))
 show _∧_
 rw[z2',z3,z4] at g5
 rw[z1,z2,z2'] at g3
 rw[z3] at g4
 rw[z2] at g2'
 rw[z1] at g2
 rw[z4]
 exact⟨⟨_,g5,rfl⟩,h _ g5 g3 g4 (itObj_is g1) (itObj_is g2) (itObj_is g2') fun c o x=>Heap.get?_push_of_some _ (Heap.get?_push_of_some _ (Heap.get?_push_of_some _ (Heap.get?_push_of_some _ (Heap.get?_push_of_some _ (Heap.get?_push_of_some _ x)))))⟩
end
end TwZ
namespace TwZ
open PySem
open Sem (wp)
open AutoSeq1 (wpAny_loadPart')
section
variable {prog:Program}{w:World}{M:Model}{A:Around}{E:Value→Shared→Prop}{s:Shared}
noncomputable abbrev IsEn (h:Heap) (e it:Addr) (f0:Value) (f1:Bool) (i:Int) (old:Value):Prop:=
 h.get? e=some { cls:=.type "enumerate",dict:=none,data:=.fields #[f0,.bool f1,.ref it,rawInt i,.none,old],slots:=#[] }
theorem ownedE_free {e it:Addr}{f0:Value}{f1:Bool}{i:Int}{old:Value}{Q:Bool→Shared→Prop} (hz:IsEn s.heap e it f0 f1 i old) (hf:Free0 f0) (yes:Q true s)
  (no:∀ h',IsEn h' e it f0 true i old→Heap.SameBut e s.heap h'→Q false { s with heap:=h' }):wpAny (model prog w) A (Builtin.SmallTypes.ownedTupleIsFree (.ref e)) Q E s:=by
 unfold Builtin.SmallTypes.ownedTupleIsFree
 refine wpAny_bind (wpAny_field hz rfl (x:=f0) rfl ?_)
 rcases hf with rfl | ⟨a,rfl⟩
 ·exact wpAny_pure yes
 ·refine wpAny_bind (wpAny_alive ?_)
  cases h:s.heap.get? a.toNat with
  | none=>exact wpAny_pure yes
  | some o=>
   show wpAny _ _ (field (.ref e) 1 >>= _) _ _ _
   refine wpAny_bind (wpAny_field hz rfl (x:=.bool f1) rfl ?_)
   cases f1 with
   | true=>exact wpAny_pure (no s.heap hz (Heap.SameBut.refl ..))
   | false=>
    show wpAny _ _ (setField (.ref e) 1 (.bool true) >>= _) _ _ _
    refine wpAny_bind (wpAny_setField_rec hz (by simp) fun h₁ hz₁ hs₁=>wpAny_pure (no h₁ hz₁ hs₁))
theorem handOutE {e it:Addr}{f0:Value}{f1:Bool}{i:Int}{old:Value}{T:Addr}{Q:Unit→Shared→Prop} (hz:IsEn s.heap e it f0 f1 i old)
  (h:∀ h',IsEn h' e it (rawInt T) false i old→Heap.SameBut e s.heap h'→Q () { s with heap:=h' }):wpAny (model prog w) A (Builtin.SmallTypes.ownedTupleHandOut (.ref e) (.ref T)) Q E s:=by
 unfold Builtin.SmallTypes.ownedTupleHandOut
 refine wpAny_bind (wpAny_setField_rec hz (by simp) fun h₁ hz₁ hs₁=>?_)
 replace hz₁:IsEn h₁ e it (rawInt T) f1 i old:=hz₁
 refine wpAny_setField_rec hz₁ (by simp) fun h₂ hz₂ hs₂=>?_
 exact h h₂ hz₂ (Heap.SameBut.trans hs₁ hs₂)
theorem enum_next {n a:Nat}{t:Bool}{k:Nat}{xs:Array Value}{x old f0:Value}{f1:Bool}{Q:Value→Shared→Prop} (hf:Free0 f0)
  (he:IsEn s.heap (n+1) n f0 f1 k old) (i1:dB s.heap t n a k) (s1:cA s.heap t a xs) (l1:a < n) (hx:xs[k]? = some x)
  (hQ:∀ (T:Nat) h' f0' f1' old',s.heap.objs.size≤T→Free0 f0'→IsEn h' (n+1) n f0' f1' ((k:Int)+1) old'→dB h' t n a (k+1)→d6 h' T #[.int k s.toks,x]→
   (∀ (c:Nat) o,(c < n∨n+1 < c)→s.heap.get? c=some o→h'.get? c=some o)→Q (.ref T) { s with heap:=h',toks:=s.toks+1 }) :
  wpAny (model prog w) A (Builtin.«enumerate.__next__» ⟨[.ref (n+1)],[]⟩) (fun fin s'=>∃ v,fin=.done (.ret v)∧Q v s') E s:=by
 obtain⟨hp,g,d,tk,os⟩:=s
 have helt:n+1 < hp.objs.size:=Heap.lt_size he
 show wpAny _ _ (field (.ref (n+1)) 2 >>= _) _ _ _
 refine wpAny_bind (wpAny_field he rfl (x:=.ref n) rfl ?_)
 refine wpAny_bind (bM i1 s1 hx fun h₁ i1₁ hs₁=>?_)
 replace hs₁:Heap.SameBut n hp h₁:=hs₁
 have he₁:IsEn h₁ (n+1) n f0 f1 k old:=ex hs₁ (by omega) he
 show wpAny _ _ (field (.ref (n+1)) 3 >>= _) _ _ ⟨h₁,g,d,tk,os⟩
 refine wpAny_bind (wpAny_field he₁ rfl (x:=rawInt k) rfl ?_)
 show wpAny _ _ (field (.ref (n+1)) 4 >>= _) _ _ ⟨h₁,g,d,tk,os⟩
 refine wpAny_bind (wpAny_field he₁ rfl (x:=.none) rfl ?_)
 show wpAny _ _ (mkInt k >>= _) _ _ ⟨h₁,g,d,tk,os⟩
 refine wpAny_bind (wpAny_mkInt ?_)
 show wpAny _ _ (setField (.ref (n+1)) 3 (rawInt ((k:Int)+1)) >>= _) _ _ ⟨h₁,g,d,tk+1,os⟩
 refine wpAny_bind (wpAny_setField_rec he₁ (by simp) fun h₂ he₂ hs₂=>?_)
 replace hs₂:Heap.SameBut (n+1) h₁ h₂:=hs₂
 replace he₂:IsEn h₂ (n+1) n f0 f1 ((k:Int)+1) old:=he₂
 show wpAny _ _ (setField (.ref (n+1)) 4 .none >>= _) _ _ ⟨h₂,g,d,tk+1,os⟩
 refine wpAny_bind (wpAny_setField_rec he₂ (by simp) fun h₃ he₃ hs₃=>?_)
 replace hs₃:Heap.SameBut (n+1) h₂ h₃:=hs₃
 replace he₃:IsEn h₃ (n+1) n f0 f1 ((k:Int)+1) old:=he₃
 show wpAny _ _ (newTuple [.int k tk,x] >>= _) _ _ ⟨h₃,g,d,tk+1,os⟩
 refine wpAny_bind (wpAny_newTuple ?_)
 have he₄:IsEn (h₃.push { cls:=.type "tuple",data:=.seq #[.int k tk,x] }) (n+1) n f0 f1 ((k:Int)+1) old:=Heap.get?_push_of_some _ he₃
 have hsz:h₃.objs.size=hp.objs.size:=by rw[hs₃.1,hs₂.1,hs₁.1]
 have ht₄:d6 (h₃.push { cls:=.type "tuple",data:=.seq #[.int k tk,x] }) h₃.objs.size #[.int k tk,x]:=Heap.get?_push_size _ rfl
 have k₄:∀ (c:Nat) o,(c < n∨n+1 < c)→hp.get? c=some o→(h₃.push { cls:=.type "tuple",data:=.seq #[.int k tk,x] }).get? c=some o:=fun c o hc e=>
  Heap.get?_push_of_some _ (ex hs₃ (by omega) (ex hs₂ (by omega) (ex hs₁ (by omega) e)))
 have i1₄:dB (h₃.push { cls:=.type "tuple",data:=.seq #[.int k tk,x] }) t n a (k+1):=((i1₁.ext hs₂ (by omega)).ext hs₃ (by omega)).at fun o e=>Heap.get?_push_of_some _ e
 have hlt₃:n+1 < h₃.objs.size:=by rw[hsz];exact helt
 generalize hh₄:h₃.push { cls:=.type "tuple",data:=.seq #[.int k tk,x] }=h₄ at he₄ ht₄ k₄ i1₄
 have hTle:hp.objs.size≤h₃.objs.size:=Nat.le_of_eq hsz.symm
 show wpAny _ _ (Builtin.SmallTypes.ownedTupleIsFree (.ref (n+1)) >>= _) _ _ ⟨h₄,g,d,tk+1,os⟩
 refine wpAny_bind (ownedE_free he₄ hf ?_ ?_)
 ·simp only [if_true]
  refine wpAny_bind (wpAny_rule ?_)
  refine wpAny_bind (wpAny_field he₄ rfl (x:=old) rfl ?_)
  refine wpAny_bind (wpAny_setField_rec he₄ (by simp) fun h₅ he₅ hs₅=>?_)
  replace hs₅:Heap.SameBut (n+1) h₄ h₅:=hs₅
  replace he₅:IsEn h₅ (n+1) n f0 f1 ((k:Int)+1) x:=he₅
  refine wpAny_bind (handOutE (s:=⟨h₅,g,d,tk+1,os⟩) he₅ fun h₆ he₆ hs₆=>?_)
  replace hs₆:Heap.SameBut (n+1) h₅ h₆:=hs₆
  refine wpAny_bind (wpAny_letGo (wpAny_pure ⟨_,rfl,?_⟩))
  exact hQ h₃.objs.size h₆ _ _ _ hTle (.inr ⟨_,rfl⟩) he₆ ((i1₄.ext hs₅ (by omega)).ext hs₆ (by omega)) (ex hs₆ (by omega) (ex hs₅ (by omega) ht₄)) fun c o hc e=>ex hs₆ (by omega) (ex hs₅ (by omega) (k₄ c o hc e))
 ·intro h₅ he₅ hs₅
  replace hs₅:Heap.SameBut (n+1) h₄ h₅:=hs₅
  simp only [Bool.false_eq_true,if_false]
  refine wpAny_pure ⟨_,rfl,?_⟩
  exact hQ h₃.objs.size h₅ _ _ _ hTle hf he₅ (i1₄.ext hs₅ (by omega)) (ex hs₅ (by omega) ht₄) fun c o hc e=>ex hs₅ (by omega) (k₄ c o hc e)
theorem enum_end {n a:Nat}{t:Bool}{k:Nat}{xs:Array Value}{old f0:Value}{f1:Bool}{Q:Fin→Shared→Prop} (hh:A.handled=none)
  (he:IsEn s.heap (n+1) n f0 f1 k old) (i1:dB s.heap t n a k) (s1:cA s.heap t a xs) (hx:xs[k]? = none)
  (hE:∀ h' e,(∀ (c:Nat) o,(c < n∨n+1 < c)→s.heap.get? c=some o→h'.get? c=some o)→(∃ o,h'.get? e=some o∧o.cls=.type "StopIteration")→E (.ref e) { s with heap:=h' }) :
  wpAny (model prog w) A (Builtin.«enumerate.__next__» ⟨[.ref (n+1)],[]⟩) Q E s:=by
 show wpAny _ _ (field (.ref (n+1)) 2 >>= _) _ _ _
 refine wpAny_bind (wpAny_field he rfl (x:=.ref n) rfl ?_)
 refine wpAny_bind (d5 hh i1 s1 hx fun h' e hk he'=>hE h' e (fun c o hc q=>hk c o (show @Ne Nat c n by omega) q) he')
theorem pyNext_enum {e it:Addr}{f0:Value}{f1:Bool}{i:Int}{old:Value}{Q:Option Value→Shared→Prop} (he:IsEn s.heap e it f0 f1 i old)
  (h:wpAny (model prog w) A.in1 (Builtin.«enumerate.__next__» ⟨[.ref e],[]⟩) (fun fin s'=>∃ v,fin=.done (.ret v)∧Q (some v) s') (fun e s'=>(∃ a o,e=.ref a∧s'.heap.get? a=some o∧o.cls=.type "StopIteration")∧Q none s') s) :
  wpAny (model prog w) A (pyNext (.ref e)) Q E s:=by
 have hT:s.TypeIs (.ref e) "enumerate" := ⟨_,he,rfl⟩
 unfold pyNext
 refine wpAny_bind (wpAny_attempt (wpAny_callSpecial?_slot (name:=Str.ofString "__next__") hT F.slot_enumerate_next
  (wpAny_call_entry F.slot_enumerate_next hT F.entry_enumerate_next (wpAny_mono h (fun fin s' h'=>?_) fun e s' h'=>?_) (F.args_enumerate_next_1 _))))
 ·obtain⟨v,rfl,q⟩:=h'
  exact⟨v,rfl,wpAny_pure q⟩
 ·obtain⟨⟨a,o,rfl,ho,hc⟩,q⟩:=h'
  exact wpAny_bind (wpAny_isInstance (T := "StopIteration") (b:=true) ⟨o,ho,hc⟩ isSubtype_stop (wpAny_pure q))
theorem letGo_enum {tg:Expr}{e it T:Addr}{f0:Value}{f1:Bool}{i:Int}{old:Value}{Q:Unit→Shared→Prop} (hf:Free0 f0) (hz:IsEn s.heap e it f0 f1 i old)
  (hQ:∀ h' f0',Free0 f0'→IsEn h' e it f0' f1 i old→Heap.SameBut e s.heap h'→Q () { s with heap:=h' }):wpAny (model prog w) A (letOwnedTupleGo tg (.ref e) (.ref T)) Q E s:=by
 have same:Q () s:=hQ s.heap f0 hf hz (Heap.SameBut.refl ..)
 have core:wpAny (model prog w) A (do
   let o ← load e
   match o.cls,o.data with
   | .type n,.fields vs=>
    if ["enumerate","zip","dict_itemiterator","dict_reverseitemiterator","odict_iterator","itertools.zip_longest","itertools.pairwise"].contains n && vs[0]? == some (rawInt T) then
     rule "for.unpacks-the-owned-tuple"
     updateField e 0 .none
   | _,_=>pure ()) Q E s:=by
  refine wpAny_bind (wpAny_load hz ?_)
  show wpAny _ _ (if (["enumerate","zip","dict_itemiterator","dict_reverseitemiterator","odict_iterator","itertools.zip_longest","itertools.pairwise"].contains "enumerate" &&
   (#[f0,.bool f1,.ref it,rawInt i,.none,old]:Array Value)[0]? == some (rawInt T))=true then _ else _) Q E s
  split
  ·refine wpAny_bind (wpAny_rule ?_)
   show wpAny _ _ (setField (.ref e) 0 .none) Q E s
   exact wpAny_setField_rec hz (by simp) fun h' hz' hs'=>hQ h' .none (.inl rfl) hz' hs'
  ·exact wpAny_pure same
 unfold letOwnedTupleGo
 cases tg <;> first
  | exact wpAny_pure same
  | exact core
theorem pyIter_enum {e it:Addr}{f0:Value}{f1:Bool}{i:Int}{old:Value}{Q:Value→Shared→Prop} (he:IsEn s.heap e it f0 f1 i old) (h:Q (.ref e) s):wpAny (model prog w) A (pyIter (.ref e)) Q E s:=by
 have hT:s.TypeIs (.ref e) "enumerate" := ⟨_,he,rfl⟩
 refine wpAny_pyIter_slot hT F.slot_enumerate_iter (wpAny_call_entry F.slot_enumerate_iter hT F.entry_enumerate_iter ?_ (F.args_enumerate_iter_1 _))
 show wpAny _ _ (ret (.ref e)) _ _ s
 exact wpAny_pure ⟨_,rfl,"enumerate",_,hT,F.slot_enumerate_next.lookup,h⟩
theorem meets_enum (t:Bool) (l:Addr) (xs:Array Value) :
  Meets (Builtin.«enumerate.__new__» ⟨[.type "enumerate",.ref l],[]⟩) (fun _ R s=>cA s.heap t l xs∧
   R (.ok (.ret (.ref (zA s.heap t l).objs.size))) { s with heap:=(zA s.heap t l).push { cls:=.type "enumerate",data:=.fields #[.none,.bool false,.ref s.heap.objs.size,rawInt 0,.none,.none] } }):=
 .of_wp fun prog w A R s h=>by
  obtain⟨hp,g,d,tk,os⟩:=s;obtain⟨hl,h⟩:=h
  have hsub:=sub_enumerate
  have hL:cA (Shared.heap ⟨hp,g,d,tk,os⟩) t l xs:=hl
  wp_walk
  refine wpAny_stack_any fun st=>wpAny_pure ?_
  split
  ·rename_i c _ _ _ _ _
   cases (c == Value.type "enumerate")
   ·wp_walk using dZ hL
    exact⟨_,rfl,h⟩
   ·wp_walk using dZ hL
    exact⟨_,rfl,h⟩
  ·wp_walk using dZ hL
   exact⟨_,rfl,h⟩
theorem call_enum {t:Bool}{l:Addr}{xs:Array Value}{Q:Value→Shared→Prop} (hL:cA s.heap t l xs)
  (h:∀ h',IsEn h' (s.heap.objs.size+1) s.heap.objs.size .none false 0 .none→dB h' t s.heap.objs.size l 0→(∀ b o,s.heap.get? b=some o→h'.get? b=some o)→Q (.ref (s.heap.objs.size+1)) { s with heap:=h' }) :
  wpAny (model prog w) A (call (.type "enumerate") [.ref l]) Q E s:=by
 refine callType_new F.called_enumerate (by decide) (F.typeCall_enumerate_1 _) (F.newCall_enumerate_1 _) (fun obj=>F.args_object_init_2 obj _) F.entry_enumerate_new (meets_enum t l xs) ⟨hL,?_⟩
 have hz:(zA s.heap t l).objs.size=s.heap.objs.size+1:=Heap.size_push ..
 show _∧_
 rw[hz]
 have he:IsEn ((zA s.heap t l).push { cls:=.type "enumerate",data:=.fields #[.none,.bool false,.ref s.heap.objs.size,rawInt 0,.none,.none] }) (s.heap.objs.size+1) s.heap.objs.size .none false 0 .none:=by
  have:=Heap.get?_push_size (zA s.heap t l) (o:={ cls:=.type "enumerate",data:=.fields #[.none,.bool false,.ref s.heap.objs.size,rawInt 0,.none,.none] }) rfl
  rw[hz] at this;exact this
 exact⟨⟨_,he,rfl⟩,h _ he (itObj_is (Heap.get?_push_of_some _ (Heap.get?_push_size _ rfl))) fun b o x=>Heap.get?_push_of_some _ (Heap.get?_push_of_some _ x)⟩
end
end TwZ
namespace L2
open PySem PySem.Spec PyProof.Rows TwZ
noncomputable def SqB (K:PySem.W.Frag) (H:Hp) (t:Bool) (a:Addr) (xs:List V):Prop:=if t=true then bR K H a xs else bY K H a xs
section
variable {X:Cx}{pins:List (Addr×Obj)}{σ:St}{H:Hp}{s:Shared}
theorem Inv.src {t:Bool}{a:Addr}{xs:List V} (I:Inv X pins σ H s) (h:SqB X.K H t a xs):∃ its:List Value,bO xs its∧cA s.heap t a its.toArray∧xs.length≤sizeLine:=by
 cases t with
 | true=>
  obtain⟨its,r,p,z⟩:=I.tuple h
  exact⟨its,r,(show s.heap.IsTuple a its.toArray from p),z⟩
 | false=>
  obtain⟨its,r,p,z⟩:=I.list h
  exact⟨its,r,p.isList,z⟩
theorem Inv.src_inj {t:Bool}{a:Addr}{xs ys:List V} (I:Inv X pins σ H s) (h:SqB X.K H t a xs) (h':SqB X.K H t a ys):xs=ys:=by
 cases t with
 | true=>exact I.tuple_inj h h'
 | false=>exact I.list_inj h h'
theorem Inv.turnedT {fp:List Addr}{h':Heap}{t':Nat}{T:Addr}{xs:List V}{its:List Value} (I:Inv X pins σ H s) (hf:∀ b∈fp,FpOk X pins H b) (k:∀ b o,b∉fp→s.heap.get? b=some o→h'.get? b=some o)
  (hT:s.heap.objs.size≤T) (hv:bO xs its) (hz:xs.length≤sizeLine) (ht:IsTup h' T its.toArray):Inv X pins σ (upd H T (.tup xs)) { s with heap:=h',toks:=t' }:=by
 have hn:H T=none:=I.hok.fresh hT
 have nT:∀ b u,H b=some u→b≠T:=fun b u e=>aO e hn
 have nfp:∀ b u,H b=some u→b∉fp:=fun b u e hb=>by rw[(hf b hb).1] at e;cases e
 have nTh:∀ b o,s.heap.get? b=some o→b≠T:=fun b o e z=>by rw[z] at e;exact absurd (Nat.lt_of_lt_of_le (Heap.lt_size e) hT) (Nat.lt_irrefl _)
 refine I.step (g':=s.gens) (d':=s.drawn) (ch:=fp) (fun b hb=>?_) (fun b o _ _ hc e _=>k b o hc e) (fun b o _ _ hc e _=>⟨o.slots,k b o hc e⟩) (fun b o hc e n=>by rw[aN (nTh b o e)];exact n)
  (fun b o hc e=>⟨o,k b o hc e⟩) (fun b ys e=>by rw[aN (nT b _ e)];exact e) (fun b o u e=>by rw[aN (nT b _ e)];exact e) (fun b ps e=>⟨#[],by rw[aN (nT b _ e),e];simp⟩) (fun m hm=>?_) (fun b u e=>?_) I.bare
 ·obtain⟨_,f1,_,f3,f4,f5⟩:=hf b hb
  exact⟨f3,f1,f4,f5⟩
 ·obtain⟨o,es,ep,ho,r⟩:=hm
  exact⟨o,es,ep,k _ o (fun hb=>(hf _ hb).2.1 rfl) ho,r⟩
 ·by_cases hb:b=T
  ·subst hb
   rw[aD] at e
   cases e
   exact⟨hz,its,hv,ht⟩
  ·rw[aN hb] at e
   refine (I.hok b u e).stay (fun c v hc q=>k c v ?_ q) (fun c q=>by rw[aN (nT c _ q)];exact q) fun c ys q=>by rw[aN (nT c _ q)];exact q
   rcases hc with z | z
   ·rw[z];exact nfp b u e
   ·exact nfp c _ z
theorem Inv.turnedL {fp:List Addr}{h':Heap}{t':Nat} (I:Inv X pins σ H s) (hf:∀ b∈fp,FpOk X pins H b) (k:∀ b o,b∉fp→s.heap.get? b=some o→h'.get? b=some o):Inv X pins σ H { s with heap:=h',toks:=t' }:=by
 have nfp:∀ b u,H b=some u→b∉fp:=fun b u e hb=>by rw[(hf b hb).1] at e;cases e
 refine I.step (g':=s.gens) (d':=s.drawn) (ch:=fp) (fun b hb=>?_) (fun b o _ _ hc e _=>k b o hc e) (fun b o _ _ hc e _=>⟨o.slots,k b o hc e⟩) (fun b o hc e n=>n)
  (fun b o hc e=>⟨o,k b o hc e⟩) (fun b ys e=>e) (fun b o u e=>e) (fun b ps e=>⟨#[],by rw[e];simp⟩) (fun m hm=>?_) (fun b u e=>?_) I.bare
 ·obtain⟨_,f1,_,f3,f4,f5⟩:=hf b hb
  exact⟨f3,f1,f4,f5⟩
 ·obtain⟨o,es,ep,ho,r⟩:=hm
  exact⟨o,es,ep,k _ o (fun hb=>(hf _ hb).2.1 rfl) ho,r⟩
 ·refine (I.hok b u e).stay (fun c v hc q=>k c v ?_ q) (fun c q=>q) fun c ys q=>q
  rcases hc with z | z
  ·rw[z];exact nfp b u e
  ·exact nfp c _ z
end
noncomputable def Itz3 (K:PySem.W.Frag) (t1 t2 t3:Bool) (a1 a2 a3:Addr):It:=
 ⟨fun i H=>∃ xs ys zs x y z,SqB K H t1 a1 xs∧SqB K H t2 a2 ys∧SqB K H t3 a3 zs∧xs[i]? = some x∧ys[i]? = some y∧zs[i]? = some z,
  fun i H v H'=>∃ T x y z,H T=none∧v=.ref T∧(∀ xs,SqB K H t1 a1 xs→xs[i]? = some x)∧(∀ xs,SqB K H t2 a2 xs→xs[i]? = some y)∧(∀ xs,SqB K H t3 a3 xs→xs[i]? = some z)∧H'=upd H T (.tup [x,y,z]),
  fun i H=>∃ xs ys zs,SqB K H t1 a1 xs∧SqB K H t2 a2 ys∧SqB K H t3 a3 zs∧(xs.length≤i∨ys.length≤i∨zs.length≤i)⟩
noncomputable def tnz3 (n a1 a2 a3:Nat) (t1 t2 t3:Bool) (i:Nat) (h:Heap):Prop:=
 ∃ f0 f1 c1 c2 c3,Free0 f0∧IsZ h (n+5) (n+3) (n+4) f0 f1∧d6 h (n+3) #[.ref n,.ref (n+1),.ref (n+2)]∧d6 h (n+4) #[c1,c2,c3]∧
  dB h t1 n a1 i∧dB h t2 (n+1) a2 i∧dB h t3 (n+2) a3 i∧a1 < n∧a2 < n∧a3 < n
noncomputable def fpz (n:Nat) (m:Nat):List Addr:=(List.range m).map fun k=>(n+k:Nat)
theorem dH {n m:Nat}{b:Addr}:b∈fpz n m↔∃ k,k < m∧b=n+k:=by
 unfold fpz
 rw[List.mem_map]
 constructor
 ·rintro⟨k,hk,e⟩;exact⟨k,List.mem_range.mp hk,e.symm⟩
 ·rintro⟨k,hk,e⟩;exact⟨k,List.mem_range.mpr hk,e.symm⟩
theorem not_fpz {n m:Nat}{b:Nat} (h:(b:Addr)∉fpz n m) (hm:0 < m):b < n∨n+(m - 1) < b:=by
 by_cases h1:b < n
 ·exact .inl h1
 ·by_cases h2:n+(m - 1) < b
  ·exact .inr h2
  ·exact absurd (dH.mpr ⟨b - n,by omega,by show (b:Nat)=n+(b - n);omega⟩) h
theorem turn_zip3 {P:Program}{w:World}{K:PySem.W.Frag}{tg:Expr} (n a1 a2 a3:Nat) (t1 t2 t3:Bool):Turn P w K tg (Itz3 K t1 t2 t3 a1 a2 a3) (fpz n 6) (n+5) (tnz3 n a1 a2 a3 t1 t2 t3) where
 mem:=dH.mpr ⟨5,by decide,rfl⟩
 obj:=fun i h st b hb=>by
  obtain⟨f0,f1,c1,c2,c3,hf,hz,hTI,hTO,i1,i2,i3,_⟩:=st
  obtain⟨k,hk,rfl⟩:=dH.mp hb
  have hk':k=0∨k=1∨k=2∨k=3∨k=4∨k=5:=by omega
  rcases hk' with rfl | rfl | rfl | rfl | rfl | rfl
  ·exact i1.obj
  ·exact i2.obj
  ·exact i3.obj
  ·exact⟨_,hTI,fun v z=>by cases z⟩
  ·exact⟨_,hTO,fun v z=>by cases z⟩
  ·exact⟨_,hz,fun v z=>by cases z⟩
 keep:=fun i h h' st k=>by
  obtain⟨f0,f1,c1,c2,c3,hf,hz,hTI,hTO,i1,i2,i3,l⟩:=st
  have m:∀ j,j < 6→((n+j:Nat):Addr)∈fpz n 6:=fun j hj=>dH.mpr ⟨j,hj,rfl⟩
  exact⟨f0,f1,c1,c2,c3,hf,k _ (m 5 (by decide)) _ hz,k _ (m 3 (by decide)) _ hTI,k _ (m 4 (by decide)) _ hTO,i1.at fun o e=>k _ (m 0 (by decide)) _ e,i2.at fun o e=>k _ (m 1 (by decide)) _ e,i3.at fun o e=>k _ (m 2 (by decide)) _ e,l⟩
 item:=by
  intro X hP hw hK hc i pins s σ H E I hf st hg
  subst hP hw hK
  obtain⟨f0,f1,c1,c2,c3,f,hz,hTI,hTO,i1,i2,i3,l1,l2,l3⟩:=st
  obtain⟨xs,ys,zs,x,y,z,q1,q2,q3,hx,hy,hw⟩:=hg
  obtain⟨us,r1,p1,_⟩:=I.src q1
  obtain⟨vs,r2,p2,_⟩:=I.src q2
  obtain⟨ws,r3,p3,_⟩:=I.src q3
  obtain⟨u,hu,ru⟩:=r1.get hx
  obtain⟨v,hv,rv⟩:=r2.get hy
  obtain⟨w',hw',rw'⟩:=r3.get hw
  refine pyNext_zip hz (zip3_next f hz hTI hTO i1 i2 i3 p1 p2 p3 l1 l2 l3 (by simpa using hu) (by simpa using hv) (by simpa using hw') fun T h' f0' f1' d1 d2 d3 hT f' hz' hTI' hTO' i1' i2' i3' hTp hk=>?_)
  refine⟨_,rfl,letGo_zip (s:={ s with heap:=h' }) f' hz' fun h'' f0'' f'' hz'' hs=>?_⟩
  replace hs:Heap.SameBut (n+5) h' h'':=hs
  have hTn:n+5 < T:=Nat.lt_of_lt_of_le (Heap.lt_size hz) hT
  have hTp':d6 h'' T #[u,v,w']:=ex hs (by omega) hTp
  have IT:Inv X pins σ (upd H T (.tup [x,y,z])) { s with heap:=h'',toks:=s.toks }:=I.turnedT (fp:=fpz n 6) hf (fun b o hb e=>ex (c:=b) hs (by have:=not_fpz (b:=b) hb (by decide);have:n+(6 - 1)=n+5:=rfl;omega) (hk b o (not_fpz (b:=b) hb (by decide)) e)) hT (its:=[u,v,w']) (.cons ru (.cons rv (.cons rw' .nil))) (by show 3≤sizeLine;decide) ⟨_,hTp',rfl,_,rfl⟩
  refine⟨.ref T,upd H T (.tup [x,y,z]),IT,rfl,
   ⟨T,x,y,z,I.hok.fresh hT,rfl,fun as q=>by rw[I.src_inj q q1];exact hx,fun as q=>by rw[I.src_inj q q2];exact hy,fun as q=>by rw[I.src_inj q q3];exact hw,rfl⟩,
   ⟨f0'',f1',d1,d2,d3,f'',hz'',ex hs (by omega) hTI',ex hs (by omega) hTO',i1'.ext hs (by omega),i2'.ext hs (by omega),i3'.ext hs (by omega),l1,l2,l3⟩,fun b hb=>?_⟩
  ·obtain⟨j,hj,rfl⟩:=dH.mp hb
   rw[aN (show ((n+j:Nat):Addr)≠T from (show @Ne Nat (n+j) T by omega))]
   exact (hf _ hb).1
 done:=by
  intro X hP hw hK hc i pins s σ H E I hf st hg
  subst hP hw hK
  obtain⟨f0,f1,c1,c2,c3,f,hz,hTI,hTO,i1,i2,i3,l1,l2,l3⟩:=st
  obtain⟨xs,ys,zs,q1,q2,q3,hend⟩:=hg
  obtain⟨us,r1,p1,_⟩:=I.src q1
  obtain⟨vs,r2,p2,_⟩:=I.src q2
  obtain⟨ws,r3,p3,_⟩:=I.src q3
  have e1:=r1.length
  have e2:=r2.length
  have e3:=r3.length
  refine pyNext_zip hz (zip3_end (I.ok.hd hc) f hz hTI hTO i1 i2 i3 p1 p2 p3 l1 l2 l3 (by
   rcases hend with h | h | h
   ·exact .inl (by simp;omega)
   ·exact .inr (.inl (by simp;omega))
   ·exact .inr (.inr (by simp;omega))) fun h' e hk he=>?_)
  obtain⟨o,ho,hcl⟩:=he
  exact⟨⟨e,o,rfl,ho,hcl⟩,rfl,I.turnedL (t':=s.toks) hf fun b o hb q=>hk b o (not_fpz (b:=b) hb (by decide)) q⟩
 self:=fun _ _ _ _ _ st h=>by
  obtain⟨f0,f1,c1,c2,c3,f,hz,_⟩:=st
  exact pyIter_zip hz h
noncomputable def Itz2 (K:PySem.W.Frag) (t1 t2:Bool) (a1 a2:Addr):It:=
 ⟨fun i H=>∃ xs ys x y,SqB K H t1 a1 xs∧SqB K H t2 a2 ys∧xs[i]? = some x∧ys[i]? = some y,
  fun i H v H'=>∃ T x y,H T=none∧v=.ref T∧(∀ xs,SqB K H t1 a1 xs→xs[i]? = some x)∧(∀ xs,SqB K H t2 a2 xs→xs[i]? = some y)∧H'=upd H T (.tup [x,y]),
  fun i H=>∃ xs ys,SqB K H t1 a1 xs∧SqB K H t2 a2 ys∧(xs.length≤i∨ys.length≤i)⟩
noncomputable def tnz2 (n a1 a2:Nat) (t1 t2:Bool) (i:Nat) (h:Heap):Prop:=
 ∃ f0 f1 c1 c2,Free0 f0∧IsZ h (n+4) (n+2) (n+3) f0 f1∧d6 h (n+2) #[.ref n,.ref (n+1)]∧d6 h (n+3) #[c1,c2]∧dB h t1 n a1 i∧dB h t2 (n+1) a2 i∧a1 < n∧a2 < n
theorem turn_zip2 {P:Program}{w:World}{K:PySem.W.Frag}{tg:Expr} (n a1 a2:Nat) (t1 t2:Bool):Turn P w K tg (Itz2 K t1 t2 a1 a2) (fpz n 5) (n+4) (tnz2 n a1 a2 t1 t2) where
 mem:=dH.mpr ⟨4,by decide,rfl⟩
 obj:=fun i h st b hb=>by
  obtain⟨f0,f1,c1,c2,hf,hz,hTI,hTO,i1,i2,_⟩:=st
  obtain⟨k,hk,rfl⟩:=dH.mp hb
  have hk':k=0∨k=1∨k=2∨k=3∨k=4:=by omega
  rcases hk' with rfl | rfl | rfl | rfl | rfl
  ·exact i1.obj
  ·exact i2.obj
  ·exact⟨_,hTI,fun v z=>by cases z⟩
  ·exact⟨_,hTO,fun v z=>by cases z⟩
  ·exact⟨_,hz,fun v z=>by cases z⟩
 keep:=fun i h h' st k=>by
  obtain⟨f0,f1,c1,c2,hf,hz,hTI,hTO,i1,i2,l⟩:=st
  have m:∀ j,j < 5→((n+j:Nat):Addr)∈fpz n 5:=fun j hj=>dH.mpr ⟨j,hj,rfl⟩
  exact⟨f0,f1,c1,c2,hf,k _ (m 4 (by decide)) _ hz,k _ (m 2 (by decide)) _ hTI,k _ (m 3 (by decide)) _ hTO,i1.at fun o e=>k _ (m 0 (by decide)) _ e,i2.at fun o e=>k _ (m 1 (by decide)) _ e,l⟩
 item:=by
  intro X hP hw hK hc i pins s σ H E I hf st hg
  subst hP hw hK
  obtain⟨f0,f1,c1,c2,f,hz,hTI,hTO,i1,i2,l1,l2⟩:=st
  obtain⟨xs,ys,x,y,q1,q2,hx,hy⟩:=hg
  obtain⟨us,r1,p1,_⟩:=I.src q1
  obtain⟨vs,r2,p2,_⟩:=I.src q2
  obtain⟨u,hu,ru⟩:=r1.get hx
  obtain⟨v,hv,rv⟩:=r2.get hy
  refine pyNext_zip hz (zip2_next f hz hTI hTO i1 i2 p1 p2 l1 l2 (by simpa using hu) (by simpa using hv) fun T h' f0' f1' d1 d2 hT f' hz' hTI' hTO' i1' i2' hTp hk=>?_)
  refine⟨_,rfl,letGo_zip (s:={ s with heap:=h' }) f' hz' fun h'' f0'' f'' hz'' hs=>?_⟩
  replace hs:Heap.SameBut (n+4) h' h'':=hs
  have hTn:n+4 < T:=Nat.lt_of_lt_of_le (Heap.lt_size hz) hT
  have hTp':d6 h'' T #[u,v]:=ex hs (by omega) hTp
  have IT:Inv X pins σ (upd H T (.tup [x,y])) { s with heap:=h'',toks:=s.toks }:=I.turnedT (fp:=fpz n 5) hf (fun b o hb e=>ex (c:=b) hs (by have:=not_fpz (b:=b) hb (by decide);have:n+(5 - 1)=n+4:=rfl;omega) (hk b o (not_fpz (b:=b) hb (by decide)) e)) hT (its:=[u,v]) (.cons ru (.cons rv .nil)) (by show 2≤sizeLine;decide) ⟨_,hTp',rfl,_,rfl⟩
  refine⟨.ref T,upd H T (.tup [x,y]),IT,rfl,
   ⟨T,x,y,I.hok.fresh hT,rfl,fun as q=>by rw[I.src_inj q q1];exact hx,fun as q=>by rw[I.src_inj q q2];exact hy,rfl⟩,
   ⟨f0'',f1',d1,d2,f'',hz'',ex hs (by omega) hTI',ex hs (by omega) hTO',i1'.ext hs (by omega),i2'.ext hs (by omega),l1,l2⟩,fun b hb=>?_⟩
  ·obtain⟨j,hj,rfl⟩:=dH.mp hb
   rw[aN (show ((n+j:Nat):Addr)≠T from (show @Ne Nat (n+j) T by omega))]
   exact (hf _ hb).1
 done:=by
  intro X hP hw hK hc i pins s σ H E I hf st hg
  subst hP hw hK
  obtain⟨f0,f1,c1,c2,f,hz,hTI,hTO,i1,i2,l1,l2⟩:=st
  obtain⟨xs,ys,q1,q2,hend⟩:=hg
  obtain⟨us,r1,p1,_⟩:=I.src q1
  obtain⟨vs,r2,p2,_⟩:=I.src q2
  have e1:=r1.length
  have e2:=r2.length
  refine pyNext_zip hz (zip2_end (I.ok.hd hc) f hz hTI hTO i1 i2 p1 p2 l1 l2 (by
   rcases hend with h | h
   ·exact .inl (by simp;omega)
   ·exact .inr (by simp;omega)) fun h' e hk he=>?_)
  obtain⟨o,ho,hcl⟩:=he
  exact⟨⟨e,o,rfl,ho,hcl⟩,rfl,I.turnedL (t':=s.toks) hf fun b o hb q=>hk b o (not_fpz (b:=b) hb (by decide)) q⟩
 self:=fun _ _ _ _ _ st h=>by
  obtain⟨f0,f1,c1,c2,f,hz,_⟩:=st
  exact pyIter_zip hz h
noncomputable def Ite (K:PySem.W.Frag) (t:Bool) (a:Addr):It:=
 ⟨fun i H=>∃ xs x,SqB K H t a xs∧xs[i]? = some x,
  fun i H v H'=>∃ T x,H T=none∧v=.ref T∧(∀ xs,SqB K H t a xs→xs[i]? = some x)∧H'=upd H T (.tup [.int i,x]),
  fun i H=>∃ xs,SqB K H t a xs∧xs.length≤i⟩
noncomputable def tne (n a:Nat) (t:Bool) (i:Nat) (h:Heap):Prop:=∃ f0 f1 old,Free0 f0∧IsEn h (n+1) n f0 f1 i old∧dB h t n a i∧a < n
theorem turn_enum {P:Program}{w:World}{K:PySem.W.Frag}{tg:Expr} (n a:Nat) (t:Bool):Turn P w K tg (Ite K t a) (fpz n 2) (n+1) (tne n a t) where
 mem:=dH.mpr ⟨1,by decide,rfl⟩
 obj:=fun i h st b hb=>by
  obtain⟨f0,f1,old,hf,he,i1,_⟩:=st
  obtain⟨k,hk,rfl⟩:=dH.mp hb
  have hk':k=0∨k=1:=by omega
  rcases hk' with rfl | rfl
  ·exact i1.obj
  ·exact⟨_,he,fun v z=>by cases z⟩
 keep:=fun i h h' st k=>by
  obtain⟨f0,f1,old,hf,he,i1,l⟩:=st
  have m:∀ j,j < 2→((n+j:Nat):Addr)∈fpz n 2:=fun j hj=>dH.mpr ⟨j,hj,rfl⟩
  exact⟨f0,f1,old,hf,k _ (m 1 (by decide)) _ he,i1.at fun o e=>k _ (m 0 (by decide)) _ e,l⟩
 item:=by
  intro X hP hw hK hc i pins s σ H E I hf st hg
  subst hP hw hK
  obtain⟨f0,f1,old,f,he,i1,l1⟩:=st
  obtain⟨xs,x,q1,hx⟩:=hg
  obtain⟨us,r1,p1,_⟩:=I.src q1
  obtain⟨u,hu,ru⟩:=r1.get hx
  refine pyNext_enum he (enum_next f he i1 p1 l1 (by simpa using hu) fun T h' f0' f1' old' hT f' he' i1' hTp hk=>?_)
  refine⟨_,rfl,letGo_enum (s:={ s with heap:=h',toks:=s.toks+1 }) f' he' fun h'' f0'' f'' he'' hs=>?_⟩
  replace hs:Heap.SameBut (n+1) h' h'':=hs
  have hTn:n+1 < T:=Nat.lt_of_lt_of_le (Heap.lt_size he) hT
  have hTp':d6 h'' T #[.int i s.toks,u]:=ex hs (by omega) hTp
  have IT:Inv X pins σ (upd H T (.tup [.int i,x])) { s with heap:=h'',toks:=s.toks+1 }:=I.turnedT (fp:=fpz n 2) hf (fun b o hb e=>ex (c:=b) hs (by have:=not_fpz (b:=b) hb (by decide);have:n+(2 - 1)=n+1:=rfl;omega) (hk b o (not_fpz (b:=b) hb (by decide)) e)) hT (its:=[.int i s.toks,u]) (.cons ⟨_,rfl⟩ (.cons ru .nil)) (by show 2≤sizeLine;decide) ⟨_,hTp',rfl,_,rfl⟩
  have he2:IsEn h'' (n+1) n f0'' f1' ((i+1:Nat):Int) old':=by
   have:((i+1:Nat):Int)=(i:Int)+1:=by push_cast;rfl
   rw[this];exact he''
  refine⟨.ref T,upd H T (.tup [.int i,x]),IT,rfl,⟨T,x,I.hok.fresh hT,rfl,fun as q=>by rw[I.src_inj q q1];exact hx,rfl⟩,⟨f0'',f1',old',f'',he2,i1'.ext hs (by omega),l1⟩,fun b hb=>?_⟩
  ·obtain⟨j,hj,rfl⟩:=dH.mp hb
   rw[aN (show ((n+j:Nat):Addr)≠T from (show @Ne Nat (n+j) T by omega))]
   exact (hf _ hb).1
 done:=by
  intro X hP hw hK hc i pins s σ H E I hf st hg
  subst hP hw hK
  obtain⟨f0,f1,old,f,he,i1,l1⟩:=st
  obtain⟨xs,q1,hend⟩:=hg
  obtain⟨us,r1,p1,_⟩:=I.src q1
  have e1:=r1.length
  refine pyNext_enum he (enum_end (I.ok.hd hc) he i1 p1 (by simp;omega) fun h' e hk he=>?_)
  obtain⟨o,ho,hcl⟩:=he
  exact⟨⟨e,o,rfl,ho,hcl⟩,rfl,I.turnedL (t':=s.toks) hf fun b o hb q=>hk b o (not_fpz (b:=b) hb (by decide)) q⟩
 self:=fun _ _ _ _ _ st h=>by
  obtain⟨f0,f1,old,f,he,_⟩:=st
  exact pyIter_enum he h
section
variable {X:Cx}{tg:Expr}
theorem boot_zip:bootBuiltins "zip" = some (.type "zip"):=by decide +kernel
theorem boot_enum:bootBuiltins "enumerate" = some (.type "enumerate"):=by decide +kernel
noncomputable def iZip2 (K:PySem.W.Frag) (ta:TA):TI:=fun σ H R=>ta σ H fun vs H1=>∃ t1 t2 a1 a2,vs=[.ref a1,.ref a2]∧(∃ xs,SqB K H1 t1 a1 xs)∧(∃ xs,SqB K H1 t2 a2 xs)∧R (Itz2 K t1 t2 a1 a2) H1
noncomputable def iZip3 (K:PySem.W.Frag) (ta:TA):TI:=fun σ H R=>ta σ H fun vs H1=>∃ t1 t2 t3 a1 a2 a3,vs=[.ref a1,.ref a2,.ref a3]∧(∃ xs,SqB K H1 t1 a1 xs)∧(∃ xs,SqB K H1 t2 a2 xs)∧(∃ xs,SqB K H1 t3 a3 xs)∧R (Itz3 K t1 t2 t3 a1 a2 a3) H1
noncomputable def iEnum (K:PySem.W.Frag) (ta:TA):TI:=fun σ H R=>ta σ H fun vs H1=>∃ t a,vs=[.ref a]∧(∃ xs,SqB K H1 t a xs)∧R (Ite K t a) H1
theorem pi_enum {a:Expr}{ta:TA}{p pos:Pos} (hg:Gl X "enumerate") (hm:X.mg "enumerate" = none) (ha:PA X [a] ta) (hs:starEach [a] X.env=[(false,eval a X.env)]:=by rfl):PI X tg (.Call (.Name "enumerate" p) [a] [] pos) (iEnum X.K ta):=by
 intro pins s σ H R I h
 refine Call_ (ld_blt I hg hm boot_enum (PyProof.Rows.callWith_type1 (cU (ha pos pins s σ H _ I h) fun us s1 ⟨vs,H1,I1,r1,q1⟩=>?_) hs rfl))
 obtain⟨t,a1,e,⟨xs,hq⟩,q⟩:=q1
 subst e
 cases r1 with
 | cons r rr=>
  cases rr
  cases r
  obtain⟨its,rv,p,hz⟩:=I1.src hq
  refine call_enum p fun h' he i1 hk=>?_
  refine pyIter_enum (s:={ s1 with heap:=h' }) he ?_
  refine⟨_,fpz s1.heap.objs.size 2,tne s1.heap.objs.size a1 t,_,H1,rfl,I1.kept (t':=s1.toks) hk,turn_enum _ _ _,⟨.none,false,.none,.inl rfl,he,i1,p.lt⟩,fun b hb=>?_,q⟩
  obtain⟨k,_,rfl⟩:=dH.mp hb
  exact I1.fpOk (Nat.le_add_right _ _) (I1.hok.fresh (Nat.le_add_right _ _))
theorem pi_zip2 {a b:Expr}{ta:TA}{p pos:Pos} (hg:Gl X "zip") (hm:X.mg "zip" = none) (ha:PA X [a,b] ta) (hs:starEach [a,b] X.env=[(false,eval a X.env),(false,eval b X.env)]:=by rfl) (hs2:starEach [b] X.env=[(false,eval b X.env)]:=by rfl) :
  PI X tg (.Call (.Name "zip" p) [a,b] [] pos) (iZip2 X.K ta):=by
 intro pins s σ H R I h
 refine Call_ (ld_blt I hg hm boot_zip (PyProof.Rows.callWith_type1 (cU (ha pos pins s σ H _ I h) fun us s1 ⟨vs,H1,I1,r1,q1⟩=>?_) (by rw[hs,hs2]) (by rw[hs2];rfl)))
 obtain⟨t1,t2,a1,a2,e,⟨xs,hq1⟩,⟨ys,hq2⟩,q⟩:=q1
 subst e
 cases r1 with
 | cons r rr=>
  cases rr with
  | cons r' rr=>
   cases rr
   cases r
   cases r'
   obtain⟨its,rv,p1,hz⟩:=I1.src hq1
   obtain⟨its2,rv2,p2,hz2⟩:=I1.src hq2
   refine call_zip2 p1 p2 fun h' hz' hTI hTO i1 i2 hk=>?_
   refine pyIter_zip (s:={ s1 with heap:=h' }) hz' ?_
   refine⟨_,fpz s1.heap.objs.size 5,tnz2 s1.heap.objs.size a1 a2 t1 t2,_,H1,rfl,I1.kept (t':=s1.toks) hk,turn_zip2 _ _ _ _ _,⟨.none,false,_,_,.inl rfl,hz',hTI,hTO,i1,i2,p1.lt,p2.lt⟩,fun b hb=>?_,q⟩
   obtain⟨k,_,rfl⟩:=dH.mp hb
   exact I1.fpOk (Nat.le_add_right _ _) (I1.hok.fresh (Nat.le_add_right _ _))
theorem pi_zip3 {a b c:Expr}{ta:TA}{p pos:Pos} (hg:Gl X "zip") (hm:X.mg "zip" = none) (ha:PA X [a,b,c] ta) (hs:starEach [a,b,c] X.env=[(false,eval a X.env),(false,eval b X.env),(false,eval c X.env)]:=by rfl)
  (hs2:starEach [b,c] X.env=[(false,eval b X.env),(false,eval c X.env)]:=by rfl) :
  PI X tg (.Call (.Name "zip" p) [a,b,c] [] pos) (iZip3 X.K ta):=by
 intro pins s σ H R I h
 refine Call_ (ld_blt I hg hm boot_zip (PyProof.Rows.callWith_type1 (cU (ha pos pins s σ H _ I h) fun us s1 ⟨vs,H1,I1,r1,q1⟩=>?_) (by rw[hs,hs2]) (by rw[hs2];rfl)))
 obtain⟨t1,t2,t3,a1,a2,a3,e,⟨xs,hq1⟩,⟨ys,hq2⟩,⟨zs,hq3⟩,q⟩:=q1
 subst e
 cases r1 with
 | cons r rr=>
  cases rr with
  | cons r' rr=>
   cases rr with
   | cons r'' rr=>
    cases rr
    cases r
    cases r'
    cases r''
    obtain⟨its,rv,p1,hz⟩:=I1.src hq1
    obtain⟨its2,rv2,p2,hz2⟩:=I1.src hq2
    obtain⟨its3,rv3,p3,hz3⟩:=I1.src hq3
    refine call_zip3 p1 p2 p3 fun h' hz' hTI hTO i1 i2 i3 hk=>?_
    refine pyIter_zip (s:={ s1 with heap:=h' }) hz' ?_
    refine⟨_,fpz s1.heap.objs.size 6,tnz3 s1.heap.objs.size a1 a2 a3 t1 t2 t3,_,H1,rfl,I1.kept (t':=s1.toks) hk,turn_zip3 _ _ _ _ _ _ _,⟨.none,false,_,_,_,.inl rfl,hz',hTI,hTO,i1,i2,i3,p1.lt,p2.lt,p3.lt⟩,fun b hb=>?_,q⟩
    obtain⟨k,_,rfl⟩:=dH.mp hb
    exact I1.fpOk (Nat.le_add_right _ _) (I1.hok.fresh (Nat.le_add_right _ _))
end
end L2
namespace L2
open PySem PySem.Spec PyProof.Rows TwZ
section
variable {prog:Program}{w:World}{A:Around}{E:Value→Shared→Prop}{s:Shared}{l:Addr}{xs:Array (Int×Tok)}
theorem sum_intTup {Q:Value→Shared→Prop} (hh:A.handled=none) (hl:s.heap.IsTuple l (intItems xs))
  (h:∀ h' tk t',(∀ b o,s.heap.get? b=some o→h'.get? b=some o)→Q (.int (preSum (numAt xs) xs.size) t') { s with heap:=h',toks:=tk }) :
  wpAny (model prog w) A (call (.builtin "sum") [.ref l]) Q E s:=by
 have hlt:l < s.heap.objs.size:=by obtain⟨_,e,_⟩:=hl;exact Heap.lt_size e
 refine call_sum_walkG (wpAny_pyIter_tuple hl ?_)
 refine⟨_,_,_,_,_,_,numAt xs,rfl,Walks.tuple (A:=A.in1) hh _ l (Nat.ne_of_lt hlt) (intItems xs),⟨⟨_,Heap.get?_push_size _ rfl,rfl,rfl⟩,hl.push _⟩,fun b hb=>?_,(fun _ _=>intItems_at),fun h' tk t' hk=>?_⟩
 ·show b < (s.heap.push _).objs.size
  rw[Heap.size_push]
  rcases List.mem_cons.mp hb with rfl | hb
  ·exact Nat.lt_succ_self _
  ·rcases List.mem_cons.mp hb with rfl | hb
   ·exact Nat.lt_succ_of_lt hlt
   ·cases hb
 ·have:=h h' tk t' (fun b o e=>hk b o (fun hm=>by rw[List.mem_singleton.mp hm] at e;exact Nat.lt_irrefl _ (Heap.lt_size e)) (Heap.get?_push_of_some _ e))
  simpa [intItems] using this
theorem sum_intSrc {t:Bool}{vs:List Value}{ns:List Int}{Q:Value→Shared→Prop} (hh:A.handled=none) (hl:cA s.heap t l vs.toArray) (hi:IntsAre vs ns)
  (h:∀ h' tk t',(∀ b o,s.heap.get? b=some o→h'.get? b=some o)→Q (.int ns.sum t') { s with heap:=h',toks:=tk }) :
  wpAny (model prog w) A (call (.builtin "sum") [.ref l]) Q E s:=by
 obtain⟨xs,hx⟩:=hi.allInts.items
 have hn:numsOf vs.toArray.toList=ns:=by rw[show vs.toArray.toList=vs from rfl,hi.numsOf]
 rw[hx] at hl hn
 rw[nums_intItems] at hn
 have e:preSum (numAt xs) xs.size=ns.sum:=by rw[preSum_eq,List.take_of_length_le (by simp),hn]
 cases t with
 | true=>exact sum_intTup hh hl fun h' tk t' hk=>by rw[e];exact h h' tk t' hk
 | false=>exact sum_intListG hh hl fun h' tk t' hk=>by rw[e];exact h h' tk t' hk
theorem all_src {t:Bool}{vs:List Value}{bs:List Bool}{Q:Value→Shared→Prop} (hh:A.handled=none) (hl:cA s.heap t l vs.toArray) (hb:bO (bs.map V.bl) vs)
  (h:∀ h' tk,(∀ b o,s.heap.get? b=some o→h'.get? b=some o)→Q (.bool (bs.all id)) { s with heap:=h',toks:=tk }):wpAny (model prog w) A (call (.builtin "all") [.ref l]) Q E s:=by
 have hlt:l < s.heap.objs.size:=hl.lt
 have hlen:=hb.length
 rw[List.length_map] at hlen
 have key:∀ (P:Nat→Value→Prop),(∀ i v,P i v→vs[i]? = some v)→TruthOf prog w A.in1 P (fun i=>(bs[i]?).getD true):=fun P hP i v s' Q' E' hp hQ=>by
  have hv:=hP i v hp
  have hi:i < vs.length:=(List.getElem?_eq_some_iff.mp hv).1
  have hb':(bs.map V.bl)[i]? = some (V.bl bs[i]):=by simp [show i < bs.length by omega]
  obtain⟨u,hu,ru⟩:=hb.get hb'
  rw[hv] at hu
  cases hu
  cases ru
  have e:(bs[i]?).getD true=bs[i]:=by simp [show i < bs.length by omega]
  have hQ2:Q' ((bs[i]?).getD true) s':=hQ
  rw[e] at hQ2
  exact wpAny_truthy_bool hQ2
 have rng:((List.range vs.toArray.size).all fun i=>(bs[i]?).getD true)=bs.all id:=by
  rw[List.size_toArray,← hlen,Bool.eq_iff_iff,List.all_eq_true,List.all_eq_true]
  constructor
  ·intro hq b hb'
   obtain⟨i,hi,rfl⟩:=List.getElem_of_mem hb'
   have:=hq i (List.mem_range.mpr hi)
   simpa [hi] using this
  ·intro hq i hi
   have hi':=List.mem_range.mp hi
   have:=hq bs[i] (List.getElem_mem hi')
   simpa [hi'] using this
 have kept:∀ {h':Heap}{o:Obj},(∀ b x,b∉[s.heap.objs.size]→(s.heap.push o).get? b=some x→h'.get? b=some x)→∀ b x,s.heap.get? b=some x→h'.get? b=some x:=fun hk b x e=>
  hk b x (fun hm=>by rw[List.mem_singleton.mp hm] at e;exact Nat.lt_irrefl _ (Heap.lt_size e)) (Heap.get?_push_of_some _ e)
 cases t with
 | true=>
  refine call_all_walk (wpAny_pyIter_tuple hl ?_)
  refine⟨s.heap.objs.size,[s.heap.objs.size,l],[s.heap.objs.size],vs.toArray.size,_,_,fun i=>(bs[i]?).getD true,rfl,Walks.tuple (A:=A.in1) hh _ l (Nat.ne_of_lt hlt) vs.toArray,
   ⟨⟨_,Heap.get?_push_size _ rfl,rfl,rfl⟩,Heap.IsTuple.push hl _⟩,key _ (fun i v hp=>by simpa using hp),fun h' tk hk=>?_⟩
  rw[rng]
  exact h h' tk (kept hk)
 | false=>
  refine call_all_walk (wpAny_pyIter_list hl ?_)
  refine⟨s.heap.objs.size,[s.heap.objs.size,l],[s.heap.objs.size],vs.toArray.size,_,_,fun i=>(bs[i]?).getD true,rfl,Walks.list (A:=A.in1) hh _ l (Nat.ne_of_lt hlt) vs.toArray,
   ⟨⟨_,Heap.get?_push_size _ rfl,rfl,rfl⟩,Heap.IsList.push hl _⟩,key _ (fun i v hp=>by simpa using hp),fun h' tk hk=>?_⟩
  rw[rng]
  exact h h' tk (kept hk)
end
section
variable {X:Cx}
noncomputable def rSum (K:PySem.W.Frag):List V→Hp→VK→Prop:=fun xs H Q=>∃ (t:Bool) (p:Addr) (ns:List Int),xs=[.ref p]∧SqB K H t p (ns.map V.int)∧Q (.int ns.sum) H
theorem call_sumB (hc:X.calm=true):CallR X (.builtin "sum") (rSum X.K):=by
 intro pins s σ H xs us Q I r h
 obtain⟨t,p,ns,rfl,hq,q⟩:=h
 obtain⟨u,rfl,ru⟩:=r.one
 cases ru
 obtain⟨its,rv,p1,hz⟩:=I.src hq
 refine sum_intSrc (I.ok.hd hc) p1 (intsAre_of rv) fun h' tk t' hk=>⟨.int ns.sum,H,I.kept hk,⟨t',rfl⟩,q⟩
noncomputable def rAll (K:PySem.W.Frag):List V→Hp→VK→Prop:=fun xs H Q=>∃ (t:Bool) (p:Addr) (bs:List Bool),xs=[.ref p]∧SqB K H t p (bs.map V.bl)∧Q (.bl (bs.all id)) H
theorem call_allB (hc:X.calm=true):CallR X (.builtin "all") (rAll X.K):=by
 intro pins s σ H xs us Q I r h
 obtain⟨t,p,bs,rfl,hq,q⟩:=h
 obtain⟨u,rfl,ru⟩:=r.one
 cases ru
 obtain⟨its,rv,p1,hz⟩:=I.src hq
 refine all_src (I.ok.hd hc) p1 rv fun h' tk hk=>⟨.bl (bs.all id),H,I.kept hk,rfl,q⟩
noncomputable def TyS (K:PySem.W.Frag) (H:Hp) (x:V) (t:Value):Prop:=TyOf K H x t∨∃ a ys,x=.ref a∧bR K H a ys∧t=.type "tuple"
noncomputable def rIsi (K:PySem.W.Frag):List V→Hp→VK→Prop:=fun xs H Q=>∃ x T t b,xs=[x,.ty T]∧TyS K H x t∧PySem.W.kitOne K t (.type T)=some b∧Q (.bl b) H
theorem call_isi:CallR X (.builtin "isinstance") (rIsi X.K):=by
 intro pins s σ H xs us Q I r h
 obtain⟨x,T,t,b,rfl,ty,e,q⟩:=h
 obtain⟨u,v,rfl,ru,rv⟩:=r.two
 cases rv
 rcases ty with ty | ⟨a,ys,rfl,hq,rfl⟩
 ·exact isinst_ok I ru ty e fun tk=>⟨.bl b,H,I.tok tk,rfl,q⟩
 ·cases (show u=Value.ref a from ru)
  obtain⟨its,rv',⟨o,h1,h2,_⟩,_⟩:=I.tuple hq
  exact PySem.W.kia_one PySem.W.kitx_tuple I.kIn ⟨o,h1,h2⟩ e (fun z=>nomatch z) fun tk=>⟨.bl b,H,I.tok tk,rfl,q⟩
end
theorem noFill_tuple_mul:fillsNumberSlot (.type "tuple") "mul" = pure false:=
 PySem.fillsNumberSlot_seq (id := "tuple.__mul__") (r:=some (.builtin "tuple.__rmul__")) F.slot_tuple_mul.lookup (by decide +kernel) F.slot_tuple_rmul.lookup (by decide +kernel)
theorem repeat_tuple:seqRepeat? (.type "tuple")=pure (some (.builtin "tuple.__mul__")):=by
 unfold seqRepeat?
 rw[PySem.seqSlot_of (T := "tuple") (name := "__mul__") (id := "tuple.__mul__") F.slot_tuple_mul.lookup (by decide +kernel),PySem.seqSlot_of (T := "tuple") (name := "__rmul__") (id := "tuple.__rmul__") F.slot_tuple_rmul.lookup (by decide +kernel)]
 rfl
theorem int_rmul_tuple (a:Int) (t:Tok) (l:Addr) (items:Array Value) (n:Nat) (dd:Option Addr) (sl:Array (Option Value)) :
  Meets (Builtin.«int.__rmul__» ⟨[.int a t,.ref l],[]⟩) (fun _ R s=>s.heap.get? l=some { cls:=.type "tuple",dict:=dd,data:=.seq items n,slots:=sl }∧R (.ok (.ret Value.notImplemented)) s):=
 .of_wp fun prog w A R s h=>by obtain⟨hp,g,d,tk,os⟩:=s;obtain⟨hl,h⟩:=h;wp_walk;exact⟨_,rfl,h⟩
theorem tuple_mul_one (l:Addr) (items:Array Value) (n:Nat) (u:Tok) (dd:Option Addr) (sl:Array (Option Value)) :
  Meets (Builtin.«tuple.__mul__» ⟨[.ref l,.int 1 u],[]⟩) (fun _ R s=>s.heap.get? l=some { cls:=.type "tuple",dict:=dd,data:=.seq items n,slots:=sl }∧R (.ok (.ret (.ref l))) s):=
 .of_wp fun prog w A R s h=>by
  obtain⟨hp,g,d,tk,os⟩:=s;obtain⟨hl,h⟩:=h
  have c1:(items.isEmpty || (1:Int) == 1)=true:=by simp
  wp_walk
  exact⟨_,rfl,h⟩
theorem tuple_mul_many (l:Addr) (items:Array Value) (n:Nat) (x:Int) (u:Tok) (dd:Option Addr) (sl:Array (Option Value)) (c0:¬ (decide (x < -(2 ^ 63)) || decide (x ≥ 2 ^ 63))=true) (c1:¬ (items.isEmpty || x == 1)=true)
  (c2:¬ (decide (x≤0) || items.isEmpty)=true) (c3:¬ (items.size:Int) * x > (2 ^ 63 - 1) / 8) (c4:¬ Builtin.Tuple.tupleTooMany ((items.size:Int) * x)=true) (hsz:(List.foldl (fun x1 x2=>x1++x2) #[] (List.replicate x.toNat items)).size≤sizeLine) :
  Meets (Builtin.«tuple.__mul__» ⟨[.ref l,.int x u],[]⟩) (fun _ R s=>s.heap.get? l=some { cls:=.type "tuple",dict:=dd,data:=.seq items n,slots:=sl }∧
   R (.ok (.ret (.ref s.heap.objs.size))) { s with heap:=s.heap.push { cls:=.type "tuple",data:=.seq (List.foldl (fun x1 x2=>x1++x2) #[] (List.replicate x.toNat items)) } }):=
 .of_wp fun prog w A R s h=>by
  obtain⟨hp,g,d,tk,os⟩:=s;obtain⟨hl,h⟩:=h
  wp_walk
  rw[if_neg c0]
  wp_walk
  all_goals (try rw[if_neg c1])
  wp_walk
  all_goals (try rw[if_neg c2])
  wp_walk
  all_goals (try rw[if_neg c3])
  wp_walk
  all_goals (try rw[if_neg c4])
  wp_walk
  exact⟨_,rfl,h⟩
theorem aK.tup {K:PySem.W.Frag}{H H':Hp}{a:Addr}{xs:List V} (e:aK H H') (h:bR K H a xs):bR K H' a xs:=by
 rcases h with (h | ⟨o,h⟩) | h
 ·exact .inl (.inl (e _ _ h))
 ·exact .inl (.inr ⟨o,e _ _ h⟩)
 ·exact .inr h
theorem aK.new {H:Hp}{p:Addr}{o:HO} (h:H p=none):aK H (upd H p o):=fun b u e=>by rw[aN (aO e h)];exact e
section
variable {X:Cx}
noncomputable def rRepT (K:PySem.W.Frag):R2:=fun x y H Q=>∃ (l:Addr) (k:Int) (xs:List V),x=.ref l∧y=.int k∧bR K H l xs∧1≤k∧k < 1000000∧xs≠[]∧xs.length≤10∧
 ∀ p H',aK H H'→bR K H' p (List.replicate k.toNat xs).flatten→Q (.ref p) H'
theorem op_repT:OpR X (binaryOp .Mult) (rRepT X.K):=by
 intro pins s σ H x y v u Q I rx ry h
 obtain⟨l,k,xs,rfl,rfl,hq,h1,h2,hne,hl10,q⟩:=h
 cases rx
 obtain⟨t,rfl⟩:=ry
 obtain⟨its,r,ht,z⟩:=I.tuple hq
 have hlen:=r.length
 obtain⟨⟨cls,dd,data,sl⟩,e,hc,n,hd⟩:=id ht
 simp only at hc hd
 subst hc hd
 refine wpAny_binaryOp_repeat_ref (T := "tuple") (U := "int") (by decide) ⟨_,e,rfl⟩ (fun s'=>typeIs_int s' k t) noFill_tuple_mul F.fills_int_mul F.slot_int_rmul repeat_tuple F.slot_int_index.lookup
  (call_meets F.slot_int_rmul (typeIs_int s k t) F.entry_int_rmul (F.args_int_rmul_2 _ _) (int_rmul_tuple k t l its.toArray n dd sl) ⟨e,rfl,⟨_,e,rfl⟩,?_⟩)
 by_cases hk:k=1
 ·subst hk
  refine call_meets F.slot_tuple_mul ⟨_,e,rfl⟩ F.entry_tuple_mul (F.args_tuple_mul_2 _ _) (tuple_mul_one l its.toArray n t dd sl) ⟨e,?_⟩
  refine⟨.ref l,H,I,rfl,q l H (aK.refl H) ?_⟩
  have e1:(List.replicate (1:Int).toNat xs).flatten=xs:=by simp
  rw[e1];exact hq
 ·have hne':its≠[]:=fun z=>by rw[z] at hlen;exact hne (List.eq_nil_of_length_eq_zero hlen)
  have f0:List.foldl (fun x1 x2=>x1++x2) #[] (List.replicate k.toNat its.toArray)=(List.replicate k.toNat its).flatten.toArray:=by
   have:=foldl_rep its k.toNat []
   rw[List.nil_append] at this
   exact this
  have hemp:its.toArray.isEmpty=false:=by cases its with
   | nil=>exact absurd rfl hne'
   | cons a r=>rfl
  have hszN:k.toNat * its.length≤sizeLine:=by
   have a1:its.length≤10:=by omega
   have a2:k.toNat≤1000000:=by omega
   have:=Nat.mul_le_mul a2 a1
   rw[sizeLine_eq];omega
  have hprod:((its.toArray.size:Nat):Int) * k≤16777216:=by
   have a1:((its.toArray.size:Nat):Int)≤10:=by rw[List.size_toArray];omega
   have:=Int.mul_le_mul a1 (show k≤1000000 by omega) (by omega) (by omega)
   omega
  refine call_meets F.slot_tuple_mul ⟨_,e,rfl⟩ F.entry_tuple_mul (F.args_tuple_mul_2 _ _) (tuple_mul_many l its.toArray n k t dd sl (by simp;omega) (by rw[hemp];simp;exact hk) (by rw[hemp];simp;omega) (by omega) (by
    unfold Builtin.Tuple.tupleTooMany
    rw[decide_eq_true_iff]
    rw[sizeLine_eq]
    omega) (by rw[f0,List.size_toArray,len_rep];exact hszN)) ⟨e,?_⟩
  have I1:=I.laid (a:=s.heap.objs.size) (o:=.tup (List.replicate k.toNat xs).flatten) (h':=s.heap.push { cls:=.type "tuple",data:=.seq (List.foldl (fun x1 x2=>x1++x2) #[] (List.replicate k.toNat its.toArray)) }) (t':=s.toks)
   (fun _ _ q=>Heap.get?_push_of_some _ q) (Nat.le_refl _) ⟨by rw[len_rep,hlen];exact hszN,(List.replicate k.toNat its).flatten,r.rep k.toNat,⟨_,Heap.get?_push_size _ rfl,rfl,0,by simp only [f0]⟩⟩
  exact⟨.ref _,_,I1,rfl,q _ _ (aK.new I.fresh) (bR.of aD)⟩
end
open MeetsSeq in
theorem tuple_neAt (l b:Addr) (items items2:Array Value) (n n2:Nat) (dd dd2:Option Addr) (sl sl2:Array (Option Value)) (hsz:items.size=items2.size) :
  Meets (Builtin.«tuple.__ne__» ⟨[.ref l,.ref b],[]⟩)
   (fun A R s=>s.heap.get? l=some { cls:=.type "tuple",dict:=dd,data:=.seq items n,slots:=sl }∧s.heap.get? b=some { cls:=.type "tuple",dict:=dd2,data:=.seq items2 n2,slots:=sl2 }∧
    (∀ j (h1:j < items.size) (h2:j < items2.size),SeqAt.EqAt A.in1 s items[j] items2[j] true)∧
    R (.ok (.ret (.bool false))) s):=
 .of_wp fun prog w A R s h=>by
  obtain⟨hp,g,d,tk,os⟩:=s;obtain⟨hl,hb,he,h⟩:=h
  have f2:=AutoSeq1.sub_tuple_tuple
  have hZ:(items.toList.zip items2.toList).length=min items.size items2.size:=by simp
  wp_walk using AutoSeq1.wpAny_loadPart' hl,AutoSeq1.wpAny_loadPart' hb,wpAny_forIn_list _ (fun rest b s'=>b.1=none∧s'=⟨hp,g,d,tk,os⟩∧∃ i,rest=(items.toList.zip items2.toList).drop i) _
  case turn=>
   rintro⟨y,x⟩ rest b s' ⟨hb',rfl,i,hz⟩
   have hlt:i < (items.toList.zip items2.toList).length:=by
    rcases Nat.lt_or_ge i (items.toList.zip items2.toList).length with h' | h'
    ·exact h'
    ·rw[List.drop_of_length_le h'] at hz;cases hz
   have hm:i < min items.size items2.size:=hZ ▸ hlt
   have h1:i < items.size:=Nat.lt_of_lt_of_le hm (Nat.min_le_left _ _)
   have h2:i < items2.size:=Nat.lt_of_lt_of_le hm (Nat.min_le_right _ _)
   rw[List.drop_eq_getElem_cons hlt] at hz
   injection hz with hyx hrest
   have hy:y=items[i]:=by have:=congrArg Prod.fst hyx;simpa using this
   have hx:x=items2[i]:=by have:=congrArg Prod.snd hyx;simpa using this
   subst hy hx
   refine wpAny_bind (he i h1 h2 prog w _ _ ?_)
   wp_walk
   exact⟨rfl,rfl,i+1,hrest⟩
  case fin=>
   rintro⟨b1,b2⟩ s' ⟨hb',rfl,i,hz⟩
   simp only at hb'
   subst hb'
   wp_walk
   exact⟨_,rfl,by simpa [Builtin.Tuple.tupleCompareSizes,hsz] using h⟩
  case h=>
   exact⟨rfl,rfl,0,rfl⟩
inductive D where
 | non | bl (b:Bool) | int (i:Int) | str (x:Str) | tup (ds:List D)
mutual
noncomputable def Is (K:PySem.W.Frag) (H:Hp):D→V→Prop
 | .non,v=>v=.non
 | .bl b,v=>v=.bl b
 | .int i,v=>v=.int i
 | .str x,v=>v=.str x
 | .tup ds,v=>∃ a xs,v=.ref a∧bR K H a xs∧IsL K H ds xs
noncomputable def IsL (K:PySem.W.Frag) (H:Hp):List D→List V→Prop
 | [],xs=>xs=[]
 | d::ds,xs=>∃ x r,xs=x::r∧Is K H d x∧IsL K H ds r
end
noncomputable def bU (K:PySem.W.Frag) (H H':Hp):Prop:=∀ a xs,bR K H a xs→bR K H' a xs
theorem bU.refl {K:PySem.W.Frag} (H:Hp):bU K H H:=fun _ _ h=>h
theorem bU.trans {K:PySem.W.Frag}{H H1 H2:Hp} (a:bU K H H1) (b:bU K H1 H2):bU K H H2:=fun c xs h=>b c xs (a c xs h)
theorem aK.ts {K:PySem.W.Frag}{H H':Hp} (e:aK H H'):bU K H H':=fun _ _ h=>e.tup h
mutual
theorem Is.mono {K:PySem.W.Frag}{H H':Hp} (t:bU K H H'):∀ (d:D) (v:V),Is K H d v→Is K H' d v
 | .non,_,h=>h
 | .bl _,_,h=>h
 | .int _,_,h=>h
 | .str _,_,h=>h
 | .tup ds,v,h=>by
  rw[Is] at h ⊢
  obtain⟨a,xs,e,q,l⟩:=h
  exact⟨a,xs,e,t a xs q,IsL.mono t ds xs l⟩
theorem IsL.mono {K:PySem.W.Frag}{H H':Hp} (t:bU K H H'):∀ (ds:List D) (xs:List V),IsL K H ds xs→IsL K H' ds xs
 | [],xs,h=>h
 | d::ds,xs,h=>by
  rw[IsL] at h ⊢
  obtain⟨x,r,e,hx,hr⟩:=h
  exact⟨x,r,e,Is.mono t d x hx,IsL.mono t ds r hr⟩
end
theorem IsL.length {K:PySem.W.Frag}{H:Hp}:∀ {ds:List D}{xs:List V},IsL K H ds xs→xs.length=ds.length
 | [],xs,h=>by rw[IsL] at h;subst h;rfl
 | d::ds,xs,h=>by
  rw[IsL] at h
  obtain⟨x,r,rfl,_,hr⟩:=h
  rw[List.length_cons,List.length_cons,IsL.length hr]
theorem IsL.get {K:PySem.W.Frag}{H:Hp}:∀ {ds:List D}{xs:List V}{i:Nat}{d:D},IsL K H ds xs→ds[i]? = some d→∃ x,xs[i]? = some x∧Is K H d x
 | [],_,_,_,_,e=>by simp at e
 | d::ds,xs,0,d',h,e=>by
  rw[IsL] at h
  obtain⟨x,r,rfl,hx,hr⟩:=h
  simp at e
  subst e
  exact⟨x,rfl,hx⟩
 | d::ds,xs,i+1,d',h,e=>by
  rw[IsL] at h
  obtain⟨x,r,rfl,hx,hr⟩:=h
  obtain⟨y,h1,h2⟩:=IsL.get hr (i:=i) (by simpa using e)
  exact⟨y,by simpa using h1,h2⟩
theorem IsL.get' {K:PySem.W.Frag}{H:Hp}{ds:List D}{xs:List V}{i:Nat}{x:V} (h:IsL K H ds xs) (e:xs[i]? = some x):∃ d,ds[i]? = some d∧Is K H d x:=by
 have hl:=h.length
 have hi:i < ds.length:=by rw[← hl];exact (List.getElem?_eq_some_iff.mp e).1
 obtain⟨y,h1,h2⟩:=h.get (i:=i) (d:=ds[i]) (by simp [hi])
 rw[e] at h1
 cases h1
 exact⟨ds[i],by simp [hi],h2⟩
theorem IsL.snoc {K:PySem.W.Frag}{H:Hp}{d:D}{x:V} (hd:Is K H d x):∀ {ds:List D}{xs:List V},IsL K H ds xs→IsL K H (ds++[d]) (xs++[x])
 | [],xs,h=>by
  rw[IsL] at h
  subst h
  show IsL K H [d] [x]
  rw[IsL]
  exact⟨x,[],rfl,hd,by rw[IsL]⟩
 | d'::ds,xs,h=>by
  rw[IsL] at h
  obtain⟨y,r,rfl,hy,hr⟩:=h
  show IsL K H (d'::(ds++[d])) (y::(r++[x]))
  rw[IsL]
  exact⟨y,r++[x],rfl,hy,IsL.snoc hd hr⟩
theorem IsL.ints {K:PySem.W.Frag}{H:Hp}:∀ {ns:List Int}{xs:List V},IsL K H (ns.map D.int) xs→xs=ns.map V.int
 | [],xs,h=>by rw[List.map_nil,IsL] at h;exact h
 | n::ns,xs,h=>by
  rw[List.map_cons,IsL] at h
  obtain⟨x,r,rfl,hx,hr⟩:=h
  rw[Is] at hx
  rw[hx,IsL.ints hr,List.map_cons]
theorem IsL.of_ints {K:PySem.W.Frag}{H:Hp}:∀ (ns:List Int),IsL K H (ns.map D.int) (ns.map V.int)
 | []=>by rw[List.map_nil,List.map_nil,IsL]
 | n::ns=>by
  rw[List.map_cons,List.map_cons,IsL]
  exact⟨_,_,rfl,by rw[Is],IsL.of_ints ns⟩
theorem IsL.bools {K:PySem.W.Frag}{H:Hp}:∀ {ns:List Bool}{xs:List V},IsL K H (ns.map D.bl) xs→xs=ns.map V.bl
 | [],xs,h=>by rw[List.map_nil,IsL] at h;exact h
 | n::ns,xs,h=>by
  rw[List.map_cons,IsL] at h
  obtain⟨x,r,rfl,hx,hr⟩:=h
  rw[Is] at hx
  rw[hx,IsL.bools hr,List.map_cons]
theorem IsL.of_bools {K:PySem.W.Frag}{H:Hp}:∀ (ns:List Bool),IsL K H (ns.map D.bl) (ns.map V.bl)
 | []=>by rw[List.map_nil,List.map_nil,IsL]
 | n::ns=>by
  rw[List.map_cons,List.map_cons,IsL]
  exact⟨_,_,rfl,by rw[Is],IsL.of_bools ns⟩
mutual
noncomputable def D.depth:D→Nat
 | .tup ds=>eI ds+1
 | _=>0
noncomputable def eI:List D→Nat
 | []=>0
 | d::ds=>max d.depth (eI ds)
end
section
variable {X:Cx}{pins:List (Addr×Obj)}{σ:St}{H:Hp}{s:Shared}
mutual
theorem Is.eqAt (I:Inv X pins σ H s):∀ (d:D) (A:Around) (x y:V) (u v:Value),A.units+d.depth < cLine→Is X.K H d x→Is X.K H d y→bK x u→bK y v→SeqAt.EqAt A s u v true
 | .non,A,x,y,u,v,_,hx,hy,rx,ry=>by
  rw[Is] at hx hy;subst hx hy;cases rx;cases ry;exact SeqAt.EqAt.same _
 | .bl b,A,x,y,u,v,_,hx,hy,rx,ry=>by
  rw[Is] at hx hy;subst hx hy;cases rx;cases ry;exact SeqAt.EqAt.same _
 | .int i,A,x,y,u,v,_,hx,hy,rx,ry=>by
  rw[Is] at hx hy;subst hx hy;obtain⟨t,rfl⟩:=rx;obtain⟨t',rfl⟩:=ry
  have:=SeqAt.EqAt.int_int (A:=A) (s:=s) i t i t'
  simpa using this
 | .str z,A,x,y,u,v,_,hx,hy,rx,ry=>by
  rw[Is] at hx hy;subst hx hy;obtain⟨t,rfl⟩:=rx;obtain⟨t',rfl⟩:=ry
  have:=SeqAt.EqAt.str_str (A:=A) (s:=s) z t z t'
  simpa using this
 | .tup ds,A,x,y,u,v,hu,hx,hy,rx,ry=>by
  rw[Is] at hx hy
  obtain⟨a,xs,rfl,q1,l1⟩:=hx
  obtain⟨b,ys,rfl,q2,l2⟩:=hy
  cases rx
  cases ry
  by_cases hab:a=b
  ·subst hab;exact SeqAt.EqAt.same _
  ·obtain⟨us,r1,p1,_⟩:=I.tuple q1
   obtain⟨vs,r2,p2,_⟩:=I.tuple q2
   have hdep:D.depth (.tup ds)=eI ds+1:=by rw[D.depth]
   rw[hdep] at hu
   have e1:=r1.length
   have e2:=r2.length
   have e3:=l1.length
   have e4:=l2.length
   have hu2:A.in1.units+eI ds < cLine:=by
    have:A.in1.units≤A.units+1:=by show A.units+1≤A.units+1;exact Nat.le_refl _
    omega
   have all:=IsL.eqAt I ds A.in1 xs ys us vs hu2 l1 l2 r1 r2
   have hsz:us.toArray.size=vs.toArray.size:=by simp;omega
   have:=SeqAt.RcAt.tuples (A:=A) (s:=s) (e:=fun _=>true) (show s.heap.IsTuple a us.toArray from p1) (show s.heap.IsTuple b vs.toArray from p2) (by omega) fun j h1 h2=>all j us.toArray[j] vs.toArray[j] (by simp) (by simp)
   have e5:((List.range (min us.toArray.size vs.toArray.size)).all (fun _=>true) && us.toArray.size == vs.toArray.size)=true:=by
    rw[hsz];simp
   rw[e5] at this
   exact SeqAt.EqAt.of_refs hab this
theorem IsL.eqAt (I:Inv X pins σ H s):∀ (ds:List D) (A:Around) (xs ys:List V) (us vs:List Value),A.units+eI ds < cLine→IsL X.K H ds xs→IsL X.K H ds ys→bO xs us→bO ys vs→∀ (j:Nat) (u v:Value),us[j]? = some u→vs[j]? = some v→SeqAt.EqAt A s u v true
 | [],A,xs,ys,us,vs,_,hx,hy,rx,ry,j,u,v,eu,ev=>by
  rw[IsL] at hx
  subst hx
  cases rx
  simp at eu
 | d::ds,A,xs,ys,us,vs,hu,hx,hy,rx,ry,j,u,v,eu,ev=>by
  rw[IsL] at hx hy
  obtain⟨x,xr,rfl,hx,hxr⟩:=hx
  obtain⟨y,yr,rfl,hy,hyr⟩:=hy
  have hd:eI (d::ds)=max d.depth (eI ds):=by rw[eI]
  rw[hd] at hu
  cases rx with
  | cons rx rxr=>
   cases ry with
   | cons ry ryr=>
    cases j with
    | zero=>
     simp at eu ev
     subst eu ev
     exact Is.eqAt I d A x y _ _ (by omega) hx hy rx ry
    | succ j=>exact IsL.eqAt I ds A xr yr _ _ (by omega) hxr hyr rxr ryr j u v (by simpa using eu) (by simpa using ev)
end
end
section
variable {X:Cx}
noncomputable def rNeSame (K:PySem.W.Frag):R2:=fun x y H Q=>∃ ds,ds.length≤1000∧eI ds≤20∧Is K H (.tup ds) x∧Is K H (.tup ds) y∧Q (.bl false) H
theorem op_neSame (hu:X.A.units+64 < cLine):OpR X (compareOp .NotEq) (rNeSame X.K):=by
 intro pins s σ H x y v u Q I rx ry h
 obtain⟨ds,hl,hdep,hx,hy,q⟩:=h
 rw[Is] at hx hy
 obtain⟨a,xs,rfl,q1,l1⟩:=hx
 obtain⟨b,ys,rfl,q2,l2⟩:=hy
 cases rx
 cases ry
 obtain⟨us,r1,p1,_⟩:=I.tuple q1
 obtain⟨vs,r2,p2,_⟩:=I.tuple q2
 have e1:=r1.length
 have e2:=r2.length
 have e3:=l1.length
 have e4:=l2.length
 obtain⟨⟨cls,dd,data,sl⟩,ho,hc,n,hd⟩:=id p1
 obtain⟨⟨cls2,dd2,data2,sl2⟩,ho2,hc2,n2,hd2⟩:=id p2
 simp only at hc hd hc2 hd2
 subst hc hd hc2 hd2
 have hin:∀ A:Around,A.in1.units=A.units+1:=fun A=>rfl
 refine richCompare_meets_room (op:=.NotEq) ⟨_,ho,rfl⟩ ⟨_,ho2,rfl⟩ F.slot_tuple_ne F.entry_tuple_ne (F.args_tuple_ne_2 _ _) (tuple_neAt a b us.toArray vs.toArray n n2 dd dd2 sl sl2 (by simp;omega))
  ⟨ho,ho2,fun j h1 h2=>IsL.eqAt I ds _ xs ys us vs (by rw[hin];omega) l1 l2 r1 r2 j _ _ (by simp) (by simp),show Value.bool false≠Value.notImplemented∧EP X pins σ Q (.bool false) s from ⟨(fun x=>nomatch x),.bl false,H,I,rfl,q⟩⟩ (by omega)
end
end L2
namespace L2
open PySem PySem.Spec PyProof.Rows TwZ
structure Callee (P:Program) (w:World) (K:PySem.W.Frag) (mg:Str→Option Value) (base:Heap) (x:Str) (ps:List Str) (k:Nat) (sp:Sp) (f:Addr) (fd:FuncData):Prop where
 ok:FnOk P w K mg base CX0 k f fd ps sp
 mg:mg x=some (.ref f)
 kp:PySem.W.keepIn K (.ref f)=true
 bd:Binds K fd ps []
theorem d7 {X:Cx}{x:Str}{ps:List Str}{k n:Nat}{sp:Sp}{f:Addr}{fd:FuncData}{e:Expr}{es:List Expr}{t:TA}{p pos:Pos} (G:Callee X.prog X.w X.K X.mg X.base x ps k sp f fd) (hr:Room n X.A) (ha:PA X (e::es) t) (hg:Gl X x:=by rfl) (hle:k≤n:=by decide)
  (hdb:(x == ("__debug__" : Str))=false:=by decide) (he:starEach (e::es) X.env=(false,eval e X.env)::starEach es X.env:=by rfl) (hpl:(backTo pos (starEach es X.env)).any (·.1)=false:=by rfl) :
  PE X (.Call (.Name x p) (e::es) [] pos) (tCall sp [] E0 t):=pe_call G.ok (hr.mono hle) hg G.mg G.kp G.bd .nil pass0 ha hdb he hpl
theorem boot_isi:bootBuiltins "isinstance" = some (.builtin "isinstance"):=by decide +kernel
noncomputable def cK (t:Addr) (H H':Hp):Prop:=∀ b o,b≠t→H b=some o→H' b=some o
theorem cK.refl {t:Addr} (H:Hp):cK t H H:=fun _ _ _ h=>h
theorem cK.trans {t:Addr}{H H1 H2:Hp} (a:cK t H H1) (b:cK t H1 H2):cK t H H2:=fun c o hc h=>b c o hc (a c o hc h)
theorem aK.but {t:Addr}{H H':Hp} (a:aK H H'):cK t H H':=fun b o _ h=>a b o h
theorem cK.upd {t:Addr}{H:Hp}{o:HO}:cK t H (upd H t o):=fun b u hb h=>by rw[aN hb];exact h
theorem cK.ts {K:PySem.W.Frag}{t:Addr}{H H':Hp} (a:cK t H H') (hm:Mut (H t)):bU K H H':=by
 intro b xs h
 have ne:∀ {o:HO},H b=some o→¬ Mut (some o)→b≠t:=fun e n z=>by rw[← z,e] at hm;exact n hm
 rcases h with (h | ⟨o,h⟩) | h
 ·exact .inl (.inl (a _ _ (ne h (fun z=>z)) h))
 ·exact .inl (.inr ⟨o,a _ _ (ne h (fun z=>z)) h⟩)
 ·exact .inr h
theorem cK.free {t l:Addr}{H H':Hp} (a:cK t H H') (hl:l≠t) (h:H' l=none):H l=none:=by
 cases q:H l with
 | none=>rfl
 | some o=>rw[a l o hl q] at h;cases h
noncomputable def rGetL (K:PySem.W.Frag):V→V→Hp→VK→Prop:=fun o i H Q=>∃ (p:Addr) (xs:List V) (k:Int) (v:V),o=.ref p∧i=.int k∧bY K H p xs∧0≤k∧k < 2 ^ 63∧xs[k.toNat]? = some v∧Q v H
theorem get_list {X:Cx}:PGet X (rGetL X.K):=by
 intro pins s σ H o i ov iv Q I ro ri h
 obtain⟨p,xs,k,v,rfl,rfl,hq,h0,h1,hx,q⟩:=h
 cases ro
 obtain⟨t,rfl⟩:=ri
 obtain⟨its,r,pl,hz⟩:=I.list hq
 obtain⟨w',ew,rw'⟩:=r.get hx
 exact wpAny_getItem_list pl.isList h0 h1 (by simpa using ew) ⟨v,H,I,rw',q⟩
theorem ixN_nat {n:Nat}{k:Int} (h0:0≤k) (h1:k < n):ixN n k=some k.toNat:=by
 unfold ixN
 rw[if_pos h0,if_pos h1]
theorem atI_int {α:Type}{xs:List α}{k:Int}{v:α} (h0:0≤k) (h:xs[k.toNat]? = some v):atI xs k=some v:=by
 obtain⟨j,rfl⟩:=Int.eq_ofNat_of_zero_le h0
 exact cT (by simpa using h)
theorem Is.tupOf {K:PySem.W.Frag}{H:Hp}{ds:List D}{a:Addr}{xs:List V} (q:bR K H a xs) (l:IsL K H ds xs):Is K H (.tup ds) (.ref a):=by
 rw[Is];exact⟨a,xs,rfl,q,l⟩
theorem Is.un {K:PySem.W.Frag}{H:Hp}{ds:List D}{v:V} (h:Is K H (.tup ds) v):∃ a xs,v=.ref a∧bR K H a xs∧IsL K H ds xs:=by
 rw[Is] at h;exact h
theorem IsL.un {K:PySem.W.Frag}{H:Hp}{d:D}{ds:List D}{xs:List V} (h:IsL K H (d::ds) xs):∃ x r,xs=x::r∧Is K H d x∧IsL K H ds r:=by
 rw[IsL] at h;exact h
theorem IsL.un0 {K:PySem.W.Frag}{H:Hp}{xs:List V} (h:IsL K H [] xs):xs=[]:=by
 rw[IsL] at h;exact h
theorem IsL.cons {K:PySem.W.Frag}{H:Hp}{d:D}{ds:List D}{x:V}{xs:List V} (hd:Is K H d x) (h:IsL K H ds xs):IsL K H (d::ds) (x::xs):=by
 rw[IsL];exact⟨x,xs,rfl,hd,h⟩
theorem IsL.nil {K:PySem.W.Frag}{H:Hp}:IsL K H [] []:=by rw[IsL]
theorem Is.i {K:PySem.W.Frag}{H:Hp} (i:Int):Is K H (.int i) (.int i):=by rw[Is]
theorem Is.b {K:PySem.W.Frag}{H:Hp} (i:Bool):Is K H (.bl i) (.bl i):=by rw[Is]
theorem Is.s {K:PySem.W.Frag}{H:Hp} (i:Str):Is K H (.str i) (.str i):=by rw[Is]
theorem Is.n {K:PySem.W.Frag}{H:Hp}:Is K H .non .non:=by rw[Is]
theorem Is.ui {K:PySem.W.Frag}{H:Hp}{i:Int}{v:V} (h:Is K H (.int i) v):v=.int i:=by rw[Is] at h;exact h
theorem Is.ub {K:PySem.W.Frag}{H:Hp}{i:Bool}{v:V} (h:Is K H (.bl i) v):v=.bl i:=by rw[Is] at h;exact h
theorem Is.us {K:PySem.W.Frag}{H:Hp}{i:Str}{v:V} (h:Is K H (.str i) v):v=.str i:=by rw[Is] at h;exact h
theorem Is.u0 {K:PySem.W.Frag}{H:Hp}{v:V} (h:Is K H .non v):v=.non:=by rw[Is] at h;exact h
end L2
namespace Tw
open PySem L2
structure Vs where
 size:Int
 brim:Int
 outs:List (Option Int×Int)
 holds:Bool
 spill:Option Int
 acts:List (Str×Int)
noncomputable abbrev Spt:=Int×Int×Bool
structure Net where
 vs:List Vs
 sps:List Spt
noncomputable def tgD:Option Int→D
 | none=>.non
 | some i=>.int i
noncomputable def tgV:Option Int→V
 | none=>.non
 | some i=>.int i
noncomputable def outD (o:Option Int×Int):D:=.tup [tgD o.1,.int o.2]
noncomputable def actD (a:Str×Int):D:=.tup [.str a.1,.int a.2]
noncomputable def vsD (v:Vs):D:=.tup [.int v.size,.int v.brim,.tup (v.outs.map outD),.bl v.holds,tgD v.spill,.tup (v.acts.map actD)]
noncomputable def spD (s:Spt):D:=.tup [.int s.1,.int s.2.1,.bl s.2.2]
noncomputable def dU (n:Net):D:=.tup [.tup (n.vs.map vsD),.tup (n.sps.map spD)]
noncomputable def stD (held coming:List Int) (doors:List Bool):D:=.tup [.tup (held.map D.int),.tup (coming.map D.int),.tup (doors.map D.bl)]
theorem Is.tg {K:PySem.W.Frag}{H:Hp}{t:Option Int}{v:V} (h:Is K H (tgD t) v):v=tgV t:=by
 cases t with
 | none=>exact h.u0
 | some i=>exact h.ui
theorem Is.tgOf {K:PySem.W.Frag}{H:Hp} (t:Option Int):Is K H (tgD t) (tgV t):=by
 cases t with
 | none=>exact Is.n
 | some i=>exact Is.i i
structure OutOk (n:Nat) (o:Option Int×Int):Prop where
 tg:∀ t,o.1=some t→0≤t∧t < n
 lo:1≤o.2
 hi:o.2≤60
structure ActOk (m:Nat) (a:Str×Int):Prop where
 word:a.1 = "open" ∨ a.1 = "shut" ∨ a.1 = "turn"
 lo:0≤a.2
 hi:a.2 < m
structure VOk (n m:Nat) (v:Vs):Prop where
 size:1≤v.size
 ne:v.outs≠[]
 o3:v.outs.length≤3
 outs:∀ o∈v.outs,OutOk n o
 spill:∀ t,v.spill=some t→0≤t∧t < n
 a3:v.acts.length≤3
 acts:∀ a∈v.acts,ActOk m a
structure NetOk (net:Net):Prop where
 lo:1≤net.vs.length
 hi:net.vs.length≤12
 sp:net.sps.length≤12
 vs:∀ v∈net.vs,VOk net.vs.length net.sps.length v
 sps:∀ s∈net.sps,0≤s.1∧s.1 < net.vs.length
noncomputable def whole (outs:List (Option Int×Int)):Int:=(outs.map (·.2)).sum
theorem whole_pos {n:Nat}:∀ {outs:List (Option Int×Int)},outs≠[]→(∀ o∈outs,OutOk n o)→1≤whole outs
 | [],h,_=>absurd rfl h
 | o::r,_,h=>by
  have h1:=(h o List.mem_cons_self).lo
  have h2:0≤whole r:=by
   clear h1
   have:∀ (r:List (Option Int×Int)),(∀ o∈r,OutOk n o)→0≤whole r:=by
    intro r
    induction r with
    | nil=>intro _;exact Int.le_refl _
    | cons o r ih=>
     intro h
     have h1:=(h o List.mem_cons_self).lo
     have h2:=ih fun o ho=>h o (List.mem_cons_of_mem _ ho)
     show 0≤o.2+whole r
     omega
   exact this r fun o ho=>h o (List.mem_cons_of_mem _ ho)
  show 1≤o.2+whole r
  omega
theorem whole_le {n:Nat}:∀ {outs:List (Option Int×Int)},(∀ o∈outs,OutOk n o)→whole outs≤60 * outs.length
 | [],_=>Int.le_refl _
 | o::r,h=>by
  have h1:=(h o List.mem_cons_self).hi
  have h2:=whole_le fun o ho=>h o (List.mem_cons_of_mem _ ho)
  show o.2+whole r≤_
  rw[List.length_cons]
  omega
noncomputable def bB (k:Option Int):List (Option Int×Int)→Int
 | []=>0
 | g::r=>(if g.1=k then g.2 else 0)+bB k r
theorem cD (k:Option Int):∀ (a b:List (Option Int×Int)),bB k (a++b)=bB k a+bB k b
 | [],b=>by simp [bB]
 | g::r,b=>by
  show (if g.1=k then g.2 else 0)+bB k (r++b)=(if g.1=k then g.2 else 0)+bB k r+bB k b
  rw[cD k r b];omega
noncomputable def bL (v:Vs) (has:Int):Int:=min has v.brim
noncomputable def dJ (v:Vs) (has:Int):Bool:=decide (v.size≤bL v has)
noncomputable def eP (v:Vs) (here:Int):List (Option Int×Int):=v.outs.map fun o=>(o.1,here / whole v.outs * o.2)
noncomputable def cY (v:Vs) (has:Int):List (Option Int×Int):=
 (v.spill,has - bL v has)::(if dJ v has=true then eP v (bL v has)++(if v.holds=true then [] else [(none,bL v has % whole v.outs)]) else [])
noncomputable def dY (v:Vs) (has:Int):Int:=if dJ v has=true then (if v.holds=true then bL v has % whole v.outs else 0) else bL v has
theorem vGoes_len {n m:Nat}{v:Vs} (ok:VOk n m v) (has:Int):(cY v has).length≤5:=by
 unfold cY eP
 have:=ok.o3
 split
 ·split <;> simp <;> omega
 ·simp
noncomputable def eR (has:List Int) (s:Spt) (d:Bool):List Int:=if d=true then has.set s.1.toNat (has.getD s.1.toNat 0+s.2.1) else has
noncomputable def cI:List Int→List Spt→List Bool→List Int
 | has,s::ss,d::ds=>cI (eR has s d) ss ds
 | has,_,_=>has
noncomputable def dR:List Int→List Int→List Int→List Int
 | a::as,b::bs,c::cs=>(a+b+c)::dR as bs cs
 | _,_,_=>[]
noncomputable def aZ (net:Net) (held coming poured:List Int) (doors:List Bool):List Int:=cI (dR held coming poured) net.sps doors
noncomputable def bP:List Vs→List Int→List (Option Int×Int)
 | v::vs,h::hs=>cY v h++bP vs hs
 | _,_=>[]
noncomputable def bW:List Vs→List Int→List Int
 | v::vs,h::hs=>dY v h::bW vs hs
 | _,_=>[]
noncomputable def bF:Nat→List Vs→List Int→List Nat
 | i,v::vs,h::hs=>if dJ v h=true then i::bF (i+1) vs hs else bF (i+1) vs hs
 | _,_,_=>[]
noncomputable def act1 (doors:List Bool) (a:Str×Int):List Bool:=doors.set a.2.toNat (if a.1 = "open" then true else if a.1 = "turn" then !(doors.getD a.2.toNat false) else false)
noncomputable def cF (doors:List Bool) (as:List (Str×Int)):List Bool:=as.foldl act1 doors
noncomputable def bI (vs:List Vs) (doors:List Bool) (tip:List Nat):List Bool:=tip.foldl (fun ds i=>match vs[i]? with | some v=>cF ds v.acts | none=>ds) doors
noncomputable def dA (n:Nat) (goes:List (Option Int×Int)):List Int:=(List.range n).map fun (k:Nat)=>bB (some (k:Int)) goes
structure Tick where
 held:List Int
 coming:List Int
 doors:List Bool
 tip:List Nat
 ground:Int
noncomputable def bC (net:Net) (held coming poured:List Int) (doors:List Bool):Tick:=
 let hs:=aZ net held coming poured doors
 ⟨bW net.vs hs,dA net.vs.length (bP net.vs hs),bI net.vs doors (bF 0 net.vs hs),bF 0 net.vs hs,bB none (bP net.vs hs)⟩
noncomputable def tickD (t:Tick):D:=.tup [stD t.held t.coming t.doors,.tup (t.tip.map fun (i:Nat)=>D.int (i:Int)),.int t.ground]
end Tw
namespace L2
open PySem PySem.Spec PyProof.Rows TwZ
section
variable {K:PySem.W.Frag}{g:TG}{tc:TT}{te:TE}{fr:List (Option Nat)}{σ:St}{H1:Hp}{Q:Addr→Hp→Prop}
theorem eT {a:Addr}{xs:List V} (Pv:Addr→Nat→List V→St→Hp→Prop) (hq:∀ D i ys σ H,Pv D i ys σ H→bR K H a xs)
  (h0:∀ D,H1 D=none→Pv D 0 [] (frσ fr σ) (upd H1 D (.lst []))) (hstop:∀ D ys σ' H',Pv D xs.length ys σ' H'→Q D H')
  (hgo:∀ D i x ys σ' H',xs[i]? = some x→Pv D i ys σ' H'→g x σ' H' fun σ3 H3=>tc σ3 H3 fun b H4=>
    if b=true then te σ3 H4 fun y H5=>H5 D=some (.lst ys)∧ys.length < sizeLine∧Pv D (i+1) (ys++[y]) σ3 (upd H5 D (.lst (ys++[y])))
    else Pv D (i+1) ys σ3 H4):lcRest (Itt K a) g tc te fr σ H1 Q:=by
 refine lc_gen (n:=xs.length) Pv h0 (fun D ys σ' H' p=>⟨⟨xs,hq D _ ys σ' H' p,Nat.le_refl _⟩,hstop D ys σ' H' p⟩) fun D i ys σ' H' hi p=>⟨⟨xs,xs[i],hq D _ ys σ' H' p,by simp [hi]⟩,fun x H2 y=>?_⟩
 obtain⟨e,y⟩:=y
 subst e
 exact hgo D i x ys σ' _ (y xs (hq D _ ys σ' _ p)) p
theorem lc_list {a:Addr}{xs:List V} (Pv:Addr→Nat→List V→St→Hp→Prop) (hq:∀ D i ys σ H,Pv D i ys σ H→bY K H a xs)
  (h0:∀ D,H1 D=none→Pv D 0 [] (frσ fr σ) (upd H1 D (.lst []))) (hstop:∀ D ys σ' H',Pv D xs.length ys σ' H'→Q D H')
  (hgo:∀ D i x ys σ' H',xs[i]? = some x→Pv D i ys σ' H'→g x σ' H' fun σ3 H3=>tc σ3 H3 fun b H4=>
    if b=true then te σ3 H4 fun y H5=>H5 D=some (.lst ys)∧ys.length < sizeLine∧Pv D (i+1) (ys++[y]) σ3 (upd H5 D (.lst (ys++[y])))
    else Pv D (i+1) ys σ3 H4):lcRest (Itl K a) g tc te fr σ H1 Q:=by
 refine lc_gen (n:=xs.length) Pv h0 (fun D ys σ' H' p=>⟨⟨xs,hq D _ ys σ' H' p,Nat.le_refl _⟩,hstop D ys σ' H' p⟩) fun D i ys σ' H' hi p=>⟨⟨xs,xs[i],hq D _ ys σ' H' p,by simp [hi]⟩,fun x H2 y=>?_⟩
 obtain⟨e,y⟩:=y
 subst e
 exact hgo D i x ys σ' _ (y xs (hq D _ ys σ' _ p)) p
theorem lc_range {n:Nat} (Pv:Addr→Nat→List V→St→Hp→Prop)
  (h0:∀ D,H1 D=none→Pv D 0 [] (frσ fr σ) (upd H1 D (.lst []))) (hstop:∀ D ys σ' H',Pv D n ys σ' H'→Q D H')
  (hgo:∀ D i ys σ' H',i < n→Pv D i ys σ' H'→g (.int (i:Int)) σ' H' fun σ3 H3=>tc σ3 H3 fun b H4=>
    if b=true then te σ3 H4 fun y H5=>H5 D=some (.lst ys)∧ys.length < sizeLine∧Pv D (i+1) (ys++[y]) σ3 (upd H5 D (.lst (ys++[y])))
    else Pv D (i+1) ys σ3 H4):lcRest (Itr 0 n) g tc te fr σ H1 Q:=by
 refine lc_gen (n:=n) Pv h0 (fun D ys σ' H' p=>⟨Nat.le_refl _,hstop D ys σ' H' p⟩) fun D i ys σ' H' hi p=>⟨hi,fun x H2 y=>?_⟩
 obtain⟨e,y⟩:=y
 subst e y
 rw[Int.zero_add]
 exact hgo D i ys σ' _ hi p
theorem lc_zip3 {t1 t2 t3:Bool}{a1 a2 a3:Addr}{xs ys zs:List V}{n:Nat} (h1:xs.length=n) (h2:ys.length=n) (h3:zs.length=n) (Pv:Addr→Nat→List V→St→Hp→Prop)
  (hq:∀ D i r σ H,Pv D i r σ H→SqB K H t1 a1 xs∧SqB K H t2 a2 ys∧SqB K H t3 a3 zs)
  (h0:∀ D,H1 D=none→Pv D 0 [] (frσ fr σ) (upd H1 D (.lst []))) (hstop:∀ D r σ' H',Pv D n r σ' H'→Q D H')
  (hgo:∀ D i x y z r σ' H' T,xs[i]? = some x→ys[i]? = some y→zs[i]? = some z→Pv D i r σ' H'→H' T=none→g (.ref T) σ' (upd H' T (.tup [x,y,z])) fun σ3 H3=>tc σ3 H3 fun b H4=>
    if b=true then te σ3 H4 fun y H5=>H5 D=some (.lst r)∧r.length < sizeLine∧Pv D (i+1) (r++[y]) σ3 (upd H5 D (.lst (r++[y])))
    else Pv D (i+1) r σ3 H4):lcRest (Itz3 K t1 t2 t3 a1 a2 a3) g tc te fr σ H1 Q:=by
 refine lc_gen (n:=n) Pv h0 (fun D r σ' H' p=>?_) fun D i r σ' H' hi p=>?_
 ·obtain⟨q1,q2,q3⟩:=hq D _ r σ' H' p
  exact⟨⟨xs,ys,zs,q1,q2,q3,.inl (by omega)⟩,hstop D r σ' H' p⟩
 ·obtain⟨q1,q2,q3⟩:=hq D _ r σ' H' p
  refine⟨⟨xs,ys,zs,xs[i]'(by omega),ys[i]'(by omega),zs[i]'(by omega),q1,q2,q3,by simp,by simp,by simp⟩,?_⟩
  rintro v H2 ⟨T,x,y,z,hT,rfl,e1,e2,e3,rfl⟩
  exact hgo D i x y z r σ' H' T (e1 xs q1) (e2 ys q2) (e3 zs q3) p hT
end
section
variable {K:PySem.W.Frag}{g:TG}{tb:TS}{D:Ends}{σ:St}{H:Hp}
noncomputable abbrev ForRest (J:It) (g:TG) (tb:TS) (D:Ends) (σ:St) (H:Hp):Prop:=
 ∃ W:Nat→Nat→St→Hp→Prop,(∃ m,W 0 m σ H)∧∀ i m σ H,W i m σ H→
   (J.stop i H∧D.nx σ H)∨(J.go i H∧∃ N:St→Hp→Prop,(∀ σ' H',N σ' H'→∃ m',m' < m∧W (i+1) m' σ' H')∧∀ x H',J.yld i H x H'→g x σ H' fun σ2 H2=>tb { D with nx:=N,ct:=N,bk:=D.nx } σ2 H2)
theorem for_zip2 {t1 t2:Bool}{a1 a2:Addr}{xs ys:List V}{n:Nat} (h1:xs.length=n) (h2:ys.length=n) (Pv:Nat→St→Hp→Prop) (hq:∀ i σ H,Pv i σ H→SqB K H t1 a1 xs∧SqB K H t2 a2 ys)
  (h0:Pv 0 σ H) (hstop:∀ σ H,Pv n σ H→D.nx σ H)
  (hgo:∀ i x y σ H T,xs[i]? = some x→ys[i]? = some y→Pv i σ H→H T=none→g (.ref T) σ (upd H T (.tup [x,y])) fun σ2 H2=>tb { D with nx:=Pv (i+1),ct:=Pv (i+1),bk:=D.nx } σ2 H2):ForRest (Itz2 K t1 t2 a1 a2) g tb D σ H:=by
 refine for_gen (n:=n) Pv h0 (fun σ H p=>?_) fun i σ H hi p=>?_
 ·obtain⟨q1,q2⟩:=hq _ σ H p
  exact⟨⟨xs,ys,q1,q2,.inl (by omega)⟩,hstop σ H p⟩
 ·obtain⟨q1,q2⟩:=hq _ σ H p
  refine⟨⟨xs,ys,xs[i]'(by omega),ys[i]'(by omega),q1,q2,by simp,by simp⟩,?_⟩
  rintro v H2 ⟨T,x,y,hT,rfl,e1,e2,rfl⟩
  exact hgo i x y σ H T (e1 xs q1) (e2 ys q2) p hT
theorem for_enum {t:Bool}{a:Addr}{xs:List V} (Pv:Nat→St→Hp→Prop) (hq:∀ i σ H,Pv i σ H→SqB K H t a xs)
  (h0:Pv 0 σ H) (hstop:∀ σ H,Pv xs.length σ H→D.nx σ H)
  (hgo:∀ i x σ H T,xs[i]? = some x→Pv i σ H→H T=none→g (.ref T) σ (upd H T (.tup [.int (i:Int),x])) fun σ2 H2=>tb { D with nx:=Pv (i+1),ct:=Pv (i+1),bk:=D.nx } σ2 H2):ForRest (Ite K t a) g tb D σ H:=by
 refine for_gen (n:=xs.length) Pv h0 (fun σ H p=>?_) fun i σ H hi p=>?_
 ·exact⟨⟨xs,hq _ σ H p,Nat.le_refl _⟩,hstop σ H p⟩
 ·refine⟨⟨xs,xs[i],hq _ σ H p,by simp [hi]⟩,?_⟩
  rintro v H2 ⟨T,x,hT,rfl,e1,rfl⟩
  exact hgo i x σ H T (e1 xs (hq _ σ H p)) p hT
end
theorem yes_of {σ:St}{H:Hp}{A B:Hp→Prop} (h:A H):tYes σ H fun b H4=>if b=true then A H4 else B H4:=by
 show if true=true then A H else B H
 rw[if_pos rfl];exact h
theorem d9 {i:Nat}{v:V}{σ:St}{H:Hp}{A B:St→Hp→Prop} (h:A (σ.set i (some v)) H):gName i v σ H fun σ3 H3=>tYes σ3 H3 fun b H4=>if b=true then A σ3 H4 else B σ3 H4:=yes_of (σ:=σ.set i (some v)) (A:=A (σ.set i (some v))) (B:=B (σ.set i (some v))) h
theorem aK.put {H H':Hp}{p:Addr}{o:HO} (a:aK H H') (h:H p=none):aK H (upd H' p o):=fun b u e=>by rw[aN (aO e h)];exact a b u e
theorem bU.put {K:PySem.W.Frag}{H H':Hp}{p:Addr}{o:HO} (a:bU K H H') (h:H' p=none∨Mut (H' p)):bU K H (upd H' p o):=a.trans (by
 rcases h with h | h
 ·exact (aK.new h).ts
 ·exact cK.ts cK.upd h)
noncomputable def CDivB (i j:Int):Prop:=0 < j∧j < 2 ^ 200
theorem op_fdivB {X:Cx}:OpR X (binaryOp .FloorDiv) (rI CDivB fun i j=>.int (i / j)):=opI fun i j _ _ _ _ _ hc q=>by
 have h1:(0:Int) < j:=hc.1
 have h2:j < 2 ^ 200:=hc.2
 refine floordiv_int (by omega) (by rw[Int.fdiv_eq_ediv_of_nonneg i (by omega)];exact q) (.inl (PyProof.noPylong_of_log2 ?_))
 have h0:j.natAbs≠0:=by omega
 have h3:j.natAbs < 2 ^ 200:=by omega
 have:=(Nat.log2_lt h0).mpr h3
 omega
theorem bt_int:bootBuiltins "int" = some (.type "int"):=by decide +kernel
theorem cN:bootBuiltins "tuple" = some (.type "tuple"):=by decide +kernel
theorem bt_list:bootBuiltins "list" = some (.type "list"):=by decide +kernel
theorem bt_bool:bootBuiltins "bool" = some (.type "bool"):=by decide +kernel
section
variable {X:Cx}{K:PySem.W.Frag}{tg:Expr}{pos:Pos}
theorem aW {es:List Expr}{k:Nat}{t:TGs}{n:Nat} (hK:X.K=K) (hc:X.calm=true) (h:PGs X es t)
  (hn:(assignEach es X.env).length=n:=by rfl) (hst:(assignEach es X.env).findIdx? (·.1)=none:=by rfl):PG X (.Tuple es k pos) (gTup K n t):=by
 subst hK;exact pg_tup hc h hn hst
theorem aL (hK:X.K=K):IxR X (rIx K):=by subst hK;exact ix_seq
noncomputable def rLen (K:PySem.W.Frag):List V→Hp→VK→Prop:=fun xs H Q=>∃ p ys,xs=[.ref p]∧(bY K H p ys∨bR K H p ys)∧Q (.int ys.length) H
theorem bH (hK:X.K=K):CallR X (.builtin "len") (rLen K):=by subst hK;exact call_len_seq
theorem call_sumK (hK:X.K=K) (hc:X.calm=true):CallR X (.builtin "sum") (rSum K):=by subst hK;exact call_sumB hc
theorem call_allK (hK:X.K=K) (hc:X.calm=true):CallR X (.builtin "all") (rAll K):=by subst hK;exact call_allB hc
theorem call_isiK (hK:X.K=K):CallR X (.builtin "isinstance") (rIsi K):=by subst hK;exact call_isi
noncomputable def rTupOf (K:PySem.W.Frag):List V→Hp→VK→Prop:=fun xs H Q=>∃ p ys,xs=[.ref p]∧((bY K H p ys∧∀ l,H l=none→Q (.ref l) (upd H l (.tup ys)))∨(bR K H p ys∧Q (.ref p) H))
theorem cC (hK:X.K=K):CallR X (.type "tuple") (rTupOf K):=by subst hK;exact call_tuple_of
noncomputable def rLstOf (K:PySem.W.Frag):List V→Hp→VK→Prop:=fun xs H Q=>∃ p ys,xs=[.ref p]∧(bY K H p ys∨bR K H p ys)∧∀ l,H l=none→Q (.ref l) (upd H l (.lst ys))
theorem call_lstK (hK:X.K=K):CallR X (.type "list") (rLstOf K):=by subst hK;exact call_list_of
theorem pi_listK {l:Expr}{tl:TE} (hK:X.K=K) (hl:PE X l tl):PI X tg l (iList K tl):=by subst hK;exact pi_list hl
theorem d8 {l:Expr}{tl:TE} (hK:X.K=K) (hl:PE X l tl):PI X tg l (iTup K tl):=by subst hK;exact pi_tup hl
theorem pi_enumK {a:Expr}{ta:TA}{p:Pos} (hK:X.K=K) (hg:Gl X "enumerate") (hm:X.mg "enumerate" = none) (ha:PA X [a] ta) (hs:starEach [a] X.env=[(false,eval a X.env)]:=by rfl):PI X tg (.Call (.Name "enumerate" p) [a] [] pos) (iEnum K ta):=by
 subst hK;exact pi_enum hg hm ha hs
theorem pi_zip2K {a b:Expr}{ta:TA}{p:Pos} (hK:X.K=K) (hg:Gl X "zip") (hm:X.mg "zip" = none) (ha:PA X [a,b] ta) (hs:starEach [a,b] X.env=[(false,eval a X.env),(false,eval b X.env)]:=by rfl) (hs2:starEach [b] X.env=[(false,eval b X.env)]:=by rfl) :
  PI X tg (.Call (.Name "zip" p) [a,b] [] pos) (iZip2 K ta):=by subst hK;exact pi_zip2 hg hm ha hs hs2
theorem pi_zip3K {a b c:Expr}{ta:TA}{p:Pos} (hK:X.K=K) (hg:Gl X "zip") (hm:X.mg "zip" = none) (ha:PA X [a,b,c] ta) (hs:starEach [a,b,c] X.env=[(false,eval a X.env),(false,eval b X.env),(false,eval c X.env)]:=by rfl)
  (hs2:starEach [b,c] X.env=[(false,eval b X.env),(false,eval c X.env)]:=by rfl):PI X tg (.Call (.Name "zip" p) [a,b,c] [] pos) (iZip3 K ta):=by subst hK;exact pi_zip3 hg hm ha hs hs2
theorem op_repTK (hK:X.K=K):OpR X (binaryOp .Mult) (rRepT K):=by subst hK;exact op_repT
theorem op_neSameK (hK:X.K=K) (hu:X.A.units+64 < cLine):OpR X (compareOp .NotEq) (rNeSame K):=by subst hK;exact op_neSame hu
theorem get_listK (hK:X.K=K):PGet X (rGetL K):=by subst hK;exact get_list
theorem pe_bmK {o e:Expr}{es:List Expr}{to:TE}{t:TA}{name:Str}{apos cpos:Pos}{T id:String}{r:V→List V→Hp→VK→Prop} (hK:X.K=K)
  (pa:PlainAttrs T) (slot:Slot T name id) (hty:typeOf (.builtin id)=pure (.type "method_descriptor")) (hm:MtR X id r) (ho:PE X o to) (ha:PA X (e::es) t)
  (hbase:attributeBase o name X.env (eval o X.env)=eval o X.env:=by rfl)
  (hfew:((backTo cpos (starEach (e::es) X.env)).all (fun x=>!x.1) && (backToKw cpos (keywordEach [] X.env)).all (fun x=>x.1.isSome)
   && decide ((e::es).length+([]:List Keyword).length+(if ([]:List Keyword).isEmpty then 0 else 1) < 30))=true:=by rfl)
  (hline:(apos.endLine == cpos.line)=true:=by rfl) (hs:starEach (e::es) X.env=(false,eval e X.env)::starEach es X.env:=by rfl) (hplain:(backTo cpos (starEach es X.env)).any (·.1)=false:=by rfl) :
  PE X (.Call (.Attribute o name apos) (e::es) [] cpos) (tBM K T r to t):=by subst hK;exact pe_bm pa slot hty hm ho ha hbase hfew hline hs hplain
end
end L2
namespace L2
open PySem PySem.Spec PyProof.Rows TwZ
noncomputable def Itd (a:Addr) (o:Obj) (kvs:List (eF×V)):It where
 go:=fun i H=>H a=some (.frz o (.dK kvs))∧i < kvs.length
 yld:=fun i H x H'=>H=H'∧∃ k v,kvs[i]? = some (k,v)∧x=kV k
 stop:=fun i H=>H a=some (.frz o (.dK kvs))∧kvs.length≤i
theorem rel_key {k:eF}{u:Value}{P:Program}{w:World} (h:(cR P w).is k u=true):bK (kV k) u:=by
 rcases cO h with ⟨i,t,rfl,rfl⟩ | ⟨x,t,rfl,rfl⟩ | ⟨rfl,rfl⟩
 ·exact⟨t,rfl⟩
 ·exact⟨t,rfl⟩
 ·exact rfl
theorem dictAt_of {P:Program}{w:World}{H:Hp}{h:Heap}{a:Addr}{o:Obj}{kvs:List (eF×V)}{es:Array DictEntry}{ep:Nat} (ok:HOk P w H h) (e:H a=some (.frz o (.dK kvs))) (hd:o.data=.dict es ep) :
  ∃ vs,KV kvs vs∧h.DictAt (cR P w) a vs ep:=by
 obtain⟨g,_,_,vs,rel,o',es',ep',h1,h2,h3,h4,h5,h6⟩:=(show dD P w H h a (.frz o (.dK kvs)) from ok a _ e)
 rw[g] at h1
 cases h1
 rw[hd] at h3
 cases h3
 exact⟨vs,rel,o,es,g,h2,hd,h4,h5,h6⟩
theorem KV.len {kvs:List (eF×V)}{vs:List (eF×Value)} (r:KV kvs vs):kvs.length=vs.length:=Paired.length r
theorem KV.at {kvs:List (eF×V)}{vs:List (eF×Value)} (r:KV kvs vs):∀ {i:Nat}{k:eF}{v:V},kvs[i]? = some (k,v)→∃ u,vs[i]? = some (k,u):=by
 induction r with
 | nil=>intro i k v h;simp at h
 | @cons p q ps qs hq t ih=>
  intro i k v h
  cases i with
  | zero=>
   have:p=(k,v):=by simpa using h
   subst this
   exact⟨q.2,by rw[List.getElem?_cons_zero];exact congrArg some (Prod.ext hq.1.symm rfl)⟩
  | succ i=>exact ih (by simpa using h)
theorem turn_dict {P:Program}{w:World}{K:PySem.W.Frag}{tg:Expr} (a it:Addr) (o:Obj) (kvs:List (eF×V)) {es:Array DictEntry}{ep:Nat} (hd:o.data=.dict es ep):Turn P w K tg (Itd a o kvs) [it] it (fun i h=>h.IsKeyIter it a i kvs.length ep) where
 mem:=by simp
 obj:=fun i h st b hb=>by
  have e:b=it:=by simpa using hb
  subst e
  obtain⟨o,e,c,d⟩:=st
  exact⟨o,e,fun v z=>by rw[d] at z;cases z⟩
 keep:=fun i h h' st k=>st.at fun o e=>k it (by simp) o e
 item:=by
  intro X hP hw hK hc i pins s σ H E I hf st hg
  subst hP hw hK
  obtain⟨e,hi⟩:=hg
  obtain⟨vs,rel,da⟩:=dictAt_of I.hok e hd
  have hl:=rel.len
  have hki:kvs[i]? = some (kvs[i].1,kvs[i].2):=by simp [hi]
  obtain⟨u,hu⟩:=rel.at hki
  obtain⟨f0,f1,f2,f3,f4,f5⟩:=hf it (by simp)
  rw[hl] at st
  refine wpAny_pyNext_dict_item st da hu fun key h' hk st' sb=>?_
  have I1:Inv X pins σ H { s with heap:=h' }:=I.turned (t':=s.toks) (fun b o hb e=>(sb.2 b hb).trans e) f0 f1 f3 f4 f5
  obtain⟨o,e,c,d⟩:=id st'
  rw[← hl] at st'
  exact⟨key,rfl,go_of (s:={ s with heap:=h' }) e c d (by decide) ⟨_,H,I1,rel_key hk,⟨rfl,_,_,hki,rfl⟩,st',fun b hb=>(hf b hb).1⟩⟩
 done:=by
  intro X hP hw hK hc i pins s σ H E I hf st hg
  subst hP hw hK
  obtain⟨e,hi⟩:=hg
  obtain⟨vs,rel,da⟩:=dictAt_of I.hok e hd
  have hl:=rel.len
  obtain⟨f0,f1,f2,f3,f4,f5⟩:=hf it (by simp)
  rw[hl] at st
  exact wpAny_pyNext_dict_end (I.ok.hd hc) st da (by simp;omega) fun h' eb=>⟨rfl,I.turned (t':=s.toks) (fun b o hb e=>eb b o hb e) f0 f1 f3 f4 f5⟩
 self:=fun _ _ _ _ _ st h=>wpAny_pyIter_keyiter st h
section
variable {X:Cx}{tg:Expr}
noncomputable def iDict (tl:TE):TI:=fun σ H R=>tl σ H fun x H1=>∃ a kvs,x=.ref a∧H1 a=some (.dK kvs)∧∀ o,R (Itd a o kvs) (upd H1 a (.frz o (.dK kvs)))
theorem pi_dict {l:Expr}{tl:TE} (hl:PE X l tl):PI X tg l (iDict tl):=by
 intro pins s σ H R I h
 refine cU (hl pins s σ H _ I h) fun v s1 ⟨x,H1,I1,r1,q1⟩=>?_
 obtain⟨a,kvs,e,ha,q⟩:=q1
 subst e
 cases r1
 obtain⟨z,hs,vs,rel,o,es,ep,g1,g2,g3,g4,g5,g6⟩:=dk_of I1.hok ha
 have I2:Inv X pins σ (upd H1 a (.frz o (.dK kvs))) { s1 with heap:=s1.heap,toks:=s1.toks }:=
  d_write I1 (by rw[ha];exact True.intro) (Heap.SameBut.refl _ _) ⟨o,g1⟩ ⟨g1,z,hs,vs,rel,o,es,ep,g1,g2,g3,g4,g5,g6⟩
 have hl:=rel.len
 refine wpAny_pyIter_dict (knd:=cR X.prog X.w) (kvs:=vs) (ep:=ep) hs ⟨o,es,g1,g2,g3,g4,g5,g6⟩ ?_
 refine⟨s1.heap.objs.size,[s1.heap.objs.size],_,_,_,rfl,I2.kept (t':=s1.toks) fun b o e=>Heap.get?_push_of_some _ e,turn_dict a _ o kvs g3,⟨_,Heap.get?_push_size _ rfl,rfl,by rw[hl];rfl⟩,fun b hb=>?_,q o⟩
 have e:b=s1.heap.objs.size:=by simpa using hb
 subst e
 exact I2.fpOk (Nat.le_refl _) (I2.hok.fresh (Nat.le_refl _))
end
theorem for_dict {a:Addr}{o:Obj}{kvs:List (eF×V)}{g:TG}{tb:TS}{D:Ends}{σ:St}{H:Hp} (Pv:Nat→St→Hp→Prop) (hq:∀ i σ H,Pv i σ H→H a=some (.frz o (.dK kvs)))
  (h0:Pv 0 σ H) (hstop:∀ σ H,Pv kvs.length σ H→D.nx σ H)
  (hgo:∀ i k v σ H,kvs[i]? = some (k,v)→Pv i σ H→g (kV k) σ H fun σ2 H2=>tb { D with nx:=Pv (i+1),ct:=Pv (i+1),bk:=D.nx } σ2 H2) :
  ∃ W:Nat→Nat→St→Hp→Prop,(∃ m,W 0 m σ H)∧∀ i m σ H,W i m σ H→
   ((Itd a o kvs).stop i H∧D.nx σ H)∨((Itd a o kvs).go i H∧∃ N:St→Hp→Prop,(∀ σ' H',N σ' H'→∃ m',m' < m∧W (i+1) m' σ' H')∧∀ x H',(Itd a o kvs).yld i H x H'→g x σ H' fun σ2 H2=>tb { D with nx:=N,ct:=N,bk:=D.nx } σ2 H2):=by
 refine for_gen (n:=kvs.length) Pv h0 (fun σ H p=>⟨⟨hq _ σ H p,Nat.le_refl _⟩,hstop σ H p⟩) fun i σ H hi p=>⟨⟨hq _ σ H p,hi⟩,?_⟩
 rintro x H' ⟨rfl,k,v,e,rfl⟩
 exact hgo i k v σ H e p
theorem lc_dict {a:Addr}{o:Obj}{kvs:List (eF×V)}{g:TG}{tc:TT}{te:TE}{fr:List (Option Nat)}{σ:St}{H1:Hp}{Q:Addr→Hp→Prop} (Pv:Addr→Nat→List V→St→Hp→Prop) (hq:∀ D i ys σ H,Pv D i ys σ H→H a=some (.frz o (.dK kvs)))
  (h0:∀ D,H1 D=none→Pv D 0 [] (frσ fr σ) (upd H1 D (.lst []))) (hstop:∀ D ys σ' H',Pv D kvs.length ys σ' H'→Q D H')
  (hgo:∀ D i k v ys σ' H',kvs[i]? = some (k,v)→Pv D i ys σ' H'→g (kV k) σ' H' fun σ3 H3=>tc σ3 H3 fun b H4=>
    if b=true then te σ3 H4 fun y H5=>H5 D=some (.lst ys)∧ys.length < sizeLine∧Pv D (i+1) (ys++[y]) σ3 (upd H5 D (.lst (ys++[y])))
    else Pv D (i+1) ys σ3 H4):lcRest (Itd a o kvs) g tc te fr σ H1 Q:=by
 refine lc_gen (n:=kvs.length) Pv h0 (fun D ys σ' H' p=>⟨⟨hq D _ ys σ' H' p,Nat.le_refl _⟩,hstop D ys σ' H' p⟩) fun D i ys σ' H' hi p=>⟨⟨hq D _ ys σ' H' p,hi⟩,?_⟩
 rintro x H2 ⟨rfl,k,v,e,rfl⟩
 exact hgo D i k v ys σ' H' e p
noncomputable def dcRest (J:It) (g:TG) (tc:TT) (tk tv:TE) (fr:List (Option Nat)) (σ:St) (H1:Hp) (Q:Addr→Hp→Prop):Prop:=
 ∀ D,H1 D=none→∃ W:Nat→Nat→St→Hp→Prop,(∃ m,W 0 m (frσ fr σ) (upd H1 D (.dK [])))∧
  ∀ i m σ' H',W i m σ' H'→(J.stop i H'∧Q D H')∨
   (J.go i H'∧∃ N:St→Hp→Prop,(∀ σ'' H'',N σ'' H''→∃ m',m' < m∧W (i+1) m' σ'' H'')∧
    ∀ x H2,J.yld i H' x H2→g x σ' H2 fun σ3 H3=>tc σ3 H3 fun b H4=>
    if b=true then tk σ3 H4 fun y H5=>tv σ3 H5 fun z H6=>∃ kvs k,y=kV k∧H6 D=some (.dK kvs)∧kvs.length < sizeLine∧N σ3 (upd H6 D (.dK (putK kvs k z)))
    else N σ3 H4)
theorem dc_gen {J:It}{n:Nat}{g:TG}{tc:TT}{tk tv:TE}{fr:List (Option Nat)}{σ:St}{H1:Hp}{Q:Addr→Hp→Prop} (Pv:Addr→Nat→St→Hp→Prop)
  (h0:∀ D,H1 D=none→Pv D 0 (frσ fr σ) (upd H1 D (.dK [])))
  (hstop:∀ D σ' H',Pv D n σ' H'→J.stop n H'∧Q D H')
  (hgo:∀ D i σ' H',i < n→Pv D i σ' H'→J.go i H'∧∀ x H2,J.yld i H' x H2→g x σ' H2 fun σ3 H3=>tc σ3 H3 fun b H4=>
    if b=true then tk σ3 H4 fun y H5=>tv σ3 H5 fun z H6=>∃ kvs k,y=kV k∧H6 D=some (.dK kvs)∧kvs.length < sizeLine∧Pv D (i+1) σ3 (upd H6 D (.dK (putK kvs k z)))
    else Pv D (i+1) σ3 H4):dcRest J g tc tk tv fr σ H1 Q:=by
 intro D hD
 refine⟨fun i m σ H=>m=n - i∧i≤n∧Pv D i σ H,⟨n,by simp,Nat.zero_le _,h0 D hD⟩,?_⟩
 rintro i m σ' H' ⟨rfl,hi,p⟩
 by_cases hlt:i < n
 ·obtain⟨go,step⟩:=hgo D i σ' H' hlt p
  exact .inr ⟨go,Pv D (i+1),fun σ'' H'' p'=>⟨n - (i+1),by omega,rfl,hlt,p'⟩,step⟩
 ·have e:i=n:=by omega
  subst e
  exact .inl (hstop D σ' H' p)
theorem dc_range {n:Nat}{g:TG}{tc:TT}{tk tv:TE}{fr:List (Option Nat)}{σ:St}{H1:Hp}{Q:Addr→Hp→Prop} (Pv:Addr→Nat→St→Hp→Prop)
  (h0:∀ D,H1 D=none→Pv D 0 (frσ fr σ) (upd H1 D (.dK []))) (hstop:∀ D σ' H',Pv D n σ' H'→Q D H')
  (hgo:∀ D i σ' H',i < n→Pv D i σ' H'→g (.int (i:Int)) σ' H' fun σ3 H3=>tc σ3 H3 fun b H4=>
    if b=true then tk σ3 H4 fun y H5=>tv σ3 H5 fun z H6=>∃ kvs k,y=kV k∧H6 D=some (.dK kvs)∧kvs.length < sizeLine∧Pv D (i+1) σ3 (upd H6 D (.dK (putK kvs k z)))
    else Pv D (i+1) σ3 H4):dcRest (Itr 0 n) g tc tk tv fr σ H1 Q:=by
 refine dc_gen (n:=n) Pv h0 (fun D σ' H' p=>⟨Nat.le_refl _,hstop D σ' H' p⟩) fun D i σ' H' hi p=>⟨hi,fun x H2 y=>?_⟩
 obtain⟨e,y⟩:=y
 subst e y
 rw[Int.zero_add]
 exact hgo D i σ' _ hi p
noncomputable def tDC (wi:TI) (fr:List (Option Nat)) (g:TG) (tc:TT) (tk tv:TE):TE:=fun σ H Q=>wi σ H fun J H1=>dcRest J g tc tk tv fr σ H1 fun D H'=>Q (.ref D) H'
section
variable {prog:Program}{w:World}{A:Around}{R:Result→Shared→Prop}{s:Shared}
theorem compLoop_anyD {kx vx target iter:Expr}{ifs:List Expr}{scope:Scope}{pos:Pos}{it:Value}{D:Addr}{env:Env} (I:Nat→Shared→Prop)
  (turn:∀ n s,I n s→wpAny (model prog w) A (pyNext it) (fun r s₁=>match r with
   | none=>R (.ok .next) s₁
   | some v=>wpAny (model prog w) A (letOwnedTupleGo target it v) (fun _ s₁'=>wpAny (model prog w) A (assign target env v) (fun _ s₂=>
     wpAny (model prog w) A (forIn ifs true fun c r=>if r=true then do let ok ← isTrue c env (eval c env);pure (ForInStep.yield ok) else pure (ForInStep.yield r)) (fun ok s₃=>
      if ok=true then wpAny (model prog w) A (eval kx env) (fun kv s₄=>wpAny (model prog w) A (eval vx env) (fun vv s₅=>
       wpAny (model prog w) A (dictSet D kv vv) (fun _ s₆=>∃ m,m < n∧I m s₆) (notedBy (model prog w) A env fun e s'=>R (.error e) s') s₅) (notedBy (model prog w) A env fun e s'=>R (.error e) s') s₄) (notedBy (model prog w) A env fun e s'=>R (.error e) s') s₃
      else ∃ m,m < n∧I m s₃) (notedBy (model prog w) A env fun e s'=>R (.error e) s') s₂) (notedBy (model prog w) A env fun e s'=>R (.error e) s') s₁') (notedBy (model prog w) A env fun e s'=>R (.error e) s') s₁)
    (notedBy (model prog w) A env fun e s'=>R (.error e) s') s)
  (n:Nat) (h:I n s) :
  codeAny (model prog w) A (.compLoop (.DictComp kx vx [⟨target,iter,ifs,0⟩] scope pos) 0 it (.ref D) env) R s:=by
 refine codeAny_loop rfl I (fun n s hI=>?_) n h
 show wpAny _ A ((compTurn (.DictComp kx vx [⟨target,iter,ifs,0⟩] scope pos) 0 it (.ref D) env).onRaise (fun x=>do noteFrame x env;theTreesLotGoes x)) _ _ s
 refine wpAny_noted ?_
 rw[compTurn_dict]
 refine wpAny_bind (wpAny_standAt (wpAny_bind (wpAny_mono (turn n s hI) (fun r s₁ h₁=>?_) fun _ _ h'=>h')))
 cases r with
 | none=>exact wpAny_pure h₁
 | some v=>
  refine wpAny_bind (wpAny_mono h₁ (fun _ s₁' h₁'=>?_) fun _ _ h'=>h')
  refine wpAny_bind (wpAny_mono h₁' (fun _ s₂ h₂=>wpAny_bind (wpAny_mono h₂ (fun ok s₃ h₃=>?_) fun _ _ h'=>h')) fun _ _ h'=>h')
  cases ok with
  | false=>exact wpAny_pure ⟨rfl,h₃⟩
  | true=>
   exact wpAny_bind (wpAny_bind (wpAny_mono h₃ (fun kv s₄ h₄=>wpAny_bind (wpAny_holding (wpAny_mono h₄ (fun vv s₅ h₅=>wpAny_bind (wpAny_standAt (wpAny_holding (wpAny_mono h₅ (fun _ s₆ h₆=>wpAny_pure ⟨rfl,h₆⟩) fun _ _ h'=>h')))) fun _ _ h'=>h'))) fun _ _ h'=>h'))
end
section
variable {X:Cx}{pins:List (Addr×Obj)}{σ:St}{H:Hp}{s:Shared}{a:Addr}{v:V}{u r:Value}{A:Around}{E:Value→Shared→Prop}{kvs:List (eF×V)}{k:eF}
theorem d_dictSet {Q:Unit→Shared→Prop} (I:Inv X pins σ H s) (e:H a=some (.dK kvs)) (l:kvs.length < sizeLine) (ry:bK (kV k) u) (rv:bK v r) (h:∀ s',Inv X pins σ (upd H a (.dK (putK kvs k v))) s'→Q () s') :
  wpAny (model X.prog X.w) A (dictSet a u r) Q E s:=by
 obtain⟨z,hd,vs,rel,dd⟩:=dk_of I.hok e
 have hz:vs.length≤sizeLine:=by rw[← rel.length];exact z
 have hl:(putK kvs k v).length≤sizeLine:=by have:=length_putK kvs k v;omega
 refine wpAny_dictSet_pairs (hsz:=hz) (kV_is ry) dd fun h' dd' hs=>h _ ?_
 have he:∃ q,h'.get? a=some q:=let ⟨q,_,_,hq,_⟩:=dd';⟨q,hq⟩
 exact d_write I (by rw[e];exact True.intro) hs he (dk_new hl hd (rel.put k rv) dd')
end
section
variable {X:Cx}
theorem dc_block {kx vx tg iter:Expr}{ifs:List Expr}{scope:Scope}{pos:Pos}{N':List Str}{fr:List (Option Nat)}{cl:List (Str×Addr)}{g:TG}{tc:TT}{tk tv:TE}
  {pins:List (Addr×Obj)}{σ:St}{H:Hp}{s:Shared}{J:It}{fp:List Addr}{it:Addr}{tn:Nat→Heap→Prop}{Q:Addr→Hp→Prop}{RR:Value→Addr→Result→Shared→Prop}{E:Value→Shared→Prop}
  (hx:∀ e s,¬ X.xe e s) (hc:X.calm=true) (S:LcOk X scope cl N' fr)
  (hg:∀ fp s H,PG (cxC X N' scope cl fp s H) tg g) (ht:∀ fp s H,PIf (cxC X N' scope cl fp s H) ifs tc) (hk:∀ fp s H,PE (cxC X N' scope cl fp s H) kx tk) (hv:∀ fp s H,PE (cxC X N' scope cl fp s H) vx tv)
  (I:Inv X pins σ H s) (T:Turn X.prog X.w X.K tg J fp it tn) (st:tn 0 s.heap) (hf:∀ b∈fp,FpOk X pins H b) (h:dcRest J g tc tk tv fr σ H Q)
  (hRR:∀ D C H' s' m',Inv X pins σ H' s'→Q D H'→s'.heap.Ns C m'→FpOk X pins H' C→RR (.ref D) C (.ok .next) s') :
  wpAny (model X.prog X.w) X.A newDict (fun acc s₃=>wpAny (model X.prog X.w) X.A (newFunctionEnv scope X.env.globals cl [] X.env.qual none .none (some X.env)) (fun cenv s₄=>
   codeAny (model X.prog X.w) X.A (.compStart (.DictComp kx vx [⟨tg,iter,ifs,0⟩] scope pos) 0 (.ref it) acc { cenv with scope:=relabel scope X.env }) (RR acc cenv.locals) s₄) E s₃) E s:=by
 have hcell:=S.nocell
 rw[List.all_eq_true] at hcell
 refine wpAny_newObj_type (wpAny_newFunctionEnv (fun x hx'=>by simpa using hcell x hx') (by intro y hy;simp at hy) (fun h₁ hns₁ hsb₁=>?_) S.kind)
 dsimp only at hns₁ hsb₁ ⊢
 have fresh:H s.heap.objs.size=none:=I.hok.fresh (Nat.le_refl _)
 have I3:Inv X pins σ (upd H s.heap.objs.size (.dK [])) { s with heap:=s.heap.push { cls:=.type "dict",data:=.dict #[] },toks:=s.toks }:=
  I.laid (a:=s.heap.objs.size) (o:=.dK []) (t':=s.toks) (fun _ _ q=>Heap.get?_push_of_some _ q) (Nat.le_refl _) (dk_empty s.heap I.big)
 have hf3:∀ b∈fp,FpOk X pins (upd H s.heap.objs.size (.dK [])) b:=fun b hb=>by
  obtain⟨o,ho,_⟩:=T.obj _ _ st b hb
  exact⟨by rw[aN (Nat.ne_of_lt (Heap.lt_size ho))];exact (hf b hb).1,(hf b hb).2⟩
 generalize hs3:({ s with heap:=s.heap.push { cls:=.type "dict",data:=.dict #[] },toks:=s.toks }:Shared)=s3 at I3
 have e3:s3.heap=s.heap.push { cls:=.type "dict",dict:=none,data:=.dict #[] }:=by rw[← hs3]
 have e3s:({ s with heap:=s.heap.push { cls:=.type "dict",dict:=none,data:=.dict #[] } }:Shared)=s3:=hs3
 have hsz3:s3.heap.objs.size=s.heap.objs.size+1:=by rw[e3,Heap.size_push]
 have hfo:∀ b∈fp,b < s3.heap.objs.size:=fun b hb=>by
  obtain⟨o,ho,_⟩:=T.obj _ _ st b hb
  rw[hsz3]
  exact Nat.lt_succ_of_lt (Heap.lt_size ho)
 rw[← e3] at hns₁ hsb₁ ⊢
 have old3:∀ b o,s3.heap.get? b=some o→h₁.get? b=some o:=fun b o e=>hsb₁.extBut b o (Nat.ne_of_lt (Heap.lt_size e)) (Heap.get?_push_of_some _ e)
 have old:∀ b o,s.heap.get? b=some o→s3.heap.get? b=some o:=fun b o e=>by rw[e3];exact Heap.get?_push_of_some _ e
 have I4:=S.invC (tk:=s3.toks) I3 hf3 hfo old3 hns₁
 obtain⟨W,⟨m0,w0⟩,turn⟩:=h s.heap.objs.size fresh
 have stat:∀ {H':Hp},(∀ b∈fp,H' b=none)→∀ b∈fp,FpOk (cxC X N' scope cl fp s3 (upd H s.heap.objs.size (.dK []))) [] H' b:=fun hn b hb=>by
  refine⟨hn b hb,Nat.ne_of_lt (hfo b hb),?_,.inl hb,fun x c e=>(hf b hb).2.2.2.2.1 x c (S.cls.get x c e),fun p hp=>absurd (show p∈([]:List (Addr×Obj)) from hp) (by simp)⟩
  intro hz
  obtain⟨_,f1,f2,_⟩:=hf b hb
  rcases List.mem_cons.mp (I.stkSub b hz) with e | e
  ·exact f1 e
  ·exact f2 e
 have loop:∀ s4:Shared,s4={ s3 with heap:=h₁,toks:=s3.toks }→
   codeAny (model X.prog X.w) X.A (.compLoop (.DictComp kx vx [⟨tg,iter,ifs,0⟩] scope pos) 0 (.ref it) (.ref s.heap.objs.size) (compEnvC scope cl s3.heap.objs.size X.env)) (RR (.ref s.heap.objs.size) s3.heap.objs.size) s4:=by
  intro s4 hs4
  refine compLoop_anyD (fun n s'=>∃ i σ' H',Inv (cxC X N' scope cl fp s3 (upd H s.heap.objs.size (.dK []))) [] σ' H' s'∧tn i s'.heap∧(∀ b∈fp,H' b=none)∧W i n σ' H') ?_ m0
   ⟨0,frσ fr σ,_,by rw[hs4];exact I4,by rw[hs4];exact T.keep _ _ _ st fun b _ o e=>old3 b o (old b o e),fun b hb=>(hf3 b hb).1,w0⟩
  rintro n s5 ⟨i,σ5,H5,I5,st5,fr5,w5⟩
  rcases turn i n σ5 H5 w5 with ⟨stop,qn⟩ | ⟨go,N,hN,step⟩
  ·refine cU (T.done (cxC X N' scope cl fp s3 (upd H s.heap.objs.size (.dK []))) rfl rfl rfl hc i [] s5 σ5 H5 _ I5 (stat fr5) st5 stop) fun r s6 ⟨hr,I6⟩=>?_
   subst hr
   obtain⟨m',hm',_⟩:=I6.loc
   exact hRR _ _ H5 s6 m' (I3.outC I6 hf3) qn hm' (I3.fpOk (Nat.le_refl _) I6.free)
  ·refine cU (T.item (cxC X N' scope cl fp s3 (upd H s.heap.objs.size (.dK []))) rfl rfl rfl hc i [] s5 σ5 H5 _ I5 (stat fr5) st5 go) fun r s6 ⟨u,hr,h6⟩=>?_
   subst hr
   refine cU h6 fun _ s7 ⟨x,H7,I7,r7,y7,st7,fr7⟩=>?_
   have I7':=I7.pinned (stat fr7) (T.obj _ _ st7)
   refine wpAny_mono (hg fp s3 _ _ s7 σ5 H7 x u _ I7' r7 (step x H7 y7)) (fun _ s8 ⟨σ8,H8,I8,q8⟩=>?_) fun e s' z=>(hx e s' z).elim
   refine wpAny_mono (ht fp s3 _ _ s8 σ8 H8 _ I8 q8) (fun ok s9 ⟨H9,I9,q9⟩=>?_) fun e s' z=>(hx e s' z).elim
   have again:∀ {s10:Shared}{H10:Hp},Inv (cxC X N' scope cl fp s3 (upd H s.heap.objs.size (.dK []))) ([]++pinsAt fp s7.heap) σ8 H10 s10→N σ8 H10→
     ∃ m,m < n∧∃ i σ' H',Inv (cxC X N' scope cl fp s3 (upd H s.heap.objs.size (.dK []))) [] σ' H' s10∧tn i s10.heap∧(∀ b∈fp,H' b=none)∧W i m σ' H':=fun {s10 H10} I10 n10=>by
    obtain⟨m',hm,w10⟩:=hN σ8 H10 n10
    refine⟨m',hm,i+1,σ8,H10,I10.unpinned,T.keep _ _ _ st7 fun b hb o e=>(I10.pin (b,o) (List.mem_append_right _ (List.mem_append_right _ (mem_pinsAt hb e)))).1,fun b hb=>?_,w10⟩
    obtain⟨o,e,d⟩:=T.obj _ _ st7 b hb
    exact (I10.pin (b,o) (List.mem_append_right _ (List.mem_append_right _ (mem_pinsAt hb e)))).2.1
   cases ok with
   | false=>
    rw[if_neg Bool.false_ne_true] at q9 ⊢
    exact again I9 q9
   | true=>
    rw[if_pos rfl] at q9 ⊢
    refine wpAny_mono (hk fp s3 _ _ s9 σ8 H9 _ I9 q9) (fun y s10 ⟨yv,H10,I10,r10,q10⟩=>?_) fun e s' z=>(hx e s' z).elim
    refine wpAny_mono (hv fp s3 _ _ s10 σ8 H10 _ I10 q10) (fun z s11 ⟨zv,H11,I11,r11,kvs,kk,ey,hD,hlen,q11⟩=>?_) fun e s' z=>(hx e s' z).elim
    subst ey
    exact d_dictSet (X:=cxC X N' scope cl fp s3 (upd H s.heap.objs.size (.dK []))) I11 hD hlen r10 r11 fun s12 I12=>again I12 q11
 exact codeAny_compStart_dict (loop _ (by rw[← e3s];rfl)) (T.self X.A 0 _ _ _ (T.keep _ _ _ st fun b _ o e=>old3 b o (old b o e)) (loop _ (by rw[← e3s];rfl)))
theorem pe_dc {kx vx tg iter:Expr}{ifs:List Expr}{scope:Scope}{pos:Pos}{N':List Str}{fr:List (Option Nat)}{cl:List (Str×Addr)}{wi:TI}{g:TG}{tc:TT}{tk tv:TE}
  (hx:∀ e s,¬ X.xe e s) (hc:X.calm=true) (S:LcOk X scope cl N' fr) (hi:PI X tg iter wi)
  (hg:∀ fp s H,PG (cxC X N' scope cl fp s H) tg g) (ht:∀ fp s H,PIf (cxC X N' scope cl fp s H) ifs tc) (hk:∀ fp s H,PE (cxC X N' scope cl fp s H) kx tk) (hv:∀ fp s H,PE (cxC X N' scope cl fp s H) vx tv)
  (hs:∀ x,foldedSetIterable iter X.env x=pure x:=by intro _;rfl):PE X (.DictComp kx vx [⟨tg,iter,ifs,0⟩] scope pos) (tDC wi fr g tc tk tv):=by
 intro pins s σ H Q I h
 have hloc:=S.locs
 rw[List.all_eq_true] at hloc
 show wpAny _ X.A (comprehension (.DictComp kx vx [⟨tg,iter,ifs,0⟩] scope pos) scope X.env _ newDict false (eval iter X.env)) _ _ s
 refine wpAny_comprehension_free (use:=none) rfl hs S.clos S.kind (fun x hx' hl=>by have:=hloc x hx';rw[hl] at this;simpa using this) (cU (hi pins s σ H _ I h) fun v s1 h1=>cU h1 fun itv s2 h2=>?_)
 obtain⟨it,fp,tn,J,H2,e,I2,T,st2,f2,rest⟩:=h2
 subst e
 refine dc_block (RR:=fun acc C=>compPost (model X.prog X.w) X.A X.xe none (EP X pins σ Q) acc C) hx hc S hg ht hk hv I2 T st2 f2 rest ?_
 intro D C H' s' m' I' q hn f
 exact⟨m',hn,fun h' hsb=>⟨.ref D,H',I'.letgo f hsb,rfl,q⟩⟩
end
end L2
namespace Tw
open PySem L2
noncomputable def aX (i:Nat):Stmt:=PySem.Challenge.pw_tipwell_k24_whole_led_on.main.body.getD i (.Pass ⟨0,0,0,0⟩)
structure Txt (mg:Str→Option Value):Prop where
 b_len:mg "len" = none
 b_sum:mg "sum" = none
 b_all:mg "all" = none
 b_max:mg "max" = none
 b_min:mg "min" = none
 b_int:mg "int" = none
 b_tuple:mg "tuple" = none
 b_list:mg "list" = none
 b_bool:mg "bool" = none
 b_range:mg "range" = none
 b_zip:mg "zip" = none
 b_enumerate:mg "enumerate" = none
 b_isinstance:mg "isinstance" = none
 b_divmod:mg "divmod" = none
 b_set:mg "set" = none
 b_sorted:mg "sorted" = none
noncomputable def keyO:Option Int→eF
 | none=>.inr none
 | some i=>.inl i
theorem keyO_V (k:Option Int):kV (keyO k)=tgV k:=by cases k <;> rfl
theorem keyO_inj {a b:Option Int} (h:keyO a=keyO b):a=b:=by
 cases a <;> cases b <;> simp_all [keyO]
noncomputable def DictG (H:Hp) (d:Addr) (gs:List (Option Int×Int)):Prop:=
 ∃ kvs:List (eF×V),H d=some (.dK kvs)∧kvs.length≤gs.length∧∀ k:Option Int,(eM kvs (keyO k)).getD (.int 0)=.int (bB k gs)
theorem DictG.mut {H:Hp}{d:Addr}{gs:List (Option Int×Int)} (h:DictG H d gs):Mut (H d):=by
 obtain⟨kvs,e,_⟩:=h;rw[e];exact trivial
section
variable {P:Program}{w:World}{K:PySem.W.Frag}{mg:Str→Option Value}{base:Heap}
noncomputable def spSend:Sp:=fun vs H Q _=>∃ (d:Addr) (t:Option Int) (a:Int) (gs:List (Option Int×Int)),vs=[.ref d,tgV t,.int a]∧DictG H d gs∧gs.length≤1000∧
 ∀ H',cK d H H'→DictG H' d (gs++[(t,a)])→Q .non H'
theorem sc_send:FnScope ["sent","target","amount"] ["sent","target","amount"] (aJ (aX 40)):=⟨rfl,rfl,rfl,by decide +kernel,rfl,by decide +kernel,by decide +kernel⟩
theorem ok_send {f:Addr}{fd:FuncData} (F:Fun K "send" "send" (aX 40) f fd) (T:Txt mg):FnOk P w K mg base CX0 1 f fd ["sent","target","amount"] spSend:=by
 refine F.ok sc_send (fun vs H Q E h=>?_) (fun cdv A outer s H vs Q E hr h=>?_)
 ·obtain⟨d,t,a,gs,rfl,_⟩:=h;rfl
 ·obtain⟨d,t,a,gs,rfl,⟨kvs,hd,hl,hv⟩,hg,k⟩:=h
  have sc:=sc_send
  have hu:=hu_of hr
  refine⟨_,(aM (ps_dput hu (pv 0) (pv 1) (aY cH (pe_dget2 hu (pv 0) (pv 1) aH ⟨rfl,rfl,rfl,rfl⟩) (pv 2)) rfl)),?_⟩
  have hget:=DGet.k (k:=keyO t) hd
  rw[keyO_V] at hget
  have hput:=DPut.k (k:=keyO t) (v:=V.int (bB t gs+a)) hd (aQ (by omega))
  rw[keyO_V] at hput
  refine⟨_,rfl,d,rfl,.inl ⟨kvs,.inl hd⟩,_,rfl,eM kvs (keyO t),hget,_,rfl,_,_,hv t,rfl,_,rfl,_,rfl,d,_,rfl,hput,?_⟩
  refine k _ cK.upd ⟨_,aD,?_,fun k'=>?_⟩
  ·have:=length_putK kvs (keyO t) (V.int (bB t gs+a))
   rw[List.length_append];simp;omega
  ·rw[valV_put,cD]
   by_cases e:k'=t
   ·subst e
    rw[if_pos rfl]
    show V.int _=V.int _
    simp [bB]
   ·rw[if_neg (fun z=>e (keyO_inj z)),hv k']
    have:¬ t=k':=fun z=>e z.symm
    simp [bB,this]
end
end Tw
namespace Tw
open PySem L2
section
variable {P:Program}{w:World}{K:PySem.W.Frag}{mg:Str→Option Value}{base:Heap}
theorem bJ {α:Type}{xs:List α}{i:Nat}{x:α} (h:xs[i]? = some x):xs.take (i+1)=xs.take i++[x]:=by
 rw[List.take_succ,h];rfl
theorem outs_at {H:Hp}{outs:List (Option Int×Int)}{xs:List V}{i:Nat}{x:V} (l:IsL K H (outs.map outD) xs) (h:xs[i]? = some x) :
  ∃ o,outs[i]? = some o∧∃ a,x=.ref a∧bR K H a [tgV o.1,.int o.2]:=by
 obtain⟨d,hd,hx⟩:=l.get' h
 rw[List.getElem?_map] at hd
 cases e:outs[i]? with
 | none=>rw[e] at hd;cases hd
 | some o=>
  rw[e] at hd
  cases hd
  refine⟨o,rfl,?_⟩
  obtain⟨a,ys,rfl,q,l⟩:=(show Is K H (.tup [tgD o.1,.int o.2]) x from hx).un
  obtain⟨y,r,rfl,hy,l⟩:=l.un
  obtain⟨z,r,rfl,hz,l⟩:=l.un
  have:=l.un0
  subst this
  rw[Is.tg hy,hz.ui] at q
  exact⟨a,rfl,q⟩
noncomputable def spShare (K:PySem.W.Frag):Sp:=fun vs H Q _=>∃ (o d:Addr) (has:Int) (outs gs:List (Option Int×Int)) (n:Nat),vs=[.ref o,.int has,.ref d]∧Is K H (.tup (outs.map outD)) (.ref o)∧DictG H d gs∧gs.length+3≤1000∧
 outs≠[]∧outs.length≤3∧(∀ x∈outs,OutOk n x)∧∀ H',cK d H H'→DictG H' d (gs++outs.map fun x=>(x.1,has / whole outs * x.2))→Q (.int (has % whole outs)) H'
theorem sc_share_out:FnScope ["outs","has","sent","whole","times","target","parts"] ["outs","has","sent"] (aJ (aX 39)):=⟨rfl,rfl,rfl,by decide +kernel,rfl,by decide +kernel,by decide +kernel⟩
theorem ok_share_out {f fS:Addr}{fd fdS:FuncData} (F:Fun K "share_out" "share_out" (aX 39) f fd) (T:Txt mg) (G_send:Callee P w K mg base "send" ["sent","target","amount"] 1 spSend fS fdS):FnOk P w K mg base CX0 2 f fd ["outs","has","sent"] (spShare K):=by
 refine F.ok sc_share_out (fun vs H Q E h=>?_) (fun cdv A outer s H vs Q E hr h=>?_)
 ·obtain⟨o,d,has,outs,gs,n,rfl,_⟩:=h;rfl
 ·obtain⟨o,d,has,outs,gs,n,rfl,ho,hd,hg,hne,h3,hok,k⟩:=h
  have sc:=sc_share_out
  refine⟨_,(aE (bE (i:=3) sc.nd rfl (Or.inl rfl) (aS (call_sumK (K:=K) rfl rfl) rfl T.b_sum PyProof.Rows.boot_sum (aA (pe_lc (fun _ _ h=>h) rfl (LcOk.mk (N':=["target","parts"]) (fr:=[none,none]) rfl trivial rfl rfl rfl rfl rfl trivial) (d8 (K:=K) rfl (pv 0)) (fun _ _ _=>(aW (K:=K) (n:=2) rfl rfl (aG (aF (i:=0) (show (["target","parts"]:List Str).Nodup by decide +kernel) rfl (Or.inl rfl) (Or.inr rfl)) (aG (aF (i:=1) (show (["target","parts"]:List Str).Nodup by decide +kernel) rfl (Or.inl rfl) (Or.inr rfl)) aV)))) (fun _ _ _=>cP) (fun _ _ _=>(pv 1))) aB)))
   (aE (bE (i:=4) sc.nd rfl (Or.inl rfl) (aY op_fdiv (pv 1) (aS (call_max2 rfl) rfl T.b_max PyProof.Rows.boot_max (aA aH (aA (pv 3) aB)))))
   (aE (dN PassesOwn.never rfl (d8 (K:=K) rfl (pv 0)) (aW (K:=K) (n:=2) rfl rfl (aG (aF (i:=5) sc.nd rfl (Or.inl rfl)) (aG (aF (i:=6) sc.nd rfl (Or.inl rfl)) aV))) (aM (cL (d7 G_send hr (aA (pv 2) (aA (pv 5) (aA (aY op_mul (pv 6) (pv 4)) aB)))))))
   (aM (bG (aY op_sub (pv 1) (aY op_mul (pv 3) (pv 4)))))))),?_⟩
  have hw1:=whole_pos hne hok
  have hw2:=whole_le hok
  obtain⟨o',xs,e,hq,hl⟩:=ho.un
  cases e
  have hxl:xs.length=outs.length:=by rw[hl.length,List.length_map]
  refine⟨_,rfl,o,rfl,⟨_,hq⟩,eT (K:=K) (a:=o) (xs:=xs) (fun D i ys σ' H'=>H D=none∧aK H H'∧H' D=some (.lst ys)∧ys=(outs.take i).map (fun x=>V.int x.2)∧∃ x y,σ'=[x,y])
   (fun D i ys σ' H' p=>p.2.1.tup hq) (fun D hD=>⟨hD,aK.new hD,aD,by simp,none,none,rfl⟩) ?_ ?_⟩
  rotate_left
  ·rintro D i x ys σ' H' hx ⟨hD,sm,hDl,rfl,v1,v2,rfl⟩
   obtain⟨ot,hot,a,rfl,qa⟩:=outs_at hl hx
   have hil:=(List.getElem?_eq_some_iff.mp hot).1
   refine⟨a,_,rfl,sm.tup qa,rfl,_,_,rfl,_,_,rfl,rfl,?_⟩
   refine yes_of ⟨_,rfl,hDl,aQ (by simp;omega),hD,sm.put hD,aD,?_,_,_,rfl⟩
   rw[bJ hot];simp
  ·rintro D ys σ' H1 ⟨hD,sm,hDl,rfl,_⟩
   rw[hxl,List.take_length] at hDl
   refine⟨false,D,outs.map (·.2),rfl,bY.of (by rw[List.map_map];exact hDl),?_⟩
   refine⟨_,rfl,_,rfl,_,_,rfl,_,_,rfl,rfl,?_,?_⟩
   ·show 0 < (if whole outs > 1 then whole outs else 1)∧(if whole outs > 1 then whole outs else 1) < 1073741824
    split <;> omega
   have hm:(if whole outs > 1 then whole outs else 1)=whole outs:=by split <;> omega
   show tSeq _ _ _ [some (V.ref o),some (V.int has),some (V.ref d),some (V.int (whole outs)),some (V.int (has / (if whole outs > 1 then whole outs else 1))),none,none] _
   rw[hm]
   have hd1:DictG H1 d gs:=by obtain⟨kvs,e,r⟩:=hd;exact⟨kvs,sm _ _ e,r⟩
   have tsH:bU K H H1:=sm.ts
   refine⟨_,rfl,o,rfl,⟨_,sm.tup hq⟩,for_tup (K:=K) (a:=o) (xs:=xs) (fun i σ' H'=>cK d H1 H'∧DictG H' d (gs++(outs.take i).map fun x=>(x.1,has / whole outs * x.2))∧
    ∃ x y,σ'=[some (V.ref o),some (V.int has),some (V.ref d),some (V.int (whole outs)),some (V.int (has / whole outs)),x,y]) ⟨cK.refl _,by simpa using hd1,none,none,rfl⟩
    (fun i σ' H' _ p=>(p.1.ts hd1.mut) _ _ (sm.tup hq)) ?_ ?_⟩
   ·rintro i x σ' H2 hx ⟨bt,dg,v1,v2,rfl⟩
    obtain⟨ot,hot,a,rfl,qa⟩:=outs_at hl hx
    have hil:=(List.getElem?_eq_some_iff.mp hot).1
    have hom:=hok ot (List.mem_of_getElem? hot)
    refine⟨a,_,rfl,(bt.ts hd1.mut) _ _ (sm.tup qa),rfl,_,_,rfl,_,_,rfl,rfl,?_⟩
    refine⟨_,rfl,_,rfl,_,rfl,_,rfl,_,_,rfl,rfl,.inl ⟨by have:=hom.lo;omega,by have:=hom.hi;omega⟩,d,ot.1,ot.2 * (has / whole outs),_,rfl,dg,by simp;omega,fun H' bt' dg'=>?_⟩
    refine⟨bt.trans bt',?_,_,_,rfl⟩
    rw[bJ hot,List.map_append,← List.append_assoc]
    rw[Int.mul_comm] at dg'
    exact dg'
   ·rintro σ' H2 ⟨bt,dg,v1,v2,rfl⟩
    rw[hxl,List.take_length] at dg
    refine⟨_,rfl,_,rfl,_,rfl,_,_,rfl,rfl,.inl ⟨by omega,by omega⟩,_,_,rfl,rfl,?_⟩
    have e:has - whole outs * (has / whole outs)=has % whole outs:=by
     have:=Int.emod_add_mul_ediv has (whole outs);omega
    show Q (V.int (has - whole outs * (has / whole outs))) H2
    rw[e]
    exact k H2 (sm.but.trans bt) dg
theorem vs_un {H:Hp}{v:Vs}{x:V} (h:Is K H (vsD v) x):∃ (a:Addr) (o c:V),x=.ref a∧bR K H a [.int v.size,.int v.brim,o,.bl v.holds,tgV v.spill,c]∧Is K H (.tup (v.outs.map outD)) o∧Is K H (.tup (v.acts.map actD)) c:=by
 obtain⟨a,xs,rfl,q,l⟩:=(show Is K H (.tup [.int v.size,.int v.brim,.tup (v.outs.map outD),.bl v.holds,tgD v.spill,.tup (v.acts.map actD)]) x from h).un
 obtain⟨x1,r,rfl,h1,l⟩:=l.un
 obtain⟨x2,r,rfl,h2,l⟩:=l.un
 obtain⟨x3,r,rfl,h3,l⟩:=l.un
 obtain⟨x4,r,rfl,h4,l⟩:=l.un
 obtain⟨x5,r,rfl,h5,l⟩:=l.un
 obtain⟨x6,r,rfl,h6,l⟩:=l.un
 have:=l.un0
 subst this
 rw[h1.ui,h2.ui,h4.ub,Is.tg h5] at q
 exact⟨a,x3,x6,rfl,q,h3,h6⟩
noncomputable def spSettle (K:PySem.W.Frag):Sp:=fun vs H Q _=>∃ (x:V) (d:Addr) (has:Int) (v:Vs) (gs:List (Option Int×Int)) (n m:Nat),vs=[x,.int has,.ref d]∧Is K H (vsD v) x∧DictG H d gs∧gs.length+5≤1000∧VOk n m v∧
 ∀ p H',cK d H H'→DictG H' d (gs++cY v has)→bR K H' p [.int (dY v has),.bl (dJ v has)]→Q (.ref p) H'
theorem sc_settle:FnScope ["vessel","has","sent","size","brim","outs","holds","spill","acts","over","left"] ["vessel","has","sent"] (aJ (aX 38)):=⟨rfl,rfl,rfl,by decide +kernel,rfl,by decide +kernel,by decide +kernel⟩
theorem ok_settle {f fS fO:Addr}{fd fdS fdO:FuncData} (F:Fun K "settle" "settle" (aX 38) f fd) (T:Txt mg) (G_send:Callee P w K mg base "send" ["sent","target","amount"] 1 spSend fS fdS)
  (G_share_out:Callee P w K mg base "share_out" ["outs","has","sent"] 2 (spShare K) fO fdO):FnOk P w K mg base CX0 3 f fd ["vessel","has","sent"] (spSettle K):=by
 refine F.ok sc_settle (fun vs H Q E h=>?_) (fun cdv A outer s H vs Q E hr h=>?_)
 ·obtain⟨x,d,has,v,gs,n,m,rfl,_⟩:=h;rfl
 ·obtain⟨x,d,has,v,gs,n,m,rfl,hx,hd,hg,ok,k⟩:=h
  have sc:=sc_settle
  refine⟨_,(aE (bS (pv 0) (aW (K:=K) (n:=6) rfl rfl (aG (aF (i:=3) sc.nd rfl (Or.inl rfl)) (aG (aF (i:=4) sc.nd rfl (Or.inl rfl)) (aG (aF (i:=5) sc.nd rfl (Or.inl rfl)) (aG (aF (i:=6) sc.nd rfl (Or.inl rfl)) (aG (aF (i:=7) sc.nd rfl (Or.inl rfl)) (aG (aF (i:=8) sc.nd rfl (Or.inl rfl)) aV))))))))
   (aE (bE (i:=9) sc.nd rfl (Or.inl rfl) (aS (call_max2 rfl) rfl T.b_max PyProof.Rows.boot_max (aA aH (aA (aY op_sub (pv 1) (pv 4)) aB))))
   (aE (cL (d7 G_send hr (aA (pv 2) (aA (pv 7) (aA (pv 9) aB)))))
   (aE (ps_aug (i:=1) sc.nd rfl (Or.inl rfl) (pv 9) ip_sub)
   (aE (dC (cX op_lt (pv 1) (pv 3) (cQ _)) (aM (bG (bT (aA (pv 1) (aA pe_bl aB))))) bV)
   (aE (bE (i:=10) sc.nd rfl (Or.inl rfl) (d7 G_share_out hr (aA (pv 5) (aA (pv 1) (aA (pv 2) aB)))))
   (aE (dC (dL (pv 6)) (aM (bG (bT (aA (pv 10) (aA pe_bl aB))))) bV)
   (aE (cL (d7 G_send hr (aA (pv 2) (aA pe_non (aA (pv 10) aB)))))
   (aM (bG (bT (aA aH (aA pe_bl aB))))))))))))),?_⟩
  obtain⟨a,o,c,rfl,q,ho,hc⟩:=vs_un hx
  refine⟨_,rfl,a,_,rfl,q,rfl,_,_,rfl,_,_,rfl,_,_,rfl,_,_,rfl,_,_,rfl,_,_,rfl,rfl,?_⟩
  refine⟨_,rfl,_,rfl,_,_,rfl,rfl,_,_,rfl,?_⟩
  have eo:(if has - v.brim > 0 then has - v.brim else 0)=has - bL v has:=by unfold bL;split <;> omega
  show tSeq _ _ _ [some (V.ref a),some (V.int has),some (V.ref d),some (V.int v.size),some (V.int v.brim),some o,some (V.bl v.holds),some (tgV v.spill),some c,some (V.int (if has - v.brim > 0 then has - v.brim else 0)),none] _
  rw[eo]
  refine⟨_,rfl,_,rfl,_,rfl,d,v.spill,has - bL v has,gs,rfl,hd,by omega,fun H1 b1 d1=>?_⟩
  have ts1:bU K H H1:=b1.ts hd.mut
  refine⟨_,rfl,_,rfl,_,_,rfl,rfl,?_⟩
  have eh:has - (has - bL v has)=bL v has:=by omega
  show tSeq _ _ _ [some (V.ref a),some (V.int (has - (has - bL v has))),some (V.ref d),some (V.int v.size),some (V.int v.brim),some o,some (V.bl v.holds),some (tgV v.spill),some c,some (V.int (has - bL v has)),none] _
  rw[eh]
  refine⟨_,rfl,_,rfl,_,_,rfl,rfl,_,rfl,?_⟩
  refine ite2 (fun hlt=>?_) (fun hge=>?_)
  ·have hlt':bL v has < v.size:=of_decide_eq_true hlt
   have ht:dJ v has=false:=decide_eq_false (by omega)
   refine⟨_,rfl,(show 2≤sizeLine by decide),fun p hp=>?_⟩
   refine k p _ (b1.trans (aK.new hp).but) ?_ ?_
   ·have:cY v has=[(v.spill,has - bL v has)]:=by unfold cY;rw[ht];rfl
    rw[this]
    obtain⟨kvs,e,r⟩:=d1
    exact⟨kvs,aK.new hp _ _ e,r⟩
   ·have:dY v has=bL v has:=by unfold dY;rw[ht];rfl
    rw[this,ht]
    exact bR.of aD
  ·have hge':v.size≤bL v has:=by simpa using hge
   have ht:dJ v has=true:=decide_eq_true hge'
   obtain⟨oa,os,rfl,_,_⟩:=ho.un
   refine⟨_,rfl,_,rfl,_,rfl,oa,d,bL v has,v.outs,_,n,rfl,Is.mono ts1 _ _ ho,d1,by simp;omega,ok.ne,ok.o3,ok.outs,fun H2 b2 d2=>?_⟩
   refine⟨_,rfl,_,rfl,?_⟩
   cases hh:v.holds with
   | true=>
    refine iteT ?_
    refine⟨_,rfl,(show 2≤sizeLine by decide),fun p hp=>?_⟩
    refine k p _ (b1.trans (b2.trans (aK.new hp).but)) ?_ ?_
    ·have:gs++cY v has=(gs++[(v.spill,has - bL v has)])++v.outs.map fun x=>(x.1,bL v has / whole v.outs * x.2):=by
      unfold cY eP;rw[ht,hh];simp
     rw[this]
     obtain⟨kvs,e,r⟩:=d2
     exact⟨kvs,aK.new hp _ _ e,r⟩
    ·have:dY v has=bL v has % whole v.outs:=by unfold dY;rw[ht,hh];rfl
     rw[this,ht]
     exact bR.of aD
   | false=>
    refine eJ ?_
    refine⟨_,rfl,_,rfl,d,none,bL v has % whole v.outs,_,rfl,d2,by simp;have:=ok.o3;omega,fun H3 b3 d3=>?_⟩
    refine⟨(show 2≤sizeLine by decide),fun p hp=>?_⟩
    refine k p _ (b1.trans (b2.trans (b3.trans (aK.new hp).but))) ?_ ?_
    ·have:gs++cY v has=((gs++[(v.spill,has - bL v has)])++v.outs.map fun x=>(x.1,bL v has / whole v.outs * x.2))++[(none,bL v has % whole v.outs)]:=by
      unfold cY eP;rw[ht,hh];simp
     rw[this]
     obtain⟨kvs,e,r⟩:=d3
     exact⟨kvs,aK.new hp _ _ e,r⟩
    ·have:dY v has=0:=by unfold dY;rw[ht,hh];rfl
     rw[this,ht]
     exact bR.of aD
end
end Tw
namespace Tw
open PySem L2
section
variable {P:Program}{w:World}{K:PySem.W.Frag}{mg:Str→Option Value}{base:Heap}
theorem acts_at {H:Hp}{acts:List (Str×Int)}{xs:List V}{i:Nat}{x:V} (l:IsL K H (acts.map actD) xs) (h:xs[i]? = some x) :
  ∃ o,acts[i]? = some o∧∃ a,x=.ref a∧bR K H a [.str o.1,.int o.2]:=by
 obtain⟨d,hd,hx⟩:=l.get' h
 rw[List.getElem?_map] at hd
 cases e:acts[i]? with
 | none=>rw[e] at hd;cases hd
 | some o=>
  rw[e] at hd
  cases hd
  refine⟨o,rfl,?_⟩
  obtain⟨a,ys,rfl,q,l⟩:=(show Is K H (.tup [.str o.1,.int o.2]) x from hx).un
  obtain⟨y,r,rfl,hy,l⟩:=l.un
  obtain⟨z,r,rfl,hz,l⟩:=l.un
  have:=l.un0
  subst this
  rw[hy.us,hz.ui] at q
  exact⟨a,rfl,q⟩
theorem act1_len (ds:List Bool) (a:Str×Int):(act1 ds a).length=ds.length:=by unfold act1;simp
theorem actsL_len:∀ (as:List (Str×Int)) (ds:List Bool),(cF ds as).length=ds.length
 | [],ds=>rfl
 | a::as,ds=>by
  show (cF (act1 ds a) as).length=_
  rw[actsL_len as,act1_len]
theorem doorsL_len (vs:List Vs):∀ (tip:List Nat) (ds:List Bool),(bI vs ds tip).length=ds.length
 | [],ds=>rfl
 | i::r,ds=>by
  show (bI vs (match vs[i]? with | some v=>cF ds v.acts | none=>ds) r).length=_
  rw[doorsL_len vs r]
  cases vs[i]? with
  | none=>rfl
  | some v=>exact actsL_len _ _
theorem actsL_snoc (ds:List Bool) (as:List (Str×Int)) (a:Str×Int):cF ds (as++[a])=act1 (cF ds as) a:=by
 unfold cF;rw[List.foldl_append];rfl
theorem doorsL_snoc (vs:List Vs) (ds:List Bool) (tip:List Nat) (i:Nat) (v:Vs) (h:vs[i]? = some v):bI vs ds (tip++[i])=cF (bI vs ds tip) v.acts:=by
 unfold bI;rw[List.foldl_append]
 show (match vs[i]? with | some v=>_ | none=>_)=_
 rw[h]
noncomputable def spDoors (K:PySem.W.Frag):Sp:=fun args H Q _=>∃ (x y:V) (t:Addr) (vs:List Vs) (doors:List Bool) (tip:List Nat) (n:Nat),args=[x,y,.ref t]∧Is K H (.tup (vs.map vsD)) x∧Is K H (.tup (doors.map D.bl)) y∧
 bY K H t (tip.map fun (i:Nat)=>V.int (i:Int))∧(∀ i∈tip,i < vs.length)∧(∀ v∈vs,VOk n doors.length v)∧doors.length≤12∧
 ∀ p H',aK H H'→Is K H' (.tup ((bI vs doors tip).map D.bl)) p→Q p H'
theorem sc_doors_behind:FnScope ["vessels","doors","tipped","behind","number","size","brim","outs","holds","spill","acts","word","spout"] ["vessels","doors","tipped"] (aJ (aX 41)):=⟨rfl,rfl,rfl,by decide +kernel,rfl,by decide +kernel,by decide +kernel⟩
theorem ok_doors_behind {f:Addr}{fd:FuncData} (F:Fun K "doors_behind" "doors_behind" (aX 41) f fd) (T:Txt mg):FnOk P w K mg base CX0 1 f fd ["vessels","doors","tipped"] (spDoors K):=by
 refine F.ok sc_doors_behind (fun vs H Q E h=>?_) (fun cdv A outer s H vs Q E hr h=>?_)
 ·obtain⟨x,y,t,vs,doors,tip,n,rfl,_⟩:=h;rfl
 ·obtain⟨x,y,t,vs,doors,tip,n,rfl,hx,hy,ht,htip,hok,hm,k⟩:=h
  have sc:=sc_doors_behind
  refine⟨_,(aE (bE (i:=3) sc.nd rfl (Or.inl rfl) (bD (call_lstK (K:=K) rfl) rfl T.b_list bt_list (aA (pv 1) aB)))
   (aE (dN PassesOwn.never rfl (pi_listK (K:=K) rfl (pv 2)) (aF (i:=4) sc.nd rfl (Or.inl rfl)) (aE (bS (aP (aL (K:=K) rfl) (pv 0) (pv 4) (fun _ _=>rfl)) (aW (K:=K) (n:=6) rfl rfl (aG (aF (i:=5) sc.nd rfl (Or.inl rfl)) (aG (aF (i:=6) sc.nd rfl (Or.inl rfl)) (aG (aF (i:=7) sc.nd rfl (Or.inl rfl)) (aG (aF (i:=8) sc.nd rfl (Or.inl rfl)) (aG (aF (i:=9) sc.nd rfl (Or.inl rfl)) (aG (aF (i:=10) sc.nd rfl (Or.inl rfl)) aV))))))))
   (aM (dN PassesOwn.never rfl (d8 (K:=K) rfl (pv 10)) (aW (K:=K) (n:=2) rfl rfl (aG (aF (i:=11) sc.nd rfl (Or.inl rfl)) (aG (aF (i:=12) sc.nd rfl (Or.inl rfl)) aV))) (aM (bS (pe_or (pe_cmpR op_eq (pv 11) pe_str (cQ _)) (pe_one (pe_and (pe_cmpR op_eq (pv 11) pe_str (cQ _)) (pe_one (pe_not (aP (aL (K:=K) rfl) (pv 3) (pv 12) (fun _ _=>rfl))))))) (pg_sub (pv 3) (pv 12) set_list)))))))
   (aM (bG (bD (cC (K:=K) rfl) rfl T.b_tuple cN (aA (pv 3) aB)))))),?_⟩
  obtain⟨ax,xs,rfl,qx,lx⟩:=hx.un
  obtain⟨ay,ys,rfl,qy,ly⟩:=hy.un
  have ey:=ly.bools
  subst ey
  have exl:xs.length=vs.length:=by rw[lx.length,List.length_map]
  refine⟨_,rfl,ay,_,rfl,.inr qy,fun b hb=>?_⟩
  have nb:∀ {c:Addr}{o:HO},H c=some o→c≠b:=fun e=>aO e hb
  refine⟨_,rfl,t,rfl,⟨_,(aK.new hb).seq ht⟩,for_list (K:=K) (a:=t) (xs:=tip.map fun (i:Nat)=>V.int (i:Int))
   (fun i σ' H'=>aK H H'∧H' b=some (.lst ((bI vs doors (tip.take i)).map V.bl))∧∃ v4 v5 v6 v7 v8 v9 v10 v11 v12,σ'=[some (.ref ax),some (.ref ay),some (.ref t),some (.ref b),v4,v5,v6,v7,v8,v9,v10,v11,v12])
   ⟨aK.new hb,aD,none,none,none,none,none,none,none,none,none,rfl⟩ (fun i σ' H' _ p=>p.1.seq ht) ?_ ?_⟩
  ·rintro i x σ' H1 hi ⟨sm,hbl,v4,v5,v6,v7,v8,v9,v10,v11,v12,rfl⟩
   rw[List.getElem?_map] at hi
   obtain⟨j,hj,rfl⟩:=Option.map_eq_some_iff.mp hi
   have hjv:=htip j (List.mem_of_getElem? hj)
   have hv:vs[j]? = some vs[j]:=by simp [hjv]
   have hvok:=hok vs[j] (List.getElem_mem hjv)
   obtain⟨xv,hxv,ixv⟩:=lx.get (i:=j) (d:=vsD vs[j]) (by rw[List.getElem?_map,hv];rfl)
   obtain⟨va,o,c,rfl,qv,ho,hc⟩:=vs_un ixv
   refine⟨_,rfl,_,rfl,.inr (.inl ⟨ax,xs,j,_,rfl,rfl,sm.tup qx,cT hxv,va,_,rfl,sm.tup qv,rfl,_,_,rfl,_,_,rfl,_,_,rfl,_,_,rfl,_,_,rfl,_,_,rfl,rfl,?_⟩)⟩
   obtain⟨ca,cs,rfl,qc,lc⟩:=hc.un
   have ecs:cs.length=vs[j].acts.length:=by rw[lc.length,List.length_map]
   refine⟨_,rfl,ca,rfl,⟨_,sm.tup qc⟩,for_tup (K:=K) (a:=ca) (xs:=cs)
    (fun l σ' H'=>aK H H'∧H' b=some (.lst ((cF (bI vs doors (tip.take i)) (vs[j].acts.take l)).map V.bl))∧
     ∃ u11 u12,σ'=[some (.ref ax),some (.ref ay),some (.ref t),some (.ref b),some (.int (j:Int)),some (.int vs[j].size),some (.int vs[j].brim),some o,some (.bl vs[j].holds),some (tgV vs[j].spill),some (.ref ca),u11,u12])
    ⟨sm,hbl,v11,v12,rfl⟩ (fun l σ' H' _ p=>p.1.tup qc) ?_ ?_⟩
   ·rintro l x σ' H2 hl ⟨sm2,hb2,u11,u12,rfl⟩
    obtain⟨at',hat,aa,rfl,qa⟩:=acts_at lc hl
    have aok:=hvok.acts at' (List.mem_of_getElem? hat)
    refine⟨aa,_,rfl,sm2.tup qa,rfl,_,_,rfl,_,_,rfl,rfl,?_⟩
    have hdl:(cF (bI vs doors (tip.take i)) (vs[j].acts.take l)).length=doors.length:=by rw[actsL_len,doorsL_len]
    have hsp:at'.2.toNat < (cF (bI vs doors (tip.take i)) (vs[j].acts.take l)).length:=by rw[hdl];have:=aok.lo;have:=aok.hi;omega
    have fin:∀ c:Bool,c=(if at'.1 = "open" then true else if at'.1 = "turn" then !((cF (bI vs doors (tip.take i)) (vs[j].acts.take l)).getD at'.2.toNat false) else false)→
      aK H (upd H2 b (.lst (((cF (bI vs doors (tip.take i)) (vs[j].acts.take l)).map V.bl).set at'.2.toNat (.bl c))))∧
      upd H2 b (.lst (((cF (bI vs doors (tip.take i)) (vs[j].acts.take l)).map V.bl).set at'.2.toNat (.bl c))) b=some (.lst ((cF (bI vs doors (tip.take i)) (vs[j].acts.take (l+1))).map V.bl)):=fun c hc=>by
     refine⟨sm2.put hb,?_⟩
     rw[aD,bJ hat,actsL_snoc,act1,← hc,List.map_set]
    have set:∀ c:Bool,c=(if at'.1 = "open" then true else if at'.1 = "turn" then !((cF (bI vs doors (tip.take i)) (vs[j].acts.take l)).getD at'.2.toNat false) else false)→
      gSub (cZ 3) (cZ 12) rSetL (.bl c) [some (.ref ax),some (.ref ay),some (.ref t),some (.ref b),some (.int (j:Int)),some (.int vs[j].size),some (.int vs[j].brim),some o,some (.bl vs[j].holds),some (tgV vs[j].spill),some (.ref ca),some (.str at'.1),some (.int at'.2)] H2
       fun σ' H'=>aK H H'∧H' b=some (.lst ((cF (bI vs doors (tip.take i)) (vs[j].acts.take (l+1))).map V.bl))∧
        ∃ u11 u12,σ'=[some (.ref ax),some (.ref ay),some (.ref t),some (.ref b),some (.int (j:Int)),some (.int vs[j].size),some (.int vs[j].brim),some o,some (.bl vs[j].holds),some (tgV vs[j].spill),some (.ref ca),u11,u12]:=fun c hc=>by
     obtain⟨f1,f2⟩:=fin c hc
     refine⟨_,rfl,_,rfl,b,_,at'.2,at'.2.toNat,rfl,rfl,hb2,ixN_nat aok.lo (by rw[List.length_map];omega),f1,f2,_,_,rfl⟩
    refine⟨_,rfl,rfl,_,rfl,?_⟩
    refine ite2 (fun h1=>?_) (fun h1=>?_)
    ·have e1:at'.1 = "open" := by have:=of_decide_eq_true h1;injection this
     exact set true (by rw[if_pos e1])
    ·have e1:¬ at'.1 = "open" := fun z=>h1 (decide_eq_true (by rw[z]))
     refine⟨_,rfl,rfl,_,rfl,?_⟩
     refine ite2 (fun h2=>?_) (fun h2=>?_)
     ·have e2:at'.1 = "turn" := by have:=of_decide_eq_true h2;injection this
      have hg:((cF (bI vs doors (tip.take i)) (vs[j].acts.take l)).map V.bl)[at'.2.toNat]? = some (.bl ((cF (bI vs doors (tip.take i)) (vs[j].acts.take l)).getD at'.2.toNat false)):=by
       rw[List.getElem?_map,List.getD_eq_getElem?_getD];simp [hsp]
      refine⟨_,rfl,_,rfl,.inl ⟨b,_,at'.2,_,rfl,rfl,bY.of hb2,atI_int aok.lo hg,_,rfl,?_⟩⟩
      exact set _ (by rw[if_neg e1,if_pos e2])
     ·have e2:¬ at'.1 = "turn" := fun z=>h2 (decide_eq_true (by rw[z]))
      exact set false (by rw[if_neg e1,if_neg e2])
   ·rintro σ' H2 ⟨sm2,hb2,u11,u12,rfl⟩
    rw[ecs,List.take_length] at hb2
    refine⟨sm2,?_,_,_,_,_,_,_,_,_,_,rfl⟩
    rw[bJ hj,doorsL_snoc vs doors _ j vs[j] hv]
    exact hb2
  ·rintro σ' H1 ⟨sm,hbl,v4,v5,v6,v7,v8,v9,v10,v11,v12,rfl⟩
   rw[List.length_map,List.take_length] at hbl
   refine⟨_,rfl,b,_,rfl,.inl ⟨bY.of hbl,fun l hl=>?_⟩⟩
   exact k _ _ (sm.trans (aK.new hl)) (Is.tupOf (bR.of aD) (IsL.of_bools _))
end
end Tw
namespace Tw
open PySem L2
theorem eK:∀ {a b c:List Int}{n:Nat},a.length=n→b.length=n→c.length=n→(dR a b c).length=n
 | [],b,c,n,h,_,_=>by simp at h;subst h;rfl
 | x::a,[],c,n,h1,h2,_=>by simp at h1 h2;omega
 | x::a,y::b,[],n,h1,_,h3=>by simp at h1 h3;omega
 | x::a,y::b,z::c,n,h1,h2,h3=>by
  simp at h1 h2 h3
  show (dR a b c).length+1=n
  rw[eK (n:=n - 1) (by omega) (by omega) (by omega)];omega
theorem add3_get:∀ {a b c:List Int}{i:Nat}{x y z:Int},a[i]? = some x→b[i]? = some y→c[i]? = some z→(dR a b c)[i]? = some (x+y+z)
 | [],_,_,i,_,_,_,h,_,_=>by simp at h
 | _::_,[],_,i,_,_,_,_,h,_=>by simp at h
 | _::_,_::_,[],i,_,_,_,_,_,h=>by simp at h
 | a::as,b::bs,c::cs,0,x,y,z,h1,h2,h3=>by simp at h1 h2 h3;subst h1 h2 h3;rfl
 | a::as,b::bs,c::cs,i+1,x,y,z,h1,h2,h3=>by
  show (dR as bs cs)[i]? = _
  exact add3_get (by simpa using h1) (by simpa using h2) (by simpa using h3)
theorem fill1_len (has:List Int) (s:Spt) (d:Bool):(eR has s d).length=has.length:=by unfold eR;split <;> simp
theorem dQ:∀ (ss:List Spt) (ds:List Bool) (has:List Int),(cI has ss ds).length=has.length
 | [],ds,has=>by cases ds <;> rfl
 | s::ss,[],has=>rfl
 | s::ss,d::ds,has=>by show (cI (eR has s d) ss ds).length=_;rw[dQ ss ds,fill1_len]
theorem fillL_snoc:∀ (ss:List Spt) (ds:List Bool) (i:Nat) (has:List Int) (s:Spt) (d:Bool),ss[i]? = some s→ds[i]? = some d→cI has (ss.take (i+1)) (ds.take (i+1))=eR (cI has (ss.take i) (ds.take i)) s d
 | [],_,i,_,_,_,h,_=>by simp at h
 | _::_,[],i,_,_,_,_,h=>by simp at h
 | a::ss,b::ds,0,has,s,d,h1,h2=>by simp at h1 h2;subst h1 h2;simp [cI]
 | a::ss,b::ds,i+1,has,s,d,h1,h2=>by
  simp only [List.take_succ_cons,cI]
  exact fillL_snoc ss ds i _ s d (by simpa using h1) (by simpa using h2)
theorem goesL_snoc:∀ (vs:List Vs) (hs:List Int) (i:Nat) (v:Vs) (h:Int),vs[i]? = some v→hs[i]? = some h→bP (vs.take (i+1)) (hs.take (i+1))=bP (vs.take i) (hs.take i)++cY v h
 | [],_,i,_,_,h,_=>by simp at h
 | _::_,[],i,_,_,_,h=>by simp at h
 | a::vs,b::hs,0,v,h,h1,h2=>by simp at h1 h2;subst h1 h2;simp [bP]
 | a::vs,b::hs,i+1,v,h,h1,h2=>by
  simp only [List.take_succ_cons,bP,List.append_assoc]
  rw[goesL_snoc vs hs i v h (by simpa using h1) (by simpa using h2)]
theorem staysL_snoc:∀ (vs:List Vs) (hs:List Int) (i:Nat) (v:Vs) (h:Int),vs[i]? = some v→hs[i]? = some h→bW (vs.take (i+1)) (hs.take (i+1))=bW (vs.take i) (hs.take i)++[dY v h]
 | [],_,i,_,_,h,_=>by simp at h
 | _::_,[],i,_,_,_,h=>by simp at h
 | a::vs,b::hs,0,v,h,h1,h2=>by simp at h1 h2;subst h1 h2;simp [bW]
 | a::vs,b::hs,i+1,v,h,h1,h2=>by
  simp only [List.take_succ_cons,bW,List.cons_append]
  rw[staysL_snoc vs hs i v h (by simpa using h1) (by simpa using h2)]
theorem tipsL_snoc:∀ (vs:List Vs) (hs:List Int) (i j:Nat) (v:Vs) (h:Int),vs[i]? = some v→hs[i]? = some h→bF j (vs.take (i+1)) (hs.take (i+1))=bF j (vs.take i) (hs.take i)++(if dJ v h=true then [j+i] else [])
 | [],_,i,_,_,_,h,_=>by simp at h
 | _::_,[],i,_,_,_,_,h=>by simp at h
 | a::vs,b::hs,0,j,v,h,h1,h2=>by
  simp at h1 h2;subst h1 h2
  simp only [List.take_succ_cons,List.take_zero,bF,Nat.add_zero,List.nil_append]
 | a::vs,b::hs,i+1,j,v,h,h1,h2=>by
  simp only [List.take_succ_cons,bF]
  rw[tipsL_snoc vs hs i (j+1) v h (by simpa using h1) (by simpa using h2)]
  have e:j+1+i=j+(i+1):=by omega
  rw[e]
  split <;> simp
theorem tipsL_lt:∀ (vs:List Vs) (hs:List Int) (j k:Nat),k∈bF j vs hs→j≤k∧k < j+vs.length
 | [],_,_,k,h=>by simp [bF] at h
 | _::_,[],_,k,h=>by simp [bF] at h
 | a::vs,b::hs,j,k,h=>by
  simp only [bF] at h
  have ih:=tipsL_lt vs hs (j+1) k
  simp only [List.length_cons]
  split at h
  ·rcases List.mem_cons.mp h with rfl | h
   ·omega
   ·have:=ih h;omega
  ·have:=ih h;omega
theorem tipsL_len:∀ (vs:List Vs) (hs:List Int) (j:Nat),(bF j vs hs).length≤vs.length
 | [],_,_=>by simp [bF]
 | _::_,[],_=>by simp [bF]
 | a::vs,b::hs,j=>by
  simp only [bF,List.length_cons]
  have:=tipsL_len vs hs (j+1)
  split
  ·rw[List.length_cons];omega
  ·omega
theorem goesL_len {n m:Nat}:∀ (vs:List Vs) (hs:List Int),(∀ v∈vs,VOk n m v)→(bP vs hs).length≤5 * vs.length
 | [],_,_=>by simp [bP]
 | _::_,[],_=>by simp [bP]
 | a::vs,b::hs,h=>by
  simp only [bP,List.length_append,List.length_cons]
  have h1:=vGoes_len (h a List.mem_cons_self) b
  have h2:=goesL_len vs hs fun v hv=>h v (List.mem_cons_of_mem _ hv)
  omega
section
variable {P:Program}{w:World}{K:PySem.W.Frag}{mg:Str→Option Value}{base:Heap}
theorem sps_at {H:Hp}{sps:List Spt}{xs:List V}{i:Nat}{x:V} (l:IsL K H (sps.map spD) xs) (h:xs[i]? = some x) :
  ∃ s,sps[i]? = some s∧∃ a,x=.ref a∧bR K H a [.int s.1,.int s.2.1,.bl s.2.2]:=by
 obtain⟨d,hd,hx⟩:=l.get' h
 rw[List.getElem?_map] at hd
 cases e:sps[i]? with
 | none=>rw[e] at hd;cases hd
 | some o=>
  rw[e] at hd
  cases hd
  refine⟨o,rfl,?_⟩
  obtain⟨a,ys,rfl,q,l⟩:=(show Is K H (.tup [.int o.1,.int o.2.1,.bl o.2.2]) x from hx).un
  obtain⟨y,r,rfl,hy,l⟩:=l.un
  obtain⟨z,r,rfl,hz,l⟩:=l.un
  obtain⟨z2,r,rfl,hz2,l⟩:=l.un
  have:=l.un0
  subst this
  rw[hy.ui,hz.ui,hz2.ub] at q
  exact⟨a,rfl,q⟩
theorem st_un {H:Hp}{held coming:List Int}{doors:List Bool}{y:V} (h:Is K H (stD held coming doors) y):∃ (a b c d:Addr),y=.ref a∧bR K H a [.ref b,.ref c,.ref d]∧bR K H b (held.map V.int)∧bR K H c (coming.map V.int)∧bR K H d (doors.map V.bl):=by
 obtain⟨a,xs,rfl,q,l⟩:=(show Is K H (.tup [.tup (held.map D.int),.tup (coming.map D.int),.tup (doors.map D.bl)]) y from h).un
 obtain⟨x1,r,rfl,h1,l⟩:=l.un
 obtain⟨x2,r,rfl,h2,l⟩:=l.un
 obtain⟨x3,r,rfl,h3,l⟩:=l.un
 have:=l.un0
 subst this
 obtain⟨b,ys,rfl,q1,l1⟩:=h1.un
 obtain⟨c,zs,rfl,q2,l2⟩:=h2.un
 obtain⟨d,us,rfl,q3,l3⟩:=h3.un
 rw[l1.ints] at q1
 rw[l2.ints] at q2
 rw[l3.bools] at q3
 exact⟨a,b,c,d,rfl,q,q1,q2,q3⟩
theorem st_of {H:Hp}{held coming:List Int}{doors:List Bool}{a b c d:Addr} (q:bR K H a [.ref b,.ref c,.ref d]) (q1:bR K H b (held.map V.int)) (q2:bR K H c (coming.map V.int)) (q3:bR K H d (doors.map V.bl)):Is K H (stD held coming doors) (.ref a):=
 Is.tupOf q (.cons (Is.tupOf q1 (IsL.of_ints _)) (.cons (Is.tupOf q2 (IsL.of_ints _)) (.cons (Is.tupOf q3 (IsL.of_bools _)) .nil)))
noncomputable def spFilled (K:PySem.W.Frag):Sp:=fun args H Q _=>∃ (x y:V) (z:Addr) (sps:List Spt) (held coming poured:List Int) (doors:List Bool) (n:Nat),args=[x,y,.ref z]∧Is K H (.tup (sps.map spD)) x∧Is K H (stD held coming doors) y∧bR K H z (poured.map V.int)∧
 held.length=n∧coming.length=n∧poured.length=n∧doors.length=sps.length∧n≤12∧(∀ s∈sps,0≤s.1∧s.1 < n)∧
 ∀ p H',aK H H'→H p=none→H' p=some (.lst ((cI (dR held coming poured) sps doors).map V.int))→Q (.ref p) H'
theorem sc_filled:FnScope ["spouts","state","poured","held","coming","doors","has","target","flow","first_door","door"] ["spouts","state","poured"] (aJ (aX 37)):=⟨rfl,rfl,rfl,by decide +kernel,rfl,by decide +kernel,by decide +kernel⟩
theorem ok_filled {f:Addr}{fd:FuncData} (F:Fun K "filled" "filled" (aX 37) f fd) (T:Txt mg):FnOk P w K mg base CX0 1 f fd ["spouts","state","poured"] (spFilled K):=by
 refine F.ok sc_filled (fun vs H Q E h=>?_) (fun cdv A outer s H vs Q E hr h=>?_)
 ·obtain⟨x,y,z,sps,held,coming,poured,doors,n,rfl,_⟩:=h;rfl
 ·obtain⟨x,y,z,sps,held,coming,poured,doors,n,rfl,hx,hy,qz,l1,l2,l3,l4,hn,hsp,k⟩:=h
  have sc:=sc_filled
  refine⟨_,(aE (bS (pv 1) (aW (K:=K) (n:=3) rfl rfl (aG (aF (i:=3) sc.nd rfl (Or.inl rfl)) (aG (aF (i:=4) sc.nd rfl (Or.inl rfl)) (aG (aF (i:=5) sc.nd rfl (Or.inl rfl)) aV)))))
   (aE (eD (i:=6) sc.nd rfl rfl (fun _ _ h=>h) rfl (LcOk.mk (N':=["amounts"]) (fr:=[none]) rfl trivial rfl rfl rfl rfl rfl trivial) (pi_zip3K (K:=K) rfl rfl T.b_zip (aA (pv 3) (aA (pv 4) (aA (pv 2) aB)))) (fun _ _ _=>(aF (i:=0) (show (["amounts"]:List Str).Nodup by decide +kernel) rfl (Or.inl rfl) (Or.inr rfl))) (fun _ _ _=>cP) (fun _ _ _=>(aS (call_sumK (K:=K) rfl rfl) rfl T.b_sum PyProof.Rows.boot_sum (aA (pv 0) aB))))
   (aE (dN PassesOwn.never rfl (pi_zip2K (K:=K) rfl rfl T.b_zip (aA (pv 0) (aA (pv 5) aB))) (aW (K:=K) (n:=2) rfl rfl (aG (aW (K:=K) (n:=3) rfl rfl (aG (aF (i:=7) sc.nd rfl (Or.inl rfl)) (aG (aF (i:=8) sc.nd rfl (Or.inl rfl)) (aG (aF (i:=9) sc.nd rfl (Or.inl rfl)) aV)))) (aG (aF (i:=10) sc.nd rfl (Or.inl rfl)) aV))) (aM (dC (dL (pv 10)) (aM (ps_augS (pv 6) (pv 7) (get_listK (K:=K) rfl) (pv 8) ip_add set_list)) bV)))
   (aM (bG (pv 6)))))),?_⟩
  obtain⟨ax,xs,rfl,qx,lx⟩:=hx.un
  obtain⟨ay,a1,a2,a3,rfl,qy,q1,q2,q3⟩:=st_un hy
  have exl:xs.length=sps.length:=by rw[lx.length,List.length_map]
  refine⟨_,rfl,ay,_,rfl,qy,rfl,_,_,rfl,_,_,rfl,_,_,rfl,rfl,?_⟩
  have la:=eK l1 l2 l3
  refine⟨_,rfl,_,rfl,_,rfl,true,true,true,a1,a2,z,rfl,⟨_,q1⟩,⟨_,q2⟩,⟨_,qz⟩,lc_zip3 (K:=K) (xs:=held.map V.int) (ys:=coming.map V.int) (zs:=poured.map V.int) (n:=n) (by simpa using l1) (by simpa using l2) (by simpa using l3)
   (fun D i r σ' H'=>H D=none∧aK H H'∧H' D=some (.lst r)∧r=((dR held coming poured).take i).map V.int∧∃ v,σ'=[v])
   (fun D i r σ' H' p=>⟨p.2.1.tup q1,p.2.1.tup q2,p.2.1.tup qz⟩) (fun D hD=>⟨hD,aK.new hD,aD,by simp,none,rfl⟩) ?_ ?_⟩
  rotate_left
  ·rintro D i x0 y0 z0 r σ' H' Tt hx0 hy0 hz0 ⟨hD,sm,hDl,rfl,v,rfl⟩ hT
   rw[List.getElem?_map] at hx0 hy0 hz0
   obtain⟨x,hx,rfl⟩:=Option.map_eq_some_iff.mp hx0
   obtain⟨y,hy,rfl⟩:=Option.map_eq_some_iff.mp hy0
   obtain⟨z',hz,rfl⟩:=Option.map_eq_some_iff.mp hz0
   have hi:=add3_get hx hy hz
   have hil:=(List.getElem?_eq_some_iff.mp hi).1
   have nT:D≠Tt:=aO hDl hT
   refine d9 ?_
   refine⟨_,rfl,true,Tt,[x,y,z'],rfl,bR.of aD,by rw[aN nT];exact hDl,aQ (by simp;omega),hD,?_,aD,?_,_,rfl⟩
   ·intro b o e
    rw[aN (aO e hD)]
    exact aK.new hT b o (sm b o e)
   ·rw[bJ hi,List.map_append]
    have:[x,y,z'].sum=x+y+z':=by simp;omega
    rw[this];rfl
  ·rintro D r σ' H1 ⟨hD,sm,hDl,rfl,_⟩
   rw[← la,List.take_length] at hDl
   refine⟨_,rfl,_,rfl,true,true,ax,a3,rfl,⟨_,sm.tup qx⟩,⟨_,sm.tup q3⟩,for_zip2 (K:=K) (xs:=xs) (ys:=doors.map V.bl) (n:=sps.length) exl (by rw[List.length_map,l4])
    (fun i σ' H'=>aK H H'∧H' D=some (.lst ((cI (dR held coming poured) (sps.take i) (doors.take i)).map V.int))∧
     ∃ v7 v8 v9 v10,σ'=[some (.ref ax),some (.ref ay),some (.ref z),some (.ref a1),some (.ref a2),some (.ref a3),some (.ref D),v7,v8,v9,v10])
    (fun i σ' H' p=>⟨p.1.tup qx,p.1.tup q3⟩) ⟨sm,by cases sps <;> exact hDl,none,none,none,none,rfl⟩ ?_ ?_⟩
   ·rintro σ' H2 ⟨sm2,h2,v7,v8,v9,v10,rfl⟩
    rw[← l4,List.take_length] at h2
    rw[l4,List.take_length] at h2
    refine⟨_,rfl,?_⟩
    exact k D H2 sm2 hD h2
   ·rintro i x y σ' H2 Tt hx hy ⟨sm2,h2,v7,v8,v9,v10,rfl⟩ hT
    obtain⟨sp,hsi,sa,rfl,qs⟩:=sps_at lx hx
    rw[List.getElem?_map] at hy
    obtain⟨dr,hdi,rfl⟩:=Option.map_eq_some_iff.mp hy
    have nT:D≠Tt:=aO h2 hT
    have sm3:aK H (upd H2 Tt (.tup [.ref sa,.bl dr])):=fun b o e=>aK.new hT b o (sm2 b o e)
    have h3:upd H2 Tt (.tup [.ref sa,.bl dr]) D=some (.lst ((cI (dR held coming poured) (sps.take i) (doors.take i)).map V.int)):=by rw[aN nT];exact h2
    refine⟨Tt,_,rfl,bR.of aD,rfl,_,_,rfl,⟨sa,_,rfl,sm3.tup qs,rfl,_,_,rfl,_,_,rfl,_,_,rfl,rfl,_,_,rfl,rfl,?_⟩⟩
    refine⟨_,rfl,_,rfl,?_⟩
    have snoc:=fillL_snoc sps doors i (dR held coming poured) sp dr hsi hdi
    cases dr with
    | false=>
     refine eJ ?_
     refine⟨sm3,?_,_,_,_,_,rfl⟩
     rw[snoc];exact h3
    | true=>
     refine iteT ?_
     have hs:=hsp sp (List.mem_of_getElem? hsi)
     have hlen:(cI (dR held coming poured) (sps.take i) (doors.take i)).length=n:=by rw[dQ,la]
     have hlt:sp.1.toNat < (cI (dR held coming poured) (sps.take i) (doors.take i)).length:=by rw[hlen];omega
     have hg:((cI (dR held coming poured) (sps.take i) (doors.take i)).map V.int)[sp.1.toNat]? = some (.int ((cI (dR held coming poured) (sps.take i) (doors.take i)).getD sp.1.toNat 0)):=by
      rw[List.getElem?_map,List.getD_eq_getElem?_getD];simp [hlt]
     refine⟨_,rfl,_,rfl,D,_,sp.1,_,rfl,rfl,bY.of h3,hs.1,by omega,hg,_,rfl,_,_,rfl,rfl,D,_,sp.1,sp.1.toNat,rfl,rfl,h3,ixN_nat hs.1 (by rw[List.length_map,hlen];omega),?_⟩
     refine⟨sm3.put hD,?_,_,_,_,_,rfl⟩
     rw[aD,snoc,eR,if_pos rfl,List.map_set]
end
end Tw
namespace Tw
open PySem L2
theorem staysL_len:∀ (vs:List Vs) (hs:List Int),vs.length=hs.length→(bW vs hs).length=vs.length
 | [],_,_=>by simp [bW]
 | _::_,[],h=>by simp at h
 | a::vs,b::hs,h=>by simp only [bW,List.length_cons];rw[staysL_len vs hs (by simpa using h)]
section
variable {P:Program}{w:World}{K:PySem.W.Frag}{mg:Str→Option Value}{base:Heap}
theorem dM {H:Hp}{net:Net}{x:V} (h:Is K H (dU net) x):∃ (a b c:Addr) (xs ys:List V),x=.ref a∧bR K H a [.ref b,.ref c]∧bR K H b xs∧IsL K H (net.vs.map vsD) xs∧bR K H c ys∧IsL K H (net.sps.map spD) ys:=by
 obtain⟨a,zs,rfl,q,l⟩:=(show Is K H (.tup [.tup (net.vs.map vsD),.tup (net.sps.map spD)]) x from h).un
 obtain⟨x1,r,rfl,h1,l⟩:=l.un
 obtain⟨x2,r,rfl,h2,l⟩:=l.un
 have:=l.un0
 subst this
 obtain⟨b,xs,rfl,q1,l1⟩:=h1.un
 obtain⟨c,ys,rfl,q2,l2⟩:=h2.un
 exact⟨a,b,c,xs,ys,rfl,q,q1,l1,q2,l2⟩
structure StOk (net:Net) (held coming:List Int) (doors:List Bool):Prop where
 h:held.length=net.vs.length
 c:coming.length=net.vs.length
 d:doors.length=net.sps.length
noncomputable def spTick (K:PySem.W.Frag):Sp:=fun args H Q _=>∃ (x y:V) (z:Addr) (net:Net) (held coming poured:List Int) (doors:List Bool),args=[x,y,.ref z]∧Is K H (dU net) x∧Is K H (stD held coming doors) y∧bR K H z (poured.map V.int)∧
 NetOk net∧StOk net held coming doors∧poured.length=net.vs.length∧∀ (p:Addr) (ys:List V) H',aK H H'→H' p=some (.tup ys)→Is K H' (tickD (bC net held coming poured doors)) (.ref p)→Q (.ref p) H'
theorem sc_tick_behind:FnScope ["net","state","poured","vessels","spouts","held","tipped","sent","number","has","left","tips","coming","doors"] ["net","state","poured"] (aJ (aX 35)):=⟨rfl,rfl,rfl,by decide +kernel,rfl,by decide +kernel,by decide +kernel⟩
theorem ok_tick_behind {f fF fS fD:Addr}{fd fdF fdS fdD:FuncData} (F:Fun K "tick_behind" "tick_behind" (aX 35) f fd) (T:Txt mg) (G_filled:Callee P w K mg base "filled" ["spouts","state","poured"] 1 (spFilled K) fF fdF)
  (G_settle:Callee P w K mg base "settle" ["vessel","has","sent"] 3 (spSettle K) fS fdS) (G_doors_behind:Callee P w K mg base "doors_behind" ["vessels","doors","tipped"] 1 (spDoors K) fD fdD):FnOk P w K mg base CX0 4 f fd ["net","state","poured"] (spTick K):=by
 refine F.ok sc_tick_behind (fun vs H Q E h=>?_) (fun cdv A outer s H vs Q E hr h=>?_)
 ·obtain⟨x,y,z,net,held,coming,poured,doors,rfl,_⟩:=h;rfl
 ·obtain⟨x,y,z,net,held,coming,poured,doors,rfl,hx,hy,qz,nok,sok,lp,k⟩:=h
  have sc:=sc_tick_behind
  have hu:=hu_of hr
  refine⟨_,(aE (bS (pv 0) (aW (K:=K) (n:=2) rfl rfl (aG (aF (i:=3) sc.nd rfl (Or.inl rfl)) (aG (aF (i:=4) sc.nd rfl (Or.inl rfl)) aV))))
   (aE (bS (bT (aA (cG aB) (aA (cG aB) (aA pe_dnewK aB)))) (aW (K:=K) (n:=3) rfl rfl (aG (aF (i:=5) sc.nd rfl (Or.inl rfl)) (aG (aF (i:=6) sc.nd rfl (Or.inl rfl)) (aG (aF (i:=7) sc.nd rfl (Or.inr rfl)) aV)))))
   (aE (dN PassesOwn.never rfl (pi_enumK (K:=K) rfl rfl T.b_enumerate (aA (d7 G_filled hr (aA (pv 4) (aA (pv 1) (aA (pv 2) aB)))) aB)) (aW (K:=K) (n:=2) rfl rfl (aG (aF (i:=8) sc.nd rfl (Or.inl rfl)) (aG (aF (i:=9) sc.nd rfl (Or.inl rfl)) aV))) (aE (bS (d7 G_settle hr (aA (aP (aL (K:=K) rfl) (pv 3) (pv 8) (fun _ _=>rfl)) (aA (pv 9) (aA (pv 7) aB)))) (aW (K:=K) (n:=2) rfl rfl (aG (aF (i:=10) sc.nd rfl (Or.inl rfl)) (aG (aF (i:=11) sc.nd rfl (Or.inl rfl)) aV))))
   (aE (cL (pe_bmK (K:=K) rfl PySem.F.plainAttrs_list PySem.F.slot_list_append PySem.F.type_list_append d4 (pv 5) (aA (pv 10) aB)))
   (aM (dC (dL (pv 11)) (aM (cL (pe_bmK (K:=K) rfl PySem.F.plainAttrs_list PySem.F.slot_list_append PySem.F.type_list_append d4 (pv 6) (aA (pv 8) aB)))) bV)))))
   (aE (eD (i:=12) sc.nd rfl rfl (fun _ _ h=>h) rfl (LcOk.mk (N':=["number","sent"]) (fr:=[none,some 7]) rfl ⟨rfl,trivial⟩ rfl rfl rfl rfl rfl ⟨⟨_,rfl,rfl,rfl,rfl⟩,trivial⟩) (cB rfl T.b_range (aA (aS (bH (K:=K) rfl) rfl T.b_len PySem.boot_len (aA (pv 3) aB)) aB)) (fun _ _ _=>(aF (i:=0) (show (["number","sent"]:List Str).Nodup by decide +kernel) rfl (Or.inl rfl) (Or.inr rfl))) (fun _ _ _=>cP) (fun _ _ _=>(pe_dget2 hu (pv 1) (pv 0) aH ⟨rfl,rfl,rfl,rfl⟩)))
   (aE (bE (i:=13) sc.nd rfl (Or.inl rfl) (d7 G_doors_behind hr (aA (pv 3) (aA (aP (aL (K:=K) rfl) (pv 1) aH (fun _ _=>rfl)) (aA (pv 6) aB)))))
   (aM (bG (bT (aA (bT (aA (bD (cC (K:=K) rfl) rfl T.b_tuple cN (aA (pv 5) aB)) (aA (bD (cC (K:=K) rfl) rfl T.b_tuple cN (aA (pv 12) aB)) (aA (pv 13) aB)))) (aA (bD (cC (K:=K) rfl) rfl T.b_tuple cN (aA (pv 6) aB)) (aA (pe_dget2 hu (pv 7) pe_non aH ⟨rfl,rfl,rfl,rfl⟩) aB))))))))))),?_⟩
  obtain⟨ax,av,as,xs,ys,rfl,qx,qv,lv,qs,ls⟩:=dM hx
  obtain⟨ay,b1,b2,b3,rfl,qy,q1,q2,q3⟩:=st_un hy
  have exl:xs.length=net.vs.length:=by rw[lv.length,List.length_map]
  refine⟨_,rfl,ax,_,rfl,qx,rfl,_,_,rfl,_,_,rfl,rfl,?_⟩
  refine⟨Nat.zero_le _,fun hl hhl=>⟨Nat.zero_le _,fun tl htl=>fun sd hsd=>⟨(show 3≤sizeLine by decide),fun tp htp=>⟨tp,_,rfl,bR.of aD,rfl,_,_,rfl,_,_,rfl,_,_,rfl,rfl,?_⟩⟩⟩⟩
  have n1:hl≠tl:=aO (show upd H hl (.lst []) hl=_ from aD) htl
  have fh:H hl=none:=hhl
  have ft:H tl=none:=aK.free (aK.new hhl) htl
  have fs:H sd=none:=aK.free ((aK.new hhl).trans (aK.new htl)) hsd
  have n2:hl≠sd:=aO (by rw[aN n1];exact aD) hsd
  have n3:tl≠sd:=aO (show upd (upd H hl (.lst [])) tl (.lst []) tl=_ from aD) hsd
  have sm0:aK H (upd (upd (upd (upd H hl (.lst [])) tl (.lst [])) sd (.dK [])) tp (.tup [.ref hl,.ref tl,.ref sd])):=(((aK.new hhl).trans (aK.new htl)).trans (aK.new hsd)).trans (aK.new htp)
  have g1:upd (upd (upd (upd H hl (.lst [])) tl (.lst [])) sd (.dK [])) tp (.tup [.ref hl,.ref tl,.ref sd]) hl=some (.lst []):=aK.new htp _ _ (by rw[aN n2,aN n1];exact aD)
  have g2:upd (upd (upd (upd H hl (.lst [])) tl (.lst [])) sd (.dK [])) tp (.tup [.ref hl,.ref tl,.ref sd]) tl=some (.lst []):=aK.new htp _ _ (by rw[aN n3];exact aD)
  have g3:upd (upd (upd (upd H hl (.lst [])) tl (.lst [])) sd (.dK [])) tp (.tup [.ref hl,.ref tl,.ref sd]) sd=some (.dK []):=aK.new htp _ _ aD
  generalize upd (upd (upd (upd H hl (.lst [])) tl (.lst [])) sd (.dK [])) tp (.tup [.ref hl,.ref tl,.ref sd])=H0 at sm0 g1 g2 g3 ⊢
  refine⟨_,rfl,_,rfl,_,rfl,.ref as,.ref ay,z,net.sps,held,coming,poured,doors,net.vs.length,rfl,Is.tupOf (sm0.tup qs) (IsL.mono sm0.ts _ _ ls),Is.mono sm0.ts _ _ hy,sm0.tup qz,sok.h,sok.c,lp,sok.d,nok.hi,nok.sps,fun ha H1 sm1 fha hha=>?_⟩
  have hsl:(aZ net held coming poured doors).length=net.vs.length:=by
   unfold aZ;rw[dQ,eK sok.h sok.c lp]
  have g1':=sm1 _ _ g1
  have g2':=sm1 _ _ g2
  have g3':=sm1 _ _ g3
  have na1:hl≠ha:=aO g1 fha
  have na2:tl≠ha:=aO g2 fha
  have na3:sd≠ha:=aO g3 fha
  have fa:H ha=none:=sm0.free fha
  refine⟨false,ha,rfl,⟨_,bY.of hha⟩,for_enum (K:=K) (t:=false) (a:=ha) (xs:=(aZ net held coming poured doors).map V.int)
   (fun i σ' H'=>aK H H'∧H' ha=some (.lst ((aZ net held coming poured doors).map V.int))∧H' hl=some (.lst ((bW (net.vs.take i) ((aZ net held coming poured doors).take i)).map V.int))∧
    H' tl=some (.lst ((bF 0 (net.vs.take i) ((aZ net held coming poured doors).take i)).map fun (j:Nat)=>V.int (j:Int)))∧DictG H' sd (bP (net.vs.take i) ((aZ net held coming poured doors).take i))∧
    ∃ v8 v9 v10 v11,σ'=[some (.ref ax),some (.ref ay),some (.ref z),some (.ref av),some (.ref as),some (.ref hl),some (.ref tl),some (.ref sd),v8,v9,v10,v11,none,none])
   (fun i σ' H' p=>bY.of p.2.1) ⟨sm0.trans sm1,hha,by simpa [bW] using g1',by simpa [bF] using g2',⟨[],g3',by simp,fun k=>rfl⟩,none,none,none,none,rfl⟩ ?_ ?_⟩
  rotate_left
  ·rintro i x0 σ' H2 Tt hx0 ⟨sm2,p1,p2,p3,p4,v8,v9,v10,v11,rfl⟩ hT
   rw[List.getElem?_map] at hx0
   obtain⟨hi,hhi,rfl⟩:=Option.map_eq_some_iff.mp hx0
   have hil:i < net.vs.length:=by rw[← hsl];exact (List.getElem?_eq_some_iff.mp hhi).1
   have hv:net.vs[i]? = some net.vs[i]:=by simp [hil]
   have vok:=nok.vs _ (List.getElem_mem hil)
   obtain⟨xv,hxv,ixv⟩:=lv.get (i:=i) (d:=vsD net.vs[i]) (by rw[List.getElem?_map,hv];rfl)
   have smT:=aK.new (o:=HO.tup [.int (i:Int),.int hi]) hT
   refine⟨Tt,_,rfl,bR.of aD,rfl,_,_,rfl,_,_,rfl,rfl,?_⟩
   have sm3:aK H (upd H2 Tt (.tup [.int (i:Int),.int hi])):=sm2.trans smT
   obtain⟨kvs,d1,d2,d3⟩:=p4
   have hgl:=goesL_len (net.vs.take i) ((aZ net held coming poured doors).take i) fun v hv'=>nok.vs v (List.mem_of_mem_take hv')
   have htk:(net.vs.take i).length≤12:=by rw[List.length_take];have:=nok.hi;omega
   refine⟨_,rfl,_,rfl,.inr (.inl ⟨av,xs,i,_,rfl,rfl,sm3.tup qv,cT hxv,_,rfl,_,rfl,xv,sd,hi,net.vs[i],_,_,_,rfl,Is.mono sm3.ts _ _ ixv,⟨kvs,smT _ _ d1,d2,d3⟩,by omega,vok,fun p H3 bt dg qp=>?_⟩)⟩
   refine⟨p,_,rfl,qp,rfl,_,_,rfl,_,_,rfl,rfl,?_⟩
   have e1:=bt hl _ n2 (smT _ _ p2)
   have e2:=bt tl _ n3 (smT _ _ p3)
   have e3:=bt ha _ (Ne.symm na3) (smT _ _ p1)
   have sm4:aK H H3:=fun b o e=>bt b o (aO e fs) (sm3 b o e)
   have stl:(bW (net.vs.take i) ((aZ net held coming poured doors).take i)).length≤12:=by
    rw[staysL_len _ _ (by rw[List.length_take,List.length_take,hsl])];exact htk
   have tpl:=tipsL_len (net.vs.take i) ((aZ net held coming poured doors).take i) 0
   refine⟨_,rfl,.inl ⟨rfl,_,bY.of e1⟩,_,rfl,hl,_,_,rfl,rfl,e1,aQ (by simp;omega),?_⟩
   have f1:upd H3 hl (.lst ((bW (net.vs.take i) ((aZ net held coming poured doors).take i)).map V.int++[.int (dY net.vs[i] hi)])) tl=some (.lst ((bF 0 (net.vs.take i) ((aZ net held coming poured doors).take i)).map fun (j:Nat)=>V.int (j:Int))):=by rw[aN (Ne.symm n1)];exact e2
   have s1:=staysL_snoc net.vs (aZ net held coming poured doors) i _ _ hv hhi
   have s2:=tipsL_snoc net.vs (aZ net held coming poured doors) i 0 _ _ hv hhi
   have s3:=goesL_snoc net.vs (aZ net held coming poured doors) i _ _ hv hhi
   have dgo:∀ {Hx:Hp},Hx sd=H3 sd→DictG Hx sd (bP (net.vs.take (i+1)) ((aZ net held coming poured doors).take (i+1))):=fun {Hx} e=>by
    obtain⟨kv,a1,a2,a3⟩:=dg
    rw[s3]
    exact⟨kv,e.trans a1,a2,a3⟩
   refine⟨_,rfl,_,rfl,?_⟩
   cases ht:dJ net.vs[i] hi with
   | false=>
    refine eJ ?_
    rw[ht] at s2
    refine⟨sm4.put fh,by rw[aN (Ne.symm na1)];exact e3,by rw[aD,s1,List.map_append];rfl,by rw[s2];simpa using f1,dgo (by rw[aN (Ne.symm n2)]),_,_,_,_,rfl⟩
   | true=>
    refine iteT ?_
    rw[ht] at s2
    refine⟨_,rfl,.inl ⟨rfl,_,bY.of f1⟩,_,rfl,tl,_,_,rfl,rfl,f1,aQ (by simp;omega),?_⟩
    refine⟨(sm4.put fh).put ft,by rw[aN (Ne.symm na2),aN (Ne.symm na1)];exact e3,by rw[aN n1,aD,s1,List.map_append];rfl,?_,dgo (by rw[aN (Ne.symm n3),aN (Ne.symm n2)]),_,_,_,_,rfl⟩
    rw[aD,s2]
    simp
  ·rintro σ' H2 ⟨sm2,p1,p2,p3,p4,v8,v9,v10,v11,rfl⟩
   rw[List.length_map,hsl] at p2 p3 p4
   have ek:net.vs.take net.vs.length=net.vs:=List.take_length
   have ek2:(aZ net held coming poured doors).take net.vs.length=aZ net held coming poured doors:=by rw[← hsl,List.take_length]
   rw[ek,ek2] at p2 p3 p4
   obtain⟨kvs,d1,d2,d3⟩:=p4
   refine⟨_,rfl,av,xs,rfl,.inr (sm2.tup qv),_,rfl,by omega,by have:=nok.hi;omega,?_⟩
   have hn:((xs.length:Nat):Int).toNat=net.vs.length:=by rw[exl];simp
   rw[hn]
   refine lc_range (n:=net.vs.length) (fun D i r σ' H'=>H2 D=none∧aK H2 H'∧H' D=some (.lst r)∧r=((dA net.vs.length (bP net.vs (aZ net held coming poured doors))).take i).map V.int∧∃ v,σ'=[v,some (.ref sd)])
    (fun D hD=>⟨hD,aK.new hD,aD,by simp,none,rfl⟩) ?_ ?_
   rotate_left
   ·rintro D i r σ' H' hi ⟨hD,sm,hDl,rfl,v,rfl⟩
    refine d9 ?_
    have hg:=DGet.k (k:=keyO (some (i:Int))) (sm _ _ d1)
    refine⟨_,rfl,sd,rfl,.inl ⟨kvs,.inl (sm _ _ d1)⟩,_,rfl,_,hg,hDl,aQ (by simp [dA];have:=nok.hi;omega),hD,sm.put hD,aD,?_,_,rfl⟩
    have e:(dA net.vs.length (bP net.vs (aZ net held coming poured doors)))[i]? = some (bB (some (i:Int)) (bP net.vs (aZ net held coming poured doors))):=by
     unfold dA;simp [hi]
    rw[bJ e,List.map_append]
    show _++[(eM kvs (keyO (some (i:Int)))).getD (.int 0)]=_
    rw[d3];rfl
   ·rintro D r σ' H3 ⟨hD,sm,hDl,rfl,_⟩
    have ll:(dA net.vs.length (bP net.vs (aZ net held coming poured doors))).length=net.vs.length:=by unfold dA;simp
    rw[List.take_of_length_le (Nat.le_of_eq ll)] at hDl
    have sm3:aK H H3:=sm2.trans sm
    refine⟨_,rfl,_,rfl,.inr (.inl ⟨ay,_,2,_,rfl,rfl,sm3.tup qy,rfl,_,rfl,.ref av,.ref b3,tl,net.vs,doors,bF 0 net.vs (aZ net held coming poured doors),net.vs.length,rfl,Is.tupOf (sm3.tup qv) (IsL.mono sm3.ts _ _ lv),Is.tupOf (sm3.tup q3) (IsL.of_bools _),bY.of (sm _ _ p3),fun j hj=>by have:=tipsL_lt _ _ _ _ hj;omega,fun v hv=>by rw[sok.d];exact nok.vs v hv,by rw[sok.d];exact nok.sp,fun dp H4 sm4 hdp=>?_⟩)⟩
    obtain⟨da,dxs,rfl,qd,ld⟩:=hdp.un
    have c1:=sm4 _ _ (sm _ _ p2)
    have c2:=sm4 _ _ hDl
    have c3:=sm4 _ _ (sm _ _ p3)
    have c4:=sm4 _ _ (sm _ _ d1)
    refine⟨_,rfl,hl,_,rfl,.inl ⟨bY.of c1,fun t1 ht1=>?_⟩⟩
    have m1:=aK.new (o:=HO.tup ((bW net.vs (aZ net held coming poured doors)).map V.int)) ht1
    refine⟨_,rfl,D,_,rfl,.inl ⟨bY.of (m1 _ _ c2),fun t2 ht2=>?_⟩⟩
    have m2:=aK.new (o:=HO.tup ((dA net.vs.length (bP net.vs (aZ net held coming poured doors))).map V.int)) ht2
    refine⟨_,rfl,(show 3≤sizeLine by decide),fun t3 ht3=>?_⟩
    have m3:=aK.new (o:=HO.tup [.ref t1,.ref t2,.ref da]) ht3
    refine⟨_,rfl,tl,_,rfl,.inl ⟨bY.of (m3 _ _ (m2 _ _ (m1 _ _ c3))),fun t4 ht4=>?_⟩⟩
    have m4:=aK.new (o:=HO.tup ((bF 0 net.vs (aZ net held coming poured doors)).map fun (j:Nat)=>V.int (j:Int))) ht4
    have c4':=m4 _ _ (m3 _ _ (m2 _ _ (m1 _ _ c4)))
    have hg:=DGet.k (k:=keyO none) c4'
    refine⟨_,rfl,sd,rfl,.inl ⟨kvs,.inl c4'⟩,_,hg,(show 3≤sizeLine by decide),fun t5 ht5=>?_⟩
    have m5:aK _ _:=aK.new (o:=HO.tup [.ref t3,.ref t4,(eM kvs (keyO none)).getD (.int 0)]) ht5
    have eg:(eM kvs (keyO none)).getD (.int 0)=.int (bB none (bP net.vs (aZ net held coming poured doors))):=d3 none
    refine k _ _ _ ((((((sm3.trans sm4).trans m1).trans m2).trans m3).trans m4).trans m5) aD ?_
    refine Is.tupOf (bR.of aD) (.cons ?_ (.cons ?_ (.cons ?_ .nil)))
    ·exact Is.mono m5.ts _ _ (Is.mono m4.ts _ _ (st_of (bR.of aD) (m3.tup (m2.tup (bR.of aD))) (m3.tup (bR.of aD)) (by
      have:=ld.bools;rw[this] at qd;exact m3.tup (m2.tup (m1.tup qd)))))
    ·refine Is.mono m5.ts _ _ (Is.tupOf (bR.of aD) ?_)
     show L2.IsL K _ ((bF 0 net.vs (aZ net held coming poured doors)).map fun (i:Nat)=>L2.D.int (i:Int)) _
     have e1:((bF 0 net.vs (aZ net held coming poured doors)).map fun (i:Nat)=>L2.D.int (i:Int))=((bF 0 net.vs (aZ net held coming poured doors)).map fun (i:Nat)=>(i:Int)).map L2.D.int:=by rw[List.map_map];rfl
     have e2:((bF 0 net.vs (aZ net held coming poured doors)).map fun (i:Nat)=>V.int (i:Int))=((bF 0 net.vs (aZ net held coming poured doors)).map fun (i:Nat)=>(i:Int)).map V.int:=by rw[List.map_map];rfl
     rw[e1,e2]
     exact L2.IsL.of_ints _
    ·rw[eg];exact Is.i _
end
end Tw
namespace Tw
open PySem L2
section
variable {P:Program}{w:World}{K:PySem.W.Frag}{mg:Str→Option Value}{base:Heap}
noncomputable def dW (H:Hp) (t sl:Addr):Prop:=∃ (ns:List Int) (pos cell:Int),H t=some (.lst [.ref sl,.int pos,.int cell])∧H sl=some (.lst (ns.map V.int))∧ns.length≤1000
theorem dW.mut {H:Hp}{t sl:Addr} (h:dW H t sl):Mut (H t):=by obtain⟨ns,pos,cell,e,_⟩:=h;rw[e];exact trivial
theorem dW.same {H H':Hp}{t sl:Addr} (h:dW H t sl) (s:aK H H'):dW H' t sl:=by
 obtain⟨ns,pos,cell,e,f,g⟩:=h;exact⟨ns,pos,cell,s _ _ e,s _ _ f,g⟩
noncomputable def spDraw:Sp:=fun vs H Q _=>∃ (t sl:Addr) (many:Int),vs=[.ref t,.int many]∧dW H t sl∧0 < many∧many < 1000000∧
 ∀ (r:Int) H',cK t H H'→dW H' t sl→0≤r→r < many→Q (.int r) H'
noncomputable def spDrawB:Sp:=fun vs H Q _=>∃ (t sl:Addr) (many:Int),vs=[.ref t,.int many]∧dW H t sl∧0 < many∧many < 2 ^ 200∧
 ∀ (r:Int) H',cK t H H'→dW H' t sl→0≤r→r < many→Q (.int r) H'
noncomputable abbrev rdTail (K:PySem.W.Frag):TS:=tSeq (tAsg (tOp (rI (fun _ j=>0 < j) fun i j=>.int (i % j)) (tOp (rIx K) (cZ 0) (tC (.int 2))) (cZ 1)) (gName 4)) (tSeq (tAsg (tOp (rI CDivB fun i j=>.int (i / j)) (tOp (rIx K) (cZ 0) (tC (.int 2))) (cZ 1)) (gSub (cZ 0) (tC (.int 2)) rSetL)) (tRet (cZ 4)))
noncomputable abbrev rdMid (K:PySem.W.Frag):TS:=tSeq (tAsg (tOp (rI0 fun i j=>.int (i+j)) (tOp (rIx K) (cZ 0) (tC (.int 1))) (tC (.int 1))) (gSub (cZ 0) (tC (.int 1)) rSetL)) (tAsg (cZ 3) (gSub (cZ 0) (tC (.int 2)) rSetL))
noncomputable abbrev rdBody (K:PySem.W.Frag):TS:=tSeq (tAsg (tOp (rI (fun _ j=>0 < j) fun i j=>.int (i % j)) (tOp (rI0 fun i j=>.int (i+j)) (cZ 3) (tOp (rI CMul fun i j=>.int (i * j)) (tC (.int 1000003)) (tOp (rIx K) (cZ 0) (tC (.int 1))))) (cZ 2)) (gName 3)) (tSeq (tAsg (tOp (rI (fun _ j=>0 < j) fun i j=>.int (i % j)) (tOp (rI0 fun i j=>.int (i+j)) (tOp (rI0 fun i j=>.int (i+j)) (tOp (rI CMul fun i j=>.int (i * j)) (cZ 3) (cZ 3)) (tOp (rI CMul fun i j=>.int (i * j)) (tC (.int 1181783497276652981)) (cZ 3))) (tC (.int 2049848353892358983))) (cZ 2)) (gName 3)) (tAsg (tOp (rI (fun _ j=>0 < j) fun i j=>.int (i % j)) (tOp (rI0 fun i j=>.int (i+j)) (tOp (rI CMul fun i j=>.int (i * j)) (cZ 3) (cZ 3)) (tC (.int 1442695040888963407))) (cZ 2)) (gName 3)))
noncomputable abbrev rdTest (K:PySem.W.Frag):TT:=tOr (tTest (tOp (rI0 fun i j=>.bl (decide (j≤i))) (tOp (rIx K) (cZ 0) (tC (.int 1))) (tCB (rLen K) (dS (tOp (rIx K) (cZ 0) (tC (.int 0))) tNil)))) (tTest (tOp (rI0 fun i j=>.bl (decide (i < j))) (cZ 3) (tOp (rI CPow fun i j=>.int (i ^ j.toNat)) (tC (.int 10)) (tC (.int 18)))))
noncomputable abbrev dE (Q:VK):Ends:={ nx:=fun _ H'=>Q .non H',rt:=Q }
theorem sc__law_draw:FnScope ["tape","many","prime","cell","found"] ["tape","many"] (aJ (aX 50)):=⟨rfl,rfl,rfl,by decide +kernel,rfl,by decide +kernel,by decide +kernel⟩
theorem ok__law_drawB {f:Addr}{fd:FuncData} (F:Fun K "_law_draw" "_law_draw" (aX 50) f fd) (T:Txt mg):FnOk P w K mg base CX0 1 f fd ["tape","many"] spDrawB:=by
 refine F.ok sc__law_draw (fun vs H Q E h=>?_) (fun cdv A outer s H vs Q E hr h=>?_)
 ·obtain⟨t,sl,many,rfl,_⟩:=h;rfl
 ·obtain⟨t,sl,many,rfl,⟨ns,pos,cell,ht,hsl,hns⟩,hm0,hm1,k⟩:=h
  have sc:=sc__law_draw
  refine⟨_,(aE (bE (i:=2) sc.nd rfl (Or.inl rfl) aH)
   (aE (dC (cX op_lt (aP (aL (K:=K) rfl) (pv 0) aH (fun _ _=>rfl)) (pv 1) (cQ _)) (aE (bE (i:=3) sc.nd rfl (Or.inl rfl) aH)
   (aE (dC (cX op_gt (aS (bH (K:=K) rfl) rfl T.b_len PySem.boot_len (aA (aP (aL (K:=K) rfl) (pv 0) aH (fun _ _=>rfl)) aB)) aH (cQ _)) (aM (bE (i:=3) sc.nd rfl (Or.inl rfl) (aP (aL (K:=K) rfl) (aP (aL (K:=K) rfl) (pv 0) aH (fun _ _=>rfl)) (aY op_mod (aP (aL (K:=K) rfl) (pv 0) aH (fun _ _=>rfl)) (aS (bH (K:=K) rfl) rfl T.b_len PySem.boot_len (aA (aP (aL (K:=K) rfl) (pv 0) aH (fun _ _=>rfl)) aB))) (fun _ _=>rfl)))) bV)
   (aE (dC (PW.pt (pw_or (cX op_ge (aP (aL (K:=K) rfl) (pv 0) aH (fun _ _=>rfl)) (aS (bH (K:=K) rfl) rfl T.b_len PySem.boot_len (aA (aP (aL (K:=K) rfl) (pv 0) aH (fun _ _=>rfl)) aB)) (cQ _)) (pw_or1 (cX op_lt (pv 3) (aY op_pow aH aH) (cQ _))))) (aE (bE (i:=3) sc.nd rfl (Or.inl rfl) (aY op_mod (aY cH (pv 3) (aY op_mul aH (aP (aL (K:=K) rfl) (pv 0) aH (fun _ _=>rfl)))) (pv 2)))
   (aE (bE (i:=3) sc.nd rfl (Or.inl rfl) (aY op_mod (aY cH (aY cH (aY op_mul (pv 3) (pv 3)) (aY op_mul aH (pv 3))) aH) (pv 2)))
   (aM (bE (i:=3) sc.nd rfl (Or.inl rfl) (aY op_mod (aY cH (aY op_mul (pv 3) (pv 3)) aH) (pv 2)))))) bV)
   (aE (bS (aY cH (aP (aL (K:=K) rfl) (pv 0) aH (fun _ _=>rfl)) aH) (pg_sub (pv 0) aH set_list))
   (aM (bS (pv 3) (pg_sub (pv 0) aH set_list))))))) bV)
   (aE (bE (i:=4) sc.nd rfl (Or.inl rfl) (aY op_mod (aP (aL (K:=K) rfl) (pv 0) aH (fun _ _=>rfl)) (pv 1)))
   (aE (bS (aY op_fdivB (aP (aL (K:=K) rfl) (pv 0) aH (fun _ _=>rfl)) (pv 1)) (pg_sub (pv 0) aH set_list))
   (aM (bG (pv 4))))))),?_⟩
  have nst:sl≠t:=ne_of hsl ht (by intro z;injection z with z;cases ns <;> simp at z)
  have ix:∀ {H1:Hp}{p' c':Int}{Q:VK},H1 t=some (.lst [.ref sl,.int p',.int c'])→Q (.ref sl) H1→rIx K (.ref t) (.int 0) H1 Q:=fun e q=>.inl ⟨t,_,0,_,rfl,rfl,bY.of e,rfl,q⟩
  have ix1:∀ {H1:Hp}{p' c':Int}{Q:VK},H1 t=some (.lst [.ref sl,.int p',.int c'])→Q (.int p') H1→rIx K (.ref t) (.int 1) H1 Q:=fun e q=>.inl ⟨t,_,1,_,rfl,rfl,bY.of e,rfl,q⟩
  have ix2:∀ {H1:Hp}{p' c':Int}{Q:VK},H1 t=some (.lst [.ref sl,.int p',.int c'])→Q (.int c') H1→rIx K (.ref t) (.int 2) H1 Q:=fun e q=>.inl ⟨t,_,2,_,rfl,rfl,bY.of e,rfl,q⟩
  have tail:∀ (v3:Option V) (H1:Hp) (p' c':Int),cK t H H1→H1 t=some (.lst [.ref sl,.int p',.int c'])→rdTail K (dE Q) [some (.ref t),some (.int many),some (.int 2305843009213693951),v3,none] H1:=by
   intro v3 H1 p' c' bt e
   refine⟨_,rfl,ix2 e ⟨_,rfl,_,_,rfl,rfl,hm0,?_⟩⟩
   refine⟨_,rfl,ix2 e ⟨_,rfl,_,_,rfl,rfl,⟨hm0,hm1⟩,_,rfl,t,_,2,2,rfl,rfl,e,rfl,_,rfl,?_⟩⟩
   refine k _ _ (bt.trans cK.upd) ⟨ns,p',c' / many,aD,?_,hns⟩ (Int.emod_nonneg _ (by omega)) (Int.emod_lt_of_pos _ hm0)
   rw[aN nst];exact bt sl _ nst hsl
  refine⟨_,rfl,ix2 ht ⟨_,rfl,_,_,rfl,rfl,_,rfl,?_⟩⟩
  refine ite2 (fun _=>?_) (fun _=>tail none H pos cell (cK.refl H) ht)
  have mid:∀ (c':Int),rdMid K { nx:=rdTail K (dE Q),rt:=Q } [some (.ref t),some (.int many),some (.int 2305843009213693951),some (.int c'),none] H:=by
   intro c'
   refine⟨_,rfl,ix1 ht ⟨_,_,rfl,rfl,_,rfl,t,_,1,1,rfl,rfl,ht,rfl,?_⟩⟩
   refine⟨_,rfl,_,rfl,t,_,2,2,rfl,rfl,aD,rfl,?_⟩
   exact tail (some (.int c')) _ (pos+1) c' (cK.upd.trans cK.upd) aD
  have big:∀ (c':Int),tSeq (tIfS (rdTest K) (rdBody K) tNext) (rdMid K) { nx:=rdTail K (dE Q),rt:=Q } [some (.ref t),some (.int many),some (.int 2305843009213693951),some (.int c'),none] H:=by
   intro c'
   have body:∀ σ,σ=[some (.ref t),some (.int many),some (.int 2305843009213693951),some (.int c'),none]→rdBody K { nx:=rdMid K { nx:=rdTail K (dE Q),rt:=Q },rt:=Q } σ H:=by
    rintro σ rfl
    have prime:(0:Int) < 2305843009213693951:=by decide
    refine⟨_,rfl,_,rfl,ix1 ht ⟨_,_,rfl,rfl,.inl ⟨by decide,by decide⟩,_,_,rfl,rfl,_,rfl,_,_,rfl,rfl,prime,?_⟩⟩
    have b1:=Int.emod_nonneg (c'+1000003 * pos) (show (2305843009213693951:Int)≠0 by decide)
    have b2:=Int.emod_lt_of_pos (c'+1000003 * pos) prime
    generalize (c'+1000003 * pos) % 2305843009213693951=c1 at b1 b2
    refine⟨_,rfl,_,rfl,_,_,rfl,rfl,.inl ⟨by omega,by omega⟩,_,rfl,_,_,rfl,rfl,.inl ⟨by decide,by decide⟩,_,_,rfl,rfl,_,_,rfl,rfl,_,rfl,_,_,rfl,rfl,prime,?_⟩
    have b3:=Int.emod_nonneg (c1 * c1+1181783497276652981 * c1+2049848353892358983) (show (2305843009213693951:Int)≠0 by decide)
    have b4:=Int.emod_lt_of_pos (c1 * c1+1181783497276652981 * c1+2049848353892358983) prime
    generalize (c1 * c1+1181783497276652981 * c1+2049848353892358983) % 2305843009213693951=c2 at b3 b4
    refine⟨_,rfl,_,rfl,_,_,rfl,rfl,.inl ⟨by omega,by omega⟩,_,_,rfl,rfl,_,rfl,_,_,rfl,rfl,prime,?_⟩
    exact mid _
   refine⟨_,rfl,ix1 ht ⟨_,rfl,ix ht ⟨sl,_,rfl,.inl (bY.of hsl),_,_,rfl,rfl,_,rfl,?_⟩⟩⟩
   refine ite2 (fun _=>?_) (fun _=>?_)
   ·refine iteT ?_
    exact body _ rfl
   ·refine⟨_,rfl,_,_,rfl,rfl,⟨by decide,by decide,by decide⟩,_,_,rfl,rfl,_,rfl,?_⟩
    refine ite2 (fun _=>body _ rfl) (fun _=>mid _)
  refine⟨_,rfl,ix ht ⟨sl,_,rfl,.inl (bY.of hsl),_,_,rfl,rfl,_,rfl,?_⟩⟩
  refine ite2 (fun hlen=>?_) (fun _=>big 0)
  have hpos:0 < ns.length:=by have:=of_decide_eq_true hlen;simpa using this
  refine⟨_,rfl,ix ht ⟨_,rfl,ix1 ht ⟨_,rfl,ix ht ⟨sl,_,rfl,.inl (bY.of hsl),_,_,rfl,rfl,(show (0:Int) < (((ns.map V.int).length:Nat):Int) by rw[List.length_map];omega),?_⟩⟩⟩⟩
  have m1:=Int.emod_nonneg pos (show (((ns.map V.int).length:Nat):Int)≠0 by rw[List.length_map];omega)
  have m2:=Int.emod_lt_of_pos pos (show (0:Int) < (((ns.map V.int).length:Nat):Int) by rw[List.length_map];omega)
  rw[List.length_map] at m1 m2
  have hix:(ns.map V.int)[(pos % ((ns.map V.int).length:Int)).toNat]? = some (.int (ns[(pos % (ns.length:Int)).toNat]'(by omega))):=by
   rw[List.length_map,List.getElem?_map];simp [show (pos % (ns.length:Int)).toNat < ns.length by omega]
  refine .inl ⟨sl,_,_,_,rfl,rfl,bY.of hsl,atI_int (by rw[List.length_map];exact m1) hix,?_⟩
  exact big _
theorem ok__law_draw {f:Addr}{fd:FuncData} (F:Fun K "_law_draw" "_law_draw" (aX 50) f fd) (T:Txt mg):FnOk P w K mg base CX0 1 f fd ["tape","many"] spDraw:=
 (ok__law_drawB F T).imp fun vs H Q E ⟨t,sl,many,e,tp,h0,h1,k⟩=>⟨t,sl,many,e,tp,h0,Int.lt_of_lt_of_le h1 (by decide),k⟩
end
end Tw
namespace Tw
open PySem L2
structure Ext (t sl:Addr) (H H':Hp):Prop where
 bt:cK t H H'
 tp:dW H' t sl
theorem dW.some {H:Hp}{t sl:Addr} (h:dW H t sl):∃ o,H t=some o:=by obtain⟨ns,pos,cell,e,_⟩:=h;exact⟨_,e⟩
theorem dW.put {H:Hp}{t sl p:Addr}{o:HO} (h:dW H t sl) (h1:p≠t) (h2:p≠sl):dW (upd H p o) t sl:=by
 obtain⟨ns,pos,cell,e,f,g⟩:=h
 exact⟨ns,pos,cell,by rw[aN (Ne.symm h1)];exact e,by rw[aN (Ne.symm h2)];exact f,g⟩
theorem dW.ne_sl {H:Hp}{t sl p:Addr} (h:dW H t sl) (hp:H p=none):p≠sl:=by
 obtain⟨ns,pos,cell,e,f,g⟩:=h
 exact fun z=>by rw[z,f] at hp;cases hp
theorem Ext.new {t sl p:Addr}{H H':Hp}{o:HO} (e:Ext t sl H H') (hp:H' p=none):Ext t sl H (upd H' p o):=⟨e.bt.trans (aK.new hp).but,e.tp.same (aK.new hp)⟩
theorem Ext.ne {t sl p:Addr}{H H':Hp} (e:Ext t sl H H') (hp:H' p=none):p≠t:=by
 obtain⟨o,h⟩:=e.tp.some
 intro z;rw[z,h] at hp;cases hp
theorem Ext.ts {K:PySem.W.Frag}{t sl:Addr}{H H':Hp} (e:Ext t sl H H') (tp:dW H t sl):bU K H H':=e.bt.ts tp.mut
noncomputable def Gn (t sl:Addr) (σ:St) (H0:Hp) (P:V→Prop) (te:TE):Prop:=∀ H Q,Ext t sl H0 H→(∀ v H',Ext t sl H0 H'→cK t H H'→P v→Q v H')→te σ H Q
section
variable {K:PySem.W.Frag}{t sl:Addr}{σ:St}{H0:Hp}{P:V→Prop}{a b c d:TE}
noncomputable def dF (lo hi:Int):V→Prop:=fun v=>∃ i,v=.int i∧lo≤i∧i < hi
theorem Gn.imp {P':V→Prop} (h:Gn t sl σ H0 P a) (f:∀ v,P v→P' v):Gn t sl σ H0 P' a:=fun H Q e k=>h H Q e fun v H' e' b p=>k v H' e' b (f v p)
theorem gn_c {v:V} (h:P v):Gn t sl σ H0 P (tC v):=fun H Q e k=>k v H e (cK.refl H) h
theorem gn_v {i:Nat}{v:V} (hσ:σ[i]? = some (some v)) (h:P v):Gn t sl σ H0 P (cZ i):=fun H Q e k=>⟨v,hσ,k v H e (cK.refl H) h⟩
theorem gn_pick2 (ha:Gn t sl σ H0 P a) (hb:Gn t sl σ H0 P b) (hc:Gn t sl σ H0 (dF 0 2) c):Gn t sl σ H0 P (tOp (rIx K) (tLst (dS a (dS b tNil))) c):=by
 intro H Q e k
 refine ha H _ e fun v1 H1 e1 b1 p1=>hb H1 _ e1 fun v2 H2 e2 b2 p2=>⟨(show 2≤sizeLine by decide),fun p hp=>hc _ _ (e2.new hp) fun v H3 e3 b3 ⟨i,hi,h0,h1⟩=>?_⟩
 subst hi
 have hl:=b3 p _ (e2.ne hp) aD
 have hb:cK t H H3:=b1.trans (b2.trans ((aK.new hp).but.trans b3))
 rcases (show i=0∨i=1 by omega) with rfl | rfl
 ·exact .inl ⟨p,_,0,v1,rfl,rfl,bY.of hl,rfl,k v1 H3 e3 hb p1⟩
 ·exact .inl ⟨p,_,1,v2,rfl,rfl,bY.of hl,rfl,k v2 H3 e3 hb p2⟩
theorem gn_pick3 (ha:Gn t sl σ H0 P a) (hb:Gn t sl σ H0 P b) (hd:Gn t sl σ H0 P d) (hc:Gn t sl σ H0 (dF 0 3) c):Gn t sl σ H0 P (tOp (rIx K) (tLst (dS a (dS b (dS d tNil)))) c):=by
 intro H Q e k
 refine ha H _ e fun v1 H1 e1 b1 p1=>hb H1 _ e1 fun v2 H2 e2 b2 p2=>hd H2 _ e2 fun v4 H4 e4 b4 p4=>⟨(show 3≤sizeLine by decide),fun p hp=>hc _ _ (e4.new hp) fun v H3 e3 b3 ⟨i,hi,h0,h1⟩=>?_⟩
 subst hi
 have hl:=b3 p _ (e4.ne hp) aD
 have hb:cK t H H3:=b1.trans (b2.trans (b4.trans ((aK.new hp).but.trans b3)))
 rcases (show i=0∨i=1∨i=2 by omega) with rfl | rfl | rfl
 ·exact .inl ⟨p,_,0,v1,rfl,rfl,bY.of hl,rfl,k v1 H3 e3 hb p1⟩
 ·exact .inl ⟨p,_,1,v2,rfl,rfl,bY.of hl,rfl,k v2 H3 e3 hb p2⟩
 ·exact .inl ⟨p,_,2,v4,rfl,rfl,bY.of hl,rfl,k v4 H3 e3 hb p4⟩
theorem gn_draw {i:Nat}{lo hi:Int} (hσ:σ[i]? = some (some (.ref t))) (hlo:0 < lo) (hhi:hi≤1000000) (ha:Gn t sl σ H0 (dF lo hi) a):Gn t sl σ H0 (fun v=>∃ r m,v=.int r∧0≤r∧r < m∧lo≤m∧m < hi) (tCall spDraw [] E0 (dS (cZ i) (dS a tNil))):=by
 intro H Q e k
 refine⟨_,hσ,ha H _ e fun v H1 e1 b1 ⟨m,hm,h0,h1⟩=>?_⟩
 subst hm
 exact⟨t,sl,m,rfl,e1.tp,by omega,by omega,fun r H2 b2 t2 r0 r1=>k _ H2 ⟨e1.bt.trans b2,t2⟩ (b1.trans b2) ⟨r,m,rfl,r0,r1,h0,h1⟩⟩
theorem cE {i:Nat}{m:Int} (hσ:σ[i]? = some (some (.ref t))) (h0:0 < m) (h1:m < 1000000):Gn t sl σ H0 (dF 0 m) (tCall spDraw [] E0 (dS (cZ i) (dS (tC (.int m)) tNil))):=
 (gn_draw (lo:=m) (hi:=m+1) hσ h0 (by omega) (gn_c ⟨m,rfl,by omega,by omega⟩)).imp fun v ⟨r,m',e,a,b,c,d⟩=>⟨r,e,a,by omega⟩
theorem gn_drawv {i j:Nat}{m:Int} (hσ:σ[i]? = some (some (.ref t))) (hj:σ[j]? = some (some (.int m))) (h0:0 < m) (h1:m < 1000000):Gn t sl σ H0 (dF 0 m) (tCall spDraw [] E0 (dS (cZ i) (dS (cZ j) tNil))):=
 (gn_draw (lo:=m) (hi:=m+1) hσ h0 (by omega) (gn_v hj ⟨m,rfl,by omega,by omega⟩)).imp fun v ⟨r,m',e,a,b,c,d⟩=>⟨r,e,a,by omega⟩
theorem gn_add {x y l h:Int} (ha:Gn t sl σ H0 (dF x y) a) (hb:Gn t sl σ H0 (dF l h) b):Gn t sl σ H0 (dF (x+l) (y+h - 1)) (tOp (rI0 fun i j=>.int (i+j)) a b):=by
 intro H Q e k
 refine ha H _ e fun v1 H1 e1 b1 ⟨i,hi,i0,i1⟩=>hb H1 _ e1 fun v2 H2 e2 b2 ⟨j,hj,j0,j1⟩=>?_
 subst hi hj
 exact⟨i,j,rfl,rfl,k _ H2 e2 (b1.trans b2) ⟨_,rfl,by omega,by omega⟩⟩
theorem gn_div {y m:Int} (hm:0 < m) (hm2:m < 1000000) (ha:Gn t sl σ H0 (dF 0 y) a):Gn t sl σ H0 (fun v=>∃ i,v=.int (i / m)∧0≤i∧i < y) (tOp (rI CDiv fun i j=>.int (i / j)) a (tC (.int m))):=by
 intro H Q e k
 refine ha H _ e fun v1 H1 e1 b1 ⟨i,hi,i0,i1⟩=>?_
 subst hi
 exact⟨i,m,rfl,rfl,⟨hm,by omega⟩,k _ H1 e1 b1 ⟨i,rfl,i0,i1⟩⟩
theorem gn_eq0 {y c0:Int} (ha:Gn t sl σ H0 (dF 0 y) a):Gn t sl σ H0 (fun v=>∃ b:Bool,v=.bl b) (tOp rEq a (tC (.int c0))):=by
 intro H Q e k
 refine ha H _ e fun v1 H1 e1 b1 ⟨i,hi,i0,i1⟩=>?_
 subst hi
 exact⟨rfl,k _ H1 e1 b1 ⟨_,rfl⟩⟩
theorem gn_gt0 {y c0:Int} (ha:Gn t sl σ H0 (dF 0 y) a):Gn t sl σ H0 (fun v=>∃ b:Bool,v=.bl b) (tOp (rI0 fun i j=>.bl (decide (j < i))) a (tC (.int c0))):=by
 intro H Q e k
 refine ha H _ e fun v1 H1 e1 b1 ⟨i,hi,i0,i1⟩=>?_
 subst hi
 exact⟨i,c0,rfl,rfl,k _ H1 e1 b1 ⟨_,rfl⟩⟩
noncomputable abbrev rInt1:List V→Hp→VK→Prop:=fun xs H Q=>(∃ i,xs=[.int i]∧Q (.int i) H)∨∃ k,xs=[.bl k]∧Q (.int (if k then 1 else 0)) H
theorem gn_small {i:Nat}{s:Bool} (hσ:σ[i]? = some (some (.bl s))):Gn t sl σ H0 (dF 0 2) (tCB rInt1 (dS (cZ i) tNil)):=by
 intro H Q e k
 refine⟨_,hσ,.inr ⟨s,rfl,k _ H e (cK.refl H) ?_⟩⟩
 cases s
 ·exact⟨0,rfl,by omega,by omega⟩
 ·exact⟨1,rfl,by omega,by omega⟩
theorem gn_menu {i:Nat}{s:Bool}{x y lo hi:Int} (hσ:σ[i]? = some (some (.bl s))) (h1:lo≤x∧x < hi) (h2:lo≤y∧y < hi):Gn t sl σ H0 (dF lo hi) (tOp (rIx K) (tLst (dS (tC (.int x)) (dS (tC (.int y)) tNil))) (tCB rInt1 (dS (cZ i) tNil))):=
 gn_pick2 (gn_c ⟨x,rfl,h1.1,h1.2⟩) (gn_c ⟨y,rfl,h2.1,h2.2⟩) (gn_small hσ)
theorem gn_half (ha:Gn t sl σ H0 (dF 0 4) a):Gn t sl σ H0 (dF 0 2) (tOp (rI CDiv fun i j=>.int (i / j)) a (tC (.int 3))):=
 (gn_div (by decide) (by decide) ha).imp fun v ⟨i,e,a,b⟩=>⟨i / 3,e,by omega,by omega⟩
theorem gn_up {lo hi lo' hi':Int} (h:Gn t sl σ H0 (dF lo hi) a) (h1:lo'≤lo) (h2:hi≤hi'):Gn t sl σ H0 (dF lo' hi') a:=h.imp fun v ⟨i,e,a,b⟩=>⟨i,e,by omega,by omega⟩
theorem gn_drawm {i:Nat}{lo hi:Int} (hσ:σ[i]? = some (some (.ref t))) (hlo:0 < lo) (hhi:hi≤1000000) (ha:Gn t sl σ H0 (dF lo hi) a):Gn t sl σ H0 (dF 0 (hi - 1)) (tCall spDraw [] E0 (dS (cZ i) (dS a tNil))):=
 (gn_draw hσ hlo hhi ha).imp fun v ⟨r,m,e,a,b,c,d⟩=>⟨r,e,a,by omega⟩
end
section
variable {P:Program}{w:World}{K:PySem.W.Frag}{mg:Str→Option Value}{base:Heap}
noncomputable def spOuts (K:PySem.W.Frag):Sp:=fun args H Q _=>∃ (t sl:Addr) (n:Nat) (small:Bool),args=[.ref t,.int (n:Int),.bl small]∧dW H t sl∧1≤n∧n≤12∧
 ∀ (outs:List (Option Int×Int)) p H',Ext t sl H H'→outs≠[]→outs.length≤3→(∀ o∈outs,OutOk n o)→Is K H' (.tup (outs.map outD)) p→Q p H'
theorem sc__law_outs:FnScope ["tape","many","small","outs","k","target","parts"] ["tape","many","small"] (aJ (aX 51)):=⟨rfl,rfl,rfl,by decide +kernel,rfl,by decide +kernel,by decide +kernel⟩
theorem ok__law_outs {f fD:Addr}{fd fdD:FuncData} (F:Fun K "_law_outs" "_law_outs" (aX 51) f fd) (T:Txt mg) (G__law_draw:Callee P w K mg base "_law_draw" ["tape","many"] 1 spDraw fD fdD):FnOk P w K mg base CX0 2 f fd ["tape","many","small"] (spOuts K):=by
 refine F.ok sc__law_outs (fun vs H Q E h=>?_) (fun cdv A outer s H vs Q E hr h=>?_)
 ·obtain⟨t,sl,n,small,rfl,_⟩:=h;rfl
 ·obtain⟨t,sl,n,small,rfl,tp,n1,n2,k⟩:=h
  have sc:=sc__law_outs
  refine⟨_,(aE (bE (i:=3) sc.nd rfl (Or.inl rfl) (cG aB))
   (aE (dN PassesOwn.never rfl (cB rfl T.b_range (aA (aY cH aH (aP (aL (K:=K) rfl) (cG (aA (d7 G__law_draw hr (aA (pv 0) (aA aH aB))) (aA (d7 G__law_draw hr (aA (pv 0) (aA aH aB))) aB))) (d7 G__law_draw hr (aA (pv 0) (aA aH aB))) (fun _ _=>rfl))) aB)) (aF (i:=4) sc.nd rfl (Or.inl rfl)) (aE (bE (i:=5) sc.nd rfl (Or.inl rfl) (aP (aL (K:=K) rfl) (cG (aA pe_non (aA (d7 G__law_draw hr (aA (pv 0) (aA (pv 1) aB))) (aA (d7 G__law_draw hr (aA (pv 0) (aA (pv 1) aB))) aB)))) (d7 G__law_draw hr (aA (pv 0) (aA aH aB))) (fun _ _=>rfl)))
   (aE (bE (i:=6) sc.nd rfl (Or.inl rfl) (aP (aL (K:=K) rfl) (cG (aA (d7 G__law_draw hr (aA (pv 0) (aA aH aB))) (aA (d7 G__law_draw hr (aA (pv 0) (aA (aP (aL (K:=K) rfl) (cG (aA aH (aA aH aB))) (bD call_int1 rfl T.b_int bt_int (aA (pv 2) aB)) (fun _ _=>rfl)) aB))) aB))) (aY op_fdiv (d7 G__law_draw hr (aA (pv 0) (aA aH aB))) aH) (fun _ _=>rfl)))
   (aM (cL (pe_bmK (K:=K) rfl PySem.F.plainAttrs_list PySem.F.slot_list_append PySem.F.type_list_append d4 (pv 3) (aA (bT (aA (pv 5) (aA (aY cH aH (pv 6)) aB))) aB)))))))
   (aM (bG (bD (cC (K:=K) rfl) rfl T.b_tuple cN (aA (pv 3) aB)))))),?_⟩
  refine⟨Nat.zero_le _,fun ol hol=>?_⟩
  have e0:Ext t sl H (upd H ol (.lst [])):=Ext.new ⟨cK.refl H,tp⟩ hol
  have no:ol≠t:=Ext.ne ⟨cK.refl H,tp⟩ hol
  refine gn_add (x:=1) (y:=2) (l:=0) (h:=3) (H0:=upd H ol (.lst [])) (t:=t) (sl:=sl) (gn_c ⟨1,rfl,by omega,by omega⟩)
   (gn_pick2 (gn_up (cE rfl (by decide) (by decide)) (Int.le_refl _) (by decide)) (cE rfl (by decide) (by decide)) (cE rfl (by decide) (by decide))) _ _ ⟨cK.refl _,e0.tp⟩ ?_
  rintro v H1 e1 _ ⟨m,rfl,m0,m1⟩
  refine⟨m,rfl,by omega,by omega,?_⟩
  refine dP (lo:=0) (n:=m.toNat) (fun i σ' H'=>Ext t sl H H'∧∃ (outs:List (Option Int×Int)) (xs:List V),H' ol=some (.lst xs)∧IsL K H' (outs.map outD) xs∧outs.length=i∧(∀ o∈outs,OutOk n o)∧
   ∃ v4 v5 v6,σ'=[some (.ref t),some (.int (n:Int)),some (.bl small),some (.ref ol),v4,v5,v6]) ?_ ?_ ?_
  ·exact⟨⟨e0.bt.trans e1.bt,e1.tp⟩,[],[],e1.bt ol _ no aD,.nil,rfl,fun o ho=>(nomatch ho),none,none,none,rfl⟩
  ·rintro i σ' H2 hi ⟨e2,outs,xs,ho,hl,hlen,hok,v4,v5,v6,rfl⟩
   refine gn_pick3 (H0:=H2) (t:=t) (sl:=sl) (P:=fun v=>∃ o:Option Int,v=tgV o∧∀ z,o=some z→0≤z∧z < n) (gn_c ⟨none,rfl,fun z h=>nomatch h⟩)
    ((gn_drawv (m:=(n:Int)) rfl rfl (by omega) (by omega)).imp fun v ⟨r,e,a,b⟩=>⟨some r,e,fun z h=>by cases h;exact⟨a,by omega⟩⟩)
    ((gn_drawv (m:=(n:Int)) rfl rfl (by omega) (by omega)).imp fun v ⟨r,e,a,b⟩=>⟨some r,e,fun z h=>by cases h;exact⟨a,by omega⟩⟩) (cE rfl (by decide) (by decide)) _ _ ⟨cK.refl _,e2.tp⟩ ?_
   rintro v H3 e3 _ ⟨tg,rfl,htg⟩
   refine gn_pick2 (H0:=H3) (t:=t) (sl:=sl) (P:=dF 0 60) (gn_up (cE rfl (by decide) (by decide)) (Int.le_refl _) (by decide))
    (gn_up (gn_drawm (lo:=3) (hi:=61) rfl (by decide) (by decide) (gn_menu rfl ⟨by decide,by decide⟩ ⟨by decide,by decide⟩)) (Int.le_refl _) (by decide)) (gn_half (cE rfl (by decide) (by decide))) _ _ ⟨cK.refl _,e3.tp⟩ ?_
   rintro v H4 e4 _ ⟨pt,rfl,p0,p1⟩
   have ho4:H4 ol=some (.lst xs):=e4.bt ol _ no (e3.bt ol _ no ho)
   refine⟨_,rfl,.inl ⟨rfl,_,bY.of ho4⟩,_,rfl,_,rfl,_,_,rfl,rfl,(show 2≤sizeLine by decide),fun q hq=>?_⟩
   have nq:ol≠q:=aO ho4 hq
   have hxl:xs.length=outs.length:=by rw[hl.length,List.length_map]
   have hm3:m.toNat≤3:=by omega
   refine⟨ol,xs,_,rfl,rfl,by rw[aN nq];exact ho4,aQ (by omega),?_⟩
   have e5:Ext t sl H2 (upd H4 q (.tup [tgV tg,.int (1+pt)])):=Ext.new ⟨e3.bt.trans e4.bt,e4.tp⟩ hq
   have ts:bU K H2 (upd (upd H4 q (.tup [tgV tg,.int (1+pt)])) ol (.lst (xs++[.ref q]))):=bU.put (e5.ts e2.tp) (.inr (by rw[aN nq,ho4];exact trivial))
   refine⟨⟨fun b o hb e=>?_,?_⟩,outs++[(tg,1+pt)],xs++[.ref q],aD,?_,by simp [hlen],?_,_,_,_,rfl⟩
   ·rw[aN (aO e hol)];exact e5.bt b o hb (e2.bt b o hb e)
   ·exact e5.tp.put no (dW.ne_sl tp hol)
   ·rw[List.map_append]
    exact IsL.snoc (Is.tupOf (ds:=[tgD tg,.int (1+pt)]) (bU.put (bU.refl _) (.inr (by rw[aN nq,ho4];exact trivial)) _ _ (bR.of aD)) (.cons (Is.tgOf tg) (.cons (Is.i _) .nil))) (IsL.mono ts _ _ hl)
   ·intro o ho
    rcases List.mem_append.mp ho with ho | ho
    ·exact hok o ho
    ·rw[List.mem_singleton.mp ho]
     exact⟨fun z hz=>htg z hz,by show 1≤1+pt;omega,by show 1+pt≤60;omega⟩
  ·rintro σ' H2 ⟨e2,outs,xs,ho,hl,hlen,hok,v4,v5,v6,rfl⟩
   refine⟨_,rfl,ol,_,rfl,.inl ⟨bY.of ho,fun l hlf=>?_⟩⟩
   refine k outs _ _ (e2.new hlf) (fun z=>by rw[z] at hlen;simp at hlen;omega) (by omega) hok (Is.tupOf (bR.of aD) (IsL.mono (aK.new hlf).ts _ _ hl))
end
end Tw
namespace L2
theorem if_by {c:TT}{a b:TS}{D:Ends}{σ:St}{H:Hp} (I:St→Hp→Prop) (h1:∀ D':Ends,(∀ σ' H',I σ' H'→D'.nx σ' H')→tIfS c a b D' σ H) (h2:∀ σ' H',I σ' H'→D.nx σ' H'):tIfS c a b D σ H:=h1 D h2
theorem for_by {i:TI}{g:TG}{b:TS}{D:Ends}{σ:St}{H:Hp} (I:St→Hp→Prop) (h1:∀ D':Ends,(∀ σ' H',I σ' H'→D'.nx σ' H')→tFor i g b D' σ H) (h2:∀ σ' H',I σ' H'→D.nx σ' H'):tFor i g b D σ H:=h1 D h2
end L2
namespace Tw
open PySem L2
section
variable {K:PySem.W.Frag}{t sl:Addr}{σ:St}{H0:Hp}{P:V→Prop}{a b c d:TE}
theorem if_draw0 {y c0:Int}{t' u':TS}{D':Ends}{H:Hp} (ha:Gn t sl σ H0 (dF 0 y) a) (e:Ext t sl H0 H) (k:∀ (b:Bool) H',Ext t sl H0 H'→cK t H H'→if b=true then t' D' σ H' else u' D' σ H'):tIfS (tTest (tOp rEq a (tC (.int c0)))) t' u' D' σ H:=
 gn_eq0 ha H _ e fun v H' e' b ⟨c,hc⟩=>⟨c,hc,k c H' e' b⟩
theorem gn_mulnot {i:Nat}{s:Bool} (hσ:σ[i]? = some (some (.bl s))) (ha:Gn t sl σ H0 (dF 0 2) a):Gn t sl σ H0 (dF 0 2) (tOp (rI CMul fun i j=>.int (i * j)) a (tCB rInt1 (dS (tNotV (cZ i)) tNil))):=by
 intro H Q e k
 refine ha H _ e fun v1 H1 e1 b1 ⟨j,hj,j0,j1⟩=>⟨_,hσ,s,rfl,.inr ⟨!s,rfl,?_⟩⟩
 subst hj
 refine⟨j,_,rfl,rfl,.inl ⟨by omega,by omega⟩,k _ H1 e1 b1 ?_⟩
 cases s
 ·exact⟨j,by simp,j0,j1⟩
 ·exact⟨0,by simp,by omega,by omega⟩
theorem gn_subcv {j:Nat}{x y:Int} (hj:σ[j]? = some (some (.int y))):Gn t sl σ H0 (dF (x - y) (x - y+1)) (tOp (rI0 fun i j=>.int (i - j)) (tC (.int x)) (cZ j)):=fun H Q e k=>
 ⟨_,hj,x,y,rfl,rfl,k _ H e (cK.refl H) ⟨_,rfl,by omega,by omega⟩⟩
theorem gn_addv {j:Nat}{y l h:Int} (hj:σ[j]? = some (some (.int y))) (hb:Gn t sl σ H0 (dF l h) b):Gn t sl σ H0 (dF (y+l) (y+h)) (tOp (rI0 fun i j=>.int (i+j)) (cZ j) b):=
 gn_up (gn_add (x:=y) (y:=y+1) (gn_v hj ⟨y,rfl,by omega,by omega⟩) hb) (by omega) (by omega)
end
section
variable {P:Program}{w:World}{K:PySem.W.Frag}{mg:Str→Option Value}{base:Heap}
structure VFull (i:Nat) (v:Vs):Prop where
 sz:v.size≤60
 br:v.size≤v.brim
 bh:v.brim≤200
 sp:∀ t,v.spill=some t→(i:Int) < t
structure NetFull (net:Net):Prop where
 vs:∀ i v,net.vs[i]? = some v→VFull i v
 sps:∀ s∈net.sps,0≤s.2.1∧s.2.1≤60
noncomputable def spVessel (K:PySem.W.Frag):Sp:=fun args H Q _=>∃ (t sl:Addr) (i n m:Nat) (small:Bool),args=[.ref t,.int (i:Int),.int (n:Int),.int (m:Int),.bl small]∧dW H t sl∧i < n∧n≤12∧m≤12∧
 ∀ (v:Vs) p H',Ext t sl H H'→VOk n m v→VFull i v→Is K H' (vsD v) p→Q p H'
theorem sc__law_vessel:FnScope ["tape","number","many","spouts","small","size","brim","spill","acts","k"] ["tape","number","many","spouts","small"] (aJ (aX 52)):=⟨rfl,rfl,rfl,by decide +kernel,rfl,by decide +kernel,by decide +kernel⟩
theorem ok__law_vessel {f fD fO:Addr}{fd fdD fdO:FuncData} (F:Fun K "_law_vessel" "_law_vessel" (aX 52) f fd) (T:Txt mg) (G__law_draw:Callee P w K mg base "_law_draw" ["tape","many"] 1 spDraw fD fdD)
  (G__law_outs:Callee P w K mg base "_law_outs" ["tape","many","small"] 2 (spOuts K) fO fdO):FnOk P w K mg base CX0 3 f fd ["tape","number","many","spouts","small"] (spVessel K):=by
 refine F.ok sc__law_vessel (fun vs H Q E h=>?_) (fun cdv A outer s H vs Q E hr h=>?_)
 ·obtain⟨t,sl,i,n,m,small,rfl,_⟩:=h;rfl
 ·obtain⟨t,sl,i,n,m,small,rfl,tp,hi,hn,hm,k⟩:=h
  have sc:=sc__law_vessel
  refine⟨_,(aE (bE (i:=5) sc.nd rfl (Or.inl rfl) (aY cH aH (aP (aL (K:=K) rfl) (cG (aA (d7 G__law_draw hr (aA (pv 0) (aA (aP (aL (K:=K) rfl) (cG (aA aH (aA aH aB))) (bD call_int1 rfl T.b_int bt_int (aA (pv 4) aB)) (fun _ _=>rfl)) aB))) (aA (d7 G__law_draw hr (aA (pv 0) (aA (aP (aL (K:=K) rfl) (cG (aA aH (aA aH aB))) (bD call_int1 rfl T.b_int bt_int (aA (pv 4) aB)) (fun _ _=>rfl)) aB))) aB))) (aY op_fdiv (d7 G__law_draw hr (aA (pv 0) (aA aH aB))) aH) (fun _ _=>rfl))))
   (aE (bE (i:=6) sc.nd rfl (Or.inl rfl) (aY cH (pv 5) (aP (aL (K:=K) rfl) (cG (aA aH (aA (d7 G__law_draw hr (aA (pv 0) (aA (aY op_sub aH (pv 5)) aB))) aB))) (aY op_mul (d7 G__law_draw hr (aA (pv 0) (aA aH aB))) (bD call_int1 rfl T.b_int bt_int (aA (pe_not (pv 4)) aB))) (fun _ _=>rfl))))
   (aE (dC (cX op_eq (d7 G__law_draw hr (aA (pv 0) (aA aH aB))) aH (cQ _)) (aM (bE (i:=6) sc.nd rfl (Or.inl rfl) (aY cH (pv 5) (d7 G__law_draw hr (aA (pv 0) (aA aH aB)))))) bV)
   (aE (bE (i:=7) sc.nd rfl (Or.inl rfl) pe_non)
   (aE (dC (PW.pt (pw_and (cX op_lt (aY cH (pv 1) aH) (pv 2) (cQ _)) (pw_and1 (cX op_eq (d7 G__law_draw hr (aA (pv 0) (aA aH aB))) aH (cQ _))))) (aM (bE (i:=7) sc.nd rfl (Or.inl rfl) (aY cH (aY cH (pv 1) aH) (d7 G__law_draw hr (aA (pv 0) (aA (aY op_sub (aY op_sub (pv 2) (pv 1)) aH) aB)))))) bV)
   (aE (bE (i:=8) sc.nd rfl (Or.inl rfl) (cG aB))
   (aE (dC (cX op_gt (pv 3) aH (cQ _)) (aM (dN PassesOwn.never rfl (cB rfl T.b_range (aA (aY op_fdiv (d7 G__law_draw hr (aA (pv 0) (aA aH aB))) aH) aB)) (aF (i:=9) sc.nd rfl (Or.inl rfl)) (aM (cL (pe_bmK (K:=K) rfl PySem.F.plainAttrs_list PySem.F.slot_list_append PySem.F.type_list_append d4 (pv 8) (aA (bT (aA (aP (aL (K:=K) rfl) (cG (aA pe_str (aA pe_str (aA pe_str aB)))) (d7 G__law_draw hr (aA (pv 0) (aA aH aB))) (fun _ _=>rfl)) (aA (d7 G__law_draw hr (aA (pv 0) (aA (pv 3) aB))) aB))) aB)))))) bV)
   (aM (bG (bT (aA (pv 5) (aA (pv 6) (aA (d7 G__law_outs hr (aA (pv 0) (aA (pv 2) (aA (pv 4) aB)))) (aA (pe_cmpR op_eq (d7 G__law_draw hr (aA (pv 0) (aA aH aB))) aH (cQ _)) (aA (pv 7) (aA (bD (cC (K:=K) rfl) rfl T.b_tuple cN (aA (pv 8) aB)) aB)))))))))))))))),?_⟩
  refine gn_add (t:=t) (sl:=sl) (H0:=H) (x:=1) (y:=2) (l:=0) (h:=60) (gn_c ⟨1,rfl,by omega,by omega⟩)
   (gn_pick2 (gn_up (gn_drawm (lo:=4) (hi:=10) rfl (by decide) (by decide) (gn_menu rfl ⟨by decide,by decide⟩ ⟨by decide,by decide⟩)) (Int.le_refl _) (by decide))
    (gn_up (gn_drawm (lo:=4) (hi:=61) rfl (by decide) (by decide) (gn_menu rfl ⟨by decide,by decide⟩ ⟨by decide,by decide⟩)) (Int.le_refl _) (by decide)) (gn_half (cE rfl (by decide) (by decide)))) _ _ ⟨cK.refl _,tp⟩ ?_
  rintro v H1 e1 _ ⟨size,rfl,s0,s1⟩
  refine gn_addv (t:=t) (sl:=sl) (H0:=H) (y:=size) (l:=0) (h:=201 - size) rfl (gn_pick2 (gn_c ⟨0,rfl,by omega,by omega⟩)
   (gn_up (gn_drawm (lo:=201 - size) (hi:=201 - size+1) rfl (by omega) (by omega) (gn_subcv rfl)) (Int.le_refl _) (by omega)) (gn_mulnot rfl (cE rfl (by decide) (by decide)))) _ _ e1 ?_
  rintro v H2 e2 _ ⟨brim,rfl,br0,br1⟩
  dsimp only [tSeq,tAsg,tC,gName]
  refine if_by (fun σ' H'=>Ext t sl H H'∧∃ brim,size≤brim∧brim≤200∧σ'=[some (.ref t),some (.int (i:Int)),some (.int (n:Int)),some (.int (m:Int)),some (.bl small),some (.int size),some (.int brim),none,none,none]) (fun D' hD=>?_) ?_
  ·refine if_draw0 (t:=t) (sl:=sl) (H0:=H) (cE rfl (by decide) (by decide)) e2 fun b H3 e3 _=>?_
   cases b with
   | false=>exact eJ (hD _ _ ⟨e3,brim,by omega,by omega,rfl⟩)
   | true=>
    refine iteT ?_
    refine gn_addv (t:=t) (sl:=sl) (H0:=H) (y:=size) (l:=0) (h:=3) rfl (cE rfl (by decide) (by decide)) _ _ e3 ?_
    rintro v H4 e4 _ ⟨b2,rfl,c0,c1⟩
    exact hD _ _ ⟨e4,b2,by omega,by omega,rfl⟩
  rintro σ3 H3 ⟨e3,brim,hb1,hb2,rfl⟩
  dsimp only [tSeq,tAsg,tC,gName]
  refine if_by (fun σ' H'=>Ext t sl H H'∧∃ sp:Option Int,(∀ z,sp=some z→(0≤z∧z < n)∧(i:Int) < z)∧σ'=[some (.ref t),some (.int (i:Int)),some (.int (n:Int)),some (.int (m:Int)),some (.bl small),some (.int size),some (.int brim),some (tgV sp),none,none]) (fun D' hD=>?_) ?_
  ·refine⟨_,rfl,_,_,rfl,rfl,_,rfl,_,_,rfl,rfl,_,rfl,?_⟩
   refine ite2 (fun hlt=>?_) (fun _=>eJ (hD _ _ ⟨e3,none,(fun z h=>nomatch h),rfl⟩))
   have hlt':(i:Int)+1 < n:=of_decide_eq_true hlt
   refine gn_eq0 (t:=t) (sl:=sl) (H0:=H) (cE rfl (by decide) (by decide)) _ _ e3 ?_
   rintro v H4 e4 _ ⟨b,rfl⟩
   refine⟨b,rfl,?_⟩
   cases b with
   | false=>exact eJ (hD _ _ ⟨e4,none,(fun z h=>nomatch h),rfl⟩)
   | true=>
    refine iteT ?_
    refine⟨_,rfl,_,_,rfl,rfl,_,rfl,_,rfl,_,rfl,_,_,rfl,rfl,_,_,rfl,rfl,t,sl,(n:Int) - i - 1,rfl,e4.tp,by omega,by omega,fun r H5 b5 t5 r0 r1=>⟨_,_,rfl,rfl,?_⟩⟩
    exact hD _ _ ⟨⟨e4.bt.trans b5,t5⟩,some ((i:Int)+1+r),fun z h=>by cases h;omega,rfl⟩
  rintro σ4 H4 ⟨e4,sp,hsp,rfl⟩
  refine⟨Nat.zero_le _,fun al hal=>?_⟩
  dsimp only [tSeq,tAsg,tC,gName]
  have fal:H al=none:=e4.bt.free (e4.ne hal) hal
  have nal:al≠t:=e4.ne hal
  refine if_by (fun σ' H'=>Ext t sl H H'∧∃ (acts:List (Str×Int)) (xs:List V),H' al=some (.lst xs)∧L2.IsL K H' (acts.map actD) xs∧acts.length≤3∧(∀ a∈acts,ActOk m a)∧
   ∃ v9,σ'=[some (.ref t),some (.int (i:Int)),some (.int (n:Int)),some (.int (m:Int)),some (.bl small),some (.int size),some (.int brim),some (tgV sp),some (.ref al),v9]) (fun D' hD=>?_) ?_
  ·refine⟨_,rfl,_,_,rfl,rfl,_,rfl,?_⟩
   refine ite2 (fun hlt=>?_) (fun _=>hD _ _ ⟨e4.new hal,[],[],aD,.nil,by simp,fun a ha=>(nomatch ha),none,rfl⟩)
   have hm0:(0:Int) < m:=of_decide_eq_true hlt
   refine gn_div (t:=t) (sl:=sl) (H0:=H) (by decide) (by decide) (cE (m:=11) rfl (by decide) (by decide)) _ _ (e4.new hal) ?_
   rintro v H5 e5 b5 ⟨c,rfl,c0,c1⟩
   refine⟨_,rfl,by omega,by omega,?_⟩
   refine dP (lo:=0) (n:=(c / 3).toNat) (fun j σ' H'=>Ext t sl H H'∧∃ (acts:List (Str×Int)) (xs:List V),H' al=some (.lst xs)∧L2.IsL K H' (acts.map actD) xs∧acts.length=j∧(∀ a∈acts,ActOk m a)∧
    ∃ v9,σ'=[some (.ref t),some (.int (i:Int)),some (.int (n:Int)),some (.int (m:Int)),some (.bl small),some (.int size),some (.int brim),some (tgV sp),some (.ref al),v9]) ?_ ?_ ?_
   ·exact⟨e5,[],[],b5 al _ nal aD,.nil,rfl,fun a ha=>(nomatch ha),none,rfl⟩
   ·rintro j σ' H6 hj ⟨e6,acts,xs,ha,hl,hlen,hok,v9,rfl⟩
    refine⟨_,rfl,.inl ⟨rfl,_,bY.of ha⟩,?_⟩
    refine gn_pick3 (t:=t) (sl:=sl) (H0:=H) (P:=fun v=>∃ wd:Str,v=.str wd∧(wd = "open" ∨ wd = "shut" ∨ wd = "turn")) (gn_c ⟨_,rfl,.inl rfl⟩) (gn_c ⟨_,rfl,.inr (.inl rfl)⟩) (gn_c ⟨_,rfl,.inr (.inr rfl)⟩) (cE rfl (by decide) (by decide)) _ _ e6 ?_
    rintro v H7 e7 b7 ⟨wd,rfl,hwd⟩
    refine gn_drawv (t:=t) (sl:=sl) (H0:=H) (m:=(m:Int)) rfl rfl hm0 (by omega) _ _ e7 ?_
    rintro v H8 e8 b8 ⟨r,rfl,r0,r1⟩
    refine⟨(show 2≤sizeLine by decide),fun q hq=>?_⟩
    have ha8:H8 al=some (.lst xs):=b8 al _ nal (b7 al _ nal ha)
    have nq:al≠q:=aO ha8 hq
    have hxl:xs.length=acts.length:=by rw[hl.length,List.length_map]
    refine⟨al,xs,_,rfl,rfl,by rw[aN nq];exact ha8,aQ (by omega),?_⟩
    have e9:Ext t sl H (upd H8 q (.tup [.str wd,.int r])):=e8.new hq
    have mt:Mut (upd H8 q (.tup [.str wd,.int r]) al):=by rw[aN nq,ha8];exact trivial
    have ts:bU K H6 (upd (upd H8 q (.tup [.str wd,.int r])) al (.lst (xs++[.ref q]))):=bU.put (((b7.trans b8).trans (aK.new hq).but).ts e6.tp.mut) (.inr mt)
    refine⟨⟨fun b o hb e=>?_,e9.tp.put nal (dW.ne_sl tp fal)⟩,acts++[(wd,r)],xs++[.ref q],aD,?_,by simp [hlen],?_,_,rfl⟩
    ·rw[aN (aO e fal)];exact e9.bt b o hb e
    ·rw[List.map_append]
     exact L2.IsL.snoc (Is.tupOf (ds:=[.str wd,.int r]) (bU.put (bU.refl _) (.inr mt) _ _ (bR.of aD)) (.cons (Is.s _) (.cons (Is.i _) .nil))) (L2.IsL.mono ts _ _ hl)
    ·intro a ha'
     rcases List.mem_append.mp ha' with ha' | ha'
     ·exact hok a ha'
     ·rw[List.mem_singleton.mp ha']
      exact⟨hwd,r0,r1⟩
   ·rintro σ' H6 ⟨e6,acts,xs,ha,hl,hlen,hok,v9,rfl⟩
    exact hD _ _ ⟨e6,acts,xs,ha,hl,by omega,hok,v9,rfl⟩
  rintro σ5 H5 ⟨e5,acts,xs,ha,hl,hlen,hok,v9,rfl⟩
  refine⟨_,rfl,_,rfl,_,rfl,_,rfl,_,rfl,t,sl,n,small,rfl,e5.tp,by omega,hn,fun outs p H6 e6 o1 o2 o3 hp=>?_⟩
  refine gn_eq0 (t:=t) (sl:=sl) (H0:=H) (cE rfl (by decide) (by decide)) _ _ ⟨e5.bt.trans e6.bt,e6.tp⟩ ?_
  rintro v H7 e7 b7 ⟨b,rfl⟩
  have ha7:H7 al=some (.lst xs):=b7 al _ nal (e6.bt al _ nal ha)
  have b57:cK t H5 H7:=e6.bt.trans b7
  refine⟨_,rfl,_,rfl,al,_,rfl,.inl ⟨bY.of ha7,fun q hq=>⟨(show 6≤sizeLine by decide),fun r hr'=>?_⟩⟩⟩
  have m1:=aK.new (o:=HO.tup xs) hq
  have m2:aK (upd H7 q (.tup xs)) (upd (upd H7 q (.tup xs)) r (.tup [.int size,.int brim,p,.bl b,tgV sp,.ref q])):=aK.new hr'
  refine k ⟨size,brim,outs,b,sp,acts⟩ _ _ ((e7.new hq).new hr') ⟨s0,o1,o2,o3,fun z h=>(hsp z h).1,hlen,hok⟩ ⟨by show size≤60;omega,hb1,hb2,fun z h=>(hsp z h).2⟩ ?_
  refine Is.tupOf (bR.of aD) (.cons (Is.i _) (.cons (Is.i _) (.cons ?_ (.cons (Is.b _) (.cons (Is.tgOf _) (.cons ?_ .nil))))))
  ·exact Is.mono m2.ts _ _ (Is.mono m1.ts _ _ (Is.mono (b7.ts e6.tp.mut) _ _ hp))
  ·exact Is.mono m2.ts _ _ (Is.tupOf (bR.of aD) (L2.IsL.mono m1.ts _ _ (L2.IsL.mono (b57.ts e5.tp.mut) _ _ hl)))
end
end Tw
namespace Tw
open PySem L2
section
variable {P:Program}{w:World}{K:PySem.W.Frag}{mg:Str→Option Value}{base:Heap}
theorem Ext.put {t sl p:Addr}{H H':Hp}{o:HO} (e:Ext t sl H H') (tp:dW H t sl) (hp:H p=none):Ext t sl H (upd H' p o):=
 ⟨fun b u hb e1=>by rw[aN (aO e1 hp)];exact e.bt b u hb e1,e.tp.put (fun z=>by obtain⟨o,h⟩:=tp.some;rw[z,h] at hp;cases hp) (dW.ne_sl tp hp)⟩
theorem Ext.trans {t sl:Addr}{H H1 H2:Hp} (a:Ext t sl H H1) (b:Ext t sl H1 H2):Ext t sl H H2:=⟨a.bt.trans b.bt,b.tp⟩
noncomputable def spNetM (K:PySem.W.Frag):Sp:=fun args H Q _=>∃ (t sl:Addr) (most:Int) (small:Bool),args=[.ref t,.int most,.bl small]∧1≤most∧most≤12∧dW H t sl∧
 ∀ (net:Net) p H',Ext t sl H H'→NetOk net→NetFull net→(net.vs.length:Int)≤most→Is K H' (dU net) p→Q p H'
theorem sc__law_net:FnScope ["tape","most","small","many","spouts","vessels","found","k","flow"] ["tape","most","small"] (aJ (aX 53)):=⟨rfl,rfl,rfl,by decide +kernel,rfl,by decide +kernel,by decide +kernel⟩
theorem ok__law_netM {f fD fV:Addr}{fd fdD fdV:FuncData} (F:Fun K "_law_net" "_law_net" (aX 53) f fd) (T:Txt mg) (G__law_draw:Callee P w K mg base "_law_draw" ["tape","many"] 1 spDraw fD fdD)
  (G__law_vessel:Callee P w K mg base "_law_vessel" ["tape","number","many","spouts","small"] 3 (spVessel K) fV fdV):FnOk P w K mg base CX0 4 f fd ["tape","most","small"] (spNetM K):=by
 refine F.ok sc__law_net (fun vs H Q E h=>?_) (fun cdv A outer s H vs Q E hr h=>?_)
 ·obtain⟨t,sl,most,small,rfl,_⟩:=h;rfl
 ·obtain⟨t,sl,most,small,rfl,mo1,mo2,tp,k⟩:=h
  have sc:=sc__law_net
  refine⟨_,(aE (bE (i:=3) sc.nd rfl (Or.inr rfl) (aY cH aH (d7 G__law_draw hr (aA (pv 0) (aA (pv 1) aB)))))
   (aE (bE (i:=4) sc.nd rfl (Or.inr rfl) (aP (aL (K:=K) rfl) (cG (aA (d7 G__law_draw hr (aA (pv 0) (aA aH aB))) (aA (d7 G__law_draw hr (aA (pv 0) (aA aH aB))) aB))) (aY op_fdiv (d7 G__law_draw hr (aA (pv 0) (aA aH aB))) aH) (fun _ _=>rfl)))
   (aE (eD (i:=5) sc.nd rfl rfl (fun _ _ h=>h) rfl (LcOk.mk (N':=["k","tape","many","spouts","small"]) (fr:=[none,some 0,some 3,some 4,some 2]) rfl ⟨rfl,rfl,rfl,rfl,trivial⟩ rfl rfl rfl rfl rfl ⟨⟨_,rfl,rfl,rfl,rfl⟩,⟨_,rfl,rfl,rfl,rfl⟩,⟨_,rfl,rfl,rfl,rfl⟩,⟨_,rfl,rfl,rfl,rfl⟩,trivial⟩) (cB rfl T.b_range (aA (pv 3) aB)) (fun _ _ _=>(aF (i:=0) (show (["k","tape","many","spouts","small"]:List Str).Nodup by decide +kernel) rfl (Or.inl rfl) (Or.inr rfl))) (fun _ _ _=>cP) (fun _ _ _=>(d7 G__law_vessel hr (aA (pv 1) (aA (pv 0) (aA (pv 2) (aA (pv 3) (aA (pv 4) aB))))))))
   (aE (bE (i:=6) sc.nd rfl (Or.inl rfl) (cG aB))
   (aE (dN PassesOwn.never rfl (cB rfl T.b_range (aA (pv 4) aB)) (aF (i:=7) sc.nd rfl (Or.inl rfl)) (aE (bE (i:=8) sc.nd rfl (Or.inl rfl) (aP (aL (K:=K) rfl) (cG (aA (d7 G__law_draw hr (aA (pv 0) (aA aH aB))) (aA (d7 G__law_draw hr (aA (pv 0) (aA (aP (aL (K:=K) rfl) (cG (aA aH (aA aH aB))) (bD call_int1 rfl T.b_int bt_int (aA (pv 2) aB)) (fun _ _=>rfl)) aB))) aB))) (aY op_fdiv (d7 G__law_draw hr (aA (pv 0) (aA aH aB))) aH) (fun _ _=>rfl)))
   (aM (cL (pe_bmK (K:=K) rfl PySem.F.plainAttrs_list PySem.F.slot_list_append PySem.F.type_list_append d4 (pv 6) (aA (bT (aA (d7 G__law_draw hr (aA (pv 0) (aA (pv 3) aB))) (aA (pv 8) (aA (pe_cmpR op_gt (d7 G__law_draw hr (aA (pv 0) (aA aH aB))) aH (cQ _)) aB)))) aB))))))
   (aM (bG (bT (aA (bD (cC (K:=K) rfl) rfl T.b_tuple cN (aA (pv 5) aB)) (aA (bD (cC (K:=K) rfl) rfl T.b_tuple cN (aA (pv 6) aB)) aB)))))))))),?_⟩
  refine gn_add (t:=t) (sl:=sl) (H0:=H) (x:=1) (y:=2) (l:=0) (h:=most) (gn_c ⟨1,rfl,by omega,by omega⟩) (gn_drawv (m:=most) rfl rfl (by omega) (by omega)) _ _ ⟨cK.refl _,tp⟩ ?_
  rintro v H1 e1 _ ⟨n',rfl,n0,n1⟩
  obtain⟨n,rfl⟩:=Int.eq_ofNat_of_zero_le (show 0≤n' by omega)
  refine gn_pick2 (t:=t) (sl:=sl) (H0:=H) (P:=dF 0 13) (gn_up (cE rfl (by decide) (by decide)) (Int.le_refl _) (by decide)) (cE rfl (by decide) (by decide)) (gn_half (cE rfl (by decide) (by decide))) _ _ e1 ?_
  rintro v H2 e2 _ ⟨m',rfl,m0,m1⟩
  obtain⟨m,rfl⟩:=Int.eq_ofNat_of_zero_le m0
  refine⟨_,rfl,_,rfl,by omega,by omega,?_⟩
  refine lc_range (n:=n) (fun D i r σ' H'=>H2 D=none∧Ext t sl H H'∧H' D=some (.lst r)∧∃ vs:List Vs,vs.length=i∧L2.IsL K H' (vs.map vsD) r∧(∀ v∈vs,VOk n m v)∧(∀ i v,vs[i]? = some v→VFull i v)∧∃ v0,σ'=[v0,some (.ref t),some (.int (n:Int)),some (.int (m:Int)),some (.bl small)])
   (fun D hD=>⟨hD,e2.new hD,aD,[],rfl,.nil,(fun v hv=>nomatch hv),(fun i v hv=>by simp at hv),none,rfl⟩) ?_ ?_
  rotate_left
  ·rintro D i r σ' H3 hi ⟨hD,e3,hl,vs,hlen,hvl,hok,hfu,v0,rfl⟩
   refine d9 ?_
   refine⟨_,rfl,_,rfl,_,rfl,_,rfl,_,rfl,t,sl,i,n,m,small,rfl,e3.tp,hi,by omega,by omega,fun v p H4 e4 vok vfu hp=>?_⟩
   have nD:D≠t:=e2.ne hD
   have fD:H D=none:=e2.bt.free nD hD
   have hl4:H4 D=some (.lst r):=e4.bt D _ nD hl
   have hrl:r.length=vs.length:=by rw[hvl.length,List.length_map]
   have mt:Mut (H4 D):=by rw[hl4];exact trivial
   refine⟨hl4,aQ (by omega),hD,(e3.trans e4).put tp fD,aD,vs++[v],by simp [hlen],?_,?_,?_,_,rfl⟩
   ·rw[List.map_append]
    exact L2.IsL.snoc (Is.mono (bU.put (bU.refl _) (.inr mt)) _ _ hp) (L2.IsL.mono (bU.put (e4.bt.ts e3.tp.mut) (.inr mt)) _ _ hvl)
   ·intro u hu
    rcases List.mem_append.mp hu with hu | hu
    ·exact hok u hu
    ·rw[List.mem_singleton.mp hu];exact vok
   ·intro j u hu
    rcases Nat.lt_or_ge j vs.length with hj | hj
    ·rw[List.getElem?_append_left hj] at hu;exact hfu j u hu
    ·rw[List.getElem?_append_right hj] at hu
     have e0:j - vs.length=0:=by
      rcases Nat.eq_zero_or_pos (j - vs.length) with h | h
      ·exact h
      ·rw[List.getElem?_eq_none (show [v].length≤j - vs.length from h)] at hu;cases hu
     rw[e0] at hu
     have e1:j=i:=by omega
     cases hu
     rw[e1];exact vfu
  rintro D r σ' H3 ⟨hD,e3,hl,vs,hlen,hvl,hok,hfu,_⟩
  have nD:D≠t:=e2.ne hD
  have fD:H D=none:=e2.bt.free nD hD
  refine⟨Nat.zero_le _,fun fl hfl=>?_⟩
  have nf:fl≠t:=e3.ne hfl
  have ff:H fl=none:=e3.bt.free nf hfl
  have nDf:D≠fl:=aO hl hfl
  refine⟨_,rfl,_,rfl,by omega,by omega,?_⟩
  refine dP (lo:=0) (n:=m) (fun j σ' H'=>Ext t sl H H'∧H' D=some (.lst r)∧L2.IsL K H' (vs.map vsD) r∧∃ (sps:List Spt) (xs:List V),H' fl=some (.lst xs)∧L2.IsL K H' (sps.map spD) xs∧sps.length=j∧(∀ s∈sps,(0≤s.1∧s.1 < n)∧0≤s.2.1∧s.2.1≤60)∧
   ∃ v7 v8,σ'=[some (.ref t),some (.int most),some (.bl small),some (.int (n:Int)),some (.int (m:Int)),some (.ref D),some (.ref fl),v7,v8]) ?_ ?_ ?_
  ·exact⟨e3.new hfl,by rw[aN nDf];exact hl,L2.IsL.mono (aK.new hfl).ts _ _ hvl,[],[],aD,.nil,rfl,(fun s hs=>nomatch hs),none,none,rfl⟩
  ·rintro j σ' H4 hj ⟨e4,hl4,hv4,sps,xs,hf4,hs4,hslen,hsok,v7,v8,rfl⟩
   refine gn_pick2 (t:=t) (sl:=sl) (H0:=H) (P:=dF 0 61) (gn_up (cE rfl (by decide) (by decide)) (Int.le_refl _) (by decide))
    (gn_up (gn_drawm (lo:=4) (hi:=62) rfl (by decide) (by decide) (gn_menu rfl ⟨by decide,by decide⟩ ⟨by decide,by decide⟩)) (Int.le_refl _) (by decide)) (gn_half (cE rfl (by decide) (by decide))) _ _ e4 ?_
   rintro v H5 e5 b5 ⟨flow,rfl,fl0,fl1⟩
   have hf5:H5 fl=some (.lst xs):=b5 fl _ nf hf4
   refine⟨_,rfl,.inl ⟨rfl,_,bY.of hf5⟩,?_⟩
   refine gn_drawv (t:=t) (sl:=sl) (H0:=H) (m:=(n:Int)) rfl rfl (by omega) (by omega) _ _ e5 ?_
   rintro v H6 e6 b6 ⟨tg,rfl,tg0,tg1⟩
   refine⟨_,rfl,?_⟩
   refine gn_gt0 (t:=t) (sl:=sl) (H0:=H) (cE rfl (by decide) (by decide)) _ _ e6 ?_
   rintro v H7 e7 b7 ⟨dr,rfl⟩
   refine⟨(show 3≤sizeLine by decide),fun q hq=>?_⟩
   have b47:cK t H4 H7:=b5.trans (b6.trans b7)
   have hf7:H7 fl=some (.lst xs):=b47 fl _ nf hf4
   have hl7:H7 D=some (.lst r):=b47 D _ nD hl4
   have nq:fl≠q:=aO hf7 hq
   have nDq:D≠q:=aO hl7 hq
   have hxl:xs.length=sps.length:=by rw[hs4.length,List.length_map]
   refine⟨fl,xs,_,rfl,rfl,by rw[aN nq];exact hf7,aQ (by omega),?_⟩
   have mt:Mut (upd H7 q (.tup [.int tg,.int flow,.bl dr]) fl):=by rw[aN nq,hf7];exact trivial
   have ts:bU K H4 (upd (upd H7 q (.tup [.int tg,.int flow,.bl dr])) fl (.lst (xs++[.ref q]))):=bU.put ((b47.trans (aK.new hq).but).ts e4.tp.mut) (.inr mt)
   refine⟨(e7.new hq).put tp ff,by rw[aN nDf,aN nDq];exact hl7,L2.IsL.mono ts _ _ hv4,sps++[(tg,flow,dr)],xs++[.ref q],aD,?_,by simp [hslen],?_,_,_,rfl⟩
   ·rw[List.map_append]
    exact L2.IsL.snoc (Is.tupOf (ds:=[.int tg,.int flow,.bl dr]) (bU.put (bU.refl _) (.inr mt) _ _ (bR.of aD)) (.cons (Is.i _) (.cons (Is.i _) (.cons (Is.b _) .nil)))) (L2.IsL.mono ts _ _ hs4)
   ·intro s hs
    rcases List.mem_append.mp hs with hs | hs
    ·exact hsok s hs
    ·rw[List.mem_singleton.mp hs];exact⟨⟨tg0,tg1⟩,fl0,show flow≤60 by omega⟩
  ·rintro σ' H4 ⟨e4,hl4,hv4,sps,xs,hf4,hs4,hslen,hsok,v7,v8,rfl⟩
   refine⟨_,rfl,D,_,rfl,.inl ⟨bY.of hl4,fun q1 hq1=>⟨_,rfl,fl,_,rfl,.inl ⟨bY.of (aK.new hq1 _ _ hf4),fun q2 hq2=>⟨(show 2≤sizeLine by decide),fun q3 hq3=>?_⟩⟩⟩⟩⟩
   have m1:aK H4 (upd H4 q1 (.tup r)):=aK.new hq1
   have m2:aK (upd H4 q1 (.tup r)) (upd (upd H4 q1 (.tup r)) q2 (.tup xs)):=aK.new hq2
   have m3:aK (upd (upd H4 q1 (.tup r)) q2 (.tup xs)) (upd (upd (upd H4 q1 (.tup r)) q2 (.tup xs)) q3 (.tup [.ref q1,.ref q2])):=aK.new hq3
   refine k ⟨vs,sps⟩ _ _ (((e4.new hq1).new hq2).new hq3) ⟨by show 1≤vs.length;omega,by show vs.length≤12;omega,by show sps.length≤12;omega,fun v hv=>by rw[hlen,hslen];exact hok v hv,fun s hs=>by rw[hlen];exact (hsok s hs).1⟩ ⟨hfu,fun s hs=>(hsok s hs).2⟩ (by show (vs.length:Int)≤most;omega) ?_
   refine Is.tupOf (bR.of aD) (.cons (Is.tupOf (m3.tup (m2.tup (bR.of aD))) ?_) (.cons (Is.tupOf (m3.tup (bR.of aD)) ?_) .nil))
   ·exact L2.IsL.mono m3.ts _ _ (L2.IsL.mono m2.ts _ _ (L2.IsL.mono m1.ts _ _ hv4))
   ·exact L2.IsL.mono m3.ts _ _ (L2.IsL.mono m2.ts _ _ (L2.IsL.mono m1.ts _ _ hs4))
end
end Tw
namespace Tw
open PySem L2
section
variable {P:Program}{w:World}{K:PySem.W.Frag}{mg:Str→Option Value}{base:Heap}
theorem rep0:∀ n:Nat,(List.replicate n [V.int 0]).flatten=(List.replicate n (0:Int)).map V.int
 | 0=>rfl
 | n+1=>by rw[List.replicate_succ,List.replicate_succ,List.flatten_cons,rep0 n,List.map_cons];rfl
noncomputable def bZ (n:Nat):List Int:=List.replicate n 0
noncomputable def spFirst (K:PySem.W.Frag):Sp:=fun args H Q _=>∃ (x:V) (net:Net),args=[x]∧Is K H (dU net) x∧NetOk net∧
 ∀ p H',aK H H'→Is K H' (stD (bZ net.vs.length) (bZ net.vs.length) (net.sps.map (·.2.2))) p→Q p H'
theorem sc_first_state:FnScope ["net","vessels","spouts","empty"] ["net"] (aJ (aX 33)):=⟨rfl,rfl,rfl,by decide +kernel,rfl,by decide +kernel,by decide +kernel⟩
theorem ok_first_state {f:Addr}{fd:FuncData} (F:Fun K "first_state" "first_state" (aX 33) f fd) (T:Txt mg):FnOk P w K mg base CX0 1 f fd ["net"] (spFirst K):=by
 refine F.ok sc_first_state (fun vs H Q E h=>?_) (fun cdv A outer s H vs Q E hr h=>?_)
 ·obtain⟨x,net,rfl,_⟩:=h;rfl
 ·obtain⟨x,net,rfl,hx,nok,k⟩:=h
  have sc:=sc_first_state
  refine⟨_,(aE (bS (pv 0) (aW (K:=K) (n:=2) rfl rfl (aG (aF (i:=1) sc.nd rfl (Or.inl rfl)) (aG (aF (i:=2) sc.nd rfl (Or.inl rfl)) aV))))
   (aE (bE (i:=3) sc.nd rfl (Or.inl rfl) (aY (op_repTK (K:=K) rfl) (bT (aA aH aB)) (aS (bH (K:=K) rfl) rfl T.b_len PySem.boot_len (aA (pv 1) aB))))
   (aM (bG (bT (aA (pv 3) (aA (pv 3) (aA (bD (cC (K:=K) rfl) rfl T.b_tuple cN (aA (pe_lc (fun _ _ h=>h) rfl (LcOk.mk (N':=["target","flow","door"]) (fr:=[none,none,none]) rfl trivial rfl rfl rfl rfl rfl trivial) (d8 (K:=K) rfl (pv 2)) (fun _ _ _=>(aW (K:=K) (n:=3) rfl rfl (aG (aF (i:=0) (show (["target","flow","door"]:List Str).Nodup by decide +kernel) rfl (Or.inl rfl) (Or.inr rfl)) (aG (aF (i:=1) (show (["target","flow","door"]:List Str).Nodup by decide +kernel) rfl (Or.inl rfl) (Or.inr rfl)) (aG (aF (i:=2) (show (["target","flow","door"]:List Str).Nodup by decide +kernel) rfl (Or.inl rfl) (Or.inr rfl)) aV))))) (fun _ _ _=>cP) (fun _ _ _=>(pv 2))) aB)) aB)))))))),?_⟩
  obtain⟨a,b,c,xs,ys,rfl,q,q1,l1,q2,l2⟩:=dM hx
  have exl:xs.length=net.vs.length:=by rw[l1.length,List.length_map]
  have eyl:ys.length=net.sps.length:=by rw[l2.length,List.length_map]
  have n1:=nok.lo
  have n2:=nok.hi
  have n3:=nok.sp
  refine⟨_,rfl,a,_,rfl,q,rfl,_,_,rfl,_,_,rfl,rfl,?_⟩
  refine⟨(show 1≤sizeLine by decide),fun z hz=>⟨_,rfl,b,xs,rfl,.inr ((aK.new hz).tup q1),z,_,[.int 0],rfl,rfl,bR.of aD,by omega,by omega,by simp,by simp,fun e H1 sm1 qe=>?_⟩⟩
  have s1:aK H H1:=(aK.new hz).trans sm1
  have en:((xs.length:Nat):Int).toNat=net.vs.length:=by rw[exl];simp
  rw[en,rep0] at qe
  refine⟨_,rfl,_,rfl,_,rfl,c,rfl,⟨_,s1.tup q2⟩,eT (K:=K) (a:=c) (xs:=ys) (fun D i r σ' H'=>H1 D=none∧aK H1 H'∧H' D=some (.lst r)∧r=((net.sps.take i).map (·.2.2)).map V.bl∧∃ u v w,σ'=[u,v,w])
   (fun D i r σ' H' p=>p.2.1.tup (s1.tup q2)) (fun D hD=>⟨hD,aK.new hD,aD,by simp,none,none,none,rfl⟩) ?_ ?_⟩
  rotate_left
  ·rintro D i x r σ' H2 hx ⟨hD,sm,hDl,rfl,u,v,w',rfl⟩
   obtain⟨sp,hsi,sa,rfl,qs⟩:=sps_at l2 hx
   have hil:=(List.getElem?_eq_some_iff.mp hsi).1
   refine⟨sa,_,rfl,sm.tup (s1.tup qs),rfl,_,_,rfl,_,_,rfl,_,_,rfl,rfl,?_⟩
   refine yes_of ⟨_,rfl,hDl,aQ (by simp;omega),hD,sm.put hD,aD,?_,_,_,_,rfl⟩
   rw[bJ hsi];simp
  ·rintro D r σ' H2 ⟨hD,sm,hDl,rfl,_⟩
   rw[eyl,List.take_length] at hDl
   refine⟨D,_,rfl,.inl ⟨bY.of hDl,fun d hd=>⟨(show 3≤sizeLine by decide),fun r hr'=>?_⟩⟩⟩
   have m1:aK H2 (upd H2 d (.tup ((net.sps.map (·.2.2)).map V.bl))):=aK.new hd
   have m2:aK (upd H2 d (.tup ((net.sps.map (·.2.2)).map V.bl))) (upd (upd H2 d (.tup ((net.sps.map (·.2.2)).map V.bl))) r (.tup [.ref e,.ref e,.ref d])):=aK.new hr'
   refine k _ _ (((s1.trans sm).trans m1).trans m2) (st_of (bR.of aD) ?_ ?_ (m2.tup (bR.of aD)))
   ·exact m2.tup (m1.tup (sm.tup qe))
   ·exact m2.tup (m1.tup (sm.tup qe))
end
end Tw
namespace Tw
theorem vGoes_tg {n m:Nat}{v:Vs} (ok:VOk n m v) (h:Int):∀ g∈cY v h,∀ t,g.1=some t→0≤t∧t < n:=by
 intro g hg t e
 unfold cY at hg
 rcases List.mem_cons.1 hg with q | q
 ·subst q;exact ok.spill t e
 ·split at q
  ·rcases List.mem_append.1 q with q | q
   ·unfold eP at q
    obtain⟨o,ho,rfl⟩:=List.mem_map.1 q
    exact (ok.outs o ho).tg t e
   ·split at q
    ·cases q
    ·rw[List.mem_singleton] at q;subst q;cases e
  ·cases q
theorem goesL_tg {n m:Nat}:∀ (vs:List Vs) (hs:List Int),(∀ v∈vs,VOk n m v)→∀ g∈bP vs hs,∀ t,g.1=some t→0≤t∧t < n
 | [],_,_,g,hg,_,_=>by simp [bP] at hg
 | _::_,[],_,g,hg,_,_=>by simp [bP] at hg
 | v::vs,b::hs,ok,g,hg,t,e=>by
  rcases List.mem_append.1 (show g∈cY v b++bP vs hs from hg) with q | q
  ·exact vGoes_tg (ok v List.mem_cons_self) b g q t e
  ·exact goesL_tg vs hs (fun x hx=>ok x (List.mem_cons_of_mem _ hx)) g q t e
end Tw
namespace Tw
open PySem L2
noncomputable def shT (n:Nat):Option Int→Option Int
 | none=>none
 | some t=>some (t+n)
noncomputable def shO (n:Nat) (o:Option Int×Int):Option Int×Int:=(shT n o.1,o.2)
noncomputable def shA (m:Nat) (a:Str×Int):Str×Int:=(a.1,a.2+m)
noncomputable def shV (n m:Nat) (v:Vs):Vs:={ v with outs:=v.outs.map (shO n),spill:=shT n v.spill,acts:=v.acts.map (shA m) }
noncomputable def shS (n:Nat) (s:Spt):Spt:=(s.1+n,s.2)
noncomputable def aR (A B:Net):Net:=⟨A.vs++B.vs.map (shV A.vs.length A.sps.length),A.sps++B.sps.map (shS A.vs.length)⟩
theorem add3_app:∀ {a1 b1 c1:List Int} (a2 b2 c2:List Int),a1.length=b1.length→a1.length=c1.length→dR (a1++a2) (b1++b2) (c1++c2)=dR a1 b1 c1++dR a2 b2 c2
 | [],[],[],_,_,_,_,_=>rfl
 | x::a1,y::b1,z::c1,a2,b2,c2,h1,h2=>by
  show (x+y+z)::dR (a1++a2) (b1++b2) (c1++c2)=_
  rw[add3_app a2 b2 c2 (by simpa using h1) (by simpa using h2)];rfl
 | [],[],_::_,_,_,_,_,h=>by simp at h
 | [],_::_,_,_,_,_,h,_=>by simp at h
 | _::_,[],_,_,_,_,h,_=>by simp at h
 | _::_,_::_,[],_,_,_,_,h=>by simp at h
theorem fill1_left (h1 h2:List Int) (s:Spt) (d:Bool) (hs:0≤s.1∧s.1 < h1.length):eR (h1++h2) s d=eR h1 s d++h2:=by
 unfold eR
 split
 ·rw[List.set_append_left _ _ (by omega),List.getD_eq_getElem?_getD,List.getElem?_append_left (by omega),← List.getD_eq_getElem?_getD]
 ·rfl
theorem fill1_right (h1 h2:List Int) (s:Spt) (d:Bool) (hs:0≤s.1):eR (h1++h2) (shS h1.length s) d=h1++eR h2 s d:=by
 have e:(shS h1.length s).1.toNat=h1.length+s.1.toNat:=by show (s.1+(h1.length:Int)).toNat=_;omega
 unfold eR
 rw[e]
 split
 ·rw[List.set_append_right _ _ (by omega),Nat.add_sub_cancel_left,List.getD_eq_getElem?_getD,List.getElem?_append_right (by omega),Nat.add_sub_cancel_left,← List.getD_eq_getElem?_getD];rfl
 ·rfl
theorem fillL_left (h2:List Int):∀ (ss:List Spt) (ds:List Bool) (h1:List Int),(∀ s∈ss,0≤s.1∧s.1 < h1.length)→cI (h1++h2) ss ds=cI h1 ss ds++h2
 | [],_,_,_=>by simp [cI]
 | _::_,[],_,_=>by simp [cI]
 | s::ss,d::ds,h1,hs=>by
  show cI (eR (h1++h2) s d) ss ds=cI (eR h1 s d) ss ds++h2
  rw[fill1_left h1 h2 s d (hs s List.mem_cons_self)]
  exact fillL_left h2 ss ds (eR h1 s d) fun x hx=>by rw[fill1_len];exact hs x (List.mem_cons_of_mem _ hx)
theorem fillL_right (h1:List Int):∀ (ss:List Spt) (ds:List Bool) (h2:List Int),(∀ s∈ss,0≤s.1)→cI (h1++h2) (ss.map (shS h1.length)) ds=h1++cI h2 ss ds
 | [],_,_,_=>by simp [cI]
 | _::_,[],_,_=>by simp [cI]
 | s::ss,d::ds,h2,hs=>by
  show cI (eR (h1++h2) (shS h1.length s) d) (ss.map (shS h1.length)) ds=h1++cI (eR h2 s d) ss ds
  rw[fill1_right h1 h2 s d (hs s List.mem_cons_self)]
  exact fillL_right h1 ss ds (eR h2 s d) fun x hx=>hs x (List.mem_cons_of_mem _ hx)
theorem fillL_app:∀ (s1 s2:List Spt) (d1 d2:List Bool) (h:List Int),s1.length=d1.length→cI h (s1++s2) (d1++d2)=cI (cI h s1 d1) s2 d2
 | [],_,[],_,_,_=>by simp [cI]
 | [],_,_::_,_,_,h=>by simp at h
 | _::_,_,[],_,_,h=>by simp at h
 | s::s1,s2,d::d1,d2,h,hl=>by
  show cI (eR h s d) (s1++s2) (d1++d2)=_
  rw[fillL_app s1 s2 d1 d2 _ (by simpa using hl)];rfl
theorem has_beside {A B:Net} (ha:NetOk A) (hb:NetOk B) {h1 c1 p1 h2 c2 p2:List Int}{d1 d2:List Bool} (s1:StOk A h1 c1 d1) (l1:p1.length=A.vs.length) (s2:StOk B h2 c2 d2) (l2:p2.length=B.vs.length) :
  aZ (aR A B) (h1++h2) (c1++c2) (p1++p2) (d1++d2)=aZ A h1 c1 p1 d1++aZ B h2 c2 p2 d2:=by
 show cI (dR (h1++h2) (c1++c2) (p1++p2)) (A.sps++B.sps.map (shS A.vs.length)) (d1++d2)=_
 have e1:=s1.h
 have e2:=s1.c
 have la:(dR h1 c1 p1).length=A.vs.length:=eK s1.h s1.c l1
 rw[add3_app h2 c2 p2 (by rw[e1,e2]) (by rw[e1,l1]),fillL_app _ _ _ _ _ s1.d.symm]
 rw[fillL_left (dR h2 c2 p2) A.sps d1 (dR h1 c1 p1) fun s hs=>by rw[la];exact ha.sps s hs]
 have lf:(cI (dR h1 c1 p1) A.sps d1).length=A.vs.length:=by rw[dQ,la]
 have:=fillL_right (cI (dR h1 c1 p1) A.sps d1) B.sps d2 (dR h2 c2 p2) fun s hs=>(hb.sps s hs).1
 rw[lf] at this
 exact this
theorem shT_inj {n:Nat}{a b:Option Int}:shT n a=shT n b↔a=b:=by
 cases a <;> cases b <;> simp [shT] <;> omega
theorem whole_sh (n:Nat) (outs:List (Option Int×Int)):whole (outs.map (shO n))=whole outs:=by
 unfold whole;rw[List.map_map];rfl
theorem here_sh (n m:Nat) (v:Vs) (h:Int):bL (shV n m v) h=bL v h:=rfl
theorem tips_sh (n m:Nat) (v:Vs) (h:Int):dJ (shV n m v) h=dJ v h:=rfl
theorem stay_sh (n m:Nat) (v:Vs) (h:Int):dY (shV n m v) h=dY v h:=by
 unfold dY
 rw[tips_sh,here_sh,show (shV n m v).outs=v.outs.map (shO n) from rfl,whole_sh];rfl
theorem goes_sh (n m:Nat) (v:Vs) (h:Int):cY (shV n m v) h=(cY v h).map (shO n):=by
 have e:eP (shV n m v) (bL v h)=(eP v (bL v h)).map (shO n):=by
  unfold eP
  rw[show (shV n m v).outs=v.outs.map (shO n) from rfl,whole_sh,List.map_map,List.map_map];rfl
 unfold cY
 rw[tips_sh,here_sh,e,show (shV n m v).outs=v.outs.map (shO n) from rfl,whole_sh,show (shV n m v).holds=v.holds from rfl]
 rw[List.map_cons]
 congr 1
 cases dJ v h with
 | false=>rfl
 | true=>
  rw[if_pos rfl,if_pos rfl,List.map_append]
  congr 1
  cases v.holds <;> rfl
theorem goesL_app:∀ (v1 v2:List Vs) (h1 h2:List Int),v1.length=h1.length→bP (v1++v2) (h1++h2)=bP v1 h1++bP v2 h2
 | [],_,[],_,_=>by simp [bP]
 | [],_,_::_,_,h=>by simp at h
 | _::_,_,[],_,h=>by simp at h
 | v::v1,v2,h::h1,h2,hl=>by
  show cY v h++bP (v1++v2) (h1++h2)=(cY v h++bP v1 h1)++bP v2 h2
  rw[goesL_app v1 v2 h1 h2 (by simpa using hl),List.append_assoc]
theorem goesL_sh (n m:Nat):∀ (vs:List Vs) (hs:List Int),bP (vs.map (shV n m)) hs=(bP vs hs).map (shO n)
 | [],_=>by simp [bP]
 | _::_,[]=>by simp [bP]
 | v::vs,h::hs=>by
  show cY (shV n m v) h++bP (vs.map (shV n m)) hs=(cY v h++bP vs hs).map (shO n)
  rw[goes_sh,goesL_sh n m vs hs,List.map_append]
theorem staysL_app:∀ (v1 v2:List Vs) (h1 h2:List Int),v1.length=h1.length→bW (v1++v2) (h1++h2)=bW v1 h1++bW v2 h2
 | [],_,[],_,_=>by simp [bW]
 | [],_,_::_,_,h=>by simp at h
 | _::_,_,[],_,h=>by simp at h
 | v::v1,v2,h::h1,h2,hl=>by
  show dY v h::bW (v1++v2) (h1++h2)=_
  rw[staysL_app v1 v2 h1 h2 (by simpa using hl)];rfl
theorem staysL_sh (n m:Nat):∀ (vs:List Vs) (hs:List Int),bW (vs.map (shV n m)) hs=bW vs hs
 | [],_=>by simp [bW]
 | _::_,[]=>by simp [bW]
 | v::vs,h::hs=>by
  show dY (shV n m v) h::bW (vs.map (shV n m)) hs=dY v h::bW vs hs
  rw[stay_sh,staysL_sh n m vs hs]
theorem tipsL_app:∀ (i:Nat) (v1 v2:List Vs) (h1 h2:List Int),v1.length=h1.length→bF i (v1++v2) (h1++h2)=bF i v1 h1++bF (i+v1.length) v2 h2
 | i,[],_,[],_,_=>by simp [bF]
 | _,[],_,_::_,_,h=>by simp at h
 | _,_::_,_,[],_,h=>by simp at h
 | i,v::v1,v2,h::h1,h2,hl=>by
  have ih:=tipsL_app (i+1) v1 v2 h1 h2 (by simpa using hl)
  have e:i+1+v1.length=i+(v::v1).length:=by rw[List.length_cons];omega
  rw[e] at ih
  show (if dJ v h=true then i::bF (i+1) (v1++v2) (h1++h2) else bF (i+1) (v1++v2) (h1++h2))=(if dJ v h=true then i::bF (i+1) v1 h1 else bF (i+1) v1 h1)++_
  rw[ih]
  split <;> rfl
theorem tipsL_sh (n m:Nat):∀ (i:Nat) (vs:List Vs) (hs:List Int),bF (n+i) (vs.map (shV n m)) hs=(bF i vs hs).map (n + ·)
 | _,[],_=>by simp [bF]
 | _,_::_,[]=>by simp [bF]
 | i,v::vs,h::hs=>by
  have ih:=tipsL_sh n m (i+1) vs hs
  show (if dJ (shV n m v) h=true then (n+i)::bF (n+i+1) (vs.map (shV n m)) hs else bF (n+i+1) (vs.map (shV n m)) hs)=List.map _ (if dJ v h=true then i::bF (i+1) vs hs else bF (i+1) vs hs)
  rw[tips_sh,Nat.add_assoc,ih]
  split <;> rfl
theorem sumFor_none_sh (n:Nat):∀ gs:List (Option Int×Int),bB none (gs.map (shO n))=bB none gs
 | []=>rfl
 | g::r=>by
  show (if shT n g.1=none then g.2 else 0)+bB none (r.map (shO n))=(if g.1=none then g.2 else 0)+bB none r
  rw[sumFor_none_sh n r]
  cases g.1 <;> rfl
theorem sumFor_some_sh (n:Nat) (k:Int):∀ gs:List (Option Int×Int),bB (some (k+n)) (gs.map (shO n))=bB (some k) gs
 | []=>rfl
 | g::r=>by
  show (if shT n g.1=some (k+n) then g.2 else 0)+bB (some (k+n)) (r.map (shO n))=(if g.1=some k then g.2 else 0)+bB (some k) r
  rw[sumFor_some_sh n k r]
  have:(shT n g.1=some (k+n))↔(g.1=some k):=shT_inj (n:=n) (b:=some k)
  simp only [this]
theorem sumFor_zero (k:Option Int):∀ gs:List (Option Int×Int),(∀ g∈gs,g.1≠k)→bB k gs=0
 | [],_=>rfl
 | g::r,h=>by
  show (if g.1=k then g.2 else 0)+bB k r=0
  rw[if_neg (h g List.mem_cons_self),sumFor_zero k r fun x hx=>h x (List.mem_cons_of_mem _ hx)];rfl
theorem laterL_beside (n1 n2:Nat) (g1 g2:List (Option Int×Int)) (h1:∀ g∈g1,∀ t,g.1=some t→0≤t∧t < n1) (h2:∀ g∈g2,∀ t,g.1=some t→0≤t∧t < n2) :
  dA (n1+n2) (g1++g2.map (shO n1))=dA n1 g1++dA n2 g2:=by
 unfold dA
 rw[List.range_add,List.map_append,List.map_map]
 congr 1
 ·refine List.map_congr_left fun k hk=>?_
  have hk:=List.mem_range.1 hk
  rw[cD,sumFor_zero (some (k:Int)) (g2.map (shO n1)),Int.add_zero]
  intro g hg e
  obtain⟨x,hx,rfl⟩:=List.mem_map.1 hg
  cases hx1:x.1 with
  | none=>rw[show (shO n1 x).1=shT n1 x.1 from rfl,hx1] at e;cases e
  | some t=>
   have:=h2 x hx t hx1
   rw[show (shO n1 x).1=shT n1 x.1 from rfl,hx1] at e
   injection e with e
   omega
 ·refine List.map_congr_left fun k hk=>?_
  show bB (some ((n1+k:Nat):Int)) (g1++g2.map (shO n1))=_
  rw[cD,sumFor_zero (some ((n1+k:Nat):Int)) g1,Int.zero_add]
  ·rw[show ((n1+k:Nat):Int)=(k:Int)+n1 by omega]
   exact sumFor_some_sh n1 (k:Int) g2
  ·intro g hg e
   have:=h1 g hg _ e
   omega
theorem act1_left (d1 d2:List Bool) (a:Str×Int) (h:0≤a.2∧a.2 < d1.length):act1 (d1++d2) a=act1 d1 a++d2:=by
 unfold act1
 rw[List.set_append_left _ _ (by omega),List.getD_eq_getElem?_getD,List.getElem?_append_left (by omega),← List.getD_eq_getElem?_getD]
theorem act1_right (d1 d2:List Bool) (a:Str×Int) (h:0≤a.2):act1 (d1++d2) (shA d1.length a)=d1++act1 d2 a:=by
 have e:(shA d1.length a).2.toNat=d1.length+a.2.toNat:=by show (a.2+(d1.length:Int)).toNat=_;omega
 unfold act1
 rw[e,List.set_append_right _ _ (by omega),Nat.add_sub_cancel_left,List.getD_eq_getElem?_getD,List.getElem?_append_right (by omega),Nat.add_sub_cancel_left,← List.getD_eq_getElem?_getD];rfl
theorem actsL_left (d2:List Bool):∀ (as:List (Str×Int)) (d1:List Bool),(∀ a∈as,0≤a.2∧a.2 < d1.length)→cF (d1++d2) as=cF d1 as++d2
 | [],_,_=>rfl
 | a::as,d1,h=>by
  show cF (act1 (d1++d2) a) as=cF (act1 d1 a) as++d2
  rw[act1_left d1 d2 a (h a List.mem_cons_self)]
  exact actsL_left d2 as (act1 d1 a) fun x hx=>by rw[act1_len];exact h x (List.mem_cons_of_mem _ hx)
theorem actsL_right (d1:List Bool):∀ (as:List (Str×Int)) (d2:List Bool),(∀ a∈as,0≤a.2)→cF (d1++d2) (as.map (shA d1.length))=d1++cF d2 as
 | [],_,_=>rfl
 | a::as,d2,h=>by
  show cF (act1 (d1++d2) (shA d1.length a)) (as.map (shA d1.length))=d1++cF (act1 d2 a) as
  rw[act1_right d1 d2 a (h a List.mem_cons_self)]
  exact actsL_right d1 as (act1 d2 a) fun x hx=>h x (List.mem_cons_of_mem _ hx)
theorem doorsL_left (vs w:List Vs) (d2:List Bool) (m:Nat) (hv:∀ v∈vs,∀ a∈v.acts,0≤a.2∧a.2 < m):∀ (tip:List Nat) (d1:List Bool),d1.length=m→(∀ i∈tip,i < vs.length)→bI (vs++w) (d1++d2) tip=bI vs d1 tip++d2
 | [],_,_,_=>rfl
 | i::tip,d1,hd,ht=>by
  have hi:=ht i List.mem_cons_self
  have e1:(vs++w)[i]? = some vs[i]:=by rw[List.getElem?_append_left hi];simp [hi]
  have e2:vs[i]? = some vs[i]:=by simp [hi]
  show bI (vs++w) (match (vs++w)[i]? with | some v=>cF (d1++d2) v.acts | none=>d1++d2) tip=bI vs (match vs[i]? with | some v=>cF d1 v.acts | none=>d1) tip++d2
  rw[e1,e2]
  show bI (vs++w) (cF (d1++d2) vs[i].acts) tip=bI vs (cF d1 vs[i].acts) tip++d2
  rw[actsL_left d2 _ d1 fun a ha=>by rw[hd];exact hv _ (List.getElem_mem hi) a ha]
  exact doorsL_left vs w d2 m hv tip _ (by rw[actsL_len];exact hd) fun x hx=>ht x (List.mem_cons_of_mem _ hx)
theorem doorsL_right (vs w:List Vs) (n:Nat) (hw:∀ v∈w,∀ a∈v.acts,0≤a.2) (d1:List Bool):∀ (tip:List Nat) (d2:List Bool),(∀ i∈tip,i < w.length)→bI (vs++w.map (shV n d1.length)) (d1++d2) (tip.map (vs.length + ·))=d1++bI w d2 tip
 | [],_,_=>rfl
 | i::tip,d2,ht=>by
  have hi:=ht i List.mem_cons_self
  have e2:w[i]? = some w[i]:=by simp [hi]
  have e1:(vs++w.map (shV n d1.length))[vs.length+i]? = some (shV n d1.length w[i]):=by rw[List.getElem?_append_right (by omega),Nat.add_sub_cancel_left,List.getElem?_map,e2];rfl
  show bI (vs++w.map (shV n d1.length)) (match (vs++w.map (shV n d1.length))[vs.length+i]? with | some v=>cF (d1++d2) v.acts | none=>d1++d2) (tip.map (vs.length + ·))=d1++bI w (match w[i]? with | some v=>cF d2 v.acts | none=>d2) tip
  rw[e1,e2]
  show bI (vs++w.map (shV n d1.length)) (cF (d1++d2) (w[i].acts.map (shA d1.length))) (tip.map (vs.length + ·))=d1++bI w (cF d2 w[i].acts) tip
  rw[actsL_right d1 _ d2 fun a ha=>hw _ (List.getElem_mem hi) a ha]
  exact doorsL_right vs w n hw d1 tip _ fun x hx=>ht x (List.mem_cons_of_mem _ hx)
theorem doorsL_app (vs:List Vs) (ds:List Bool) (t1 t2:List Nat):bI vs ds (t1++t2)=bI vs (bI vs ds t1) t2:=by unfold bI;rw[List.foldl_append]
theorem tick_beside {A B:Net} (ha:NetOk A) (hb:NetOk B) {h1 c1 p1 h2 c2 p2:List Int}{d1 d2:List Bool} (s1:StOk A h1 c1 d1) (l1:p1.length=A.vs.length) (s2:StOk B h2 c2 d2) (l2:p2.length=B.vs.length) :
  (bC (aR A B) (h1++h2) (c1++c2) (p1++p2) (d1++d2)).held=(bC A h1 c1 p1 d1).held++(bC B h2 c2 p2 d2).held∧
  (bC (aR A B) (h1++h2) (c1++c2) (p1++p2) (d1++d2)).coming=(bC A h1 c1 p1 d1).coming++(bC B h2 c2 p2 d2).coming∧
  (bC (aR A B) (h1++h2) (c1++c2) (p1++p2) (d1++d2)).doors=(bC A h1 c1 p1 d1).doors++(bC B h2 c2 p2 d2).doors∧
  (bC (aR A B) (h1++h2) (c1++c2) (p1++p2) (d1++d2)).tip=(bC A h1 c1 p1 d1).tip++(bC B h2 c2 p2 d2).tip.map (A.vs.length + ·)∧
  (bC (aR A B) (h1++h2) (c1++c2) (p1++p2) (d1++d2)).ground=(bC A h1 c1 p1 d1).ground+(bC B h2 c2 p2 d2).ground:=by
 have hs:=has_beside ha hb s1 l1 s2 l2
 have lA:(aZ A h1 c1 p1 d1).length=A.vs.length:=by unfold aZ;rw[dQ,eK s1.h s1.c l1]
 have lB:(aZ B h2 c2 p2 d2).length=B.vs.length:=by unfold aZ;rw[dQ,eK s2.h s2.c l2]
 have eg:bP (aR A B).vs (aZ (aR A B) (h1++h2) (c1++c2) (p1++p2) (d1++d2))=bP A.vs (aZ A h1 c1 p1 d1)++(bP B.vs (aZ B h2 c2 p2 d2)).map (shO A.vs.length):=by
  rw[hs]
  show bP (A.vs++B.vs.map _) _=_
  rw[goesL_app _ _ _ _ lA.symm,goesL_sh]
 have et:bF 0 (aR A B).vs (aZ (aR A B) (h1++h2) (c1++c2) (p1++p2) (d1++d2))=bF 0 A.vs (aZ A h1 c1 p1 d1)++(bF 0 B.vs (aZ B h2 c2 p2 d2)).map (A.vs.length + ·):=by
  rw[hs]
  show bF 0 (A.vs++B.vs.map _) _=_
  rw[tipsL_app _ _ _ _ _ lA.symm,Nat.zero_add]
  have:=tipsL_sh A.vs.length A.sps.length 0 B.vs (aZ B h2 c2 p2 d2)
  rw[Nat.add_zero] at this
  rw[this]
 refine⟨?_,?_,?_,et,?_⟩
 ·show bW (aR A B).vs (aZ (aR A B) (h1++h2) (c1++c2) (p1++p2) (d1++d2))=_
  rw[hs]
  show bW (A.vs++B.vs.map _) _=_
  rw[staysL_app _ _ _ _ lA.symm,staysL_sh];rfl
 ·show dA (aR A B).vs.length (bP (aR A B).vs _)=_
  rw[eg,show (aR A B).vs.length=A.vs.length+B.vs.length by show (A.vs++B.vs.map _).length=_;rw[List.length_append,List.length_map]]
  exact laterL_beside _ _ _ _ (goesL_tg _ _ ha.vs) (goesL_tg _ _ hb.vs)
 ·show bI (aR A B).vs (d1++d2) (bF 0 (aR A B).vs _)=_
  rw[et,doorsL_app]
  show bI (A.vs++B.vs.map (shV A.vs.length A.sps.length)) (bI (A.vs++B.vs.map (shV A.vs.length A.sps.length)) (d1++d2) (bF 0 A.vs (aZ A h1 c1 p1 d1))) ((bF 0 B.vs (aZ B h2 c2 p2 d2)).map (A.vs.length + ·))=_
  rw[doorsL_left A.vs _ d2 A.sps.length (fun v hv a haa=>⟨((ha.vs v hv).acts a haa).lo,((ha.vs v hv).acts a haa).hi⟩) _ d1 s1.d fun i hi=>by have:=tipsL_lt _ _ _ _ hi;omega]
  have ld:(bI A.vs d1 (bF 0 A.vs (aZ A h1 c1 p1 d1))).length=A.sps.length:=by rw[doorsL_len];exact s1.d
  have:=doorsL_right A.vs B.vs A.vs.length (fun v hv a haa=>((hb.vs v hv).acts a haa).lo) (bI A.vs d1 (bF 0 A.vs (aZ A h1 c1 p1 d1))) (bF 0 B.vs (aZ B h2 c2 p2 d2)) d2 fun i hi=>by have:=tipsL_lt _ _ _ _ hi;omega
  rw[ld] at this
  exact this
 ·show bB none (bP (aR A B).vs _)=_
  rw[eg,cD,sumFor_none_sh];rfl
end Tw
namespace Tw
open PySem L2
theorem depth_int (i:Int):(L2.D.int i).depth=0:=by rw[L2.D.depth] <;> intros <;> (first | rfl | (intro z;cases z) | (rename_i z;cases z))
theorem kit_tt (K:PySem.W.Frag):PySem.W.kitOne K (.type "tuple") (.type "tuple")=some true:=by
 unfold PySem.W.kitOne;rw[if_pos (by decide +kernel)]
theorem kit_bb (K:PySem.W.Frag):PySem.W.kitOne K (.type "bool") (.type "bool")=some true:=by
 unfold PySem.W.kitOne;rw[if_pos (by decide +kernel)]
theorem kit_ib (K:PySem.W.Frag):PySem.W.kitOne K (.type "int") (.type "bool")=some false:=by
 unfold PySem.W.kitOne
 rw[if_neg (by decide +kernel)]
 show (if PySem.W.kitMeta "bool" = true then PySem.W.subIn K (.type "int") (.type "bool") else none)=some false
 rw[if_pos (by decide +kernel)]
 show (PySem.fastBuiltinMro "int").map (·.contains (.type "bool"))=some false
 decide +kernel
theorem all_true (n:Nat):(List.replicate n true).all id=true:=by
 rw[List.all_eq_true];intro x hx;rw[List.eq_of_mem_replicate hx];rfl
section
variable {P:Program}{w:World}{K:PySem.W.Frag}{mg:Str→Option Value}{base:Heap}
noncomputable def spLaw (K:PySem.W.Frag):Sp:=fun vs H Q _=>∃ (a:Addr) (ns:List Int),vs=[.ref a]∧bY K H a (ns.map V.int)∧ns.length≤63∧∀ H',Q (.bl true) H'
end
end Tw
namespace L2
open PySem PySem.Spec PyProof.Rows TwZ
section
variable {X:Cx}{K:PySem.W.Frag}
theorem eC {x:Str}{v:V}{pos:Pos} (hg:Gl X x) (h:∃ u,X.mg x=some u∧bK v u) (hd:(x == ("__debug__" : Str))=false:=by decide):PE X (.Name x pos) (tC v):=by
 obtain⟨u,e,r⟩:=h
 exact pe_glob hg e r hd
theorem op_inK (hK:X.K=K):OpR X (compareOp .In) (rIn K false):=by subst hK;exact op_in_seq
end
theorem iteD {c A B:Prop} [Decidable c] (hc:c) (h:A):if decide c=true then A else B:=by
 rw[if_pos (decide_eq_true hc)];exact h
end L2
namespace Tw
open PySem L2
structure TxtN (K:PySem.W.Frag) (mg:Str→Option Value) (aw:Addr):Prop where
 g_MOST_VESSELS:∃ u,mg "MOST_VESSELS" = some u∧bK (.int 12) u
 g_MOST_SPOUTS:∃ u,mg "MOST_SPOUTS" = some u∧bK (.int 12) u
 g_MOST_SIZE:∃ u,mg "MOST_SIZE" = some u∧bK (.int 60) u
 g_MOST_BRIM:∃ u,mg "MOST_BRIM" = some u∧bK (.int 200) u
 g_MOST_OUTS:∃ u,mg "MOST_OUTS" = some u∧bK (.int 3) u
 g_MOST_PARTS:∃ u,mg "MOST_PARTS" = some u∧bK (.int 60) u
 g_MOST_ACTS:∃ u,mg "MOST_ACTS" = some u∧bK (.int 3) u
 g_MOST_FLOW:∃ u,mg "MOST_FLOW" = some u∧bK (.int 60) u
 g_ACT_WORDS:∃ u,mg "ACT_WORDS" = some u∧bK (.ref aw) u
 words:∀ H,bR K H aw [.str "open",.str "shut",.str "turn"]
theorem kit_ii (K:PySem.W.Frag):PySem.W.kitOne K (.type "int") (.type "int")=some true:=by
 unfold PySem.W.kitOne;rw[if_pos (by decide +kernel)]
section
variable {P:Program}{w:World}{K:PySem.W.Frag}{mg:Str→Option Value}{base:Heap}{aw:Addr}
noncomputable def spTupN (K:PySem.W.Frag):Sp:=fun vs H Q _=>∃ (a:Addr) (xs:List V) (lo hi:Int),vs=[.ref a,.int lo,.int hi]∧bR K H a xs∧lo≤(xs.length:Int)∧(xs.length:Int)≤hi∧Q (.bl true) H
noncomputable def spWhole:Sp:=fun vs H Q _=>∃ (n lo hi:Int),vs=[.int n,.int lo,.int hi]∧lo≤n∧n≤hi∧Q (.bl true) H
noncomputable def spIsOut (K:PySem.W.Frag):Sp:=fun vs H Q _=>∃ (a:Addr) (n:Nat) (o:Option Int×Int),vs=[.ref a,.int (n:Int)]∧bR K H a [tgV o.1,.int o.2]∧OutOk n o∧Q (.bl true) H
noncomputable def spIsAct (K:PySem.W.Frag):Sp:=fun vs H Q _=>∃ (a:Addr) (m:Nat) (c:Str×Int),vs=[.ref a,.int (m:Int)]∧bR K H a [.str c.1,.int c.2]∧ActOk m c∧Q (.bl true) H
noncomputable def spIsSpout (K:PySem.W.Frag):Sp:=fun vs H Q _=>∃ (a:Addr) (n:Nat) (s:Spt),vs=[.ref a,.int (n:Int)]∧bR K H a [.int s.1,.int s.2.1,.bl s.2.2]∧(0≤s.1∧s.1 < n)∧(0≤s.2.1∧s.2.1≤60)∧Q (.bl true) H
noncomputable def spIsVessel (K:PySem.W.Frag):Sp:=fun vs H Q _=>∃ (x:V) (i n m:Nat) (v:Vs),vs=[x,.int (i:Int),.int (n:Int),.int (m:Int)]∧Is K H (vsD v) x∧VOk n m v∧VFull i v∧∀ H',aK H H'→Q (.bl true) H'
noncomputable def spIsNet (K:PySem.W.Frag):Sp:=fun vs H Q _=>∃ (x:V) (net:Net),vs=[x]∧Is K H (dU net) x∧NetOk net∧NetFull net∧∀ H',aK H H'→Q (.bl true) H'
theorem sc_is_tuple:FnScope ["thing","least","most"] ["thing","least","most"] (aJ (aX 24)):=⟨rfl,rfl,rfl,by decide +kernel,rfl,by decide +kernel,by decide +kernel⟩
theorem ok_is_tuple {f:Addr}{fd:FuncData} (F:Fun K "is_tuple" "is_tuple" (aX 24) f fd) (T:Txt mg):FnOk P w K mg base CX0 1 f fd ["thing","least","most"] (spTupN K):=by
 refine F.ok sc_is_tuple (fun vs H Q E h=>?_) (fun cdv A outer s H vs Q E hr h=>?_)
 ·obtain⟨a,xs,lo,hi,rfl,_⟩:=h;rfl
 ·obtain⟨a,xs,lo,hi,rfl,q,h1,h2,k⟩:=h
  have sc:=sc_is_tuple
  refine⟨_,(aM (bG (pe_and (aS (call_isiK (K:=K) rfl) rfl T.b_isinstance boot_isi (aA (pv 0) (aA (pe_bltn (v:=.ty "tuple") rfl T.b_tuple cN rfl) aB))) (pe_one (pe_chain op_le op_le (pv 1) (aS (bH (K:=K) rfl) rfl T.b_len PySem.boot_len (aA (pv 0) aB)) (pv 2)))))),?_⟩
  refine⟨_,rfl,_,"tuple",_,true,rfl,.inr ⟨a,xs,rfl,q,rfl⟩,kit_tt K,_,rfl,iteT ?_⟩
  refine⟨_,rfl,_,rfl,a,xs,rfl,.inr q,_,_,rfl,rfl,_,rfl,iteD h1 ⟨_,rfl,_,_,rfl,rfl,?_⟩⟩
  show Q (.bl (decide _)) H
  rw[decide_eq_true h2];exact k
theorem sc_is_whole:FnScope ["thing","least","most"] ["thing","least","most"] (aJ (aX 25)):=⟨rfl,rfl,rfl,by decide +kernel,rfl,by decide +kernel,by decide +kernel⟩
theorem ok_is_whole {f:Addr}{fd:FuncData} (F:Fun K "is_whole" "is_whole" (aX 25) f fd) (T:Txt mg):FnOk P w K mg base CX0 1 f fd ["thing","least","most"] spWhole:=by
 refine F.ok sc_is_whole (fun vs H Q E h=>?_) (fun cdv A outer s H vs Q E hr h=>?_)
 ·obtain⟨n,lo,hi,rfl,_⟩:=h;rfl
 ·obtain⟨n,lo,hi,rfl,h1,h2,k⟩:=h
  have sc:=sc_is_whole
  refine⟨_,(aM (bG (pe_and (aS (call_isiK (K:=K) rfl) rfl T.b_isinstance boot_isi (aA (pv 0) (aA (pe_bltn (v:=.ty "int") rfl T.b_int bt_int rfl) aB))) (pe_and (pe_not (aS (call_isiK (K:=K) rfl) rfl T.b_isinstance boot_isi (aA (pv 0) (aA (pe_bltn (v:=.ty "bool") rfl T.b_bool bt_bool rfl) aB)))) (pe_one (pe_chain op_le op_le (pv 1) (pv 0) (pv 2))))))),?_⟩
  refine⟨_,rfl,_,"int",_,true,rfl,.inl (.int _),kit_ii K,_,rfl,iteT ?_⟩
  refine⟨_,rfl,_,"bool",_,false,rfl,.inl (.int _),kit_ib K,_,rfl,_,rfl,iteT ?_⟩
  refine⟨_,rfl,_,rfl,_,_,rfl,rfl,_,rfl,iteD h1 ⟨_,rfl,_,_,rfl,rfl,?_⟩⟩
  show Q (.bl (decide _)) H
  rw[decide_eq_true h2];exact k
theorem sc_is_out:FnScope ["thing","vessel_count","target","parts"] ["thing","vessel_count"] (aJ (aX 19)):=⟨rfl,rfl,rfl,by decide +kernel,rfl,by decide +kernel,by decide +kernel⟩
theorem ok_is_out {f f1 f2:Addr}{fd fd1 fd2:FuncData} (F:Fun K "is_out" "is_out" (aX 19) f fd) (T:Txt mg) (U:TxtN K mg aw) (G_is_tuple:Callee P w K mg base "is_tuple" ["thing","least","most"] 1 (spTupN K) f1 fd1)
  (G_is_whole:Callee P w K mg base "is_whole" ["thing","least","most"] 1 spWhole f2 fd2):FnOk P w K mg base CX0 2 f fd ["thing","vessel_count"] (spIsOut K):=by
 refine F.ok sc_is_out (fun vs H Q E h=>?_) (fun cdv A outer s H vs Q E hr h=>?_)
 ·obtain⟨a,n,o,rfl,_⟩:=h;rfl
 ·obtain⟨a,n,o,rfl,q,ok,k⟩:=h
  have sc:=sc_is_out
  refine⟨_,(aE (dC (eQ (dL (d7 G_is_tuple hr (aA (pv 0) (aA aH (aA aH aB)))))) (aM (bG pe_bl)) bV)
   (aE (bS (pv 0) (aW (K:=K) (n:=2) rfl rfl (aG (aF (i:=2) sc.nd rfl (Or.inl rfl)) (aG (aF (i:=3) sc.nd rfl (Or.inl rfl)) aV))))
   (aM (bG (pe_and (pe_or (pe_cmpR op_isN (pv 2) pe_non (cQ _)) (pe_one (d7 G_is_whole hr (aA (pv 2) (aA aH (aA (aY op_sub (pv 1) aH) aB)))))) (pe_one (d7 G_is_whole hr (aA (pv 3) (aA aH (aA (eC rfl U.g_MOST_PARTS) aB)))))))))),?_⟩
  refine⟨_,rfl,a,_,2,2,rfl,q,(show (2:Int)≤2 by decide),(show (2:Int)≤2 by decide),_,rfl,eJ ?_⟩
  refine⟨_,rfl,a,_,rfl,q,rfl,_,_,rfl,_,_,rfl,rfl,?_⟩
  obtain⟨tg,pa⟩:=o
  cases tg with
  | none=>
   refine⟨_,rfl,rfl,_,rfl,iteD rfl ⟨_,rfl,iteT ?_⟩⟩
   exact⟨_,rfl,pa,1,60,rfl,ok.lo,ok.hi,k⟩
  | some i=>
   have hi:=ok.tg i rfl
   refine⟨_,rfl,rfl,_,rfl,eJ ⟨_,rfl,_,rfl,_,_,rfl,rfl,i,0,_,rfl,hi.1,by omega,_,rfl,iteT ?_⟩⟩
   exact⟨_,rfl,pa,1,60,rfl,ok.lo,ok.hi,k⟩
theorem sc_is_act:FnScope ["thing","spout_count","word","spout"] ["thing","spout_count"] (aJ (aX 20)):=⟨rfl,rfl,rfl,by decide +kernel,rfl,by decide +kernel,by decide +kernel⟩
theorem ok_is_act {f f1 f2:Addr}{fd fd1 fd2:FuncData} (F:Fun K "is_act" "is_act" (aX 20) f fd) (T:Txt mg) (U:TxtN K mg aw) (G_is_tuple:Callee P w K mg base "is_tuple" ["thing","least","most"] 1 (spTupN K) f1 fd1)
  (G_is_whole:Callee P w K mg base "is_whole" ["thing","least","most"] 1 spWhole f2 fd2):FnOk P w K mg base CX0 2 f fd ["thing","spout_count"] (spIsAct K):=by
 refine F.ok sc_is_act (fun vs H Q E h=>?_) (fun cdv A outer s H vs Q E hr h=>?_)
 ·obtain⟨a,m,c,rfl,_⟩:=h;rfl
 ·obtain⟨a,m,c,rfl,q,ok,k⟩:=h
  have sc:=sc_is_act
  refine⟨_,(aE (dC (eQ (dL (d7 G_is_tuple hr (aA (pv 0) (aA aH (aA aH aB)))))) (aM (bG pe_bl)) bV)
   (aE (bS (pv 0) (aW (K:=K) (n:=2) rfl rfl (aG (aF (i:=2) sc.nd rfl (Or.inl rfl)) (aG (aF (i:=3) sc.nd rfl (Or.inl rfl)) aV))))
   (aM (bG (pe_and (pe_cmpR (op_inK (K:=K) rfl) (pv 2) (eC rfl U.g_ACT_WORDS) (by rfl)) (pe_one (d7 G_is_whole hr (aA (pv 3) (aA aH (aA (aY op_sub (pv 1) aH) aB)))))))))),?_⟩
  refine⟨_,rfl,a,_,2,2,rfl,q,(show (2:Int)≤2 by decide),(show (2:Int)≤2 by decide),_,rfl,eJ ?_⟩
  refine⟨_,rfl,a,_,rfl,q,rfl,_,_,rfl,_,_,rfl,rfl,?_⟩
  have hin:inV (.str c.1) [.str "open",.str "shut",.str "turn"]=true:=by
   rcases ok.word with e | e | e <;> rw[e] <;> decide +kernel
  refine⟨_,rfl,aw,_,rfl,.inr (U.words _),rfl,rfl,_,rfl,?_⟩
  rw[show (if false=true then !inV (V.str c.1) [.str "open",.str "shut",.str "turn"] else inV (V.str c.1) [.str "open",.str "shut",.str "turn"])=true from hin]
  refine iteT ?_
  exact⟨_,rfl,_,rfl,_,_,rfl,rfl,c.2,0,_,rfl,ok.lo,by have:=ok.hi;omega,k⟩
theorem sc_is_spout:FnScope ["thing","vessel_count","target","flow","door"] ["thing","vessel_count"] (aJ (aX 21)):=⟨rfl,rfl,rfl,by decide +kernel,rfl,by decide +kernel,by decide +kernel⟩
theorem ok_is_spout {f f1 f2:Addr}{fd fd1 fd2:FuncData} (F:Fun K "is_spout" "is_spout" (aX 21) f fd) (T:Txt mg) (U:TxtN K mg aw) (G_is_tuple:Callee P w K mg base "is_tuple" ["thing","least","most"] 1 (spTupN K) f1 fd1)
  (G_is_whole:Callee P w K mg base "is_whole" ["thing","least","most"] 1 spWhole f2 fd2):FnOk P w K mg base CX0 2 f fd ["thing","vessel_count"] (spIsSpout K):=by
 refine F.ok sc_is_spout (fun vs H Q E h=>?_) (fun cdv A outer s H vs Q E hr h=>?_)
 ·obtain⟨a,n,s,rfl,_⟩:=h;rfl
 ·obtain⟨a,n,s,rfl,q,ok1,ok2,k⟩:=h
  have sc:=sc_is_spout
  refine⟨_,(aE (dC (eQ (dL (d7 G_is_tuple hr (aA (pv 0) (aA aH (aA aH aB)))))) (aM (bG pe_bl)) bV)
   (aE (bS (pv 0) (aW (K:=K) (n:=3) rfl rfl (aG (aF (i:=2) sc.nd rfl (Or.inl rfl)) (aG (aF (i:=3) sc.nd rfl (Or.inl rfl)) (aG (aF (i:=4) sc.nd rfl (Or.inl rfl)) aV)))))
   (aM (bG (pe_and (d7 G_is_whole hr (aA (pv 2) (aA aH (aA (aY op_sub (pv 1) aH) aB)))) (pe_and (d7 G_is_whole hr (aA (pv 3) (aA aH (aA (eC rfl U.g_MOST_FLOW) aB)))) (pe_one (aS (call_isiK (K:=K) rfl) rfl T.b_isinstance boot_isi (aA (pv 4) (aA (pe_bltn (v:=.ty "bool") rfl T.b_bool bt_bool rfl) aB)))))))))),?_⟩
  refine⟨_,rfl,a,_,3,3,rfl,q,(show (3:Int)≤3 by decide),(show (3:Int)≤3 by decide),_,rfl,eJ ?_⟩
  refine⟨_,rfl,a,_,rfl,q,rfl,_,_,rfl,_,_,rfl,_,_,rfl,rfl,?_⟩
  refine⟨_,rfl,_,rfl,_,_,rfl,rfl,s.1,0,_,rfl,ok1.1,by omega,_,rfl,iteT ?_⟩
  refine⟨_,rfl,s.2.1,0,60,rfl,ok2.1,ok2.2,_,rfl,iteT ?_⟩
  exact⟨_,rfl,_,"bool",_,true,rfl,.inl (.bl _),kit_bb K,k⟩
theorem sc_is_vessel:FnScope ["thing","number","vessel_count","spout_count","size","brim","outs","holds","spill","acts"] ["thing","number","vessel_count","spout_count"] (aJ (aX 18)):=⟨rfl,rfl,rfl,by decide +kernel,rfl,by decide +kernel,by decide +kernel⟩
theorem ok_is_vessel {f f1 f2 f3 f4:Addr}{fd fd1 fd2 fd3 fd4:FuncData} (F:Fun K "is_vessel" "is_vessel" (aX 18) f fd) (T:Txt mg) (U:TxtN K mg aw) (G_is_tuple:Callee P w K mg base "is_tuple" ["thing","least","most"] 1 (spTupN K) f1 fd1)
  (G_is_whole:Callee P w K mg base "is_whole" ["thing","least","most"] 1 spWhole f2 fd2) (G_is_out:Callee P w K mg base "is_out" ["thing","vessel_count"] 2 (spIsOut K) f3 fd3) (G_is_act:Callee P w K mg base "is_act" ["thing","spout_count"] 2 (spIsAct K) f4 fd4) :
  FnOk P w K mg base CX0 3 f fd ["thing","number","vessel_count","spout_count"] (spIsVessel K):=by
 refine F.ok sc_is_vessel (fun vs H Q E h=>?_) (fun cdv A outer s H vs Q E hr h=>?_)
 ·obtain⟨x,i,n,m,v,rfl,_⟩:=h;rfl
 ·obtain⟨x,i,n,m,v,rfl,hx,ok,fu,k⟩:=h
  have sc:=sc_is_vessel
  refine⟨_,(aE (dC (eQ (dL (d7 G_is_tuple hr (aA (pv 0) (aA aH (aA aH aB)))))) (aM (bG pe_bl)) bV)
   (aE (bS (pv 0) (aW (K:=K) (n:=6) rfl rfl (aG (aF (i:=4) sc.nd rfl (Or.inl rfl)) (aG (aF (i:=5) sc.nd rfl (Or.inl rfl)) (aG (aF (i:=6) sc.nd rfl (Or.inl rfl)) (aG (aF (i:=7) sc.nd rfl (Or.inl rfl)) (aG (aF (i:=8) sc.nd rfl (Or.inl rfl)) (aG (aF (i:=9) sc.nd rfl (Or.inl rfl)) aV))))))))
   (aE (dC (PW.pt (pw_or (eQ (dL (d7 G_is_whole hr (aA (pv 4) (aA aH (aA (eC rfl U.g_MOST_SIZE) aB)))))) (pw_or1 (eQ (dL (d7 G_is_whole hr (aA (pv 5) (aA (pv 4) (aA (eC rfl U.g_MOST_BRIM) aB))))))))) (aM (bG pe_bl)) bV)
   (aE (dC (PW.pt (pw_or (eQ (dL (d7 G_is_tuple hr (aA (pv 6) (aA aH (aA (eC rfl U.g_MOST_OUTS) aB)))))) (pw_or1 (eQ (dL (d7 G_is_tuple hr (aA (pv 9) (aA aH (aA (eC rfl U.g_MOST_ACTS) aB))))))))) (aM (bG pe_bl)) bV)
   (aM (bG (pe_and (aS (call_allK (K:=K) rfl rfl) rfl T.b_all PyProof.Rows.boot_all (aA (pe_lc (fun _ _ h=>h) rfl (LcOk.mk (N':=["out","vessel_count"]) (fr:=[none,some 2]) rfl ⟨rfl,trivial⟩ rfl rfl rfl rfl rfl ⟨⟨_,rfl,rfl,rfl,rfl⟩,trivial⟩) (d8 (K:=K) rfl (pv 6)) (fun _ _ _=>(aF (i:=0) (show (["out","vessel_count"]:List Str).Nodup by decide +kernel) rfl (Or.inl rfl) (Or.inr rfl))) (fun _ _ _=>cP) (fun _ _ _=>(d7 G_is_out hr (aA (pv 0) (aA (pv 1) aB))))) aB)) (pe_and (aS (call_isiK (K:=K) rfl) rfl T.b_isinstance boot_isi (aA (pv 7) (aA (pe_bltn (v:=.ty "bool") rfl T.b_bool bt_bool rfl) aB))) (pe_and (pe_or (pe_cmpR op_isN (pv 8) pe_non (cQ _)) (pe_one (d7 G_is_whole hr (aA (pv 8) (aA (aY cH (pv 1) aH) (aA (aY op_sub (pv 2) aH) aB)))))) (pe_one (aS (call_allK (K:=K) rfl rfl) rfl T.b_all PyProof.Rows.boot_all (aA (pe_lc (fun _ _ h=>h) rfl (LcOk.mk (N':=["act","spout_count"]) (fr:=[none,some 3]) rfl ⟨rfl,trivial⟩ rfl rfl rfl rfl rfl ⟨⟨_,rfl,rfl,rfl,rfl⟩,trivial⟩) (d8 (K:=K) rfl (pv 9)) (fun _ _ _=>(aF (i:=0) (show (["act","spout_count"]:List Str).Nodup by decide +kernel) rfl (Or.inl rfl) (Or.inr rfl))) (fun _ _ _=>cP) (fun _ _ _=>(d7 G_is_act hr (aA (pv 0) (aA (pv 1) aB))))) aB)))))))))))),?_⟩
  obtain⟨va,o,cc,rfl,qv,ho,hc⟩:=vs_un hx
  obtain⟨oa,os,rfl,qo,lo⟩:=ho.un
  obtain⟨ca,cs,rfl,qc,lc⟩:=hc.un
  have eol:os.length=v.outs.length:=by rw[lo.length,List.length_map]
  have ecl:cs.length=v.acts.length:=by rw[lc.length,List.length_map]
  have ne1:1≤v.outs.length:=by
   rcases Nat.eq_zero_or_pos v.outs.length with e | e
   ·exact absurd (List.eq_nil_of_length_eq_zero e) ok.ne
   ·exact e
  have o3:=ok.o3
  have a3:=ok.a3
  refine⟨_,rfl,va,_,6,6,rfl,qv,(show (6:Int)≤6 by decide),(show (6:Int)≤6 by decide),_,rfl,eJ ?_⟩
  refine⟨_,rfl,va,_,rfl,qv,rfl,_,_,rfl,_,_,rfl,_,_,rfl,_,_,rfl,_,_,rfl,_,_,rfl,rfl,?_⟩
  refine⟨_,rfl,v.size,1,60,rfl,ok.size,fu.sz,_,rfl,eJ ?_⟩
  refine⟨_,rfl,_,rfl,v.brim,v.size,200,rfl,fu.br,fu.bh,_,rfl,eJ ?_⟩
  refine⟨_,rfl,oa,_,1,3,rfl,qo,by omega,by omega,_,rfl,eJ ?_⟩
  refine⟨_,rfl,ca,_,0,3,rfl,qc,by omega,by omega,_,rfl,eJ ?_⟩
  refine⟨_,rfl,oa,rfl,⟨_,qo⟩,eT (K:=K) (a:=oa) (xs:=os) (fun D i r σ' H'=>H D=none∧aK H H'∧H' D=some (.lst r)∧r=(List.replicate i true).map V.bl∧∃ u,σ'=[u,some (.int (n:Int))])
   (fun D i r σ' H' p=>p.2.1.tup qo) (fun D hD=>⟨hD,aK.new hD,aD,rfl,none,rfl⟩) ?_ ?_⟩
  rotate_left
  ·rintro D j y r σ' H2 hy ⟨hD,sm,hDl,rfl,u,rfl⟩
   obtain⟨ot,hot,oad,rfl,qot⟩:=outs_at lo hy
   have hjl:=(List.getElem?_eq_some_iff.mp hot).1
   refine d9 ?_
   refine⟨_,rfl,_,rfl,oad,n,ot,rfl,sm.tup qot,ok.outs _ (List.mem_of_getElem? hot),hDl,aQ (by simp;omega),hD,sm.put hD,aD,?_,_,rfl⟩
   rw[List.replicate_succ',List.map_append];rfl
  rintro D r σ' H2 ⟨hD,sm2,hDl,rfl,_⟩
  refine⟨false,D,_,rfl,bY.of hDl,_,rfl,?_⟩
  rw[all_true]
  refine iteT ?_
  refine⟨_,rfl,_,"bool",_,true,rfl,.inl (.bl _),kit_bb K,_,rfl,iteT ?_⟩
  cases hsp:v.spill with
  | none=>
   rw[hsp] at qv
   refine⟨_,rfl,rfl,_,rfl,iteD rfl ⟨_,rfl,iteT ?_⟩⟩
   refine⟨_,rfl,ca,rfl,⟨_,sm2.tup qc⟩,eT (K:=K) (a:=ca) (xs:=cs) (fun D i r σ' H'=>H2 D=none∧aK H2 H'∧H' D=some (.lst r)∧r=(List.replicate i true).map V.bl∧∃ u,σ'=[u,some (.int (m:Int))])
    (fun D i r σ' H' p=>p.2.1.tup (sm2.tup qc)) (fun D hD=>⟨hD,aK.new hD,aD,rfl,none,rfl⟩) ?_ ?_⟩
   rotate_left
   ·rintro D j y r σ' H3 hy ⟨hD,sm,hDl,rfl,u,rfl⟩
    obtain⟨at',hat,aa,rfl,qa⟩:=acts_at lc hy
    have hjl:=(List.getElem?_eq_some_iff.mp hat).1
    refine d9 ?_
    refine⟨_,rfl,_,rfl,aa,m,at',rfl,sm.tup (sm2.tup qa),ok.acts _ (List.mem_of_getElem? hat),hDl,aQ (by simp;omega),hD,sm.put hD,aD,?_,_,rfl⟩
    rw[List.replicate_succ',List.map_append];rfl
   rintro D r σ' H3 ⟨hD,sm3,hDl,rfl,_⟩
   refine⟨false,D,_,rfl,bY.of hDl,?_⟩
   rw[all_true]
   exact k _ (sm2.trans sm3)
  | some t=>
   have h1:=ok.spill t hsp
   have h2:=fu.sp t hsp
   rw[hsp] at qv
   refine⟨_,rfl,rfl,_,rfl,eJ ⟨_,rfl,_,rfl,_,_,rfl,rfl,_,rfl,_,_,rfl,rfl,t,_,_,rfl,by omega,by omega,_,rfl,iteT ?_⟩⟩
   refine⟨_,rfl,ca,rfl,⟨_,sm2.tup qc⟩,eT (K:=K) (a:=ca) (xs:=cs) (fun D i r σ' H'=>H2 D=none∧aK H2 H'∧H' D=some (.lst r)∧r=(List.replicate i true).map V.bl∧∃ u,σ'=[u,some (.int (m:Int))])
    (fun D i r σ' H' p=>p.2.1.tup (sm2.tup qc)) (fun D hD=>⟨hD,aK.new hD,aD,rfl,none,rfl⟩) ?_ ?_⟩
   rotate_left
   ·rintro D j y r σ' H3 hy ⟨hD,sm,hDl,rfl,u,rfl⟩
    obtain⟨at',hat,aa,rfl,qa⟩:=acts_at lc hy
    have hjl:=(List.getElem?_eq_some_iff.mp hat).1
    refine d9 ?_
    refine⟨_,rfl,_,rfl,aa,m,at',rfl,sm.tup (sm2.tup qa),ok.acts _ (List.mem_of_getElem? hat),hDl,aQ (by simp;omega),hD,sm.put hD,aD,?_,_,rfl⟩
    rw[List.replicate_succ',List.map_append];rfl
   rintro D r σ' H3 ⟨hD,sm3,hDl,rfl,_⟩
   refine⟨false,D,_,rfl,bY.of hDl,?_⟩
   rw[all_true]
   exact k _ (sm2.trans sm3)
theorem sc_is_net:FnScope ["thing","vessels","spouts","number","vessel"] ["thing"] (aJ (aX 17)):=⟨rfl,rfl,rfl,by decide +kernel,rfl,by decide +kernel,by decide +kernel⟩
theorem ok_is_net {f f1 f2 f3:Addr}{fd fd1 fd2 fd3:FuncData} (F:Fun K "is_net" "is_net" (aX 17) f fd) (T:Txt mg) (U:TxtN K mg aw) (G_is_tuple:Callee P w K mg base "is_tuple" ["thing","least","most"] 1 (spTupN K) f1 fd1)
  (G_is_vessel:Callee P w K mg base "is_vessel" ["thing","number","vessel_count","spout_count"] 3 (spIsVessel K) f2 fd2) (G_is_spout:Callee P w K mg base "is_spout" ["thing","vessel_count"] 2 (spIsSpout K) f3 fd3):FnOk P w K mg base CX0 4 f fd ["thing"] (spIsNet K):=by
 refine F.ok sc_is_net (fun vs H Q E h=>?_) (fun cdv A outer s H vs Q E hr h=>?_)
 ·obtain⟨x,net,rfl,_⟩:=h;rfl
 ·obtain⟨x,net,rfl,hx,nok,nfu,k⟩:=h
  have sc:=sc_is_net
  refine⟨_,(aE (dC (eQ (dL (d7 G_is_tuple hr (aA (pv 0) (aA aH (aA aH aB)))))) (aM (bG pe_bl)) bV)
   (aE (bS (pv 0) (aW (K:=K) (n:=2) rfl rfl (aG (aF (i:=1) sc.nd rfl (Or.inr rfl)) (aG (aF (i:=2) sc.nd rfl (Or.inl rfl)) aV))))
   (aE (dC (PW.pt (pw_or (eQ (dL (d7 G_is_tuple hr (aA (pv 1) (aA aH (aA (eC rfl U.g_MOST_VESSELS) aB)))))) (pw_or1 (eQ (dL (d7 G_is_tuple hr (aA (pv 2) (aA aH (aA (eC rfl U.g_MOST_SPOUTS) aB))))))))) (aM (bG pe_bl)) bV)
   (aE (dN PassesOwn.never rfl (pi_enumK (K:=K) rfl rfl T.b_enumerate (aA (pv 1) aB)) (aW (K:=K) (n:=2) rfl rfl (aG (aF (i:=3) sc.nd rfl (Or.inl rfl)) (aG (aF (i:=4) sc.nd rfl (Or.inl rfl)) aV))) (aM (dC (eQ (dL (d7 G_is_vessel hr (aA (pv 4) (aA (pv 3) (aA (aS (bH (K:=K) rfl) rfl T.b_len PySem.boot_len (aA (pv 1) aB)) (aA (aS (bH (K:=K) rfl) rfl T.b_len PySem.boot_len (aA (pv 2) aB)) aB))))))) (aM (bG pe_bl)) bV)))
   (aM (bG (aS (call_allK (K:=K) rfl rfl) rfl T.b_all PyProof.Rows.boot_all (aA (pe_lc (fun _ _ h=>h) rfl (LcOk.mk (N':=["spout","vessels"]) (fr:=[none,some 1]) rfl ⟨rfl,trivial⟩ rfl rfl rfl rfl rfl ⟨⟨_,rfl,rfl,rfl,rfl⟩,trivial⟩) (d8 (K:=K) rfl (pv 2)) (fun _ _ _=>(aF (i:=0) (show (["spout","vessels"]:List Str).Nodup by decide +kernel) rfl (Or.inl rfl) (Or.inr rfl))) (fun _ _ _=>cP) (fun _ _ _=>(d7 G_is_spout hr (aA (pv 0) (aA (aS (bH (K:=K) rfl) rfl T.b_len PySem.boot_len (aA (pv 1) aB)) aB))))) aB)))))))),?_⟩
  obtain⟨a,b,c,xs,ys,rfl,q,q1,l1,q2,l2⟩:=dM hx
  have exl:xs.length=net.vs.length:=by rw[l1.length,List.length_map]
  have eyl:ys.length=net.sps.length:=by rw[l2.length,List.length_map]
  have n1:=nok.lo
  have n2:=nok.hi
  have n3:=nok.sp
  refine⟨_,rfl,a,_,2,2,rfl,q,(show (2:Int)≤2 by decide),(show (2:Int)≤2 by decide),_,rfl,eJ ?_⟩
  refine⟨_,rfl,a,_,rfl,q,rfl,_,_,rfl,_,_,rfl,rfl,?_⟩
  refine⟨_,rfl,b,_,1,12,rfl,q1,by omega,by omega,_,rfl,eJ ?_⟩
  refine⟨_,rfl,c,_,0,12,rfl,q2,by omega,by omega,_,rfl,eJ ?_⟩
  refine⟨_,rfl,true,b,rfl,⟨_,q1⟩,for_enum (K:=K) (t:=true) (a:=b) (xs:=xs) (fun i σ' H'=>aK H H'∧∃ v3 v4,σ'=[some (.ref a),some (.ref b),some (.ref c),v3,v4])
   (fun i σ' H' p=>p.1.tup q1) ⟨fun _ _ h=>h,none,none,rfl⟩ ?_ ?_⟩
  rotate_left
  ·rintro i y σ' H2 Tt hy ⟨sm,v3,v4,rfl⟩ hT
   obtain⟨d,hd,iy⟩:=l1.get' hy
   rw[List.getElem?_map] at hd
   obtain⟨v,hv,rfl⟩:=Option.map_eq_some_iff.mp hd
   have smT:=aK.new (o:=HO.tup [.int (i:Int),y]) hT
   have sm3:=sm.trans smT
   refine⟨Tt,_,rfl,bR.of aD,rfl,_,_,rfl,_,_,rfl,rfl,?_⟩
   refine⟨_,rfl,_,rfl,_,rfl,b,xs,rfl,.inr (sm3.tup q1),_,rfl,c,ys,rfl,.inr (sm3.tup q2),y,i,net.vs.length,net.sps.length,v,by rw[exl,eyl];rfl,Is.mono sm3.ts _ _ iy,nok.vs v (List.mem_of_getElem? hv),nfu.vs i v hv,fun H4 sm4=>⟨_,rfl,eJ ?_⟩⟩
   exact⟨sm3.trans sm4,_,_,rfl⟩
  rintro σ' H2 ⟨sm2,v3,v4,rfl⟩
  refine⟨_,rfl,c,rfl,⟨_,sm2.tup q2⟩,eT (K:=K) (a:=c) (xs:=ys) (fun D i r σ' H'=>H2 D=none∧aK H2 H'∧H' D=some (.lst r)∧r=(List.replicate i true).map V.bl∧∃ u,σ'=[u,some (.ref b)])
   (fun D i r σ' H' p=>p.2.1.tup (sm2.tup q2)) (fun D hD=>⟨hD,aK.new hD,aD,rfl,none,rfl⟩) ?_ ?_⟩
  rotate_left
  ·rintro D j y r σ' H3 hy ⟨hD,sm,hDl,rfl,u,rfl⟩
   obtain⟨sp,hsi,sa,rfl,qs⟩:=sps_at l2 hy
   have hjl:=(List.getElem?_eq_some_iff.mp hsi).1
   have hm:=List.mem_of_getElem? hsi
   refine d9 ?_
   refine⟨_,rfl,_,rfl,b,xs,rfl,.inr (sm.tup (sm2.tup q1)),sa,net.vs.length,sp,by rw[exl];rfl,sm.tup (sm2.tup qs),nok.sps sp hm,nfu.sps sp hm,hDl,aQ (by simp;omega),hD,sm.put hD,aD,?_,_,rfl⟩
   rw[List.replicate_succ',List.map_append];rfl
  rintro D r σ' H3 ⟨hD,sm3,hDl,rfl,_⟩
  refine⟨false,D,_,rfl,bY.of hDl,?_⟩
  rw[all_true]
  exact k _ (sm2.trans sm3)
end
end Tw
namespace L2
open PySem PySem.Spec PyProof.Rows
end L2
namespace L2
open PySem PySem.Spec PyProof.Rows TwZ
section
variable {X:Cx}{K:PySem.W.Frag}
theorem ps_dead {st:Stmt}:PS X st (fun _ _ _=>False):=fun _ _ _ _ _ _ h=>h.elim
theorem eL {e:Expr}{f:Str}{pos:Pos}{ta:TE} (hK:X.K=K) (he:PE X e ta) (hb:attributeBase e f X.env (eval e X.env)=eval e X.env):PE X (.Attribute e f pos) (tFld K ta f):=by subst hK;exact pe_fld he hb
theorem ps_fldK {o value:Expr}{f:Str}{pos pos':Pos}{ta tv:TE} (hK:X.K=K) (ha:PE X o ta) (hv:PE X value tv) (hs:swapsWith value (some (.Attribute o f pos')) pos.line X.env=pure false):PS X (.Assign [.Attribute o f pos'] value pos) (sFld K ta tv f):=by subst hK;exact ps_fld ha hv hs
theorem op_catTK (hK:X.K=K):OpR X (binaryOp .Add) (rCatT K):=by subst hK;exact op_catT
theorem tuple_mul_none (l:Addr) (items:Array Value) (n:Nat) (x:Int) (u:Tok) (dd:Option Addr) (sl:Array (Option Value)) (c0:¬ (decide (x < -(2 ^ 63)) || decide (x ≥ 2 ^ 63))=true) (c1:¬ (items.isEmpty || x == 1)=true)
  (c2:(decide (x≤0) || items.isEmpty)=true) :
  Meets (Builtin.«tuple.__mul__» ⟨[.ref l,.int x u],[]⟩) (fun _ R s=>s.heap.get? l=some { cls:=.type "tuple",dict:=dd,data:=.seq items n,slots:=sl }∧
   R (.ok (.ret (.ref s.heap.objs.size))) { s with heap:=s.heap.push { cls:=.type "tuple",data:=.seq #[] } }):=
 .of_wp fun prog w A R s h=>by
  obtain⟨hp,g,d,tk,os⟩:=s;obtain⟨hl,h⟩:=h
  wp_walk
  rw[if_neg c0]
  wp_walk
  all_goals (try rw[if_neg c1])
  wp_walk
  all_goals (try rw[if_pos c2])
  wp_walk
  exact⟨_,rfl,h⟩
noncomputable def rRepZ (K:PySem.W.Frag):R2:=fun x y H Q=>∃ (l:Addr) (k:Int) (xs:List V),x=.ref l∧y=.int k∧bR K H l xs∧0≤k∧k < 1000000∧xs≠[]∧xs.length≤10∧
 ∀ p H',aK H H'→bR K H' p (List.replicate k.toNat xs).flatten→Q (.ref p) H'
theorem op_repZ:OpR X (binaryOp .Mult) (rRepZ X.K):=by
 intro pins s σ H x y v u Q I rx ry h
 obtain⟨l,k,xs,rfl,rfl,hq,h1,h2,hne,hl10,q⟩:=h
 by_cases hk:1≤k
 ·exact op_repT pins s σ H _ _ v u Q I rx ry ⟨l,k,xs,rfl,rfl,hq,hk,h2,hne,hl10,q⟩
 ·have hk0:k=0:=by omega
  subst hk0
  cases rx
  obtain⟨t,rfl⟩:=ry
  obtain⟨its,r,ht,z⟩:=I.tuple hq
  have hlen:=r.length
  obtain⟨⟨cls,dd,data,sl⟩,e,hc,n,hd⟩:=id ht
  simp only at hc hd
  subst hc hd
  refine wpAny_binaryOp_repeat_ref (T := "tuple") (U := "int") (by decide) ⟨_,e,rfl⟩ (fun s'=>typeIs_int s' 0 t) noFill_tuple_mul F.fills_int_mul F.slot_int_rmul repeat_tuple F.slot_int_index.lookup
   (call_meets F.slot_int_rmul (typeIs_int s 0 t) F.entry_int_rmul (F.args_int_rmul_2 _ _) (int_rmul_tuple 0 t l its.toArray n dd sl) ⟨e,rfl,⟨_,e,rfl⟩,?_⟩)
  have hne':its≠[]:=fun z=>by rw[z] at hlen;exact hne (List.eq_nil_of_length_eq_zero hlen)
  have hemp:its.toArray.isEmpty=false:=by cases its with
   | nil=>exact absurd rfl hne'
   | cons a r=>rfl
  refine call_meets F.slot_tuple_mul ⟨_,e,rfl⟩ F.entry_tuple_mul (F.args_tuple_mul_2 _ _) (tuple_mul_none l its.toArray n 0 t dd sl (by decide) (by rw[hemp];decide) (by simp)) ⟨e,?_⟩
  have I1:=I.laid (a:=s.heap.objs.size) (o:=.tup []) (h':=s.heap.push { cls:=.type "tuple",data:=.seq #[] }) (t':=s.toks)
   (fun _ _ q=>Heap.get?_push_of_some _ q) (Nat.le_refl _) ⟨Nat.zero_le _,[],.nil,⟨_,Heap.get?_push_size _ rfl,rfl,0,rfl⟩⟩
  exact⟨.ref _,_,I1,rfl,q _ _ (aK.new I.fresh) (bR.of aD)⟩
theorem op_repZK (hK:X.K=K):OpR X (binaryOp .Mult) (rRepZ K):=by subst hK;exact op_repZ
end
structure MCal (P:Program) (w:World) (K:PySem.W.Frag) (mg:Str→Option Value) (base:Heap) (C:Addr) (m:Str) (ps:List Str) (k:Nat) (sp:Sp) (f:Addr) (fd:FuncData):Prop where
 cls:Cls K C
 mt:Meth K C m f
 ok:FnOk P w K mg base CX0 k f fd ps sp
 bd:Binds K fd ps []
structure MkCal (P:Program) (w:World) (K:PySem.W.Frag) (mg:Str→Option Value) (base:Heap) (C:Addr) (x:Str) (ps:List Str) (k:Nat) (sp:Sp) (f:Addr) (fd:FuncData):Prop where
 make:Mk K C f
 ok:FnOk P w K mg base CX0 k f fd ps sp
 mg:mg x=some (.ref C)
 bd:Binds K fd ps []
noncomputable def ButL (fp:List Addr) (H H':Hp):Prop:=∀ b o,b∉fp→H b=some o→H' b=some o
theorem ButL.trans {fp:List Addr}{H H1 H2:Hp} (a:ButL fp H H1) (b:ButL fp H1 H2):ButL fp H H2:=fun c o hc h=>b c o hc (a c o hc h)
theorem ButL.upd {fp:List Addr}{H:Hp}{a:Addr}{o:HO} (ha:a∈fp):ButL fp H (upd H a o):=fun b u hb h=>by
 have ne:b≠a:=fun e=>hb (by rw[e];exact ha)
 rw[aN ne];exact h
theorem ButL.ts {K:PySem.W.Frag}{fp:List Addr}{H H':Hp} (a:ButL fp H H') (hm:∀ b∈fp,Mut (H b)):bU K H H':=by
 intro b xs h
 have ne:∀ {o:HO},H b=some o→¬ Mut (some o)→b∉fp:=fun e n z=>by
  have:=hm b z;rw[e] at this;exact n this
 rcases h with (h | ⟨o,h⟩) | h
 ·exact .inl (.inl (a _ _ (ne h (fun z=>z)) h))
 ·exact .inl (.inr ⟨o,a _ _ (ne h (fun z=>z)) h⟩)
 ·exact .inr h
end L2
namespace L2
open PySem PySem.Spec PyProof.Rows TwZ
section
variable {K:PySem.W.Frag}{g:TG}{tc:TT}{te:TE}{fr:List (Option Nat)}{σ:St}{H1:Hp}{Q:Addr→Hp→Prop}
theorem lc_zip2 {t1 t2:Bool}{a1 a2:Addr}{xs ys:List V}{n:Nat} (h1:xs.length=n) (h2:ys.length=n) (Pv:Addr→Nat→List V→St→Hp→Prop)
  (hq:∀ D i r σ H,Pv D i r σ H→SqB K H t1 a1 xs∧SqB K H t2 a2 ys)
  (h0:∀ D,H1 D=none→Pv D 0 [] (frσ fr σ) (upd H1 D (.lst []))) (hstop:∀ D r σ' H',Pv D n r σ' H'→Q D H')
  (hgo:∀ D i x y r σ' H' T,xs[i]? = some x→ys[i]? = some y→Pv D i r σ' H'→H' T=none→g (.ref T) σ' (upd H' T (.tup [x,y])) fun σ3 H3=>tc σ3 H3 fun b H4=>
    if b=true then te σ3 H4 fun y H5=>H5 D=some (.lst r)∧r.length < PySem.sizeLine∧Pv D (i+1) (r++[y]) σ3 (upd H5 D (.lst (r++[y])))
    else Pv D (i+1) r σ3 H4):lcRest (Itz2 K t1 t2 a1 a2) g tc te fr σ H1 Q:=by
 refine lc_gen (n:=n) Pv h0 (fun D r σ' H' p=>?_) fun D i r σ' H' hi p=>?_
 ·obtain⟨q1,q2⟩:=hq D _ r σ' H' p
  exact⟨⟨xs,ys,q1,q2,.inl (by omega)⟩,hstop D r σ' H' p⟩
 ·obtain⟨q1,q2⟩:=hq D _ r σ' H' p
  refine⟨⟨xs,ys,xs[i]'(by omega),ys[i]'(by omega),q1,q2,by simp,by simp⟩,?_⟩
  rintro v H2 ⟨T,x,y,hT,rfl,e1,e2,rfl⟩
  exact hgo D i x y r σ' H' T (e1 xs q1) (e2 ys q2) p hT
end
end L2
namespace Tw
open PySem L2
structure Mom where
 tick:Int
 held:List Int
 coming:List Int
 doors:List Bool
 poured:List Int
 came:Int
 ground:Int
noncomputable def momD (m:Mom):L2.D:=.tup [.int m.tick,stD m.held m.coming m.doors,.tup (m.poured.map L2.D.int),.int m.came,.int m.ground]
noncomputable def openSum:List Spt→List Bool→Int
 | s::ss,d::ds=>(if d=true then s.2.1 else 0)+openSum ss ds
 | _,_=>0
structure MomOk (net:Net) (m:Mom):Prop where
 st:StOk net m.held m.coming m.doors
 pl:m.poured.length=net.vs.length
noncomputable def Mom.tk (net:Net) (m:Mom):Tick:=bC net m.held m.coming m.poured m.doors
noncomputable def Mom.step (net:Net) (m:Mom):Mom:=
 { tick:=m.tick+1,held:=(m.tk net).held,coming:=(m.tk net).coming,doors:=(m.tk net).doors,poured:=bZ net.vs.length,came:=m.came+(m.poured.sum+openSum net.sps m.doors),ground:=m.ground+(m.tk net).ground }
noncomputable def Mom.pour (m:Mom) (v a:Int):Mom:={ m with poured:=m.poured.set v.toNat (m.poured.getD v.toNat 0+a) }
noncomputable def momN (net:Net) (m:Mom):Nat→Mom
 | 0=>m
 | i+1=>(momN net m i).step net
noncomputable def eO (net:Net) (m:Mom):List (Int×Nat):=(m.tk net).tip.map fun k=>(m.tick,k)
noncomputable def tipN (net:Net) (m:Mom):Nat→List (Int×Nat)
 | 0=>[]
 | i+1=>tipN net m i++eO net (momN net m i)
inductive Row where
 | pour (v a:Int)
 | go (many:Int) (tips:List (Int×Nat))
noncomputable def tipD (t:Int×Nat):L2.D:=.tup [.int t.1,.int (t.2:Int)]
noncomputable def rowD:Row→L2.D
 | .pour v a=>.tup [.str "pour",.int v,.int a]
 | .go n ts=>.tup [.str "go",.int n,.tup (ts.map tipD)]
structure RunS where
 net:Net
 rows:List Row
 pre:List Mom
 cur:Mom
 tips:List (List Int)
noncomputable def addTip (ts:List (List Int)) (t:Int×Nat):List (List Int):=ts.set t.2 (ts.getD t.2 []++[t.1])
noncomputable def RunS.pour (S:RunS) (v a:Int):RunS:={ S with rows:=S.rows++[.pour v a],pre:=S.pre++[S.cur],cur:=S.cur.pour v a }
noncomputable def RunS.go (S:RunS) (k:Nat):RunS:={ S with rows:=S.rows++[.go (k:Int) (tipN S.net S.cur k)],pre:=S.pre++[S.cur],cur:=momN S.net S.cur k,tips:=(tipN S.net S.cur k).foldl addTip S.tips }
noncomputable def mom0 (net:Net):Mom:=⟨0,bZ net.vs.length,bZ net.vs.length,net.sps.map (·.2.2),bZ net.vs.length,0,0⟩
noncomputable def run0 (net:Net):RunS:=⟨net,[],[],mom0 net,List.replicate net.vs.length []⟩
structure RunOk (S:RunS):Prop where
 nok:NetOk S.net
 cur:MomOk S.net S.cur
 tl:S.tips.length=S.net.vs.length
structure RunSz (S:RunS) (B:Nat):Prop where
 rows:S.rows.length≤B
 pre:S.pre.length≤B
 tips:∀ l∈S.tips,l.length≤B
theorem zeros_len (n:Nat):(bZ n).length=n:=by simp [bZ]
theorem zeros_cons {n:Nat} (h:1≤n):(0:Int)::bZ (n - 1)=bZ n:=by
 obtain⟨k,rfl⟩:∃ k,n=k+1:=⟨n - 1,by omega⟩
 simp [bZ,List.replicate_succ]
theorem mom0_ok (net:Net):MomOk net (mom0 net):=⟨⟨zeros_len _,zeros_len _,by simp [mom0]⟩,zeros_len _⟩
theorem Mom.hs_len {net:Net}{m:Mom} (h:MomOk net m):(aZ net m.held m.coming m.poured m.doors).length=net.vs.length:=by
 unfold aZ;rw[dQ,eK h.st.h h.st.c h.pl]
theorem MomOk.step {net:Net}{m:Mom} (h:MomOk net m):MomOk net (m.step net):=
 ⟨⟨staysL_len _ _ (Mom.hs_len h).symm,by show (dA _ _).length=_;unfold dA;simp,by show (bI _ _ _).length=_;rw[doorsL_len];exact h.st.d⟩,zeros_len _⟩
theorem MomOk.pour {net:Net}{m:Mom} (h:MomOk net m) (v a:Int):MomOk net (m.pour v a):=⟨h.st,by show (List.set _ _ _).length=_;rw[List.length_set];exact h.pl⟩
theorem momN_ok {net:Net}{m:Mom} (h:MomOk net m):∀ i,MomOk net (momN net m i)
 | 0=>h
 | i+1=>(momN_ok h i).step
theorem tk_lt {net:Net}{m:Mom}{k:Nat} (h:k∈(m.tk net).tip):k < net.vs.length:=by
 have:=tipsL_lt _ _ _ _ (show k∈bF 0 net.vs _ from h)
 omega
theorem tk_len (net:Net) (m:Mom):(m.tk net).tip.length≤net.vs.length:=tipsL_len _ _ _
theorem tipN_lt {net:Net}{m:Mom}:∀ (i:Nat) (t:Int×Nat),t∈tipN net m i→t.2 < net.vs.length
 | 0,t,h=>by simp [tipN] at h
 | i+1,t,h=>by
  rcases List.mem_append.1 h with h | h
  ·exact tipN_lt i t h
  ·obtain⟨k,hk,rfl⟩:=List.mem_map.1 h
   exact tk_lt hk
theorem tipN_len {net:Net}{m:Mom} (nok:NetOk net):∀ (i:Nat),(tipN net m i).length≤12 * i
 | 0=>by simp [tipN]
 | i+1=>by
  have h1:=tipN_len (m:=m) nok i
  have h2:=tk_len net (momN net m i)
  have h3:=nok.hi
  show (tipN net m i++eO net (momN net m i)).length≤_
  rw[List.length_append]
  unfold eO
  rw[List.length_map]
  omega
theorem addTips_len:∀ (l:List (Int×Nat)) (ts:List (List Int)),(l.foldl addTip ts).length=ts.length
 | [],_=>rfl
 | t::l,ts=>by show (l.foldl addTip (addTip ts t)).length=_;rw[addTips_len l];unfold addTip;simp
theorem RunOk.pour {S:RunS} (h:RunOk S) (v a:Int):RunOk (S.pour v a):=⟨h.nok,h.cur.pour v a,h.tl⟩
theorem RunOk.go {S:RunS} (h:RunOk S) (k:Nat):RunOk (S.go k):=⟨h.nok,momN_ok h.cur k,by show (List.foldl addTip S.tips (tipN S.net S.cur k)).length=_;rw[addTips_len];exact h.tl⟩
theorem run0_ok {net:Net} (nok:NetOk net):RunOk (run0 net):=⟨nok,mom0_ok net,by simp [run0]⟩
noncomputable def flds (np:V) (R M T:Addr):List (Str×V):=[("net",np),("rows",.ref R),("moments",.ref M),("tip_ticks",.ref T)]
theorem lk_net {np:V}{R M T:Addr}:(flds np R M T).lookup ("net" : Str)=some np:=rfl
theorem lk_rows {np:V}{R M T:Addr}:(flds np R M T).lookup ("rows" : Str)=some (.ref R):=rfl
theorem lk_moments {np:V}{R M T:Addr}:(flds np R M T).lookup ("moments" : Str)=some (.ref M):=rfl
theorem lk_tips {np:V}{R M T:Addr}:(flds np R M T).lookup ("tip_ticks" : Str)=some (.ref T):=rfl
structure RunC (K:PySem.W.Frag) (C:Addr) (H:Hp) (r:Addr) (S:RunS) (dx:Addr) (np:V) (R M T:Addr) (ts:List Addr) (rs ms:List V) (mv:V):Prop where
 ins:H r=some (.ins C dx (flds np R M T))
 net:Is K H (dU S.net) np
 hR:H R=some (.lst rs)
 lR:IsL K H (S.rows.map rowD) rs
 hM:H M=some (.lst (ms++[mv]))
 lM:IsL K H (S.pre.map momD) ms
 cM:Is K H (momD S.cur) mv
 hT:H T=some (.lst (ts.map V.ref))
 tl:ts.length=S.tips.length
 ti:∀ (i:Nat) (t:Addr) (l:List Int),ts[i]? = some t→S.tips[i]? = some l→H t=some (.lst (l.map V.int))
 nd:(R::M::T::ts).Nodup
 ok:RunOk S
noncomputable def bX (K:PySem.W.Frag) (C:Addr) (H:Hp) (r:Addr) (S:RunS) (fp:List Addr):Prop:=∃ dx np R M T ts rs ms mv,RunC K C H r S dx np R M T ts rs ms mv∧fp=R::M::T::ts
structure RunTx (K:PySem.W.Frag) (C:Addr):Prop where
 cls:Cls K C
 net:NoAttr K C "net"
 rows:NoAttr K C "rows"
 moments:NoAttr K C "moments"
 tips:NoAttr K C "tip_ticks"
section
variable {K:PySem.W.Frag}{C r dx R M T:Addr}{H H':Hp}{S:RunS}{fp:List Addr}{np mv:V}{ts:List Addr}{rs ms:List V}
theorem RunC.lists (c:RunC K C H r S dx np R M T ts rs ms mv):∀ b∈R::M::T::ts,∃ xs,H b=some (.lst xs):=by
 intro b hb
 rcases List.mem_cons.1 hb with rfl | hb
 ·exact⟨_,c.hR⟩
 rcases List.mem_cons.1 hb with rfl | hb
 ·exact⟨_,c.hM⟩
 rcases List.mem_cons.1 hb with rfl | hb
 ·exact⟨_,c.hT⟩
 obtain⟨i,hi,rfl⟩:=List.mem_iff_getElem.1 hb
 have hl:i < S.tips.length:=by rw[← c.tl];exact hi
 exact⟨_,c.ti i ts[i] S.tips[i] (by simp) (by simp)⟩
theorem bX.lists (c:bX K C H r S fp):∀ b∈fp,∃ xs,H b=some (.lst xs):=by
 obtain⟨dx,np,R,M,T,ts,rs,ms,mv,c,rfl⟩:=c
 exact c.lists
theorem bX.mut (c:bX K C H r S fp):∀ b∈fp,Mut (H b):=fun b hb=>by
 obtain⟨xs,e⟩:=c.lists b hb
 rw[e];exact trivial
theorem bX.notfp (c:bX K C H r S fp) {b:Addr} (h:H b=none):b∉fp:=fun hb=>by
 obtain⟨xs,e⟩:=c.lists b hb
 rw[e] at h;cases h
theorem bX.ok (c:bX K C H r S fp):RunOk S:=by
 obtain⟨dx,np,R,M,T,ts,rs,ms,mv,c,_⟩:=c
 exact c.ok
theorem RunC.r_notin (c:RunC K C H r S dx np R M T ts rs ms mv):r∉R::M::T::ts:=fun hb=>by
 obtain⟨xs,e⟩:=c.lists r hb
 rw[c.ins] at e;cases e
theorem RunC.keep (c:RunC K C H r S dx np R M T ts rs ms mv) (t:bU K H H') (k:∀ b∈r::R::M::T::ts,H' b=H b):RunC K C H' r S dx np R M T ts rs ms mv where
 ins:=by rw[k r (by simp)];exact c.ins
 net:=Is.mono t _ _ c.net
 hR:=by rw[k R (by simp)];exact c.hR
 lR:=IsL.mono t _ _ c.lR
 hM:=by rw[k M (by simp)];exact c.hM
 lM:=IsL.mono t _ _ c.lM
 cM:=Is.mono t _ _ c.cM
 hT:=by rw[k T (by simp)];exact c.hT
 tl:=c.tl
 ti:=fun i t l h1 h2=>by rw[k t (by have:=List.mem_of_getElem? h1;simp [this])];exact c.ti i t l h1 h2
 nd:=c.nd
 ok:=c.ok
theorem bX.same (c:bX K C H r S fp) (s:aK H H'):bX K C H' r S fp:=by
 obtain⟨dx,np,R,M,T,ts,rs,ms,mv,c,rfl⟩:=c
 refine⟨dx,np,R,M,T,ts,rs,ms,mv,c.keep s.ts fun b hb=>?_,rfl⟩
 rcases List.mem_cons.1 hb with rfl | hb
 ·rw[s _ _ c.ins,c.ins]
 ·obtain⟨xs,e⟩:=c.lists b hb
  rw[s _ _ e,e]
theorem bX.but {t:Addr} (c:bX K C H r S fp) (s:cK t H H') (hm:Mut (H t)) (h1:t≠r) (h2:t∉fp):bX K C H' r S fp:=by
 obtain⟨dx,np,R,M,T,ts,rs,ms,mv,c,rfl⟩:=c
 refine⟨dx,np,R,M,T,ts,rs,ms,mv,c.keep (s.ts hm) fun b hb=>?_,rfl⟩
 rcases List.mem_cons.1 hb with rfl | hb
 ·rw[s _ _ (Ne.symm h1) c.ins,c.ins]
 ·obtain⟨xs,e⟩:=c.lists b hb
  rw[s _ _ (fun z=>h2 (by rw[← z];exact hb)) e,e]
theorem mom_un {m:Mom}{v:V} (h:Is K H (momD m) v):∃ (a po:Addr) (st:V),v=.ref a∧bR K H a [.int m.tick,st,.ref po,.int m.came,.int m.ground]∧Is K H (stD m.held m.coming m.doors) st∧bR K H po (m.poured.map V.int):=by
 obtain⟨a,zs,rfl,q,l⟩:=(show Is K H (.tup [.int m.tick,stD m.held m.coming m.doors,.tup (m.poured.map L2.D.int),.int m.came,.int m.ground]) v from h).un
 obtain⟨x1,r,rfl,h1,l⟩:=l.un
 obtain⟨x2,r,rfl,h2,l⟩:=l.un
 obtain⟨x3,r,rfl,h3,l⟩:=l.un
 obtain⟨x4,r,rfl,h4,l⟩:=l.un
 obtain⟨x5,r,rfl,h5,l⟩:=l.un
 have:=l.un0
 subst this
 have:=h1.ui
 subst this
 have:=h4.ui
 subst this
 have:=h5.ui
 subst this
 obtain⟨po,xs,rfl,q1,l1⟩:=h3.un
 have:=l1.ints
 subst this
 exact⟨a,po,x2,rfl,q,h2,q1⟩
theorem mom_of {m:Mom}{a po:Addr}{st:V} (q:bR K H a [.int m.tick,st,.ref po,.int m.came,.int m.ground]) (hs:Is K H (stD m.held m.coming m.doors) st) (hp:bR K H po (m.poured.map V.int)):Is K H (momD m) (.ref a):=
 Is.tupOf q (.cons (Is.i _) (.cons hs (.cons (Is.tupOf hp (IsL.of_ints _)) (.cons (Is.i _) (.cons (Is.i _) .nil)))))
end
section
variable {P:Program}{w:World}{K:PySem.W.Frag}{mg:Str→Option Value}{base:Heap}{C:Addr}
noncomputable def spNeed (K:PySem.W.Frag):Sp:=fun vs H Q _=>∃ (x:V) (net:Net) (v:Int),vs=[x,.int v]∧Is K H (dU net) x∧0≤v∧v < net.vs.length∧Q .non H
theorem eS:FnScope ["net","number","vessels","spouts"] ["net","number"] (aJ (aX 22)):=⟨rfl,rfl,rfl,by decide +kernel,rfl,by decide +kernel,by decide +kernel⟩
theorem ok_need_vessel {f f1:Addr}{fd fd1:FuncData} (F:Fun K "need_vessel" "need_vessel" (aX 22) f fd) (T:Txt mg) (G_is_whole:Callee P w K mg base "is_whole" ["thing","least","most"] 1 spWhole f1 fd1):FnOk P w K mg base CX0 2 f fd ["net","number"] (spNeed K):=by
 refine F.ok eS (fun vs H Q E h=>?_) (fun cdv A outer s H vs Q E hr h=>?_)
 ·obtain⟨x,net,v,rfl,_⟩:=h;rfl
 ·obtain⟨x,net,v,rfl,hx,h0,h1,k⟩:=h
  have sc:=eS
  refine⟨_,(aE (bS (pv 0) (aW (K:=K) (n:=2) rfl rfl (aG (aF (i:=2) sc.nd rfl (Or.inl rfl)) (aG (aF (i:=3) sc.nd rfl (Or.inl rfl)) aV))))
   (aM (dC (eQ (dL (d7 G_is_whole hr (aA (pv 1) (aA aH (aA (aY op_sub (aS (bH (K:=K) rfl) rfl T.b_len PySem.boot_len (aA (pv 2) aB)) aH) aB)))))) (aM ps_dead) bV))),?_⟩
  obtain⟨a,b,c,xs,ys,rfl,q,q1,l1,q2,l2⟩:=dM hx
  have exl:xs.length=net.vs.length:=by rw[l1.length,List.length_map]
  refine⟨_,rfl,a,_,rfl,q,rfl,_,_,rfl,_,_,rfl,rfl,?_⟩
  exact⟨_,rfl,_,rfl,b,xs,rfl,.inr q1,_,_,rfl,rfl,v,0,_,rfl,h0,by omega,_,rfl,eJ k⟩
noncomputable def spPouring (K:PySem.W.Frag):Sp:=fun vs H Q _=>∃ (x:V) (net:Net) (v:Int),vs=[x,.int v]∧Is K H (dU net) x∧NetOk net∧∀ p H',aK H H'→bR K H' p ((v::bZ (net.vs.length - 1)).map V.int)→Q (.ref p) H'
theorem sc_pouring:FnScope ["net","amount","vessels","spouts"] ["net","amount"] (aJ (aX 34)):=⟨rfl,rfl,rfl,by decide +kernel,rfl,by decide +kernel,by decide +kernel⟩
theorem ok_pouring {f:Addr}{fd:FuncData} (F:Fun K "pouring" "pouring" (aX 34) f fd) (T:Txt mg):FnOk P w K mg base CX0 1 f fd ["net","amount"] (spPouring K):=by
 refine F.ok sc_pouring (fun vs H Q E h=>?_) (fun cdv A outer s H vs Q E hr h=>?_)
 ·obtain⟨x,net,v,rfl,_⟩:=h;rfl
 ·obtain⟨x,net,v,rfl,hx,nok,k⟩:=h
  have sc:=sc_pouring
  refine⟨_,(aE (bS (pv 0) (aW (K:=K) (n:=2) rfl rfl (aG (aF (i:=2) sc.nd rfl (Or.inl rfl)) (aG (aF (i:=3) sc.nd rfl (Or.inl rfl)) aV))))
   (aM (bG (aY (op_catTK (K:=K) rfl) (bT (aA (pv 1) aB)) (aY (op_repZK (K:=K) rfl) (bT (aA aH aB)) (aY op_sub (aS (bH (K:=K) rfl) rfl T.b_len PySem.boot_len (aA (pv 2) aB)) aH)))))),?_⟩
  obtain⟨a,b,c,xs,ys,rfl,q,q1,l1,q2,l2⟩:=dM hx
  have exl:xs.length=net.vs.length:=by rw[l1.length,List.length_map]
  have n1:=nok.lo
  have n2:=nok.hi
  refine⟨_,rfl,a,_,rfl,q,rfl,_,_,rfl,_,_,rfl,rfl,?_⟩
  refine⟨_,rfl,(show 1≤sizeLine by decide),fun y hy=>⟨(show 1≤sizeLine by decide),fun z hz=>?_⟩⟩
  have m1:=aK.new (o:=HO.tup [.int v]) hy
  have m2:=aK.new (o:=HO.tup [.int 0]) hz
  refine⟨_,rfl,b,xs,rfl,.inr (m2.tup (m1.tup q1)),_,_,rfl,rfl,z,_,[.int 0],rfl,rfl,bR.of aD,by omega,by omega,by simp,by simp,fun e H1 sm1 qe=>?_⟩
  have en:(((xs.length:Nat):Int) - 1).toNat=net.vs.length - 1:=by rw[exl];omega
  rw[en,rep0] at qe
  refine⟨y,e,[.int v],_,rfl,rfl,sm1.tup (m2.tup (bR.of aD)),qe,by simp,aQ (by simp;omega) |> Nat.le_of_lt,fun he=>?_,fun _ p hp=>?_⟩
  ·refine k _ _ ((m1.trans m2).trans sm1) ?_
   have e0:bZ (net.vs.length - 1)=[]:=List.map_eq_nil_iff.mp he
   rw[e0]
   exact sm1.tup (m2.tup (bR.of aD))
  ·exact k _ _ (((m1.trans m2).trans sm1).trans (aK.new hp)) (bR.of aD)
noncomputable def spCameIn (K:PySem.W.Frag):Sp:=fun vs H Q _=>∃ (x y:V) (z:Addr) (net:Net) (held coming poured:List Int) (doors:List Bool),vs=[x,y,.ref z]∧Is K H (dU net) x∧Is K H (stD held coming doors) y∧bR K H z (poured.map V.int)∧
 NetOk net∧StOk net held coming doors∧∀ H',aK H H'→Q (.int (poured.sum+openSum net.sps doors)) H'
theorem openSum_snoc:∀ (ss:List Spt) (ds:List Bool) (i:Nat) (s:Spt) (d:Bool),ss[i]? = some s→ds[i]? = some d→openSum (ss.take (i+1)) (ds.take (i+1))=openSum (ss.take i) (ds.take i)+(if d=true then s.2.1 else 0)
 | [],_,i,_,_,h,_=>by simp at h
 | _::_,[],i,_,_,_,h=>by simp at h
 | a::ss,b::ds,0,s,d,h1,h2=>by simp at h1 h2;subst h1 h2;simp [openSum]
 | a::ss,b::ds,i+1,s,d,h1,h2=>by
  simp only [List.take_succ_cons,openSum]
  rw[openSum_snoc ss ds i s d (by simpa using h1) (by simpa using h2)]
  omega
theorem sc_came_in:FnScope ["net","state","poured","vessels","spouts","held","coming","doors"] ["net","state","poured"] (aJ (aX 36)):=⟨rfl,rfl,rfl,by decide +kernel,rfl,by decide +kernel,by decide +kernel⟩
theorem ok_came_in {f:Addr}{fd:FuncData} (F:Fun K "came_in" "came_in" (aX 36) f fd) (T:Txt mg):FnOk P w K mg base CX0 1 f fd ["net","state","poured"] (spCameIn K):=by
 refine F.ok sc_came_in (fun vs H Q E h=>?_) (fun cdv A outer s H vs Q E hr h=>?_)
 ·obtain⟨x,y,z,net,held,coming,poured,doors,rfl,_⟩:=h;rfl
 ·obtain⟨x,y,z,net,held,coming,poured,doors,rfl,hx,hy,qz,nok,sok,k⟩:=h
  have sc:=sc_came_in
  refine⟨_,(aE (bS (pv 0) (aW (K:=K) (n:=2) rfl rfl (aG (aF (i:=3) sc.nd rfl (Or.inl rfl)) (aG (aF (i:=4) sc.nd rfl (Or.inl rfl)) aV))))
   (aE (bS (pv 1) (aW (K:=K) (n:=3) rfl rfl (aG (aF (i:=5) sc.nd rfl (Or.inl rfl)) (aG (aF (i:=6) sc.nd rfl (Or.inl rfl)) (aG (aF (i:=7) sc.nd rfl (Or.inl rfl)) aV)))))
   (aM (bG (aY cH (aS (call_sumK (K:=K) rfl rfl) rfl T.b_sum PyProof.Rows.boot_sum (aA (pv 2) aB)) (aS (call_sumK (K:=K) rfl rfl) rfl T.b_sum PyProof.Rows.boot_sum (aA (pe_lc (fun _ _ h=>h) rfl (LcOk.mk (N':=["target","flow","first_door","door"]) (fr:=[none,none,none,none]) rfl trivial rfl rfl rfl rfl rfl trivial) (pi_zip2K (K:=K) rfl rfl T.b_zip (aA (pv 4) (aA (pv 7) aB))) (fun _ _ _=>(aW (K:=K) (n:=2) rfl rfl (aG (aW (K:=K) (n:=3) rfl rfl (aG (aF (i:=0) (show (["target","flow","first_door","door"]:List Str).Nodup by decide +kernel) rfl (Or.inl rfl) (Or.inr rfl)) (aG (aF (i:=1) (show (["target","flow","first_door","door"]:List Str).Nodup by decide +kernel) rfl (Or.inl rfl) (Or.inr rfl)) (aG (aF (i:=2) (show (["target","flow","first_door","door"]:List Str).Nodup by decide +kernel) rfl (Or.inl rfl) (Or.inr rfl)) aV)))) (aG (aF (i:=3) (show (["target","flow","first_door","door"]:List Str).Nodup by decide +kernel) rfl (Or.inl rfl) (Or.inr rfl)) aV)))) (fun _ _ _=>pif_one (dL (pv 3))) (fun _ _ _=>(pv 1))) aB))))))),?_⟩
  obtain⟨a,b,c,xs,ys,rfl,q,q1,l1,q2,l2⟩:=dM hx
  obtain⟨ay,b1,b2,b3,rfl,qy,qb1,qb2,qb3⟩:=st_un hy
  have eyl:ys.length=net.sps.length:=by rw[l2.length,List.length_map]
  have n3:=nok.sp
  refine⟨_,rfl,a,_,rfl,q,rfl,_,_,rfl,_,_,rfl,rfl,?_⟩
  refine⟨_,rfl,ay,_,rfl,qy,rfl,_,_,rfl,_,_,rfl,_,_,rfl,rfl,?_⟩
  refine⟨_,rfl,true,z,_,rfl,qz,?_⟩
  refine⟨_,rfl,_,rfl,true,true,c,b3,rfl,⟨_,q2⟩,⟨_,qb3⟩,lc_zip2 (K:=K) (t1:=true) (t2:=true) (xs:=ys) (ys:=doors.map V.bl) (n:=net.sps.length) eyl (by rw[List.length_map];exact sok.d)
   (fun D i r σ' H'=>H D=none∧aK H H'∧H' D=some (.lst r)∧(∃ ns:List Int,r=ns.map V.int∧ns.sum=openSum (net.sps.take i) (doors.take i)∧ns.length≤i)∧∃ u1 u2 u3 u4,σ'=[u1,u2,u3,u4])
   (fun D i r σ' H' p=>⟨p.2.1.tup q2,p.2.1.tup qb3⟩) (fun D hD=>⟨hD,aK.new hD,aD,⟨[],rfl,by simp [openSum],by simp⟩,none,none,none,none,rfl⟩) ?_ ?_⟩
  rotate_left
  ·rintro D i x y r σ' H2 Tt hx hy ⟨hD,sm,hDl,⟨ns,rfl,hns,hnl⟩,u1,u2,u3,u4,rfl⟩ hT
   obtain⟨sp,hsi,sa,rfl,qs⟩:=sps_at l2 hx
   have hil:=(List.getElem?_eq_some_iff.mp hsi).1
   obtain⟨d,hdi,rfl⟩:∃ d,doors[i]? = some d∧y=V.bl d:=by
    rw[List.getElem?_map] at hy
    cases hd:doors[i]? with
    | none=>rw[hd] at hy;cases hy
    | some d=>rw[hd] at hy;cases hy;exact⟨d,rfl,rfl⟩
   have mT:=aK.new (o:=HO.tup [.ref sa,.bl d]) hT
   have hs:=openSum_snoc net.sps doors i sp d hsi hdi
   refine⟨Tt,_,rfl,bR.of aD,rfl,_,_,rfl,sa,_,rfl,mT.tup (sm.tup qs),rfl,_,_,rfl,_,_,rfl,_,_,rfl,rfl,_,_,rfl,rfl,?_⟩
   refine⟨_,rfl,_,rfl,?_⟩
   have smT:=sm.trans mT
   cases d with
   | false=>
    refine eJ ⟨hD,smT,mT _ _ hDl,⟨ns,rfl,by rw[hs,hns];simp,by omega⟩,_,_,_,_,rfl⟩
   | true=>
    refine iteT ⟨_,rfl,mT _ _ hDl,aQ (by simp;omega),hD,smT.put hD,aD,⟨ns++[sp.2.1],by rw[List.map_append];rfl,by rw[hs,List.sum_append,hns];simp,by simp;omega⟩,_,_,_,_,rfl⟩
  ·rintro D r σ' H2 ⟨hD,sm,hDl,⟨ns,rfl,hns,hnl⟩,_⟩
   refine⟨false,D,_,rfl,bY.of hDl,_,_,rfl,rfl,?_⟩
   rw[hns,List.take_of_length_le (Nat.le_refl _),List.take_of_length_le (Nat.le_of_eq sok.d)]
   exact k _ sm
noncomputable def spMoment (K:PySem.W.Frag):Sp:=fun vs H Q _=>∃ (x y:V) (net:Net) (m:Mom),vs=[x,y]∧Is K H (dU net) x∧Is K H (momD m) y∧NetOk net∧MomOk net m∧
 ∀ p p1 p2 H',aK H H'→bR K H' p [p1,.ref p2]→Is K H' (momD (m.step net)) p1→bR K H' p2 ((m.tk net).tip.map fun (k:Nat)=>V.int (k:Int))→Q (.ref p) H'
theorem sc_moment_behind:FnScope ["net","moment","tick","state","poured","came","grounded","behind","tipped","lost"] ["net","moment"] (aJ (aX 46)):=⟨rfl,rfl,rfl,by decide +kernel,rfl,by decide +kernel,by decide +kernel⟩
theorem ok_moment_behind {f f1 f2 f3:Addr}{fd fd1 fd2 fd3:FuncData} (F:Fun K "moment_behind" "moment_behind" (aX 46) f fd) (T:Txt mg) (G_tick_behind:Callee P w K mg base "tick_behind" ["net","state","poured"] 4 (spTick K) f1 fd1)
  (G_came_in:Callee P w K mg base "came_in" ["net","state","poured"] 1 (spCameIn K) f2 fd2) (G_pouring:Callee P w K mg base "pouring" ["net","amount"] 1 (spPouring K) f3 fd3):FnOk P w K mg base CX0 5 f fd ["net","moment"] (spMoment K):=by
 refine F.ok sc_moment_behind (fun vs H Q E h=>?_) (fun cdv A outer s H vs Q E hr h=>?_)
 ·obtain⟨x,y,net,m,rfl,_⟩:=h;rfl
 ·obtain⟨x,y,net,m,rfl,hx,hy,nok,mok,k⟩:=h
  have sc:=sc_moment_behind
  refine⟨_,(aE (bS (pv 1) (aW (K:=K) (n:=5) rfl rfl (aG (aF (i:=2) sc.nd rfl (Or.inl rfl)) (aG (aF (i:=3) sc.nd rfl (Or.inl rfl)) (aG (aF (i:=4) sc.nd rfl (Or.inl rfl)) (aG (aF (i:=5) sc.nd rfl (Or.inl rfl)) (aG (aF (i:=6) sc.nd rfl (Or.inl rfl)) aV)))))))
   (aE (bS (d7 G_tick_behind hr (aA (pv 0) (aA (pv 3) (aA (pv 4) aB)))) (aW (K:=K) (n:=3) rfl rfl (aG (aF (i:=7) sc.nd rfl (Or.inl rfl)) (aG (aF (i:=8) sc.nd rfl (Or.inl rfl)) (aG (aF (i:=9) sc.nd rfl (Or.inl rfl)) aV)))))
   (aE (ps_aug (i:=5) sc.nd rfl (Or.inl rfl) (d7 G_came_in hr (aA (pv 0) (aA (pv 3) (aA (pv 4) aB)))) ip_add)
   (aM (bG (bT (aA (bT (aA (aY cH (pv 2) aH) (aA (pv 7) (aA (d7 G_pouring hr (aA (pv 0) (aA aH aB))) (aA (pv 5) (aA (aY cH (pv 6) (pv 9)) aB)))))) (aA (pv 8) aB)))))))),?_⟩
  obtain⟨a,po,st,rfl,q,hs,hp⟩:=mom_un hy
  refine⟨_,rfl,a,_,rfl,q,rfl,_,_,rfl,_,_,rfl,_,_,rfl,_,_,rfl,_,_,rfl,rfl,?_⟩
  refine⟨_,rfl,_,rfl,_,rfl,x,st,po,net,m.held,m.coming,m.poured,m.doors,rfl,hx,hs,hp,nok,mok.st,mok.pl,fun f fxs H1 sm1 _ if1=>?_⟩
  obtain⟨fa,gxs,ef,qf,lf⟩:=(show Is K H1 (.tup [stD (m.tk net).held (m.tk net).coming (m.tk net).doors,.tup ((m.tk net).tip.map fun (i:Nat)=>L2.D.int (i:Int)),.int (m.tk net).ground]) (.ref f) from if1).un
  cases ef
  obtain⟨y1,r,rfl,j1,lf⟩:=lf.un
  obtain⟨y2,r,rfl,j2,lf⟩:=lf.un
  obtain⟨y3,r,rfl,j3,lf⟩:=lf.un
  have:=lf.un0
  subst this
  have:=j3.ui
  subst this
  obtain⟨p2,ts,rfl,qt,lt⟩:=j2.un
  have et:ts=(m.tk net).tip.map fun (k:Nat)=>V.int (k:Int):=by
   have e1:((m.tk net).tip.map fun (i:Nat)=>L2.D.int (i:Int))=((m.tk net).tip.map fun (i:Nat)=>(i:Int)).map L2.D.int:=by rw[List.map_map];rfl
   rw[e1] at lt
   rw[lt.ints,List.map_map];rfl
  subst et
  refine⟨f,_,rfl,qf,rfl,_,_,rfl,_,_,rfl,_,_,rfl,rfl,?_⟩
  refine⟨_,rfl,_,rfl,_,rfl,_,rfl,x,st,po,net,m.held,m.coming,m.poured,m.doors,rfl,Is.mono sm1.ts _ _ hx,Is.mono sm1.ts _ _ hs,sm1.tup hp,nok,mok.st,fun H2 sm2=>⟨_,_,rfl,rfl,?_⟩⟩
  have s2:aK H H2:=sm1.trans sm2
  refine⟨_,rfl,_,_,rfl,rfl,_,rfl,_,rfl,x,net,0,rfl,Is.mono s2.ts _ _ hx,nok,fun z H3 sm3 qz=>?_⟩
  rw[zeros_cons nok.lo] at qz
  refine⟨_,rfl,_,rfl,_,rfl,_,_,rfl,rfl,(show 5≤sizeLine by decide),fun p1 hp1=>?_⟩
  have m1:aK H3 _:=aK.new (o:=HO.tup [.int (m.tick+1),y1,.ref z,.int (m.came+(m.poured.sum+openSum net.sps m.doors)),.int (m.ground+(m.tk net).ground)]) hp1
  refine⟨_,rfl,(show 2≤sizeLine by decide),fun p hpp=>?_⟩
  have m2:aK _ _:=aK.new (o:=HO.tup [.ref p1,.ref p2]) hpp
  refine k p (.ref p1) p2 _ (((s2.trans sm3).trans m1).trans m2) (bR.of aD) (mom_of (m:=m.step net) (m2.tup (bR.of aD)) ?_ ?_) ?_
  ·exact Is.mono m2.ts _ _ (Is.mono m1.ts _ _ (Is.mono sm3.ts _ _ (Is.mono sm2.ts _ _ j1)))
  ·exact m2.tup (m1.tup qz)
  ·exact m2.tup (m1.tup (sm3.tup (sm2.tup qt)))
end
end Tw
namespace Tw
open PySem L2
section
variable {K:PySem.W.Frag}
theorem IsL.app {H:Hp}:∀ {ds es:List L2.D}{xs ys:List V},L2.IsL K H ds xs→L2.IsL K H es ys→L2.IsL K H (ds++es) (xs++ys)
 | [],_,_,_,h1,h2=>by have:=h1.un0;subst this;exact h2
 | d::ds,_,_,_,h1,h2=>by
  obtain⟨x,r,rfl,h,h1⟩:=h1.un
  exact .cons h (IsL.app h1 h2)
theorem small1M {n:Nat} (h:n≤10000000):n < sizeLine:=by rw[sizeLine_eq];omega
end
section
variable {P:Program}{w:World}{K:PySem.W.Frag}{mg:Str→Option Value}{base:Heap}{C:Addr}
noncomputable def spFirstMom (K:PySem.W.Frag):Sp:=fun vs H Q _=>∃ (x:V) (net:Net),vs=[x]∧Is K H (dU net) x∧NetOk net∧∀ p H',aK H H'→Is K H' (momD (mom0 net)) (.ref p)→Q (.ref p) H'
theorem sc_first_moment:FnScope ["net"] ["net"] (aJ (aX 43)):=⟨rfl,rfl,rfl,by decide +kernel,rfl,by decide +kernel,by decide +kernel⟩
theorem ok_first_moment {f f1 f2:Addr}{fd fd1 fd2:FuncData} (F:Fun K "first_moment" "first_moment" (aX 43) f fd) (T:Txt mg)
  (G_first_state:Callee P w K mg base "first_state" ["net"] 1 (spFirst K) f1 fd1) (G_pouring:Callee P w K mg base "pouring" ["net","amount"] 1 (spPouring K) f2 fd2):FnOk P w K mg base CX0 2 f fd ["net"] (spFirstMom K):=by
 refine F.ok sc_first_moment (fun vs H Q E h=>?_) (fun cdv A outer s H vs Q E hr h=>?_)
 ·obtain⟨x,net,rfl,_⟩:=h;rfl
 ·obtain⟨x,net,rfl,hx,nok,k⟩:=h
  have sc:=sc_first_moment
  refine⟨_,(aM (bG (bT (aA aH (aA (d7 G_first_state hr (aA (pv 0) aB)) (aA (d7 G_pouring hr (aA (pv 0) (aA aH aB))) (aA aH (aA aH aB)))))))),?_⟩
  refine⟨_,rfl,x,net,rfl,hx,nok,fun st H4 sm4 hst=>⟨_,rfl,x,net,0,rfl,Is.mono sm4.ts _ _ hx,nok,fun z H5 sm5 qz=>⟨(show 5≤sizeLine by decide),fun p hp=>?_⟩⟩⟩
  rw[zeros_cons nok.lo] at qz
  have sp:aK H5 (upd H5 p (.tup [.int 0,st,.ref z,.int 0,.int 0])):=aK.new hp
  exact k p _ ((sm4.trans sm5).trans sp) (mom_of (m:=mom0 net) (bR.of aD) (Is.mono sp.ts _ _ (Is.mono sm5.ts _ _ hst)) (sp.tup qz))
noncomputable def spMomPour (K:PySem.W.Frag):Sp:=fun vs H Q _=>∃ (x:V) (n:Nat) (m:Mom) (v a:Int),vs=[x,.int v,.int a]∧Is K H (momD m) x∧m.poured.length=n∧n≤12∧0≤v∧v < n∧
 ∀ p H',aK H H'→Is K H' (momD (m.pour v a)) (.ref p)→Q (.ref p) H'
theorem sc_moment_poured:FnScope ["moment","vessel","amount","tick","state","poured","came","grounded","more"] ["moment","vessel","amount"] (aJ (aX 44)):=⟨rfl,rfl,rfl,by decide +kernel,rfl,by decide +kernel,by decide +kernel⟩
theorem ok_moment_poured {f:Addr}{fd:FuncData} (F:Fun K "moment_poured" "moment_poured" (aX 44) f fd) (T:Txt mg):FnOk P w K mg base CX0 1 f fd ["moment","vessel","amount"] (spMomPour K):=by
 refine F.ok sc_moment_poured (fun vs H Q E h=>?_) (fun cdv A outer s H vs Q E hr h=>?_)
 ·obtain⟨x,n,m,v,a,rfl,_⟩:=h;rfl
 ·obtain⟨x,n,m,v,a,rfl,hx,pl,hnh,v0,v1,k⟩:=h
  have sc:=sc_moment_poured
  refine⟨_,(aE (bS (pv 0) (aW (K:=K) (n:=5) rfl rfl (aG (aF (i:=3) sc.nd rfl (Or.inl rfl)) (aG (aF (i:=4) sc.nd rfl (Or.inl rfl)) (aG (aF (i:=5) sc.nd rfl (Or.inl rfl)) (aG (aF (i:=6) sc.nd rfl (Or.inl rfl)) (aG (aF (i:=7) sc.nd rfl (Or.inl rfl)) aV)))))))
   (aE (bE (i:=8) sc.nd rfl (Or.inl rfl) (bD (call_lstK (K:=K) rfl) rfl T.b_list bt_list (aA (pv 5) aB)))
   (aE (ps_augS (pv 8) (pv 1) (get_listK (K:=K) rfl) (pv 2) ip_add set_list)
   (aM (bG (bT (aA (pv 3) (aA (pv 4) (aA (bD (cC (K:=K) rfl) rfl T.b_tuple cN (aA (pv 8) aB)) (aA (pv 6) (aA (pv 7) aB))))))))))),?_⟩
  obtain⟨ma,po,st,rfl,q,hs,hp⟩:=mom_un hx
  refine⟨_,rfl,ma,_,rfl,q,rfl,_,_,rfl,_,_,rfl,_,_,rfl,_,_,rfl,_,_,rfl,rfl,?_⟩
  refine⟨_,rfl,po,_,rfl,.inr hp,fun l hl=>?_⟩
  have hlt:v.toNat < m.poured.length:=by omega
  have hg:m.poured[v.toNat]? = some (m.poured.getD v.toNat 0):=by rw[List.getD_eq_getElem?_getD,List.getElem?_eq_getElem hlt];rfl
  refine⟨_,rfl,_,rfl,l,_,v,_,rfl,rfl,bY.of aD,v0,by omega,(by rw[List.getElem?_map,hg];rfl),_,rfl,_,_,rfl,rfl,l,_,v,v.toNat,rfl,rfl,aD,ixN_nat v0 (by rw[List.length_map];omega),?_⟩
  have e2:upd (upd H l (.lst (m.poured.map V.int))) l (.lst ((m.poured.map V.int).set v.toNat (.int (m.poured.getD v.toNat 0+a))))=upd H l (.lst ((m.pour v a).poured.map V.int)):=by
   rw[upd_upd]
   show _=upd H l (.lst ((m.poured.set v.toNat (m.poured.getD v.toNat 0+a)).map V.int))
   rw[List.map_set]
  rw[e2]
  have s1:aK H (upd H l (.lst ((m.pour v a).poured.map V.int))):=aK.new hl
  have hl1:upd H l (.lst ((m.pour v a).poured.map V.int)) l=some (.lst ((m.pour v a).poured.map V.int)):=aD
  generalize upd H l (.lst ((m.pour v a).poured.map V.int))=H1 at s1 hl1
  refine⟨_,rfl,_,rfl,_,rfl,l,_,rfl,.inl ⟨bY.of hl1,fun p hp'=>⟨_,rfl,_,rfl,(show 5≤sizeLine by decide),fun p2 hp2=>?_⟩⟩⟩
  have m2:aK H1 (upd H1 p (.tup ((m.pour v a).poured.map V.int))):=aK.new hp'
  have m3:aK (upd H1 p (.tup ((m.pour v a).poured.map V.int))) (upd (upd H1 p (.tup ((m.pour v a).poured.map V.int))) p2 (.tup [.int m.tick,st,.ref p,.int m.came,.int m.ground])):=aK.new hp2
  exact k p2 _ ((s1.trans m2).trans m3) (mom_of (m:=m.pour v a) (bR.of aD) (Is.mono m3.ts _ _ (Is.mono m2.ts _ _ (Is.mono s1.ts _ _ hs))) (m3.tup (bR.of aD)))
noncomputable def spMomGo (K:PySem.W.Frag):Sp:=fun vs H Q _=>∃ (x y:V) (net:Net) (m:Mom) (n:Nat),vs=[x,y,.int (n:Int)]∧Is K H (dU net) x∧Is K H (momD m) y∧NetOk net∧MomOk net m∧n≤100000∧
 ∀ p p1 p2 tvs H',aK H H'→bR K H' p [p1,.ref p2]→Is K H' (momD (momN net m n)) p1→bR K H' p2 tvs→IsL K H' ((tipN net m n).map tipD) tvs→Q (.ref p) H'
theorem sc_moment_gone:FnScope ["net","moment","many","tipped","step","tick","numbers"] ["net","moment","many"] (aJ (aX 45)):=⟨rfl,rfl,rfl,by decide +kernel,rfl,by decide +kernel,by decide +kernel⟩
theorem ok_moment_gone {f f1:Addr}{fd fd1:FuncData} (F:Fun K "moment_gone" "moment_gone" (aX 45) f fd) (T:Txt mg) (G_moment_behind:Callee P w K mg base "moment_behind" ["net","moment"] 5 (spMoment K) f1 fd1) :
  FnOk P w K mg base CX0 6 f fd ["net","moment","many"] (spMomGo K):=by
 refine F.ok sc_moment_gone (fun vs H Q E h=>?_) (fun cdv A outer s H vs Q E hr h=>?_)
 ·obtain⟨x,y,net,m,n,rfl,_⟩:=h;rfl
 ·obtain⟨x,y,net,m,n,rfl,hx,hy,nok,mok,hn,k⟩:=h
  have sc:=sc_moment_gone
  refine⟨_,(aE (bE (i:=3) sc.nd rfl (Or.inl rfl) (cG aB))
   (aE (dN PassesOwn.never rfl (cB rfl T.b_range (aA (pv 2) aB)) (aF (i:=4) sc.nd rfl (Or.inl rfl)) (aE (bE (i:=5) sc.nd rfl (Or.inr rfl) (aP (aL (K:=K) rfl) (pv 1) aH (fun _ _=>rfl)))
   (aE (bS (d7 G_moment_behind hr (aA (pv 0) (aA (pv 1) aB))) (aW (K:=K) (n:=2) rfl rfl (aG (aF (i:=1) sc.nd rfl (Or.inl rfl)) (aG (aF (i:=6) sc.nd rfl (Or.inl rfl)) aV))))
   (aM (cL (pe_bmK (K:=K) rfl PySem.F.plainAttrs_list PySem.F.slot_list_extend PySem.F.type_list_extend mt_extend (pv 3) (aA (pe_lc (fun _ _ h=>h) rfl (LcOk.mk (N':=["number","tick"]) (fr:=[none,some 5]) rfl ⟨rfl,trivial⟩ rfl rfl rfl rfl rfl ⟨⟨_,rfl,rfl,rfl,rfl⟩,trivial⟩) (d8 (K:=K) rfl (pv 6)) (fun _ _ _=>(aF (i:=0) (show (["number","tick"]:List Str).Nodup by decide +kernel) rfl (Or.inl rfl) (Or.inr rfl))) (fun _ _ _=>cP) (fun _ _ _=>(bT (aA (pv 1) (aA (pv 0) aB))))) aB)))))))
   (aM (bG (bT (aA (pv 1) (aA (bD (cC (K:=K) rfl) rfl T.b_tuple cN (aA (pv 3) aB)) aB))))))),?_⟩
  refine⟨Nat.zero_le _,fun tl htl=>?_⟩
  have s0:aK H (upd H tl (.lst [])):=aK.new htl
  have g0:upd H tl (.lst []) tl=some (.lst []):=aD
  generalize upd H tl (.lst [])=H0 at s0 g0
  dsimp only [tSeq]
  refine for_by (fun σ' H'=>aK H H'∧(∃ tvs,H' tl=some (.lst tvs)∧IsL K H' ((tipN net m n).map tipD) tvs)∧∃ mi,Is K H' (momD (momN net m n)) mi∧
   ∃ v4 v5 v6,σ'=[some x,some mi,some (.int (n:Int)),some (.ref tl),v4,v5,v6]) (fun D' hD=>?_) ?_
  rotate_left
  ·rintro σ' H1 ⟨s1,⟨tvs,ht1,lt1⟩,mi,cm1,v4,v5,v6,rfl⟩
   refine⟨_,rfl,_,rfl,tl,_,rfl,.inl ⟨bY.of ht1,fun p2 hp2=>⟨(show 2≤sizeLine by decide),fun p hp=>?_⟩⟩⟩
   have m2:aK H1 (upd H1 p2 (.tup tvs)):=aK.new hp2
   have m3:aK (upd H1 p2 (.tup tvs)) (upd (upd H1 p2 (.tup tvs)) p (.tup [mi,.ref p2])):=aK.new hp
   exact k p mi p2 tvs _ ((s1.trans m2).trans m3) (bR.of aD) (Is.mono (m2.trans m3).ts _ _ cm1) (m3.tup (bR.of aD)) (L2.IsL.mono (m2.trans m3).ts _ _ lt1)
  refine⟨_,rfl,_,rfl,by omega,by omega,?_⟩
  refine dP (lo:=0) (n:=n) (fun i σ' H'=>aK H H'∧(∃ tvs,H' tl=some (.lst tvs)∧IsL K H' ((tipN net m i).map tipD) tvs)∧∃ mi,Is K H' (momD (momN net m i)) mi∧
   ∃ v4 v5 v6,σ'=[some x,some mi,some (.int (n:Int)),some (.ref tl),v4,v5,v6]) ?_ ?_ ?_
  ·exact⟨s0,⟨[],g0,.nil⟩,y,Is.mono s0.ts _ _ hy,_,_,_,rfl⟩
  ·rintro i σ' H1 hi ⟨s1,⟨tvs,ht1,lt1⟩,mi,cm1,v4,v5,v6,rfl⟩
   obtain⟨ma,po,st,rfl,q,hs,hp⟩:=mom_un cm1
   refine⟨_,rfl,.inr (.inl ⟨ma,_,0,_,rfl,rfl,q,rfl,?_⟩)⟩
   refine⟨_,rfl,_,rfl,x,.ref ma,net,momN net m i,rfl,Is.mono s1.ts _ _ hx,cm1,nok,momN_ok mok i,fun p p1 p2 H2 sm2 qp i1 q2=>?_⟩
   refine⟨p,_,rfl,qp,rfl,_,_,rfl,_,_,rfl,rfl,?_⟩
   have ht2:=sm2 _ _ ht1
   have ltk:=tk_len net (momN net m i)
   have hn12:=nok.hi
   refine⟨_,rfl,.inl ⟨rfl,_,bY.of ht2⟩,?_⟩
   refine⟨_,rfl,p2,rfl,⟨_,q2⟩,eT (K:=K) (a:=p2) (xs:=((momN net m i).tk net).tip.map fun (k:Nat)=>V.int (k:Int))
    (fun D j rr σ' H'=>H2 D=none∧aK H2 H'∧H' D=some (.lst rr)∧IsL K H' (((((momN net m i).tk net).tip.take j).map fun k=>((momN net m i).tick,k)).map tipD) rr∧∃ u,σ'=[u,some (.int (momN net m i).tick)])
    (fun D j rr σ' H' p=>p.2.1.tup q2) (fun D hD=>⟨hD,aK.new hD,aD,.nil,none,rfl⟩) ?_ ?_⟩
   rotate_left
   ·rintro D j x' rr σ' H3 hx ⟨hD,sm3,hDl,lr,u,rfl⟩
    rw[List.getElem?_map] at hx
    obtain⟨kk,hk,rfl⟩:=Option.map_eq_some_iff.mp hx
    have hjl:=(List.getElem?_eq_some_iff.mp hk).1
    have hrl:rr.length≤12:=by rw[lr.length];simp;omega
    refine d9 ?_
    refine⟨_,rfl,_,rfl,(show 2≤sizeLine by decide),fun e he=>?_⟩
    have me:=aK.new (o:=HO.tup [.int (momN net m i).tick,.int (kk:Int)]) he
    have nDe:D≠e:=aO hDl he
    have muD:Mut (upd H3 e (.tup [.int (momN net m i).tick,.int (kk:Int)]) D):=by rw[me _ _ hDl];exact trivial
    refine⟨me _ _ hDl,aQ (by omega),hD,(sm3.trans me).put hD,aD,?_,_,rfl⟩
    rw[bJ hk,List.map_append,List.map_append]
    exact L2.IsL.snoc (Is.tupOf (ds:=[.int (momN net m i).tick,.int (kk:Int)]) (cK.ts (K:=K) cK.upd muD _ _ (bR.of aD)) (.cons (Is.i _) (.cons (Is.i _) .nil))) (L2.IsL.mono (me.ts.trans (cK.ts cK.upd muD)) _ _ lr)
   ·rintro D rr σ' H3 ⟨hD,sm3,hDl,lr,_⟩
    rw[List.length_map,List.take_length] at lr
    have ht3:=sm3 _ _ ht2
    have l1:tvs.length≤12 * i:=by rw[lt1.length,List.length_map];exact tipN_len nok i
    have l2:rr.length≤12:=by rw[lr.length];simp;omega
    refine⟨tl,D,_,_,rfl,rfl,ht3,hDl,Nat.le_of_lt (small1M (by omega)),?_⟩
    have mu3:Mut (H3 tl):=by rw[ht3];exact trivial
    have ts3:bU K H3 (upd H3 tl (.lst (tvs++rr))):=cK.ts cK.upd mu3
    have s13:=sm2.trans sm3
    refine⟨(s1.trans s13).put htl,⟨_,aD,?_⟩,p1,Is.mono ts3 _ _ (Is.mono sm3.ts _ _ i1),_,_,_,rfl⟩
    show IsL K _ ((tipN net m i++eO net (momN net m i)).map tipD) _
    rw[List.map_append]
    exact IsL.app (L2.IsL.mono (s13.ts.trans ts3) _ _ lt1) (L2.IsL.mono ts3 _ _ lr)
  ·exact fun σ' H' p=>hD _ _ p
end
end Tw
namespace Tw
open PySem L2
section
variable {K:PySem.W.Frag}
theorem addTips_sz {B:Nat}:∀ (l:List (Int×Nat)) (ts:List (List Int)),(∀ x∈ts,x.length≤B)→∀ x∈l.foldl addTip ts,x.length≤B+l.length
 | [],ts,h,x,hx=>by have:=h x hx;simp;omega
 | t::l,ts,h,x,hx=>by
  have h2:∀ y∈addTip ts t,y.length≤B+1:=fun y hy=>by
   unfold addTip at hy
   rcases List.mem_or_eq_of_mem_set hy with hy | rfl
   ·have:=h y hy;omega
   ·rw[List.length_append,List.length_singleton]
    have:(ts.getD t.2 []).length≤B:=by
     rw[List.getD_eq_getElem?_getD]
     cases e:ts[t.2]? with
     | none=>simp
     | some z=>exact h z (List.mem_of_getElem? e)
    omega
  have:=addTips_sz (B:=B+1) l (addTip ts t) h2 x hx
  rw[List.length_cons]
  omega
theorem RunSz.pour {S:RunS}{B:Nat} (h:RunSz S B) (v a:Int):RunSz (S.pour v a) (B+1):=
 ⟨by have:=h.rows;show (S.rows++_).length≤_;rw[List.length_append,List.length_singleton];omega,by have:=h.pre;show (S.pre++_).length≤_;rw[List.length_append,List.length_singleton];omega,fun l hl=>by have:=h.tips l hl;omega⟩
theorem RunSz.go {S:RunS}{B:Nat} (h:RunSz S B) (nok:NetOk S.net) (k:Nat):RunSz (S.go k) (B+12 * k+1):=
 ⟨by have:=h.rows;show (S.rows++_).length≤_;rw[List.length_append,List.length_singleton];omega,by have:=h.pre;show (S.pre++_).length≤_;rw[List.length_append,List.length_singleton];omega,fun l hl=>by
  have h1:=addTips_sz (B:=B) _ _ h.tips l hl
  have h2:=tipN_len (m:=S.cur) nok k
  omega⟩
theorem run0_sz (net:Net):RunSz (run0 net) 0:=⟨Nat.le_refl _,Nat.le_refl _,fun l hl=>by
 have:=List.eq_of_mem_replicate (show l∈List.replicate net.vs.length [] from hl);subst this;exact Nat.le_refl _⟩
end
section
variable {P:Program}{w:World}{K:PySem.W.Frag}{mg:Str→Option Value}{base:Heap}{C:Addr}
noncomputable def spInit (K:PySem.W.Frag) (C:Addr):Sp:=fun vs H Q _=>∃ (r dx:Addr) (x:V) (net:Net),vs=[.ref r,x]∧H r=some (.ins C dx [])∧Is K H (dU net) x∧NetOk net∧NetFull net∧
 ∀ fp H',(∀ b∈fp,H b=none)→cK r H H'→bX K C H' r (run0 net) fp→Q .non H'
theorem sc_init:FnScope ["self","net"] ["self","net"] (aJ (bQ (aX 48) 0)):=⟨rfl,rfl,rfl,by decide +kernel,rfl,by decide +kernel,by decide +kernel⟩
theorem ok_init {f f1 f2:Addr}{fd fd1 fd2:FuncData} (F:Fun K "__init__" "Run.__init__" (bQ (aX 48) 0) f fd) (T:Txt mg) (tx:RunTx K C)
  (G_is_net:Callee P w K mg base "is_net" ["thing"] 4 (spIsNet K) f1 fd1) (G_first_moment:Callee P w K mg base "first_moment" ["net"] 2 (spFirstMom K) f2 fd2) :
  FnOk P w K mg base CX0 5 f fd ["self","net"] (spInit K C):=by
 refine F.ok sc_init (fun vs H Q E h=>?_) (fun cdv A outer s H vs Q E hr h=>?_)
 ·obtain⟨r,dx,x,net,rfl,_⟩:=h;rfl
 ·obtain⟨r,dx,x,net,rfl,hi,hx,nok,nfu,k⟩:=h
  have sc:=sc_init
  refine⟨_,(aE (dC (eQ (dL (d7 G_is_net hr (aA (pv 1) aB)))) (aM ps_dead) bV)
   (aE (ps_fldK (K:=K) rfl (pv 0) (pv 1) rfl)
   (aE (ps_fldK (K:=K) rfl (pv 0) (cG aB) rfl)
   (aE (ps_fldK (K:=K) rfl (pv 0) (cG (aA (d7 G_first_moment hr (aA (pv 1) aB)) aB)) rfl)
   (aM (ps_fldK (K:=K) rfl (pv 0) (pe_lc (fun _ _ h=>h) rfl (LcOk.mk (N':=["vessel"]) (fr:=[none]) rfl trivial rfl rfl rfl rfl rfl trivial) (d8 (K:=K) rfl (aP (aL (K:=K) rfl) (pv 1) aH (fun _ _=>rfl))) (fun _ _ _=>(aF (i:=0) (show (["vessel"]:List Str).Nodup by decide +kernel) rfl (Or.inl rfl) (Or.inr rfl))) (fun _ _ _=>cP) (fun _ _ _=>(cG aB))) rfl)))))),?_⟩
  refine⟨_,rfl,x,net,rfl,hx,nok,nfu,fun H1 sm1=>⟨_,rfl,eJ ?_⟩⟩
  refine⟨_,rfl,_,rfl,r,C,dx,[],rfl,sm1 _ _ hi,tx.cls,tx.net,by decide,?_⟩
  have mu1:Mut (H1 r):=by rw[sm1 _ _ hi];exact trivial
  have i2:upd H1 r (.ins C dx (cJ "net" x [])) r=some (.ins C dx (cJ "net" x [])):=aD
  have b2:cK r H (upd H1 r (.ins C dx (cJ "net" x []))):=sm1.but.trans cK.upd
  have hx2:Is K (upd H1 r (.ins C dx (cJ "net" x []))) (dU net) x:=Is.mono (cK.ts cK.upd mu1) _ _ (Is.mono sm1.ts _ _ hx)
  generalize upd H1 r (.ins C dx (cJ "net" x []))=H2 at i2 b2 hx2
  refine⟨Nat.zero_le _,fun R hR=>⟨_,rfl,r,C,dx,_,rfl,aK.new hR _ _ i2,tx.cls,tx.rows,(show 1 < 1000 by decide),?_⟩⟩
  have nRr:R≠r:=fun z=>by rw[z,i2] at hR;cases hR
  have fR:H R=none:=b2.free nRr hR
  have mu2:Mut (upd H2 R (.lst []) r):=by rw[aK.new hR _ _ i2];exact trivial
  have i3:upd (upd H2 R (.lst [])) r (.ins C dx (cJ "rows" (.ref R) (cJ "net" x []))) r=some (.ins C dx (cJ "rows" (.ref R) (cJ "net" x []))):=aD
  have b3:cK r H (upd (upd H2 R (.lst [])) r (.ins C dx (cJ "rows" (.ref R) (cJ "net" x [])))):=(b2.trans (aK.new hR).but).trans cK.upd
  have hx3:Is K (upd (upd H2 R (.lst [])) r (.ins C dx (cJ "rows" (.ref R) (cJ "net" x [])))) (dU net) x:=Is.mono (cK.ts cK.upd mu2) _ _ (Is.mono (aK.new hR).ts _ _ hx2)
  have hR3:upd (upd H2 R (.lst [])) r (.ins C dx (cJ "rows" (.ref R) (cJ "net" x []))) R=some (.lst []):=by rw[aN nRr];exact aD
  generalize upd (upd H2 R (.lst [])) r (.ins C dx (cJ "rows" (.ref R) (cJ "net" x [])))=H3 at i3 b3 hx3 hR3
  refine⟨_,rfl,x,net,rfl,hx3,nok,fun p H6 s36 cm=>⟨(show 1≤sizeLine by decide),fun M hM=>⟨_,rfl,r,C,dx,cJ "rows" (.ref R) (cJ "net" x []),rfl,aK.new hM _ _ (s36 _ _ i3),tx.cls,tx.moments,(show 2 < 1000 by decide),?_⟩⟩⟩
  have i6:=s36 _ _ i3
  have nMr:M≠r:=fun z=>by rw[z,i6] at hM;cases hM
  have nMR:M≠R:=fun z=>by rw[z,s36 _ _ hR3] at hM;cases hM
  have fM:H M=none:=(b3.trans s36.but).free nMr hM
  have mu6:Mut (upd H6 M (.lst [.ref p]) r):=by rw[aK.new hM _ _ i6];exact trivial
  have ts7:bU K H6 (upd (upd H6 M (.lst [.ref p])) r (.ins C dx (cJ "moments" (.ref M) (cJ "rows" (.ref R) (cJ "net" x []))))):=(aK.new hM).ts.trans (cK.ts cK.upd mu6)
  have i7:upd (upd H6 M (.lst [.ref p])) r (.ins C dx (cJ "moments" (.ref M) (cJ "rows" (.ref R) (cJ "net" x [])))) r=some (.ins C dx (cJ "moments" (.ref M) (cJ "rows" (.ref R) (cJ "net" x [])))):=aD
  have b7:cK r H (upd (upd H6 M (.lst [.ref p])) r (.ins C dx (cJ "moments" (.ref M) (cJ "rows" (.ref R) (cJ "net" x []))))):=((b3.trans s36.but).trans (aK.new hM).but).trans cK.upd
  have hM7:upd (upd H6 M (.lst [.ref p])) r (.ins C dx (cJ "moments" (.ref M) (cJ "rows" (.ref R) (cJ "net" x [])))) M=some (.lst [.ref p]):=by rw[aN nMr];exact aD
  have hR7:upd (upd H6 M (.lst [.ref p])) r (.ins C dx (cJ "moments" (.ref M) (cJ "rows" (.ref R) (cJ "net" x [])))) R=some (.lst []):=by rw[aN nRr];exact aK.new hM _ _ (s36 _ _ hR3)
  have hx7:=Is.mono ts7 _ _ (Is.mono s36.ts _ _ hx3)
  have cm7:=Is.mono ts7 _ _ cm
  generalize upd (upd H6 M (.lst [.ref p])) r (.ins C dx (cJ "moments" (.ref M) (cJ "rows" (.ref R) (cJ "net" x []))))=H7 at i7 b7 hM7 hR7 hx7 cm7
  obtain⟨a,b,c,xs,ys,rfl,q,q1,l1,q2,l2⟩:=dM hx7
  have exl:xs.length=net.vs.length:=by rw[l1.length,List.length_map]
  have n2:=nok.hi
  refine⟨_,rfl,.inr (.inl ⟨a,_,0,_,rfl,rfl,q,rfl,b,rfl,⟨_,q1⟩,eT (K:=K) (a:=b) (xs:=xs) (fun D i rr σ' H'=>H7 D=none∧aK H7 H'∧H' D=some (.lst rr)∧(∃ ts:List Addr,rr=ts.map V.ref∧ts.length=i∧(D::ts).Nodup∧∀ t∈ts,H7 t=none∧H' t=some (.lst []))∧∃ u,σ'=[u])
   (fun D i rr σ' H' p=>p.2.1.tup q1) (fun D hD=>⟨hD,aK.new hD,aD,⟨[],rfl,rfl,by simp,fun t ht=>(nomatch ht)⟩,none,rfl⟩) ?_ ?_⟩)⟩
  rotate_left
  ·rintro D i v rr σ' H8 hv ⟨hD,sm,hDl,⟨ts,rfl,hts,hnd,hall⟩,u,rfl⟩
   have hil:=(List.getElem?_eq_some_iff.mp hv).1
   refine d9 ?_
   refine⟨Nat.zero_le _,fun t ht=>⟨aK.new ht _ _ hDl,aQ (by simp;omega),hD,(sm.trans (aK.new ht)).put hD,aD,⟨ts++[t],by rw[List.map_append];rfl,by simp [hts],?_,?_⟩,_,rfl⟩⟩
   ·have nDt:D≠t:=fun z=>by rw[← z,hDl] at ht;cases ht
    have nts:t∉ts:=fun z=>by rw[(hall t z).2] at ht;cases ht
    rw[List.nodup_cons] at hnd ⊢
    refine⟨fun z=>?_,?_⟩
    ·rcases List.mem_append.1 z with z | z
     ·exact hnd.1 z
     ·exact nDt (by simpa using z)
    ·rw[List.nodup_append]
     exact⟨hnd.2,by simp,fun a ha b hb=>by rw[List.mem_singleton] at hb;subst hb;exact fun z=>nts (z ▸ ha)⟩
   ·intro t' ht'
    have nDt:t≠D:=fun z=>by rw[z,hDl] at ht;cases ht
    rcases List.mem_append.1 ht' with z | z
    ·have h1:=hall t' z
     have ne1:t'≠D:=fun z2=>by rw[List.nodup_cons] at hnd;exact hnd.1 (z2 ▸ z)
     exact⟨h1.1,by rw[aN ne1];exact aK.new ht _ _ h1.2⟩
    ·have:t'=t:=by simpa using z
     subst this
     exact⟨sm.free ht,by rw[aN nDt];exact aD⟩
  ·rintro D rr σ' H8 ⟨hD,sm,hDl,⟨ts,rfl,hts,hnd,hall⟩,_⟩
   refine⟨_,rfl,r,C,dx,_,rfl,sm _ _ i7,tx.cls,tx.tips,(show 3 < 1000 by decide),?_⟩
   have nDr:D≠r:=fun z=>by rw[z,i7] at hD;cases hD
   have nDR:D≠R:=fun z=>by rw[z,hR7] at hD;cases hD
   have nDM:D≠M:=fun z=>by rw[z,hM7] at hD;cases hD
   have ntr:∀ t∈ts,t≠r:=fun t ht z=>by have:=(hall t ht).1;rw[z,i7] at this;cases this
   have ntR:∀ t∈ts,t≠R:=fun t ht z=>by have:=(hall t ht).1;rw[z,hR7] at this;cases this
   have ntM:∀ t∈ts,t≠M:=fun t ht z=>by have:=(hall t ht).1;rw[z,hM7] at this;cases this
   have mu8:Mut (H8 r):=by rw[sm _ _ i7];exact trivial
   have ts8:bU K H7 (upd H8 r (.ins C dx (cJ "tip_ticks" (.ref D) (cJ "moments" (.ref M) (cJ "rows" (.ref R) (cJ "net" (.ref a) [])))))):=sm.ts.trans (cK.ts cK.upd mu8)
   refine k (R::M::D::ts) _ (fun y hy=>?_) ((b7.trans sm.but).trans cK.upd) ⟨dx,.ref a,R,M,D,ts,[],[],.ref p,?_,rfl⟩
   ·rcases List.mem_cons.1 hy with rfl | hy
    ·exact fR
    rcases List.mem_cons.1 hy with rfl | hy
    ·exact fM
    rcases List.mem_cons.1 hy with rfl | hy
    ·exact b7.free nDr hD
    exact b7.free (ntr y hy) (hall y hy).1
   ·exact {
     ins:=aD
     net:=Is.mono ts8 _ _ hx7
     hR:=by rw[aN nRr];exact sm _ _ hR7
     lR:=.nil
     hM:=by rw[aN nMr];exact sm _ _ hM7
     lM:=.nil
     cM:=Is.mono ts8 _ _ cm7
     hT:=by rw[aN nDr];exact hDl
     tl:=by rw[hts,exl];simp [run0]
     ti:=fun i t l h1 h2=>by
      have hm:=List.mem_of_getElem? h1
      have hl:=List.mem_of_getElem? h2
      have:=List.eq_of_mem_replicate (show l∈List.replicate net.vs.length [] from hl)
      subst this
      rw[aN (ntr t hm)];exact (hall t hm).2
     nd:=by
      rw[List.nodup_cons]
      refine⟨fun z=>?_,?_⟩
      ·rcases List.mem_cons.1 z with z | z
       ·exact nMR z.symm
       rcases List.mem_cons.1 z with z | z
       ·exact nDR z.symm
       exact ntR R z rfl
      rw[List.nodup_cons]
      refine⟨fun z=>?_,hnd⟩
      rcases List.mem_cons.1 z with z | z
      ·exact nDM z.symm
      exact ntM M z rfl
     ok:=run0_ok nok }
noncomputable def spTell (K:PySem.W.Frag) (C:Addr) (φ:RunS→V→Hp→Prop):Sp:=fun vs H Q _=>∃ (r:Addr) (S:RunS) (fp:List Addr),vs=[.ref r]∧bX K C H r S fp∧∀ v,φ S v H→Q v H
theorem sc_state:FnScope ["self"] ["self"] (aJ (bQ (aX 48) 5)):=⟨rfl,rfl,rfl,by decide +kernel,rfl,by decide +kernel,by decide +kernel⟩
theorem ok_state {f:Addr}{fd:FuncData} (F:Fun K "state" "Run.state" (bQ (aX 48) 5) f fd) (T:Txt mg) (tx:RunTx K C):FnOk P w K mg base CX0 1 f fd ["self"] (spTell K C fun S v H=>Is K H (stD S.cur.held S.cur.coming S.cur.doors) v):=by
 refine F.ok sc_state (fun vs H Q E h=>?_) (fun cdv A outer s H vs Q E hr h=>?_)
 ·obtain⟨r,S,fp,rfl,_⟩:=h;rfl
 ·obtain⟨r,S,fp,rfl,⟨dx,np,R,M,T',ts,rs,ms,mv,c,rfl⟩,k⟩:=h
  have sc:=sc_state
  refine⟨_,(aM (bG (aP (aL (K:=K) rfl) (aP (aL (K:=K) rfl) (eL (K:=K) rfl (pv 0) rfl) (pe_un un_neg aH) (fun _ _=>rfl)) aH (fun _ _=>rfl)))),?_⟩
  obtain⟨a,po,st,rfl,q,hs,hp⟩:=mom_un c.cM
  exact⟨_,rfl,r,C,dx,_,_,rfl,c.ins,tx.cls,tx.moments,lk_moments,1,rfl,.inl ⟨M,_,-1,_,rfl,rfl,bY.of c.hM,atI_last _ _,.inr (.inl ⟨a,_,1,_,rfl,rfl,q,rfl,k _ hs⟩)⟩⟩
noncomputable def spPour (K:PySem.W.Frag) (C:Addr):Sp:=fun vs H Q _=>∃ (r:Addr) (S:RunS) (fp:List Addr) (v a:Int) (B:Nat),vs=[.ref r,.int v,.int a]∧bX K C H r S fp∧RunSz S B∧B≤1000000∧0≤v∧v < S.net.vs.length∧
 ∀ H',ButL fp H H'→bX K C H' r (S.pour v a) fp→Q .non H'
theorem sc_pour:FnScope ["self","vessel","amount"] ["self","vessel","amount"] (aJ (bQ (aX 48) 1)):=⟨rfl,rfl,rfl,by decide +kernel,rfl,by decide +kernel,by decide +kernel⟩
theorem ok_pour {f f1 f2:Addr}{fd fd1 fd2:FuncData} (F:Fun K "pour" "Run.pour" (bQ (aX 48) 1) f fd) (T:Txt mg) (tx:RunTx K C) (G_need_vessel:Callee P w K mg base "need_vessel" ["net","number"] 2 (spNeed K) f1 fd1)
  (G_moment_poured:Callee P w K mg base "moment_poured" ["moment","vessel","amount"] 1 (spMomPour K) f2 fd2):FnOk P w K mg base CX0 3 f fd ["self","vessel","amount"] (spPour K C):=by
 refine F.ok sc_pour (fun vs H Q E h=>?_) (fun cdv A outer s H vs Q E hr h=>?_)
 ·obtain⟨r,S,fp,v,a,B,rfl,_⟩:=h;rfl
 ·obtain⟨r,S,fp,v,a,B,rfl,⟨dx,np,R,M,T',ts,rs,ms,mv,c,rfl⟩,sz,hB,v0,v1,k⟩:=h
  have sc:=sc_pour
  refine⟨_,(aE (cL (d7 G_need_vessel hr (aA (eL (K:=K) rfl (pv 0) rfl) (aA (pv 1) aB))))
   (aE (cL (pe_bmK (K:=K) rfl PySem.F.plainAttrs_list PySem.F.slot_list_append PySem.F.type_list_append d4 (eL (K:=K) rfl (pv 0) rfl) (aA (d7 G_moment_poured hr (aA (aP (aL (K:=K) rfl) (eL (K:=K) rfl (pv 0) rfl) (pe_un un_neg aH) (fun _ _=>rfl)) (aA (pv 1) (aA (pv 2) aB)))) aB)))
   (aM (cL (pe_bmK (K:=K) rfl PySem.F.plainAttrs_list PySem.F.slot_list_append PySem.F.type_list_append d4 (eL (K:=K) rfl (pv 0) rfl) (aA (bT (aA pe_str (aA (pv 1) (aA (pv 2) aB)))) aB)))))),?_⟩
  obtain⟨ma,po,st,rfl,q,hs,hp⟩:=mom_un c.cM
  have pl:=c.ok.cur.pl
  have nd:=c.nd
  have nRM:R≠M:=fun z=>by rw[List.nodup_cons] at nd;exact nd.1 (by rw[z];simp)
  have hnh:=c.ok.nok.hi
  have lrs:rs.length≤B:=by rw[c.lR.length,List.length_map];exact sz.rows
  have lms:ms.length≤B:=by rw[c.lM.length,List.length_map];exact sz.pre
  refine⟨_,rfl,r,C,dx,_,_,rfl,c.ins,tx.cls,tx.net,lk_net,_,rfl,np,S.net,v,rfl,c.net,v0,v1,?_⟩
  refine⟨_,rfl,r,C,dx,_,_,rfl,c.ins,tx.cls,tx.moments,lk_moments,.inl ⟨rfl,_,bY.of c.hM⟩,?_⟩
  refine⟨_,rfl,r,C,dx,_,_,rfl,c.ins,tx.cls,tx.moments,lk_moments,1,rfl,.inl ⟨M,_,-1,_,rfl,rfl,bY.of c.hM,atI_last _ _,_,rfl,_,rfl,.ref ma,S.net.vs.length,S.cur,v,a,rfl,c.cM,pl,hnh,v0,v1,fun p2 H2 s2 cm2=>?_⟩⟩
  refine⟨M,_,_,rfl,rfl,s2 _ _ c.hM,small1M (by simp;omega),?_⟩
  have muM:Mut (H2 M):=by rw[s2 _ _ c.hM];exact trivial
  have ts3:bU K H2 (upd H2 M (.lst (ms++[V.ref ma]++[.ref p2]))):=cK.ts cK.upd muM
  have ne_rM:r≠M:=fun z=>c.r_notin (by rw[z];simp)
  have ne_rR:r≠R:=fun z=>c.r_notin (by rw[z];simp)
  refine⟨_,rfl,r,C,dx,_,_,rfl,by rw[aN ne_rM];exact s2 _ _ c.ins,tx.cls,tx.rows,lk_rows,.inl ⟨rfl,_,bY.of (by rw[aN nRM];exact s2 _ _ c.hR)⟩,?_⟩
  refine⟨_,rfl,_,rfl,(show 3≤sizeLine by decide),fun p3 hp3=>?_⟩
  have m4:aK (upd H2 M (.lst (ms++[V.ref ma]++[.ref p2]))) (upd (upd H2 M (.lst (ms++[V.ref ma]++[.ref p2]))) p3 (.tup [.str "pour",.int v,.int a])):=aK.new hp3
  have hR4:upd (upd H2 M (.lst (ms++[V.ref ma]++[.ref p2]))) p3 (.tup [.str "pour",.int v,.int a]) R=some (.lst rs):=m4 _ _ (by rw[aN nRM];exact s2 _ _ c.hR)
  refine⟨R,_,_,rfl,rfl,hR4,small1M (by omega),?_⟩
  have muR:Mut (upd (upd H2 M (.lst (ms++[V.ref ma]++[.ref p2]))) p3 (.tup [.str "pour",.int v,.int a]) R):=by rw[hR4];exact trivial
  have ts5:bU K (upd (upd H2 M (.lst (ms++[V.ref ma]++[.ref p2]))) p3 (.tup [.str "pour",.int v,.int a])) (upd (upd (upd H2 M (.lst (ms++[V.ref ma]++[.ref p2]))) p3 (.tup [.str "pour",.int v,.int a])) R (.lst (rs++[.ref p3]))):=cK.ts cK.upd muR
  have tsH:bU K H (upd (upd (upd H2 M (.lst (ms++[V.ref ma]++[.ref p2]))) p3 (.tup [.str "pour",.int v,.int a])) R (.lst (rs++[.ref p3]))):=((s2.ts.trans ts3).trans m4.ts).trans ts5
  have keep:∀ (b:Addr) (o:HO),b≠M→b≠R→H b=some o→upd (upd (upd H2 M (.lst (ms++[V.ref ma]++[.ref p2]))) p3 (.tup [.str "pour",.int v,.int a])) R (.lst (rs++[.ref p3])) b=some o:=fun b o h1 h2 e=>by
   rw[aN h2];exact m4 _ _ (by rw[aN h1];exact s2 _ _ e)
  refine k _ (fun b o hb e=>keep b o (fun z=>hb (by rw[z];simp)) (fun z=>hb (by rw[z];simp)) e) ⟨dx,np,R,M,T',ts,rs++[.ref p3],ms++[.ref ma],.ref p2,?_,rfl⟩
  rw[List.nodup_cons] at nd
  have nd2:=nd.2
  rw[List.nodup_cons] at nd2
  exact {
   ins:=keep _ _ ne_rM ne_rR c.ins
   net:=Is.mono tsH _ _ c.net
   hR:=aD
   lR:=by
    show IsL K _ ((S.rows++[Row.pour v a]).map rowD) _
    rw[List.map_append]
    exact L2.IsL.snoc (Is.tupOf (ds:=[.str "pour",.int v,.int a]) (ts5 _ _ (bR.of aD)) (.cons (Is.s _) (.cons (Is.i _) (.cons (Is.i _) .nil)))) (L2.IsL.mono tsH _ _ c.lR)
   hM:=by rw[aN (Ne.symm nRM)];exact m4 _ _ aD
   lM:=by
    show IsL K _ ((S.pre++[S.cur]).map momD) _
    rw[List.map_append]
    exact L2.IsL.snoc (Is.mono tsH _ _ c.cM) (L2.IsL.mono tsH _ _ c.lM)
   cM:=Is.mono ((ts3.trans m4.ts).trans ts5) _ _ cm2
   hT:=keep _ _ (fun z=>nd2.1 (by rw[← z];simp)) (fun z=>nd.1 (by rw[← z];simp)) c.hT
   tl:=c.tl
   ti:=fun i t l h1 h2=>by
    have hm:=List.mem_of_getElem? h1
    exact keep _ _ (fun z=>nd2.1 (by rw[← z];simp [hm])) (fun z=>nd.1 (by rw[← z];simp [hm])) (c.ti i t l h1 h2)
   nd:=c.nd
   ok:=c.ok.pour v a }
end
end Tw
namespace Tw
open PySem L2
section
variable {K:PySem.W.Frag}{C r dx R M T:Addr}{H H':Hp}{S:RunS}{fp:List Addr}{np mv:V}{ts:List Addr}{rs ms:List V}
theorem nodup_at {α:Type}{xs:List α} (h:xs.Nodup) {i j:Nat}{x:α} (h1:xs[i]? = some x) (h2:xs[j]? = some x):i=j:=by
 obtain⟨a1,b1⟩:=List.getElem?_eq_some_iff.mp h1
 obtain⟨a2,b2⟩:=List.getElem?_eq_some_iff.mp h2
 exact (List.getElem_inj h (h₀:=a1) (h₁:=a2)).1 (b1.trans b2.symm)
theorem RunC.addTip (c:RunC K C H r S dx np R M T ts rs ms mv) {p:Int×Nat}{t:Addr}{l:List Int} (h1:ts[p.2]? = some t) (h2:S.tips[p.2]? = some l) :
  RunC K C (upd H t (.lst ((l++[p.1]).map V.int))) r { S with tips:=addTip S.tips p } dx np R M T ts rs ms mv:=by
 have hm:=List.mem_of_getElem? h1
 have ht:=c.ti _ _ _ h1 h2
 have mu:Mut (H t):=by rw[ht];exact trivial
 have tst:bU K H (upd H t (.lst ((l++[p.1]).map V.int))):=cK.ts cK.upd mu
 have nd:=c.nd
 rw[List.nodup_cons] at nd
 have nd2:=nd.2
 rw[List.nodup_cons] at nd2
 have nd3:=nd2.2
 rw[List.nodup_cons] at nd3
 have nR:R≠t:=fun z=>nd.1 (by rw[z];simp [hm])
 have nM:M≠t:=fun z=>nd2.1 (by rw[z];simp [hm])
 have nT:T≠t:=fun z=>nd3.1 (by rw[z];exact hm)
 have nr:r≠t:=fun z=>c.r_notin (by rw[z];simp [hm])
 have hlt:p.2 < S.tips.length:=(List.getElem?_eq_some_iff.mp h2).1
 have hgd:S.tips.getD p.2 []=l:=by rw[List.getD_eq_getElem?_getD,h2];rfl
 exact {
  ins:=by rw[aN nr];exact c.ins
  net:=Is.mono tst _ _ c.net
  hR:=by rw[aN nR];exact c.hR
  lR:=IsL.mono tst _ _ c.lR
  hM:=by rw[aN nM];exact c.hM
  lM:=IsL.mono tst _ _ c.lM
  cM:=Is.mono tst _ _ c.cM
  hT:=by rw[aN nT];exact c.hT
  tl:=by show _=(List.set S.tips p.2 _).length;rw[List.length_set];exact c.tl
  ti:=fun i t' l' e1 e2=>by
   by_cases hi:i=p.2
   ·subst hi
    rw[h1] at e1
    cases e1
    have e3:(S.tips.set p.2 (S.tips.getD p.2 []++[p.1]))[p.2]? = some l':=e2
    rw[hgd,List.getElem?_set_self hlt] at e3
    cases e3
    exact aD
   ·have e3:(S.tips.set p.2 (S.tips.getD p.2 []++[p.1]))[i]? = some l':=e2
    rw[List.getElem?_set_ne (Ne.symm hi)] at e3
    have ne:t'≠t:=fun z=>hi (nodup_at nd3.2 (by rw[← z];exact e1) h1)
    rw[aN ne]
    exact c.ti i t' l' e1 e3
  nd:=c.nd
  ok:=⟨c.ok.nok,c.ok.cur,by show (List.set S.tips p.2 _).length=_;rw[List.length_set];exact c.ok.tl⟩ }
end
section
variable {P:Program}{w:World}{K:PySem.W.Frag}{mg:Str→Option Value}{base:Heap}{C:Addr}
noncomputable def spGo (K:PySem.W.Frag) (C:Addr):Sp:=fun vs H Q _=>∃ (r:Addr) (S:RunS) (fp:List Addr) (k B:Nat),vs=[.ref r,.int (k:Int)]∧bX K C H r S fp∧RunSz S B∧B≤1000000∧k≤100000∧
 ∀ H',ButL fp H H'→bX K C H' r (S.go k) fp→Q .non H'
theorem sc_go:FnScope ["self","many","moment","tipped","tick","number"] ["self","many"] (aJ (bQ (aX 48) 2)):=⟨rfl,rfl,rfl,by decide +kernel,rfl,by decide +kernel,by decide +kernel⟩
theorem ok_go {f f1:Addr}{fd fd1:FuncData} (F:Fun K "go" "Run.go" (bQ (aX 48) 2) f fd) (T:Txt mg) (tx:RunTx K C) (G_moment_gone:Callee P w K mg base "moment_gone" ["net","moment","many"] 6 (spMomGo K) f1 fd1) :
  FnOk P w K mg base CX0 7 f fd ["self","many"] (spGo K C):=by
 refine F.ok sc_go (fun vs H Q E h=>?_) (fun cdv A outer s H vs Q E hr h=>?_)
 ·obtain⟨r,S,fp,k,B,rfl,_⟩:=h;rfl
 ·obtain⟨r,S,fp,n,B,rfl,⟨dx,np,R,M,T',ts,rs,ms,mv,c,rfl⟩,sz,hB,hn,k⟩:=h
  have sc:=sc_go
  refine⟨_,(aE (bS (d7 G_moment_gone hr (aA (eL (K:=K) rfl (pv 0) rfl) (aA (aP (aL (K:=K) rfl) (eL (K:=K) rfl (pv 0) rfl) (pe_un un_neg aH) (fun _ _=>rfl)) (aA (pv 1) aB)))) (aW (K:=K) (n:=2) rfl rfl (aG (aF (i:=2) sc.nd rfl (Or.inl rfl)) (aG (aF (i:=3) sc.nd rfl (Or.inl rfl)) aV))))
   (aE (cL (pe_bmK (K:=K) rfl PySem.F.plainAttrs_list PySem.F.slot_list_append PySem.F.type_list_append d4 (eL (K:=K) rfl (pv 0) rfl) (aA (pv 2) aB)))
   (aE (cL (pe_bmK (K:=K) rfl PySem.F.plainAttrs_list PySem.F.slot_list_append PySem.F.type_list_append d4 (eL (K:=K) rfl (pv 0) rfl) (aA (bT (aA pe_str (aA (pv 1) (aA (pv 3) aB)))) aB)))
   (aM (dN PassesOwn.never rfl (d8 (K:=K) rfl (pv 3)) (aW (K:=K) (n:=2) rfl rfl (aG (aF (i:=4) sc.nd rfl (Or.inl rfl)) (aG (aF (i:=5) sc.nd rfl (Or.inl rfl)) aV))) (aM (cL (pe_bmK (K:=K) rfl PySem.F.plainAttrs_list PySem.F.slot_list_append PySem.F.type_list_append d4 (aP (aL (K:=K) rfl) (eL (K:=K) rfl (pv 0) rfl) (pv 5) (fun _ _=>rfl)) (aA (pv 4) aB))))))))),?_⟩
  have nok:=c.ok.nok
  have mok:=c.ok.cur
  have nd:=c.nd
  have lrs:rs.length≤B:=by rw[c.lR.length,List.length_map];exact sz.rows
  have lms:ms.length≤B:=by rw[c.lM.length,List.length_map];exact sz.pre
  refine⟨_,rfl,r,C,dx,_,_,rfl,c.ins,tx.cls,tx.net,lk_net,_,rfl,r,C,dx,_,_,rfl,c.ins,tx.cls,tx.moments,lk_moments,1,rfl,.inl ⟨M,_,-1,_,rfl,rfl,bY.of c.hM,atI_last _ _,_,rfl,np,mv,S.net,S.cur,n,rfl,c.net,c.cM,nok,mok,hn,fun pp mi tl tvs H1 s1 qpp cm1 qtl lt1=>?_⟩⟩
  refine⟨pp,_,rfl,qpp,rfl,_,_,rfl,_,_,rfl,rfl,?_⟩
  have ltv:tvs.length≤12 * n:=by rw[lt1.length,List.length_map];exact tipN_len nok n
  have nRM:R≠M:=fun z=>by rw[List.nodup_cons] at nd;exact nd.1 (by rw[z];simp)
  have ne_rM:r≠M:=fun z=>c.r_notin (by rw[z];simp)
  have ne_rR:r≠R:=fun z=>c.r_notin (by rw[z];simp)
  refine⟨_,rfl,r,C,dx,_,_,rfl,s1 _ _ c.ins,tx.cls,tx.moments,lk_moments,.inl ⟨rfl,_,bY.of (s1 _ _ c.hM)⟩,_,rfl,M,_,_,rfl,rfl,s1 _ _ c.hM,small1M (by simp;omega),?_⟩
  have muM:Mut (H1 M):=by rw[s1 _ _ c.hM];exact trivial
  have ts2:bU K H1 (upd H1 M (.lst (ms++[mv]++[mi]))):=cK.ts cK.upd muM
  have tl2:=ts2 _ _ qtl
  have k2:∀ (b:Addr) (o:HO),b≠M→H b=some o→upd H1 M (.lst (ms++[mv]++[mi])) b=some o:=fun b o h e=>by rw[aN h];exact s1 _ _ e
  have hM2:upd H1 M (.lst (ms++[mv]++[mi])) M=some (.lst (ms++[mv]++[mi])):=aD
  have tsH2:bU K H (upd H1 M (.lst (ms++[mv]++[mi]))):=s1.ts.trans ts2
  have cm2:=Is.mono ts2 _ _ cm1
  have lt2:=L2.IsL.mono ts2 _ _ lt1
  generalize upd H1 M (.lst (ms++[mv]++[mi]))=H2 at tl2 k2 hM2 tsH2 cm2 lt2
  refine⟨_,rfl,r,C,dx,_,_,rfl,k2 _ _ ne_rM c.ins,tx.cls,tx.rows,lk_rows,.inl ⟨rfl,_,bY.of (k2 _ _ nRM c.hR)⟩,?_⟩
  refine⟨_,rfl,_,rfl,(show 3≤sizeLine by decide),fun p3 hp3=>?_⟩
  have s24:aK H2 (upd H2 p3 (.tup [.str "go",.int (n:Int),.ref tl])):=aK.new hp3
  have row4:Is K (upd H2 p3 (.tup [.str "go",.int (n:Int),.ref tl])) (rowD (.go (n:Int) (tipN S.net S.cur n))) (.ref p3):=
   Is.tupOf (ds:=[.str "go",.int (n:Int),.tup ((tipN S.net S.cur n).map tipD)]) (bR.of aD) (.cons (Is.s _) (.cons (Is.i _) (.cons (Is.tupOf (s24.tup tl2) (L2.IsL.mono s24.ts _ _ lt2)) .nil)))
  generalize upd H2 p3 (.tup [.str "go",.int (n:Int),.ref tl])=H4 at row4 s24
  have hR4:=s24 _ _ (k2 _ _ nRM c.hR)
  refine⟨R,_,_,rfl,rfl,hR4,small1M (by omega),?_⟩
  have muR:Mut (H4 R):=by rw[hR4];exact trivial
  have ts5:bU K H4 (upd H4 R (.lst (rs++[.ref p3]))):=cK.ts cK.upd muR
  have tsH5:bU K H (upd H4 R (.lst (rs++[.ref p3]))):=(tsH2.trans s24.ts).trans ts5
  have keep:∀ (b:Addr) (o:HO),b≠M→b≠R→H b=some o→upd H4 R (.lst (rs++[.ref p3])) b=some o:=fun b o h1 h2 e=>by
   rw[aN h2];exact s24 _ _ (k2 _ _ h1 e)
  have tl5:=ts5 _ _ (s24.tup tl2)
  have lt5:=L2.IsL.mono (s24.ts.trans ts5) _ _ lt2
  rw[List.nodup_cons] at nd
  have nd2:=nd.2
  rw[List.nodup_cons] at nd2
  have c5:RunC K C (upd H4 R (.lst (rs++[.ref p3]))) r { S with
   rows:=S.rows++[.go (n:Int) (tipN S.net S.cur n)],pre:=S.pre++[S.cur],cur:=momN S.net S.cur n } dx np R M T' ts (rs++[.ref p3]) (ms++[mv]) mi:={
   ins:=keep _ _ ne_rM ne_rR c.ins
   net:=Is.mono tsH5 _ _ c.net
   hR:=aD
   lR:=by
    show IsL K _ ((S.rows++[Row.go (n:Int) (tipN S.net S.cur n)]).map rowD) _
    rw[List.map_append]
    exact L2.IsL.snoc (Is.mono ts5 _ _ row4) (L2.IsL.mono tsH5 _ _ c.lR)
   hM:=by rw[aN (Ne.symm nRM)];exact s24 _ _ hM2
   lM:=by
    show IsL K _ ((S.pre++[S.cur]).map momD) _
    rw[List.map_append]
    exact L2.IsL.snoc (Is.mono tsH5 _ _ c.cM) (L2.IsL.mono tsH5 _ _ c.lM)
   cM:=Is.mono (s24.ts.trans ts5) _ _ cm2
   hT:=keep _ _ (fun z=>nd2.1 (by rw[← z];simp)) (fun z=>nd.1 (by rw[← z];simp)) c.hT
   tl:=c.tl
   ti:=fun i t l h1 h2=>by
    have hm:=List.mem_of_getElem? h1
    exact keep _ _ (fun z=>nd2.1 (by rw[← z];simp [hm])) (fun z=>nd.1 (by rw[← z];simp [hm])) (c.ti i t l h1 h2)
   nd:=c.nd
   ok:=⟨c.ok.nok,momN_ok mok n,c.ok.tl⟩ }
  have b5:ButL (R::M::T'::ts) H (upd H4 R (.lst (rs++[.ref p3]))):=fun b o hb e=>keep b o (fun z=>hb (by rw[z];simp)) (fun z=>hb (by rw[z];simp)) e
  generalize upd H4 R (.lst (rs++[.ref p3]))=H5 at tl5 lt5 c5 b5
  refine⟨_,rfl,tl,rfl,⟨_,tl5⟩,for_tup (K:=K) (a:=tl) (xs:=tvs)
   (fun i σ' H'=>bR K H' tl tvs∧IsL K H' ((tipN S.net S.cur n).map tipD) tvs∧ButL (R::M::T'::ts) H H'∧
    RunC K C H' r { S with rows:=S.rows++[.go (n:Int) (tipN S.net S.cur n)],pre:=S.pre++[S.cur],cur:=momN S.net S.cur n,tips:=((tipN S.net S.cur n).take i).foldl addTip S.tips } dx np R M T' ts (rs++[V.ref p3]) (ms++[mv]) mi∧
    ∃ v4 v5,σ'=[some (.ref r),some (.int (n:Int)),some mi,some (.ref tl),v4,v5])
   ⟨tl5,lt5,b5,by rw[List.take_zero];exact c5,_,_,rfl⟩ (fun i σ' H' _ p=>p.1) ?_ ?_⟩
  ·rintro i x σ' H6 hx ⟨tl6,lt6,b6,c6,v4,v5,rfl⟩
   obtain⟨d,hd,ix⟩:=L2.IsL.get' lt6 hx
   rw[List.getElem?_map] at hd
   obtain⟨⟨tk,nu⟩,hp',rfl⟩:=Option.map_eq_some_iff.mp hd
   have hil:=(List.getElem?_eq_some_iff.mp hp').1
   have hnu:nu < S.net.vs.length:=tipN_lt n _ (List.mem_of_getElem? hp')
   obtain⟨e,zs,rfl,qe,le⟩:=(show Is K H6 (.tup [.int tk,.int (nu:Int)]) x from ix).un
   obtain⟨x1,rr,rfl,h1,le⟩:=le.un
   obtain⟨x2,rr,rfl,h2,le⟩:=le.un
   have:=le.un0
   subst this
   have:=h1.ui
   subst this
   have:=h2.ui
   subst this
   refine⟨e,_,rfl,qe,rfl,_,_,rfl,_,_,rfl,rfl,?_⟩
   have lt6':=c6.ok.tl
   have hts:nu < ts.length:=by rw[c.tl,c.ok.tl];exact hnu
   have htt:ts[nu]? = some ts[nu]:=by simp [hts]
   have hli:nu < (((tipN S.net S.cur n).take i).foldl addTip S.tips).length:=by rw[addTips_len,c.ok.tl];exact hnu
   have hll:(((tipN S.net S.cur n).take i).foldl addTip S.tips)[nu]? = some (((tipN S.net S.cur n).take i).foldl addTip S.tips)[nu]:=by simp [hli]
   have hsz:=addTips_sz (B:=B) ((tipN S.net S.cur n).take i) S.tips sz.tips _ (List.getElem_mem hli)
   generalize (((tipN S.net S.cur n).take i).foldl addTip S.tips)[nu]=l at hll hsz
   have htk:=tipN_len (m:=S.cur) nok n
   rw[List.length_take] at hsz
   have hti:=c6.ti nu _ l htt hll
   refine⟨_,rfl,r,C,dx,_,_,rfl,c6.ins,tx.cls,tx.tips,lk_tips,_,rfl,.inl ⟨T',_,(nu:Int),.ref ts[nu],rfl,rfl,bY.of c6.hT,cT (by rw[List.getElem?_map,htt];rfl),.inl ⟨rfl,_,bY.of hti⟩,_,rfl,ts[nu],_,_,rfl,rfl,hti,small1M (by rw[List.length_map];omega),?_⟩⟩
   have c7:=c6.addTip (p:=(tk,nu)) htt hll
   have hmem:ts[nu]∈R::M::T'::ts:=by simp
   have mu6:Mut (H6 ts[nu]):=by rw[hti];exact trivial
   rw[List.map_append] at c7
   refine⟨cK.ts (K:=K) cK.upd mu6 _ _ tl6,L2.IsL.mono (cK.ts cK.upd mu6) _ _ lt6,b6.trans (ButL.upd hmem),?_,_,_,rfl⟩
   rw[bJ hp',List.foldl_append]
   exact c7
  ·rintro σ' H6 ⟨tl6,lt6,b6,c6,_⟩
   have el:tvs.length=(tipN S.net S.cur n).length:=by rw[lt1.length,List.length_map]
   rw[el,List.take_length] at c6
   exact k _ b6 ⟨dx,np,R,M,T',ts,_,_,_,c6,rfl⟩
end
end Tw
namespace Tw
open PySem L2
end Tw
namespace Tw
open PySem L2
section
variable {K:PySem.W.Frag}{t sl:Addr}{σ:St}{H0:Hp}
end
theorem lk_m {np:V}{R M T:Addr} (m:Str) (h:(flds np R M T).lookup m=none):(flds np R M T).lookup m=none:=h
section
variable {K:PySem.W.Frag}{C:Addr}{H:Hp}{r:Addr}{S:RunS}{fp:List Addr}
theorem bX.ins (c:bX K C H r S fp):∃ dx np R M T,H r=some (.ins C dx (flds np R M T)):=by
 obtain⟨dx,np,R,M,T,ts,rs,ms,mv,c,_⟩:=c
 exact⟨dx,np,R,M,T,c.ins⟩
theorem bX.butL {H':Hp}{fq:List Addr} (c:bX K C H r S fp) (s:ButL fq H H') (hm:∀ b∈fq,Mut (H b)) (h1:r∉fq) (h2:∀ b∈fp,b∉fq):bX K C H' r S fp:=by
 obtain⟨dx,np,R,M,T,ts,rs,ms,mv,c,rfl⟩:=c
 refine⟨dx,np,R,M,T,ts,rs,ms,mv,c.keep (s.ts hm) fun b hb=>?_,rfl⟩
 rcases List.mem_cons.1 hb with rfl | hb
 ·rw[s _ _ h1 c.ins,c.ins]
 ·obtain⟨xs,e⟩:=c.lists b hb
  rw[s _ _ (h2 b hb) e,e]
theorem dW.butL {H':Hp}{t sl:Addr} (h:dW H t sl) (s:ButL fp H H') (h1:t∉fp) (h2:sl∉fp):dW H' t sl:=by
 obtain⟨ns,pos,cell,e,f,g⟩:=h;exact⟨ns,pos,cell,s _ _ h1 e,s _ _ h2 f,g⟩
end
end Tw
namespace Tw
open PySem L2
theorem shT_ok {n1 n2:Nat}{o:Option Int} (h:∀ t,o=some t→0≤t∧t < n2):∀ t,shT n1 o=some t→0≤t∧t < (n1+n2:Nat):=by
 intro t ht
 cases o with
 | none=>cases ht
 | some u=>
  have:=h u rfl
  injection ht with ht
  omega
theorem beside_ok {A B:Net} (ha:NetOk A) (hb:NetOk B) (h1:A.vs.length+B.vs.length≤12) (h2:A.sps.length+B.sps.length≤12):NetOk (aR A B):=by
 have el:(aR A B).vs.length=A.vs.length+B.vs.length:=by show (A.vs++B.vs.map _).length=_;rw[List.length_append,List.length_map]
 have es:(aR A B).sps.length=A.sps.length+B.sps.length:=by show (A.sps++B.sps.map _).length=_;rw[List.length_append,List.length_map]
 have up1:∀ v∈A.vs,VOk (A.vs.length+B.vs.length) (A.sps.length+B.sps.length) v:=fun v hv=>by
  have k:=ha.vs v hv
  exact { size:=k.size,ne:=k.ne,o3:=k.o3,outs:=fun o ho=>⟨fun t ht=>by have:=(k.outs o ho).tg t ht;omega,(k.outs o ho).lo,(k.outs o ho).hi⟩,spill:=fun t ht=>by have:=k.spill t ht;omega,a3:=k.a3,acts:=fun a haa=>⟨(k.acts a haa).word,(k.acts a haa).lo,by have:=(k.acts a haa).hi;omega⟩ }
 have up2:∀ v∈B.vs,VOk (A.vs.length+B.vs.length) (A.sps.length+B.sps.length) (shV A.vs.length A.sps.length v):=fun v hv=>by
  have k:=hb.vs v hv
  refine { size:=k.size,ne:=?_,o3:=?_,outs:=?_,spill:=shT_ok k.spill,a3:=?_,acts:=?_ }
  ·show v.outs.map _≠[]
   intro z
   exact k.ne (List.map_eq_nil_iff.1 z)
  ·show (v.outs.map _).length≤3
   rw[List.length_map];exact k.o3
  ·intro o ho
   obtain⟨x,hx,rfl⟩:=List.mem_map.1 (show o∈v.outs.map (shO A.vs.length) from ho)
   exact⟨shT_ok (k.outs x hx).tg,(k.outs x hx).lo,(k.outs x hx).hi⟩
  ·show (v.acts.map _).length≤3
   rw[List.length_map];exact k.a3
  ·intro a haa
   obtain⟨x,hx,rfl⟩:=List.mem_map.1 (show a∈v.acts.map (shA A.sps.length) from haa)
   have:=k.acts x hx
   exact⟨this.word,by show 0≤x.2+(A.sps.length:Int);have:=this.lo;omega,by show x.2+(A.sps.length:Int) < ((A.sps.length+B.sps.length:Nat):Int);have:=this.hi;omega⟩
 refine { lo:=by rw[el];have:=ha.lo;omega,hi:=by rw[el];exact h1,sp:=by rw[es];exact h2,vs:=?_,sps:=?_ }
 ·intro v hv
  rw[el,es]
  rcases List.mem_append.1 (show v∈A.vs++B.vs.map _ from hv) with hv | hv
  ·exact up1 v hv
  ·obtain⟨x,hx,rfl⟩:=List.mem_map.1 hv
   exact up2 x hx
 ·intro s hs
  rw[el]
  rcases List.mem_append.1 (show s∈A.sps++B.sps.map _ from hs) with hs | hs
  ·have:=ha.sps s hs;omega
  ·obtain⟨x,hx,rfl⟩:=List.mem_map.1 hs
   have:=hb.sps x hx
   show 0≤x.1+(A.vs.length:Int)∧x.1+(A.vs.length:Int) < _
   omega
theorem beside_full {A B:Net} (ha:NetFull A) (hb:NetFull B):NetFull (aR A B) where
 vs:=fun i v hv=>by
  have hv:(A.vs++B.vs.map (shV A.vs.length A.sps.length))[i]? = some v:=hv
  by_cases h:i < A.vs.length
  ·rw[List.getElem?_append_left h] at hv
   exact ha.vs i v hv
  ·rw[List.getElem?_append_right (by omega),List.getElem?_map] at hv
   obtain⟨x,hx,rfl⟩:=Option.map_eq_some_iff.mp hv
   have k:=hb.vs _ x hx
   refine⟨k.sz,k.br,k.bh,fun t ht=>?_⟩
   have ht:shT A.vs.length x.spill=some t:=ht
   cases hs:x.spill with
   | none=>rw[hs] at ht;cases ht
   | some u=>
    rw[hs] at ht
    injection ht with ht
    have:=k.sp u hs
    omega
 sps:=fun s hs=>by
  rcases List.mem_append.1 (show s∈A.sps++B.sps.map _ from hs) with hs | hs
  ·exact ha.sps s hs
  ·obtain⟨x,hx,rfl⟩:=List.mem_map.1 hs
   exact hb.sps x hx
theorem zeros_app (a b:Nat):bZ (a+b)=bZ a++bZ b:=by unfold bZ;rw[List.replicate_append_replicate]
theorem beside_len (A B:Net):(aR A B).vs.length=A.vs.length+B.vs.length:=by show (A.vs++B.vs.map _).length=_;rw[List.length_append,List.length_map]
theorem addTip_left (x y:List (List Int)) (p:Int×Nat) (h:p.2 < x.length):addTip (x++y) p=addTip x p++y:=by
 unfold addTip
 rw[List.set_append_left _ _ h,List.getD_eq_getElem?_getD,List.getElem?_append_left h,← List.getD_eq_getElem?_getD]
theorem addTip_right (x y:List (List Int)) (tk:Int) (k:Nat):addTip (x++y) (tk,x.length+k)=x++addTip y (tk,k):=by
 unfold addTip
 show (x++y).set (x.length+k) ((x++y).getD (x.length+k) []++[tk])=x++y.set k (y.getD k []++[tk])
 rw[List.set_append_right _ _ (by omega),Nat.add_sub_cancel_left,List.getD_eq_getElem?_getD,List.getElem?_append_right (by omega),Nat.add_sub_cancel_left,← List.getD_eq_getElem?_getD]
theorem addTips_left (y:List (List Int)):∀ (l:List (Int×Nat)) (x:List (List Int)),(∀ p∈l,p.2 < x.length)→l.foldl addTip (x++y)=l.foldl addTip x++y
 | [],_,_=>rfl
 | p::l,x,h=>by
  show l.foldl addTip (addTip (x++y) p)=l.foldl addTip (addTip x p)++y
  rw[addTip_left x y p (h p List.mem_cons_self)]
  exact addTips_left y l (addTip x p) fun q hq=>by unfold addTip;rw[List.length_set];exact h q (List.mem_cons_of_mem _ hq)
theorem addTips_right (x:List (List Int)) (tk:Int):∀ (l:List Nat) (y:List (List Int)),(l.map fun k=>(tk,x.length+k)).foldl addTip (x++y)=x++(l.map fun k=>(tk,k)).foldl addTip y
 | [],_=>rfl
 | k::l,y=>by
  show (l.map fun k=>(tk,x.length+k)).foldl addTip (addTip (x++y) (tk,x.length+k))=x++(l.map fun k=>(tk,k)).foldl addTip (addTip y (tk,k))
  rw[addTip_right]
  exact addTips_right x tk l (addTip y (tk,k))
end Tw
namespace Tw
open PySem L2
section
variable {P:Program}{w:World}{K:PySem.W.Frag}{mg:Str→Option Value}{base:Heap}
noncomputable def Sq2 (K:PySem.W.Frag) (H:Hp) (a:Addr) (xs:List V):Prop:=bR K H a xs∨bY K H a xs
theorem Sq2.same {H H':Hp}{a:Addr}{xs:List V} (h:Sq2 K H a xs) (s:aK H H'):Sq2 K H' a xs:=h.elim (fun h=>.inl (s.tup h)) fun h=>.inr (s.seq h)
theorem ix2 {H:Hp}{z:Addr}{xs:List V}{i:Int}{v:V}{Q:VK} (h:Sq2 K H z xs) (e:atI xs i=some v) (k:Q v H):rIx K (.ref z) (.int i) H Q:=h.elim (fun h=>.inr (.inl ⟨z,xs,i,v,rfl,rfl,h,e,k⟩)) fun h=>.inl ⟨z,xs,i,v,rfl,rfl,h,e,k⟩
noncomputable def spFilledL (K:PySem.W.Frag):Sp:=fun args H Q _=>∃ (x y:V) (z:Addr) (net:Net) (held coming poured:List Int) (doors:List Bool),args=[x,y,.ref z]∧Is K H (dU net) x∧Is K H (stD held coming doors) y∧Sq2 K H z (poured.map V.int)∧
 NetOk net∧StOk net held coming doors∧poured.length=net.vs.length∧∀ p H',aK H H'→H p=none→H' p=some (.lst ((aZ net held coming poured doors).map V.int))→Q (.ref p) H'
theorem sc__law_filled:FnScope ["net","state","poured","has","k"] ["net","state","poured"] (aJ (aX 54)):=⟨rfl,rfl,rfl,by decide +kernel,rfl,by decide +kernel,by decide +kernel⟩
theorem ok__law_filled {f:Addr}{fd:FuncData} (F:Fun K "_law_filled" "_law_filled" (aX 54) f fd) (T:Txt mg):FnOk P w K mg base CX0 1 f fd ["net","state","poured"] (spFilledL K):=by
 refine F.ok sc__law_filled (fun vs H Q E h=>?_) (fun cdv A outer s H vs Q E hr h=>?_)
 ·obtain⟨x,y,z,net,held,coming,poured,doors,rfl,_⟩:=h;rfl
 ·obtain⟨x,y,z,net,held,coming,poured,doors,rfl,hx,hy,qz,nok,sok,hpl,k⟩:=h
  have sc:=sc__law_filled
  refine⟨_,(aE (eD (i:=3) sc.nd rfl rfl (fun _ _ h=>h) rfl (LcOk.mk (N':=["k","poured","state"]) (fr:=[none,some 2,some 1]) rfl ⟨rfl,rfl,trivial⟩ rfl rfl rfl rfl rfl ⟨⟨_,rfl,rfl,rfl,rfl⟩,⟨_,rfl,rfl,rfl,rfl⟩,trivial⟩) (cB rfl T.b_range (aA (aS (bH (K:=K) rfl) rfl T.b_len PySem.boot_len (aA (aP (aL (K:=K) rfl) (pv 0) aH (fun _ _=>rfl)) aB)) aB)) (fun _ _ _=>(aF (i:=0) (show (["k","poured","state"]:List Str).Nodup by decide +kernel) rfl (Or.inl rfl) (Or.inr rfl))) (fun _ _ _=>cP) (fun _ _ _=>(aY cH (aY cH (aP (aL (K:=K) rfl) (aP (aL (K:=K) rfl) (pv 2) aH (fun _ _=>rfl)) (pv 0) (fun _ _=>rfl)) (aP (aL (K:=K) rfl) (aP (aL (K:=K) rfl) (pv 2) aH (fun _ _=>rfl)) (pv 0) (fun _ _=>rfl))) (aP (aL (K:=K) rfl) (pv 1) (pv 0) (fun _ _=>rfl)))))
   (aE (dN PassesOwn.never rfl (cB rfl T.b_range (aA (aS (bH (K:=K) rfl) rfl T.b_len PySem.boot_len (aA (aP (aL (K:=K) rfl) (pv 0) aH (fun _ _=>rfl)) aB)) aB)) (aF (i:=4) sc.nd rfl (Or.inl rfl)) (aM (dC (dL (aP (aL (K:=K) rfl) (aP (aL (K:=K) rfl) (pv 1) aH (fun _ _=>rfl)) (pv 4) (fun _ _=>rfl))) (aM (bS (aY cH (aP (aL (K:=K) rfl) (pv 3) (aP (aL (K:=K) rfl) (aP (aL (K:=K) rfl) (aP (aL (K:=K) rfl) (pv 0) aH (fun _ _=>rfl)) (pv 4) (fun _ _=>rfl)) aH (fun _ _=>rfl)) (fun _ _=>rfl)) (aP (aL (K:=K) rfl) (aP (aL (K:=K) rfl) (aP (aL (K:=K) rfl) (pv 0) aH (fun _ _=>rfl)) (pv 4) (fun _ _=>rfl)) aH (fun _ _=>rfl))) (pg_sub (pv 3) (aP (aL (K:=K) rfl) (aP (aL (K:=K) rfl) (aP (aL (K:=K) rfl) (pv 0) aH (fun _ _=>rfl)) (pv 4) (fun _ _=>rfl)) aH (fun _ _=>rfl)) set_list))) bV)))
   (aM (bG (pv 3))))),?_⟩
  obtain⟨a,b,c,xs,ys,rfl,q,q1,l1,q2,l2⟩:=dM hx
  obtain⟨ay,a1,a2,a3,rfl,qy,p1,p2,p3⟩:=st_un hy
  have exl:xs.length=net.vs.length:=by rw[l1.length,List.length_map]
  have eyl:ys.length=net.sps.length:=by rw[l2.length,List.length_map]
  have n1:=nok.lo
  have n2:=nok.hi
  have n3:=nok.sp
  have la:=eK sok.h sok.c hpl
  refine⟨_,rfl,.inr (.inl ⟨a,_,0,_,rfl,rfl,q,rfl,b,xs,rfl,.inr q1,_,rfl,by omega,by omega,?_⟩)⟩
  have hn:((xs.length:Nat):Int).toNat=net.vs.length:=by rw[exl];simp
  rw[hn]
  refine lc_range (n:=net.vs.length) (fun D i r σ' H'=>H D=none∧aK H H'∧H' D=some (.lst r)∧r=((dR held coming poured).take i).map V.int∧∃ v,σ'=[v,some (.ref z),some (.ref ay)])
   (fun D hD=>⟨hD,aK.new hD,aD,by simp,none,rfl⟩) ?_ ?_
  rotate_left
  ·rintro D i r σ' H' hi ⟨hD,sm,hDl,rfl,v,rfl⟩
   refine d9 ?_
   have g1:held[i]? = some (held[i]'(by rw[sok.h];exact hi)):=by simp
   have g2:coming[i]? = some (coming[i]'(by rw[sok.c];exact hi)):=by simp
   have g3:poured[i]? = some (poured[i]'(by rw[hpl];exact hi)):=by simp
   have g4:=add3_get g1 g2 g3
   have m1:∀ {l:List Int}{u:Int},l[i]? = some u→(l.map V.int)[i]? = some (.int u):=fun e=>by rw[List.getElem?_map,e];rfl
   refine⟨_,rfl,.inr (.inl ⟨ay,_,0,_,rfl,rfl,sm.tup qy,rfl,_,rfl,.inr (.inl ⟨a1,_,(i:Int),_,rfl,rfl,sm.tup p1,cT (m1 g1),?_⟩)⟩)⟩
   refine⟨_,rfl,.inr (.inl ⟨ay,_,1,_,rfl,rfl,sm.tup qy,rfl,_,rfl,.inr (.inl ⟨a2,_,(i:Int),_,rfl,rfl,sm.tup p2,cT (m1 g2),?_⟩)⟩)⟩
   refine⟨_,_,rfl,rfl,_,rfl,_,rfl,ix2 (qz.same sm) (cT (m1 g3)) ⟨_,_,rfl,rfl,hDl,aQ (by simp;omega),hD,sm.put hD,aD,?_,_,rfl⟩⟩
   rw[bJ g4,List.map_append];rfl
  rintro D r σ' H1 ⟨hD,sm,hDl,rfl,_⟩
  rw[← la,List.take_length] at hDl
  refine⟨_,rfl,.inr (.inl ⟨a,_,1,_,rfl,rfl,sm.tup q,rfl,c,ys,rfl,.inr (sm.tup q2),_,rfl,by omega,by omega,?_⟩)⟩
  have hm:((ys.length:Nat):Int).toNat=net.sps.length:=by rw[eyl];simp
  rw[hm]
  refine dP (lo:=0) (n:=net.sps.length) (fun i σ' H'=>aK H H'∧H' D=some (.lst ((cI (dR held coming poured) (net.sps.take i) (doors.take i)).map V.int))∧
   ∃ v4,σ'=[some (.ref a),some (.ref ay),some (.ref z),some (.ref D),v4]) ⟨sm,by cases net.sps <;> exact hDl,none,rfl⟩ ?_ ?_
  ·rintro i σ' H2 hi ⟨sm2,h2,v4,rfl⟩
   rw[Int.zero_add]
   have hsi:net.sps[i]? = some net.sps[i]:=by simp [hi]
   have hdi:doors[i]? = some (doors[i]'(by rw[sok.d];exact hi)):=by simp
   obtain⟨xv,hxv,ixv⟩:=l2.get (i:=i) (d:=spD net.sps[i]) (by rw[List.getElem?_map,hsi];rfl)
   obtain⟨sp,hsi',sa,rfl,qs⟩:=sps_at l2 hxv
   rw[hsi] at hsi'
   cases hsi'
   have snoc:=fillL_snoc net.sps doors i (dR held coming poured) _ _ hsi hdi
   have hs:=nok.sps net.sps[i] (List.getElem_mem hi)
   have hdm:(doors.map V.bl)[i]? = some (.bl (doors[i]'(by rw[sok.d];exact hi))):=by rw[List.getElem?_map,hdi];rfl
   refine⟨_,rfl,.inr (.inl ⟨ay,_,2,_,rfl,rfl,sm2.tup qy,rfl,_,rfl,.inr (.inl ⟨a3,_,(i:Int),_,rfl,rfl,sm2.tup p3,cT hdm,_,rfl,?_⟩)⟩)⟩
   cases hdr:(doors[i]'(by rw[sok.d];exact hi)) with
   | false=>
    rw[hdr] at snoc
    refine eJ ?_
    exact⟨sm2,by rw[snoc];exact h2,_,rfl⟩
   | true=>
    rw[hdr] at snoc
    refine iteT ?_
    have hlen:(cI (dR held coming poured) (net.sps.take i) (doors.take i)).length=net.vs.length:=by rw[dQ,la]
    have hlt:net.sps[i].1.toNat < (cI (dR held coming poured) (net.sps.take i) (doors.take i)).length:=by rw[hlen];omega
    have hg:((cI (dR held coming poured) (net.sps.take i) (doors.take i)).map V.int)[net.sps[i].1.toNat]? = some (.int ((cI (dR held coming poured) (net.sps.take i) (doors.take i)).getD net.sps[i].1.toNat 0)):=by
     rw[List.getElem?_map,List.getD_eq_getElem?_getD];simp [hlt]
    refine⟨_,rfl,_,rfl,.inr (.inl ⟨a,_,1,_,rfl,rfl,sm2.tup q,rfl,_,rfl,.inr (.inl ⟨c,ys,(i:Int),_,rfl,rfl,sm2.tup q2,cT hxv,.inr (.inl ⟨sa,_,0,_,rfl,rfl,sm2.tup qs,rfl,.inl ⟨D,_,_,_,rfl,rfl,bY.of h2,atI_int hs.1 hg,?_⟩⟩)⟩)⟩)⟩
    refine⟨_,rfl,.inr (.inl ⟨a,_,1,_,rfl,rfl,sm2.tup q,rfl,_,rfl,.inr (.inl ⟨c,ys,(i:Int),_,rfl,rfl,sm2.tup q2,cT hxv,.inr (.inl ⟨sa,_,1,_,rfl,rfl,sm2.tup qs,rfl,_,_,rfl,rfl,?_⟩)⟩)⟩)⟩
    refine⟨_,rfl,_,rfl,.inr (.inl ⟨a,_,1,_,rfl,rfl,sm2.tup q,rfl,_,rfl,.inr (.inl ⟨c,ys,(i:Int),_,rfl,rfl,sm2.tup q2,cT hxv,.inr (.inl ⟨sa,_,0,_,rfl,rfl,sm2.tup qs,rfl,D,_,_,net.sps[i].1.toNat,rfl,rfl,h2,ixN_nat hs.1 (by rw[List.length_map,hlen];omega),?_⟩)⟩)⟩)⟩
    refine⟨sm2.put hD,?_,_,rfl⟩
    rw[aD,snoc,eR,if_pos rfl,List.map_set]
  ·rintro σ' H2 ⟨sm2,h2,v4,rfl⟩
   rw[← sok.d,List.take_length,sok.d,List.take_length] at h2
   exact⟨_,rfl,k D H2 sm2 hD h2⟩
end
end Tw
namespace L2
open PySem PySem.Spec PyProof.Rows
section
variable {M:Model}{A:Around}{E:Value→Shared→Prop}{s:Shared}
end
section
variable {X:Cx}
end
end L2
namespace Tw
open PySem L2
section
variable {P:Program}{w:World}{K:PySem.W.Frag}{mg:Str→Option Value}{base:Heap}
theorem IsL.append {H:Hp}:∀ {ds es:List L2.D}{xs ys:List V},L2.IsL K H ds xs→L2.IsL K H es ys→L2.IsL K H (ds++es) (xs++ys)
 | [],es,xs,ys,h1,h2=>by rw[h1.un0];exact h2
 | d::ds,es,xs,ys,h1,h2=>by
  obtain⟨x,r,rfl,hx,hr⟩:=h1.un
  exact .cons hx (IsL.append hr h2)
end
end Tw
namespace L2
open PySem PySem.Spec PyProof.Rows TwZ
noncomputable def EqE (K:PySem.W.Frag) (H:Hp) (x y:V):Prop:=(∃ d:D,d.depth≤20∧Is K H d x∧Is K H d y)∨
 ∃ a b xs ys ds,x=.ref a∧y=.ref b∧bY K H a xs∧bY K H b ys∧IsL K H ds xs∧IsL K H ds ys∧eI ds≤20
noncomputable def SameLs (K:PySem.W.Frag) (H:Hp) (x y:V):Prop:=∃ a b xs ys,x=.ref a∧y=.ref b∧bY K H a xs∧bY K H b ys∧xs.length=ys.length∧∀ (i:Nat) u v,xs[i]? = some u→ys[i]? = some v→EqE K H u v
section
variable {X:Cx}{pins:List (Addr×Obj)}{σ:St}{H:Hp}{s:Shared}
theorem EqE.at (I:Inv X pins σ H s) {A:Around}{x y:V}{u v:Value} (hu:A.units+22 < cLine) (h:EqE X.K H x y) (rx:bK x u) (ry:bK y v):SeqAt.EqAt A s u v true:=by
 rcases h with ⟨d,hd,h1,h2⟩ | ⟨a,b,xs,ys,ds,rfl,rfl,q1,q2,l1,l2,hd⟩
 ·exact Is.eqAt I d A x y u v (by omega) h1 h2 rx ry
 ·cases rx
  cases ry
  by_cases hab:a=b
  ·subst hab;exact SeqAt.EqAt.same _
  ·obtain⟨us,r1,p1,_⟩:=I.list q1
   obtain⟨vs,r2,p2,_⟩:=I.list q2
   have e1:=r1.length
   have e2:=r2.length
   have e3:=l1.length
   have e4:=l2.length
   have hin:A.in1.units=A.units+1:=rfl
   have all:=IsL.eqAt I ds A.in1 xs ys us vs (by omega) l1 l2 r1 r2
   have:=SeqAt.RcAt.lists (A:=A) (s:=s) (e:=fun _=>true) p1.isList p2.isList (by simp;omega) (by omega) fun j h1 h2=>all j us.toArray[j] vs.toArray[j] (by simp) (by simp)
   have e5:((List.range us.toArray.size).all (fun _=>true))=true:=by simp
   rw[e5] at this
   exact SeqAt.EqAt.of_refs hab this
noncomputable def rNeSameL (K:PySem.W.Frag):R2:=fun x y H Q=>SameLs K H x y∧Q (.bl false) H
theorem op_neSameL (hu:X.A.units+64 < cLine):OpR X (compareOp .NotEq) (rNeSameL X.K):=by
 intro pins s σ H x y v u Q I rx ry h
 obtain⟨⟨a,b,xs,ys,rfl,rfl,q1,q2,hl,he⟩,q⟩:=h
 cases rx
 cases ry
 obtain⟨us,r1,p1,_⟩:=I.list q1
 obtain⟨vs,r2,p2,_⟩:=I.list q2
 have e1:=r1.length
 have e2:=r2.length
 have hin:X.A.in1.units=X.A.units+1:=rfl
 refine SeqAt.RcNeAt.lists (A:=X.A) (s:=s) (e:=fun _=>true) p1.isList p2.isList (by simp;omega) (by omega) (fun j h1 h2=>?_) X.prog X.w X.xe _ ?_
 ·have j1:j < xs.length:=by rw[e1];simpa using h1
  have j2:j < ys.length:=by rw[e2];simpa using h2
  obtain⟨w1,g1,t1⟩:=r1.get (i:=j) (x:=xs[j]) (by simp)
  obtain⟨w2,g2,t2⟩:=r2.get (i:=j) (x:=ys[j]) (by simp)
  have k1:us.toArray[j]=w1:=by
   have:us[j]? = some us.toArray[j]:=by simp
   rw[this] at g1;exact Option.some.inj g1
  have k2:vs.toArray[j]=w2:=by
   have:vs[j]? = some vs.toArray[j]:=by simp
   rw[this] at g2;exact Option.some.inj g2
  rw[k1,k2]
  exact (he j _ _ (by simp) (by simp)).at I (by omega) t1 t2
 ·have e5:((List.range us.toArray.size).all (fun _=>true))=true:=by simp
  rw[e5]
  exact⟨.bl false,H,I,rfl,q⟩
theorem op_neSameLK {K:PySem.W.Frag} (hK:X.K=K) (hu:X.A.units+64 < cLine):OpR X (compareOp .NotEq) (rNeSameL K):=by subst hK;exact op_neSameL hu
end
section
variable {K:PySem.W.Frag}{H:Hp}
end
end L2
namespace L2
open PySem PySem.Spec PyProof.Rows TwZ
structure Fly (P:Program) (w:World) (stack:List Env) (H:Hp) (h:Heap) (ea:Addr) (cls a0:Value) (H':Hp) (h' B:Heap):Prop where
 fl:Heap.FlyingW B stack ea cls a0 h'
 keep:∀ b o,h.get? b=some o→H b=none→b∉frs stack→B.get? b=some o
 slot:∀ b o,h.get? b=some o→H b=none→b∈frs stack→∃ sl,h'.get? b=some { o with slots:=sl }
 free:∀ b o,h.get? b=some o→H b=none→H' b=none
 there:∀ b o,h.get? b=some o→b∉frs stack→∃ o',B.get? b=some o'
 tups:∀ b xs,H b=some (.tup xs)→H' b=some (.tup xs)
 frzs:∀ b o u,H b=some (.frz o u)→H' b=some (.frz o u)
 tbls:∀ b ps,H b=some (.tbl ps)→∃ more,H' b=some (.tbl (ps++more))
 hok:HOk P w H' B
noncomputable def CXR (P:Program) (w:World):CXT:=fun outer H s E e s'=>∃ (ea:Addr) (cls a0:Value) (H':Hp) (B:Heap),e=.ref ea∧s'.os=s.os∧AllBare s'.gens∧Fly P w outer H s.heap ea cls a0 H' s'.heap B∧E cls none H'
structure Leaves (X:Cx) (E:XK):Prop where
 stk:X.stack=X.env::X.outer
 fr:X.env.frame=some X.env.locals
 ex:X.ex=[]
 xe:∀ e s',wpAny (model X.prog X.w) X.A (leaving X.env e) (fun _ s''=>CXR X.prog X.w X.outer X.H₀ X.s₀ E e s'') (fun e' s''=>CXR X.prog X.w X.outer X.H₀ X.s₀ E e' s'') s'→X.xe e s'
section
variable {X:Cx}{pins:List (Addr×Obj)}{σ:St}{H H':Hp}{s s':Shared}{E:XK}
theorem mem_frs {l:List Env}{b:Addr}{env:Env} (he:env∈l) (hf:env.frame=some b):b∈frs l:=List.mem_filterMap.mpr ⟨env,he,hf⟩
theorem mem_frs_cons {l:List Env}{b L:Addr}{env:Env} (hf:env.frame=some L) (h:b∈frs (env::l)):b=L∨b∈frs l:=by
 unfold frs at h ⊢
 rw[List.filterMap_cons,hf] at h
 exact List.mem_cons.1 h
theorem raise_xe {h':Heap}{ea:Addr}{cls:Value}{vs:List Value} (L:Leaves X E) (I:Inv X pins σ H s) (hx:Heap.MadeExcOf s.heap h' ea cls vs) (hE:E cls none H):X.xe (.ref ea) { s with heap:=h' }:=by
 refine L.xe _ _ ?_
 have fr:X.A.frames=some (X.env::X.outer):=by rw[← L.stk];exact I.ok.frames
 have hs:s.heap.FunFrames X.base (X.env::X.outer):=by rw[← L.stk];exact I.stack
 have hfree:∀ b∈frs (X.env::X.outer),H b=none:=by rw[← L.stk];exact I.stkFree
 have nex:∀ b:Addr,b∉X.ex:=fun b z=>by rw[L.ex] at z;cases z
 have out:∀ b o,X.s₀.heap.get? b=some o→b∉frs X.outer→b∉frs (X.env::X.outer):=fun b o e hb z=>by
  rcases mem_frs_cons L.fr z with z | z
  ·exact absurd (Nat.lt_of_lt_of_le (Heap.lt_size e) I.ok.above) (by rw[z];exact Nat.lt_irrefl _)
  ·exact hb z
 refine wpAny_leaves_madeW (base:=PySem.W.hideAll s.heap (frs (X.env::X.outer))) fr L.fr (fun b o q=>PySem.W.of_hideAll _ q) (PySem.W.funFrames_hide hs fun env he a hf=>mem_frs he hf) hx fun h2 t x1 x2 x3 x4=>?_
 refine⟨ea,cls,.ref t,H,_,rfl,I.os,I.bare,⟨x1,fun b o e n hb=>?_,fun b o e n hb=>?_,fun b o e n=>I.base.free b o e n (nex b),fun b o e hb=>?_,I.base.tups,I.base.frzs,I.base.tbls,fun a o e=>?_⟩,hE⟩
 ·exact PySem.W.hideAll_get _ (I.base.keep b o e n hb (nex b)) (out b o e hb)
 ·obtain⟨sl,e1⟩:=I.base.slot b o e n hb (nex b)
  obtain⟨_,o',ho',hd⟩:=I.ok.funs.mem hb
  rw[e] at ho'
  cases ho'
  obtain⟨sl',e2⟩:=x4 b _ (hx.keeps _ _ e1) hd
  exact⟨sl',e2⟩
 ·obtain⟨o',e1⟩:=I.base.there b o e (nex b)
  exact⟨o',PySem.W.hideAll_get _ e1 (out b o e hb)⟩
 ·refine (I.hok a o e).stay (fun b u hb q=>PySem.W.hideAll_get _ q fun z=>?_) (fun _ q=>q) fun _ _ q=>q
  have:=hfree b z
  rcases hb with rfl | hb
  ·rw[e] at this;cases this
  ·rw[hb] at this;cases this
theorem pass_xe (L:Leaves X E):Passes (CXR X.prog X.w) X E:=by
 intro pins σ H s e s' I h
 obtain⟨ea,cls,a0,H',B,rfl,os,bare,F,hE⟩:=h
 refine L.xe _ _ ?_
 have fr:X.A.frames=some (X.env::X.outer):=by rw[← L.stk];exact I.ok.frames
 have nex:∀ b:Addr,b∉X.ex:=fun b z=>by rw[L.ex] at z;cases z
 have out:∀ b o,X.s₀.heap.get? b=some o→b∉frs X.outer→b∉frs X.stack:=fun b o e hb z=>by
  rw[L.stk] at z
  rcases mem_frs_cons L.fr z with z | z
  ·exact absurd (Nat.lt_of_lt_of_le (Heap.lt_size e) I.ok.above) (by rw[z];exact Nat.lt_irrefl _)
  ·exact hb z
 have inn:∀ b,b∈frs X.outer→b∈frs X.stack:=fun b hb=>by
  rw[L.stk];unfold frs at hb ⊢;rw[List.filterMap_cons,L.fr];exact List.mem_cons_of_mem _ hb
 refine wpAny_leaves_onW fr L.fr (by rw[← L.stk];exact F.fl) fun h2 x1 x2=>?_
 refine⟨ea,cls,a0,H',B,rfl,os.trans I.os,bare,⟨x1,fun b o e n hb=>?_,fun b o e n hb=>?_,fun b o e n=>?_,fun b o e hb=>?_,fun b xs e=>F.tups b xs (I.base.tups b xs e),fun b o u e=>F.frzs b o u (I.base.frzs b o u e),fun b ps e=>?_,F.hok⟩,hE⟩
 ·exact F.keep b o (I.base.keep b o e n hb (nex b)) (I.base.free b o e n (nex b)) (out b o e hb)
 ·obtain⟨sl,e1⟩:=I.base.slot b o e n hb (nex b)
  obtain⟨sl',e2⟩:=F.slot b _ e1 (I.base.free b o e n (nex b)) (inn b hb)
  obtain⟨_,o',ho',hd⟩:=I.ok.funs.mem hb
  rw[e] at ho'
  cases ho'
  obtain⟨sl'',e3⟩:=x2 b _ e2 hd
  exact⟨sl'',e3⟩
 ·obtain⟨o',e1⟩:=I.base.there b o e (nex b)
  exact F.free b o' e1 (I.base.free b o e n (nex b))
 ·obtain⟨o',e1⟩:=I.base.there b o e (nex b)
  exact F.there b o' e1 (out b o e hb)
 ·obtain⟨m1,e1⟩:=I.base.tbls b ps e
  obtain⟨m2,e2⟩:=F.tbls b _ e1
  exact⟨m1++m2,by rw[e2,Array.append_assoc]⟩
theorem passR0 {P:Program}{w:World}:Passes (CXR P w) X E0:=fun _ _ _ _ _ _ _ h=>by
 obtain⟨_,_,_,_,_,_,_,_,_,h⟩:=h
 exact h.elim
noncomputable def tRaise (E:XK) (C:Addr) (t:TA):TS:=fun _ σ H=>t σ H fun vs H1=>vs.length≤100∧E (.ref C) none H1
theorem ps_raise {x:Str}{C:Addr}{bm:List Value}{newId initId B:String}{np cpos pos:Pos}{e₀:Expr}{rest:List Expr}{t:TA} (L:Leaves X E) (hc:X.calm=true) (hg:Gl X x) (O:PySem.W.excIn X.K C bm newId=true) (hm:PySem.W.nsIn X.K mainGlobals x=some (some (.ref C))) (FB:ExcBaseFacts B newId initId bm) (ha:PA X (e₀::rest) t)
  (he:starEach (e₀::rest) X.env=(false,eval e₀ X.env)::starEach rest X.env:=by rfl) (hplain:(backTo cpos (starEach rest X.env)).any (·.1)=false:=by rfl) (hd:(x == ("__debug__" : Str))=false:=by decide) :
  PS X (.Raise (some (.Call (.Name x np) (e₀::rest) [] cpos)) none pos) (tRaise E C t):=by
 intro pins s σ H D I h
 have G:X.mg x=some (.ref C):=PySem.W.mg_of I.ok.mod.kin I.ok.mod.glob hm
 have ocl:OwnCls x C bm newId X.mg X.base:=by
  refine⟨G,?_⟩
  have q:=O
  unfold PySem.W.excIn at q
  split at q
  ·rename_i dd cd sl ho
   split at q
   ·rename_i C' bm' k0 k1 k2 k3 n k5 hm' hs
    simp only [Bool.and_eq_true,Bool.not_eq_true',beq_iff_eq] at q;obtain⟨⟨⟨⟨⟨rfl,rfl⟩,hdel⟩,ht⟩,hok⟩,hni⟩:=q
    obtain⟨nm,bs,mro,ns,qn,hd',sn,sub,ab,col,del⟩:=cd
    dsimp only at hm' hdel hok hni
    subst hm' hdel
    have hsl:sl = #[k0,k1,k2,k3,some (.builtin n),k5]:=by obtain⟨l⟩:=sl;simp only at hs;rw[hs]
    subst hsl
    exact⟨bm',ns,nm,qn,bs,hd',sn,sub,ab,col,dd,k0,k1,k2,k3,k5,_,I.ok.mod.kin _ _ ho,.of_isNs (PySem.W.isNs_of_in I.ok.mod.kin hok),PySem.W.nsMap_none_of_in I.ok.mod.kin hok hni,PySem.W.tail_of_in I.ok.mod.kin ht⟩
   ·cases q
  ·cases q
 obtain⟨tl,N,nm,q,bs,hdct,sn,sub,ab,col,dd,k0,k1,k2,k3,k5,mN,hC,hN,hni,T⟩:=ocl.obj
 refine wpAny_Raise_call_subT (C:=C) (nm:=nm) (q:=q) (N:=N) (bs:=bs) (bm:=tl) (hdct:=hdct) (sn:=sn) (sub:=sub) (ab:=ab) (col:=col) (dd:=dd) (k0:=k0) (k1:=k1) (k2:=k2) (k3:=k3) (k5:=k5) FB (mN:=mN) (T.hasType FB.hasBase) (I.ok.hd hc) (by rw[he];show (false || (backTo cpos (starEach rest X.env)).any (·.1))=false;rw[hplain];rfl) hni (ld_glob I hg G ⟨rfl,?_⟩ hd)
 have ha':=ha cpos pins s σ H _ I h
 rw[he] at ha' ⊢
 refine Calls.evalArgs_plain (wpAny_mono ha' (fun us s₂ ⟨vs,H1,I1,r1,hlen,hE⟩=>⟨rfl,?_,I1.bk _ _ hC,hN.keeps I1.bk,T.keeps I1.bk,fun h' e hme=>raise_xe L I1 hme hE⟩) fun _ _ y=>y)
 have:=r1.length
 show us.length≤sizeLine
 rw[sizeLine_eq];omega
end
end L2
namespace L2
open PySem PySem.Spec PyProof.Rows TwZ
noncomputable abbrev Cx.within (X:Cx) (pn:List (Addr×Obj)) (E:Value→Shared→Prop):Cx:={ X with pn:=pn,xe:=E }
section
variable {X:Cx}{pins:List (Addr×Obj)}{σ:St}{H:Hp}{s:Shared}{pn:List (Addr×Obj)}{E:Value→Shared→Prop}{ea:Addr}
theorem Cx.Ok.within (ok:X.Ok):(X.within pn E).Ok:=
 ⟨ok.mod,ok.kind,ok.glob,ok.blt,ok.above,ok.inj,ok.has,ok.cab,ok.hd,ok.frames,ok.stk,ok.exf,ok.bs,ok.bsz,ok.noex,ok.exfs,ok.funs,ok.frf⟩
theorem Cx.Ok.unwithin (ok:(X.within pn E).Ok):X.Ok:=
 ⟨ok.mod,ok.kind,ok.glob,ok.blt,ok.above,ok.inj,ok.has,ok.cab,ok.hd,ok.frames,ok.stk,ok.exf,ok.bs,ok.bsz,ok.noex,ok.exfs,ok.funs,ok.frf⟩
theorem Inv.within (I:Inv X pins σ H s):Inv (X.within (X.pn++pins) E) [] σ H s:=
 ⟨I.ok.within,I.os,I.bare,I.base,I.loc,I.cell,I.free,I.freeC,fun p hp=>I.pin p (by simpa using hp),I.hok,I.len⟩
theorem Inv.unwithin {p2:List (Addr×Obj)} (I:Inv (X.within (X.pn++pins) E) p2 σ H s):Inv X pins σ H s:=
 ⟨I.ok.unwithin,I.os,I.bare,I.base,I.loc,I.cell,I.free,I.freeC,fun p hp=>I.pin p (List.mem_append_left _ hp),I.hok,I.len⟩
end
end L2
namespace L2
open PySem PySem.Spec PyProof.Rows TwZ PySem.Builtin PySem.Builtin.ObjectAttr PySem.Builtin.Getset_descriptor
section
variable {prog:Program}{w:World}{K:PySem.W.Frag}{x D:Addr}
end
section
variable {X:Cx}
end
end L2
namespace L2
open PySem PySem.Spec PyProof.Rows TwZ
section
variable {X:Cx}{K:PySem.W.Frag}
noncomputable def rCatTZ (K:PySem.W.Frag):R2:=fun x y H Q=>∃ a b xs ys,x=.ref a∧y=.ref b∧bR K H a xs∧bR K H b ys∧xs.length+ys.length≤sizeLine∧∀ p H',aK H H'→bR K H' p (xs++ys)→Q (.ref p) H'
theorem op_catTZ:OpR X (binaryOp .Add) (rCatTZ X.K):=by
 intro pins s σ H x y v u Q I rx ry h
 obtain⟨a,b,xs,ys,rfl,rfl,ha,hb,hz,q⟩:=h
 by_cases hx:xs=[]
 ·subst hx
  cases rx
  cases ry
  obtain⟨its,r1,p1,_⟩:=I.tuple ha
  obtain⟨its2,r2,p2,_⟩:=I.tuple hb
  cases r1
  obtain⟨⟨cls,dd,data,sl⟩,ho,hc,n,hd⟩:=id p1
  obtain⟨⟨cls2,dd2,data2,sl2⟩,ho2,hc2,n2,hd2⟩:=id p2
  simp only at hc hd hc2 hd2
  subst hc hd hc2 hd2
  exact concat_meets ⟨_,ho,rfl⟩ ⟨_,ho2,rfl⟩ noFill_tuple_add seq_tuple_add PySem.F.slot_tuple_add PySem.F.entry_tuple_add (PySem.F.args_tuple_add_2 _ _) (tuple_addW0 a b _ its2.toArray n n2 dd dd2 sl sl2 (by simp)) ⟨ho,ho2,⟨.ref b,H,I,rfl,q b H (aK.refl H) hb⟩⟩
 ·refine op_catT pins s σ H _ _ v u Q I rx ry ⟨a,b,xs,ys,rfl,rfl,ha,hb,hx,hz,fun e=>?_,fun _ p hp=>?_⟩
  ·subst e
   exact q a H (aK.refl H) (by rw[List.append_nil];exact ha)
  ·exact q p _ (aK.new hp) (bR.of aD)
theorem op_catTZK (hK:X.K=K):OpR X (binaryOp .Add) (rCatTZ K):=by subst hK;exact op_catTZ
theorem sl_tupK (hK:X.K=K):SlR X (rSlT K):=by subst hK;exact sl_tup
end
end L2
namespace Tw
open PySem L2
section
variable {P:Program}{w:World}{K:PySem.W.Frag}{mg:Str→Option Value}{base:Heap}
theorem isL_take13 {H:Hp}:∀ {ds:List L2.D}{xs:List V} (i:Nat),L2.IsL K H ds xs→L2.IsL K H (ds.take i) (xs.take i)
 | _,_,0,_=>by rw[List.take_zero,List.take_zero];exact .nil
 | [],_,i+1,h=>by have:=h.un0;subst this;exact .nil
 | d::ds,_,i+1,h=>by
  obtain⟨x,r,rfl,h1,h⟩:=h.un
  exact .cons h1 (isL_take13 i h)
theorem isL_drop13 {H:Hp}:∀ {ds:List L2.D}{xs:List V} (i:Nat),L2.IsL K H ds xs→L2.IsL K H (ds.drop i) (xs.drop i)
 | _,_,0,h=>h
 | [],_,i+1,h=>by have:=h.un0;subst this;exact .nil
 | d::ds,_,i+1,h=>by
  obtain⟨x,r,rfl,h1,h⟩:=h.un
  exact isL_drop13 i h
noncomputable def spWith (K:PySem.W.Frag):Sp:=fun vs H Q _=>∃ (x y:V) (net:Net) (v:Vs) (j:Nat),vs=[x,.int (j:Int),y]∧Is K H (dU net) x∧net.vs.length≤100∧j < net.vs.length∧Is K H (vsD v) y∧
 ∀ p H',aK H H'→Is K H' (dU ⟨net.vs.take j++[v]++net.vs.drop (j+1),net.sps⟩) p→Q p H'
theorem sc_with_vessel:FnScope ["net","number","vessel","vessels","spouts"] ["net","number","vessel"] (aJ (aX 23)):=⟨rfl,rfl,rfl,by decide +kernel,rfl,by decide +kernel,by decide +kernel⟩
theorem ok_with_vessel {f:Addr}{fd:FuncData} (F:Fun K "with_vessel" "with_vessel" (aX 23) f fd) (T:Txt mg):FnOk P w K mg base CX0 1 f fd ["net","number","vessel"] (spWith K):=by
 refine F.ok sc_with_vessel (fun vs H Q E h=>?_) (fun cdv A outer s H vs Q E hr h=>?_)
 ·obtain⟨x,y,net,v,j,rfl,_⟩:=h;rfl
 ·obtain⟨x,y,net,v,j,rfl,hx,n2,hj,iv,k⟩:=h
  have sc:=sc_with_vessel
  refine⟨_,(aE (bS (pv 0) (aW (K:=K) (n:=2) rfl rfl (aG (aF (i:=3) sc.nd rfl (Or.inl rfl)) (aG (aF (i:=4) sc.nd rfl (Or.inl rfl)) aV))))
   (aM (bG (bT (aA (aY (op_catTZK (K:=K) rfl) (aY (op_catTZK (K:=K) rfl) (pe_slice (sl_tupK (K:=K) rfl) (pv 3) po_none (po_some (pv 1))) (bT (aA (pv 2) aB))) (pe_slice (sl_tupK (K:=K) rfl) (pv 3) (po_some (aY cH (pv 1) aH)) po_none)) (aA (pv 4) aB)))))),?_⟩
  obtain⟨a,b,c,xs,ys,rfl,q,q1,l1,q2,l2⟩:=dM hx
  have exl:xs.length=net.vs.length:=by rw[l1.length,List.length_map]
  refine⟨_,rfl,a,_,rfl,q,rfl,_,_,rfl,_,_,rfl,rfl,?_⟩
  have hjl:j < xs.length:=by omega
  have hc1:cutV xs none (some (j:Int))=xs.take j:=by
   unfold cutV
   rw[HT.sIx_none,HT.sIx_nat,List.drop_zero,Nat.sub_zero,Nat.min_eq_left (by omega)]
  have hc2:cutV xs (some ((j:Int)+1)) none=xs.drop (j+1):=by
   unfold cutV
   rw[HT.sIx_none,show ((j:Int)+1)=((j+1:Nat):Int) by omega,HT.sIx_nat,Nat.min_eq_left (by omega)]
   exact List.take_of_length_le (by rw[List.length_drop];omega)
  refine⟨_,rfl,_,rfl,_,rfl,b,xs,rfl,q1,?_,fun p1 hp1=>?_⟩
  ·rintro⟨_,z⟩
   rw[HT.sIx_nat,Nat.min_eq_left (by omega)] at z;omega
  rw[hc1]
  have s2:=aK.new (o:=HO.tup (xs.take j)) hp1
  have t2:bR K (upd H p1 (.tup (xs.take j))) p1 (xs.take j):=bR.of aD
  generalize upd H p1 (.tup (xs.take j))=H2 at s2 t2
  refine⟨_,rfl,(show 1≤sizeLine by decide),fun p2 hp2=>?_⟩
  have s3:=aK.new (o:=HO.tup [y]) hp2
  have t3:bR K (upd H2 p2 (.tup [y])) p2 [y]:=bR.of aD
  generalize upd H2 p2 (.tup [y])=H3 at s3 t3
  refine⟨p1,p2,_,_,rfl,rfl,s3.tup t2,t3,Nat.le_of_lt (aQ (by rw[List.length_take,List.length_singleton];omega)),fun p3 H4 s4 t4=>?_⟩
  have s04:=(s2.trans s3).trans s4
  refine⟨_,rfl,_,rfl,_,_,rfl,rfl,_,rfl,b,xs,rfl,s04.tup q1,?_,fun p4 hp4=>?_⟩
  ·rintro⟨z,_⟩
   rw[show ((j:Int)+1)=((j+1:Nat):Int) by omega,HT.sIx_nat] at z;omega
  rw[hc2]
  have s5:=aK.new (o:=HO.tup (xs.drop (j+1))) hp4
  have t5:bR K (upd H4 p4 (.tup (xs.drop (j+1)))) p4 (xs.drop (j+1)):=bR.of aD
  generalize upd H4 p4 (.tup (xs.drop (j+1)))=H5 at s5 t5
  refine⟨p3,p4,_,_,rfl,rfl,s5.tup t4,t5,Nat.le_of_lt (aQ (by rw[List.length_append,List.length_take,List.length_drop,List.length_singleton];omega)),fun p5 H6 s6 t6=>?_⟩
  refine⟨_,rfl,(show 2≤sizeLine by decide),fun p hp=>?_⟩
  have s7:=aK.new (o:=HO.tup [.ref p5,.ref c]) hp
  have s07:=((s04.trans s5).trans s6).trans s7
  refine k _ _ s07 (Is.tupOf (ds:=[.tup ((net.vs.take j++[v]++net.vs.drop (j+1)).map vsD),.tup (net.sps.map spD)]) (bR.of aD) (.cons (Is.tupOf (s7.tup t6) ?_) (.cons (Is.tupOf (s07.tup q2) (L2.IsL.mono s07.ts _ _ l2)) .nil)))
  rw[List.map_append,List.map_append,List.map_take,List.map_drop]
  exact IsL.append (IsL.append (L2.IsL.mono s07.ts _ _ (isL_take13 j l1)) (.cons (Is.mono s07.ts _ _ iv) .nil)) (L2.IsL.mono s07.ts _ _ (isL_drop13 (j+1) l1))
end
end Tw
namespace L2
open PySem PySem.Spec PyProof.Rows TwZ
section
variable {P:Program}{w:World}{K:PySem.W.Frag}{mg:Str→Option Value}{base:Heap}
theorem Fun.okR {x qual:Str}{st:Stmt}{f:Addr}{fd:FuncData}{N ps:List Str}{k:Nat}{sp:Sp} (F:Fun K x qual st f fd) (S:FnScope N ps (aJ st)) (len:∀ vs H Q E,sp vs H Q E→vs.length=ps.length)
  (hbody:∀ (cdv:Value) (A:Around) (outer:List Env) (s:Shared) (H:Hp) (vs:List V) (Q:VK) (E:XK),Room k (A.deeper (envOfC qual (aJ st) s.heap.objs.size f cdv))→sp vs H Q E→
   Leaves (cxOf (CXR P w) P w K mg base N qual (aJ st) f cdv A outer s H E) E→
   ∃ t,PSs (cxOf (CXR P w) P w K mg base N qual (aJ st) f cdv A outer s H E) (b9 st) t∧t { nx:=fun _ H'=>Q .non H',rt:=Q } (start N vs) H):FnOk P w K mg base (CXR P w) (k+1) f fd ps sp:=by
 obtain⟨oc,od,kV,doc,pm,an,cdv,ct,osl,rfl,lk,hcd⟩:=F.ex
 exact fn_of lk hcd S len fun A outer s H vs Q E hr hsp=>hbody cdv A outer s H vs Q E hr hsp ⟨rfl,rfl,rfl,fun _ _ h=>h⟩
end
structure CalleeR (P:Program) (w:World) (K:PySem.W.Frag) (mg:Str→Option Value) (base:Heap) (x:Str) (ps:List Str) (k:Nat) (sp:Sp) (f:Addr) (fd:FuncData):Prop where
 ok:FnOk P w K mg base (CXR P w) k f fd ps sp
 mg:mg x=some (.ref f)
 kp:PySem.W.keepIn K (.ref f)=true
 bd:Binds K fd ps []
structure ExC (K:PySem.W.Frag) (x:Str) (C:Addr):Prop where
 ns:PySem.W.nsIn K mainGlobals x=some (some (.ref C))
 exc:PySem.W.excIn K C [.type "ValueError",.type "Exception",.type "BaseException",.type "object"] "ValueError.__new__" = true
end L2
namespace Tw
open PySem L2
section
variable {P:Program}{w:World}{K:PySem.W.Frag}{mg:Str→Option Value}{base:Heap}{C c_TipError c_NoNet c_NoVessel c_TooLong c_TooMany c_TooMuch c_Nothing c_NoText c_NoRow:Addr}
noncomputable def spWholeI:Sp:=fun vs H Q _=>∃ (n lo hi:Int),vs=[.int n,.int lo,.int hi]∧Q (.bl (decide (lo≤n) && decide (n≤hi))) H
theorem ok_is_wholeI {f:Addr}{fd:FuncData} (F:Fun K "is_whole" "is_whole" (aX 25) f fd) (T:Txt mg):FnOk P w K mg base CX0 1 f fd ["thing","least","most"] spWholeI:=by
 refine F.ok sc_is_whole (fun vs H Q E h=>?_) (fun cdv A outer s H vs Q E hr h=>?_)
 ·obtain⟨n,lo,hi,rfl,_⟩:=h;rfl
 ·obtain⟨n,lo,hi,rfl,k⟩:=h
  have sc:=sc_is_whole
  refine⟨_,(aM (bG (pe_and (aS (call_isiK (K:=K) rfl) rfl T.b_isinstance boot_isi (aA (pv 0) (aA (pe_bltn (v:=.ty "int") rfl T.b_int bt_int rfl) aB))) (pe_and (pe_not (aS (call_isiK (K:=K) rfl) rfl T.b_isinstance boot_isi (aA (pv 0) (aA (pe_bltn (v:=.ty "bool") rfl T.b_bool bt_bool rfl) aB)))) (pe_one (pe_chain op_le op_le (pv 1) (pv 0) (pv 2))))))),?_⟩
  refine⟨_,rfl,_,"int",_,true,rfl,.inl (.int _),kit_ii K,_,rfl,iteT ?_⟩
  refine⟨_,rfl,_,"bool",_,false,rfl,.inl (.int _),kit_ib K,_,rfl,_,rfl,iteT ?_⟩
  refine⟨_,rfl,_,rfl,_,_,rfl,rfl,_,rfl,ite2 (fun h1=>?_) fun h1=>?_⟩
  ·rw[h1,Bool.true_and] at k
   exact⟨_,rfl,_,_,rfl,rfl,k⟩
  ·rw[Bool.not_eq_true] at h1
   rw[h1,Bool.false_and] at k
   exact k
noncomputable def spNeedR (K:PySem.W.Frag) (cV:Addr):Sp:=fun vs H Q E=>∃ (x:V) (net:Net) (v:Int),vs=[x,.int v]∧Is K H (dU net) x∧((0≤v∧v < net.vs.length∧Q .non H)∨(¬ (0≤v∧v < net.vs.length)∧E (.ref cV) none H))
theorem ok_need_vesselR {f f1:Addr}{fd fd1:FuncData} (F:Fun K "need_vessel" "need_vessel" (aX 22) f fd) (T:Txt mg) (XC_NoVessel:ExC K "NoVessel" c_NoVessel) (G_is_whole:Callee P w K mg base "is_whole" ["thing","least","most"] 1 spWholeI f1 fd1) :
  FnOk P w K mg base (CXR P w) 2 f fd ["net","number"] (spNeedR K c_NoVessel):=by
 refine F.okR eS (fun vs H Q E h=>?_) (fun cdv A outer s H vs Q E hr h L=>?_)
 ·obtain⟨x,net,v,rfl,_⟩:=h;rfl
 ·obtain⟨x,net,v,rfl,hx,k⟩:=h
  have sc:=eS
  refine⟨_,(aE (bS (pv 0) (aW (K:=K) (n:=2) rfl rfl (aG (aF (i:=2) sc.nd rfl (Or.inl rfl)) (aG (aF (i:=3) sc.nd rfl (Or.inl rfl)) aV))))
   (aM (dC (eQ (dL (d7 G_is_whole hr (aA (pv 1) (aA aH (aA (aY op_sub (aS (bH (K:=K) rfl) rfl T.b_len PySem.boot_len (aA (pv 2) aB)) aH) aB)))))) (aM (ps_raise L rfl rfl XC_NoVessel.exc XC_NoVessel.ns PySem.F.excBase_ValueError (aA pe_str aB))) bV))),?_⟩
  obtain⟨a,b,c,xs,ys,rfl,q,q1,l1,q2,l2⟩:=dM hx
  have exl:xs.length=net.vs.length:=by rw[l1.length,List.length_map]
  refine⟨_,rfl,a,_,rfl,q,rfl,_,_,rfl,_,_,rfl,rfl,?_⟩
  refine⟨_,rfl,_,rfl,b,xs,rfl,.inr q1,_,_,rfl,rfl,v,0,_,rfl,_,rfl,?_⟩
  rcases k with ⟨h0,h1,k⟩ | ⟨hn,k⟩
  ·rw[decide_eq_true h0,decide_eq_true (show v≤((xs.length:Nat):Int) - 1 by omega)]
   exact eJ k
  ·have:(decide (0≤v) && decide (v≤((xs.length:Nat):Int) - 1))=false:=by
    rw[Bool.eq_false_iff]
    intro z
    rw[Bool.and_eq_true,decide_eq_true_eq,decide_eq_true_eq] at z
    exact hn ⟨z.1,by omega⟩
   rw[this]
   exact iteT ⟨by show 1≤100;decide,k⟩
end
end Tw
namespace Tw
open PySem L2
noncomputable abbrev Nums:=List (Int×Int)
noncomputable def lkp (ms:Nums) (i:Int):Option Int:=(ms.find? fun p=>decide (p.1=i)).map (·.2)
noncomputable def dcD (ms:Nums):List (eF×V):=ms.map fun p=>(Sum.inl p.1,V.int p.2)
theorem val_dcD (i:Int):∀ ms:Nums,eM (dcD ms) (Sum.inl i)=(lkp ms i).map V.int
 | []=>rfl
 | p::ms=>by
  have ih:=val_dcD i ms
  show eM ((Sum.inl p.1,V.int p.2)::dcD ms) (Sum.inl i)=_
  unfold lkp at ih ⊢
  by_cases h:p.1=i
  ·rw[dO (by rw[h]),List.find?_cons_of_pos (by simpa using h)];rfl
  ·rw[dI (fun z=>h (by injection z)),ih,List.find?_cons_of_neg (by simpa using h)]
theorem val_dcN:∀ ms:Nums,eM (dcD ms) (Sum.inr none)=none
 | []=>rfl
 | p::ms=>by
  show eM ((Sum.inl p.1,V.int p.2)::dcD ms) (Sum.inr none)=_
  rw[dI (fun z=>by cases z),val_dcN ms]
noncomputable def RdD (H:Hp) (a:Addr) (ms:Nums):Prop:=Rd H a (.dK (dcD ms))
theorem RdD.isD {H:Hp}{a:Addr}{ms:Nums} (h:RdD H a ms):IsD H a:=.inl ⟨_,h⟩
theorem RdD.get {H:Hp}{a:Addr}{ms:Nums} (h:RdD H a ms) (t:Option Int):DGet H a (tgV t) ((t.bind (lkp ms)).map V.int):=by
 cases t with
 | none=>exact .inl ⟨_,Sum.inr none,h,rfl,(val_dcN ms).symm⟩
 | some i=>exact .inl ⟨_,Sum.inl i,h,rfl,(val_dcD i ms).symm⟩
theorem RdD.same {H H':Hp}{a:Addr}{ms:Nums} (h:RdD H a ms) (s:aK H H'):RdD H' a ms:=by
 rcases h with h | ⟨o,h⟩
 ·exact .inl (s _ _ h)
 ·exact .inr ⟨o,s _ _ h⟩
theorem getD_tg (o:Option Int):(o.map V.int).getD .non=tgV o:=by cases o <;> rfl
noncomputable def renO (nv:Nums) (o:Option Int×Int):Option Int×Int:=(o.1.bind (lkp nv),o.2)
noncomputable def renA (ms:Nums) (a:Str×Int):Option (Str×Int):=(lkp ms a.2).map fun s=>(a.1,s)
noncomputable def renV (nv ms:Nums) (v:Vs):Vs:=⟨v.size,v.brim,v.outs.map (renO nv),v.holds,v.spill.bind (lkp nv),v.acts.filterMap (renA ms)⟩
noncomputable def renS (nv:Nums) (s:Spt):Spt:=((lkp nv s.1).getD 0,s.2)
noncomputable def vNil:Vs:=⟨1,1,[],false,none,[]⟩
noncomputable def renN (net:Net) (nv ms:Nums):Net:=⟨nv.map fun p=>renV nv ms (net.vs.getD p.1.toNat vNil),ms.map fun p=>renS nv (net.sps.getD p.1.toNat (0,0,false))⟩
structure RenOk (net:Net) (nv ms:Nums):Prop where
 vs:∀ p∈nv,0≤p.1∧p.1 < net.vs.length
 sp:∀ p∈ms,0≤p.1∧p.1 < net.sps.length
 tg:∀ p∈ms,∃ j,lkp nv (net.sps.getD p.1.toNat (0,0,false)).1=some j
 lv:nv.length≤12
 ls:ms.length≤12
theorem filterMap_len {α β:Type} (f:α→Option β) (l:List α):(l.filterMap f).length≤l.length:=List.length_filterMap_le f l
section
variable {P:Program}{w:World}{K:PySem.W.Frag}{mg:Str→Option Value}{base:Heap}{C c_TipError c_NoNet c_NoVessel c_TooLong c_TooMany c_TooMuch c_Nothing c_NoText c_NoRow aw:Addr}
noncomputable def spRenV (K:PySem.W.Frag):Sp:=fun vs H Q _=>∃ (x:V) (dv ds:Addr) (v:Vs) (nv ms:Nums),vs=[x,.ref dv,.ref ds]∧Is K H (vsD v) x∧v.outs.length≤3∧v.acts.length≤3∧RdD H dv nv∧RdD H ds ms∧∀ p H',aK H H'→Is K H' (vsD (renV nv ms v)) p→Q p H'
theorem sc_renumbered_vessel:FnScope ["vessel","new_vessels","new_spouts","size","brim","outs","holds","spill","acts","told_outs","told_acts"] ["vessel","new_vessels","new_spouts"] (aJ (aX 28)):=⟨rfl,rfl,rfl,by decide +kernel,rfl,by decide +kernel,by decide +kernel⟩
theorem ok_renumbered_vessel {f:Addr}{fd:FuncData} (F:Fun K "renumbered_vessel" "renumbered_vessel" (aX 28) f fd) (T:Txt mg):FnOk P w K mg base CX0 1 f fd ["vessel","new_vessels","new_spouts"] (spRenV K):=by
 refine F.ok sc_renumbered_vessel (fun vs H Q E h=>?_) (fun cdv A outer s H vs Q E hr h=>?_)
 ·obtain⟨x,dv,ds,v,nv,ms,rfl,_⟩:=h;rfl
 ·obtain⟨x,dv,ds,v,nv,ms,rfl,hx,o3,a3,hdv,hds,k⟩:=h
  have sc:=sc_renumbered_vessel
  have hu:=hu_of hr
  refine⟨_,(aE (bS (pv 0) (aW (K:=K) (n:=6) rfl rfl (aG (aF (i:=3) sc.nd rfl (Or.inl rfl)) (aG (aF (i:=4) sc.nd rfl (Or.inl rfl)) (aG (aF (i:=5) sc.nd rfl (Or.inl rfl)) (aG (aF (i:=6) sc.nd rfl (Or.inl rfl)) (aG (aF (i:=7) sc.nd rfl (Or.inl rfl)) (aG (aF (i:=8) sc.nd rfl (Or.inl rfl)) aV))))))))
   (aE (eD (i:=9) sc.nd rfl rfl (fun _ _ h=>h) rfl (LcOk.mk (N':=["target","parts","new_vessels"]) (fr:=[none,none,some 1]) rfl ⟨rfl,trivial⟩ rfl rfl rfl rfl rfl ⟨⟨_,rfl,rfl,rfl,rfl⟩,trivial⟩) (d8 (K:=K) rfl (pv 5)) (fun _ _ _=>(aW (K:=K) (n:=2) rfl rfl (aG (aF (i:=0) (show (["target","parts","new_vessels"]:List Str).Nodup by decide +kernel) rfl (Or.inl rfl) (Or.inr rfl)) (aG (aF (i:=1) (show (["target","parts","new_vessels"]:List Str).Nodup by decide +kernel) rfl (Or.inl rfl) (Or.inr rfl)) aV)))) (fun _ _ _=>cP) (fun _ _ _=>(bT (aA (pe_dget1 hu (pv 2) (pv 0) ⟨rfl,rfl,rfl,rfl⟩) (aA (pv 1) aB)))))
   (aE (eD (i:=10) sc.nd rfl rfl (fun _ _ h=>h) rfl (LcOk.mk (N':=["word","spout","new_spouts"]) (fr:=[none,none,some 2]) rfl ⟨rfl,trivial⟩ rfl rfl rfl rfl rfl ⟨⟨_,rfl,rfl,rfl,rfl⟩,trivial⟩) (d8 (K:=K) rfl (pv 8)) (fun _ _ _=>(aW (K:=K) (n:=2) rfl rfl (aG (aF (i:=0) (show (["word","spout","new_spouts"]:List Str).Nodup by decide +kernel) rfl (Or.inl rfl) (Or.inr rfl)) (aG (aF (i:=1) (show (["word","spout","new_spouts"]:List Str).Nodup by decide +kernel) rfl (Or.inl rfl) (Or.inr rfl)) aV)))) (fun _ _ _=>pif_one (pt_cmp (pc_din hu (pv 1) (pv 2)))) (fun _ _ _=>(bT (aA (pv 0) (aA (pe_dget hu (pv 2) (pv 1) (fun _ _=>rfl)) aB)))))
   (aM (bG (bT (aA (pv 3) (aA (pv 4) (aA (bD (cC (K:=K) rfl) rfl T.b_tuple cN (aA (pv 9) aB)) (aA (pv 6) (aA (pe_dget1 hu (pv 1) (pv 7) ⟨rfl,rfl,rfl,rfl⟩) (aA (bD (cC (K:=K) rfl) rfl T.b_tuple cN (aA (pv 10) aB)) aB)))))))))))),?_⟩
  obtain⟨a,o,c,rfl,q,io,ic⟩:=vs_un hx
  obtain⟨oa,os,rfl,qo,lo⟩:=io.un
  obtain⟨ca,cs,rfl,qc,lc⟩:=ic.un
  have eol:os.length=v.outs.length:=by rw[lo.length,List.length_map]
  have ecl:cs.length=v.acts.length:=by rw[lc.length,List.length_map]
  refine⟨_,rfl,a,_,rfl,q,rfl,_,_,rfl,_,_,rfl,_,_,rfl,_,_,rfl,_,_,rfl,_,_,rfl,rfl,?_⟩
  refine⟨_,rfl,oa,rfl,⟨_,qo⟩,eT (K:=K) (a:=oa) (xs:=os) (fun D i r σ' H'=>H D=none∧aK H H'∧H' D=some (.lst r)∧IsL K H' (((v.outs.take i).map (renO nv)).map outD) r∧∃ u1 u2,σ'=[u1,u2,some (.ref dv)])
   (fun D i r σ' H' p=>p.2.1.tup qo) (fun D hD=>⟨hD,aK.new hD,aD,.nil,none,none,rfl⟩) ?_ ?_⟩
  rotate_left
  ·rintro D i y r σ' H1 hy ⟨hD,sm,hDl,lr,u1,u2,rfl⟩
   obtain⟨t,ht,ta,rfl,qt⟩:=outs_at lo hy
   have hil:=(List.getElem?_eq_some_iff.mp ht).1
   refine⟨ta,_,rfl,sm.tup qt,rfl,_,_,rfl,_,_,rfl,rfl,?_⟩
   refine yes_of ?_
   have hd1:=hdv.same sm
   refine⟨_,rfl,dv,rfl,hd1.isD,_,rfl,_,hd1.get t.1,_,rfl,(show 2≤sizeLine by decide),fun e he=>?_⟩
   rw[getD_tg]
   have m1:=aK.new (o:=HO.tup [tgV (t.1.bind (lkp nv)),.int t.2]) he
   have i1:Is K (upd H1 e (.tup [tgV (t.1.bind (lkp nv)),.int t.2])) (outD (renO nv t)) (.ref e):=Is.tupOf (ds:=[tgD (t.1.bind (lkp nv)),.int t.2]) (bR.of aD) (.cons (Is.tgOf _) (.cons (Is.i _) .nil))
   generalize upd H1 e (.tup [tgV (t.1.bind (lkp nv)),.int t.2])=H2 at m1 i1 ⊢
   have hDl2:=m1 _ _ hDl
   have muD:Mut (H2 D):=by rw[hDl2];exact trivial
   have hrl:r.length≤12:=by rw[lr.length,List.length_map,List.length_map,List.length_take];omega
   refine⟨hDl2,aQ (by omega),hD,(sm.trans m1).put hD,aD,?_,_,_,rfl⟩
   rw[List.take_succ,ht,List.map_append,List.map_append]
   exact L2.IsL.snoc (Is.mono (cK.ts cK.upd muD) _ _ i1) (L2.IsL.mono (m1.ts.trans (cK.ts cK.upd muD)) _ _ lr)
  rintro D1 r1 σ' H1 ⟨hD1,sm1,hDl1,lr1,_⟩
  rw[eol,List.take_length] at lr1
  refine⟨_,rfl,ca,rfl,⟨_,sm1.tup qc⟩,eT (K:=K) (a:=ca) (xs:=cs) (fun D i r σ' H'=>H1 D=none∧aK H1 H'∧H' D=some (.lst r)∧IsL K H' (((v.acts.take i).filterMap (renA ms)).map actD) r∧∃ u1 u2,σ'=[u1,u2,some (.ref ds)])
   (fun D i r σ' H' p=>p.2.1.tup (sm1.tup qc)) (fun D hD=>⟨hD,aK.new hD,aD,.nil,none,none,rfl⟩) ?_ ?_⟩
  rotate_left
  ·rintro D i y r σ' H2 hy ⟨hD,sm,hDl,lr,u1,u2,rfl⟩
   obtain⟨t,ht,ta,rfl,qt⟩:=acts_at lc hy
   have hil:=(List.getElem?_eq_some_iff.mp ht).1
   have sA:=sm1.trans sm
   have hd2:=hds.same sA
   refine⟨ta,_,rfl,sA.tup qt,rfl,_,_,rfl,_,_,rfl,rfl,?_⟩
   refine⟨_,rfl,_,rfl,ds,_,rfl,hd2.get (some t.2),_,rfl,?_⟩
   have hsn:(v.acts.take (i+1)).filterMap (renA ms)=(v.acts.take i).filterMap (renA ms)++(renA ms t).toList:=by
    rw[List.take_succ,ht,List.filterMap_append]
    show _++List.filterMap (renA ms) [t]=_
    cases hz:renA ms t <;> simp [List.filterMap_cons,hz]
   have hrl:r.length≤12:=by
    rw[lr.length,List.length_map]
    have:=filterMap_len (renA ms) (v.acts.take i)
    rw[List.length_take] at this
    omega
   cases hz:lkp ms t.2 with
   | none=>
    have hn:renA ms t=none:=by unfold renA;rw[hz];rfl
    rw[hn] at hsn
    have e0:((some t.2).bind (lkp ms)).map V.int=none:=by show (lkp ms t.2).map V.int=_;rw[hz];rfl
    rw[e0]
    refine eJ ⟨hD,sm,hDl,?_,_,_,rfl⟩
    rw[hsn]
    show IsL K H2 (((v.acts.take i).filterMap (renA ms)++[]).map actD) r
    rw[List.append_nil];exact lr
   | some j=>
    have hn:renA ms t=some (t.1,j):=by unfold renA;rw[hz];rfl
    rw[hn] at hsn
    have e0:((some t.2).bind (lkp ms)).map V.int=some (.int j):=by show (lkp ms t.2).map V.int=_;rw[hz];rfl
    have g0:=hd2.get (some t.2)
    rw[e0] at g0 ⊢
    refine iteT ⟨_,rfl,_,rfl,_,rfl,ds,.int j,rfl,g0,(show 2≤sizeLine by decide),fun e he=>?_⟩
    have m1:=aK.new (o:=HO.tup [.str t.1,.int j]) he
    have i1:Is K (upd H2 e (.tup [.str t.1,.int j])) (actD (t.1,j)) (.ref e):=Is.tupOf (ds:=[.str t.1,.int j]) (bR.of aD) (.cons (Is.s _) (.cons (Is.i _) .nil))
    generalize upd H2 e (.tup [.str t.1,.int j])=H3 at m1 i1 ⊢
    have hDl2:=m1 _ _ hDl
    have muD:Mut (H3 D):=by rw[hDl2];exact trivial
    refine⟨hDl2,aQ (by omega),hD,(sm.trans m1).put hD,aD,?_,_,_,rfl⟩
    rw[hsn,List.map_append]
    exact L2.IsL.snoc (Is.mono (cK.ts cK.upd muD) _ _ i1) (L2.IsL.mono (m1.ts.trans (cK.ts cK.upd muD)) _ _ lr)
  rintro D2 r2 σ' H2 ⟨hD2,sm2,hDl2,lr2,_⟩
  rw[ecl,List.take_length] at lr2
  refine⟨_,rfl,_,rfl,_,rfl,D1,_,rfl,.inl ⟨bY.of (sm2 _ _ hDl1),fun p1 hp1=>?_⟩⟩
  have m3:=aK.new (o:=HO.tup r1) hp1
  have t3:bR K (upd H2 p1 (.tup r1)) p1 r1:=bR.of aD
  generalize upd H2 p1 (.tup r1)=H3 at m3 t3 ⊢
  have s03:=(sm1.trans sm2).trans m3
  have hd3:=hdv.same s03
  refine⟨_,rfl,_,rfl,dv,rfl,hd3.isD,_,rfl,_,hd3.get v.spill,_,rfl,D2,_,rfl,.inl ⟨bY.of (m3 _ _ hDl2),fun p2 hp2=>⟨(show 6≤sizeLine by decide),fun p hp=>?_⟩⟩⟩
  rw[getD_tg]
  have m4:=aK.new (o:=HO.tup r2) hp2
  have t4:bR K (upd H3 p2 (.tup r2)) p2 r2:=bR.of aD
  generalize upd H3 p2 (.tup r2)=H4 at m4 t4 hp ⊢
  have m5:=aK.new (o:=HO.tup [.int v.size,.int v.brim,.ref p1,.bl v.holds,tgV (v.spill.bind (lkp nv)),.ref p2]) hp
  refine k _ _ ((s03.trans m4).trans m5) ?_
  exact Is.tupOf (ds:=[.int v.size,.int v.brim,.tup ((v.outs.map (renO nv)).map outD),.bl v.holds,tgD (v.spill.bind (lkp nv)),.tup ((v.acts.filterMap (renA ms)).map actD)]) (bR.of aD)
   (.cons (Is.i _) (.cons (Is.i _) (.cons (Is.tupOf ((m4.trans m5).tup t3) (L2.IsL.mono (((sm2.trans m3).trans m4).trans m5).ts _ _ lr1)) (.cons (Is.b _) (.cons (Is.tgOf _) (.cons (Is.tupOf (m5.tup t4) (L2.IsL.mono ((m3.trans m4).trans m5).ts _ _ lr2)) .nil))))))
end
end Tw
namespace Tw
open PySem L2
theorem dc_at {ms:Nums}{i:Nat}{k:eF}{v:V} (h:(dcD ms)[i]? = some (k,v)):∃ p,ms[i]? = some p∧k=Sum.inl p.1∧v=.int p.2:=by
 unfold dcD at h
 rw[List.getElem?_map] at h
 obtain⟨p,hp,e⟩:=Option.map_eq_some_iff.mp h
 cases e
 exact⟨p,hp,rfl,rfl⟩
section
variable {P:Program}{w:World}{K:PySem.W.Frag}{mg:Str→Option Value}{base:Heap}{C c_TipError c_NoNet c_NoVessel c_TooLong c_TooMany c_TooMuch c_Nothing c_NoText c_NoRow aw:Addr}
noncomputable def spRen (K:PySem.W.Frag):Sp:=fun vs H Q _=>∃ (x:V) (dv ds:Addr) (net:Net) (nv ms:Nums),vs=[x,.ref dv,.ref ds]∧Is K H (dU net) x∧NetOk net∧H dv=some (.dK (dcD nv))∧H ds=some (.dK (dcD ms))∧dv≠ds∧RenOk net nv ms∧
 ∀ p H',ButL [dv,ds] H H'→Is K H' (dU (renN net nv ms)) p→Q p H'
theorem sc_renumbered:FnScope ["net","new_vessels","new_spouts","vessels","spouts","told_vessels","told_spouts","number","target","flow","door"] ["net","new_vessels","new_spouts"] (aJ (aX 27)):=⟨rfl,rfl,rfl,by decide +kernel,rfl,by decide +kernel,by decide +kernel⟩
theorem ok_renumbered {f f1:Addr}{fd fd1:FuncData} (F:Fun K "renumbered" "renumbered" (aX 27) f fd) (T:Txt mg) (G_renumbered_vessel:Callee P w K mg base "renumbered_vessel" ["vessel","new_vessels","new_spouts"] 1 (spRenV K) f1 fd1) :
  FnOk P w K mg base CX0 2 f fd ["net","new_vessels","new_spouts"] (spRen K):=by
 refine F.ok sc_renumbered (fun vs H Q E h=>?_) (fun cdv A outer s H vs Q E hr h=>?_)
 ·obtain⟨x,dv,ds,net,nv,ms,rfl,_⟩:=h;rfl
 ·obtain⟨x,dv,ds,net,nv,ms,rfl,hx,nok,hdv,hds,nds,rok,k⟩:=h
  have sc:=sc_renumbered
  have hu:=hu_of hr
  refine⟨_,(aE (bS (pv 0) (aW (K:=K) (n:=2) rfl rfl (aG (aF (i:=3) sc.nd rfl (Or.inr rfl)) (aG (aF (i:=4) sc.nd rfl (Or.inl rfl)) aV))))
   (aE (eD (i:=5) sc.nd rfl rfl (fun _ _ h=>h) rfl (LcOk.mk (N':=["number","new_vessels","new_spouts","vessels"]) (fr:=[none,some 1,some 2,some 3]) rfl ⟨rfl,rfl,rfl,trivial⟩ rfl rfl rfl rfl rfl ⟨⟨_,rfl,rfl,rfl,rfl⟩,⟨_,rfl,rfl,rfl,rfl⟩,⟨_,rfl,rfl,rfl,rfl⟩,trivial⟩) (pi_dict (pv 1)) (fun _ _ _=>(aF (i:=0) (show (["number","new_vessels","new_spouts","vessels"]:List Str).Nodup by decide +kernel) rfl (Or.inl rfl) (Or.inr rfl))) (fun _ _ _=>cP) (fun _ _ _=>(d7 G_renumbered_vessel hr (aA (aP (aL (K:=K) rfl) (pv 3) (pv 0) (fun _ _=>rfl)) (aA (pv 1) (aA (pv 2) aB))))))
   (aE (bE (i:=6) sc.nd rfl (Or.inl rfl) (cG aB))
   (aE (dN PassesOwn.never rfl (pi_dict (pv 2)) (aF (i:=7) sc.nd rfl (Or.inl rfl)) (aE (bS (aP (aL (K:=K) rfl) (pv 4) (pv 7) (fun _ _=>rfl)) (aW (K:=K) (n:=3) rfl rfl (aG (aF (i:=8) sc.nd rfl (Or.inl rfl)) (aG (aF (i:=9) sc.nd rfl (Or.inl rfl)) (aG (aF (i:=10) sc.nd rfl (Or.inl rfl)) aV)))))
   (aM (cL (pe_bmK (K:=K) rfl PySem.F.plainAttrs_list PySem.F.slot_list_append PySem.F.type_list_append d4 (pv 6) (aA (bT (aA (pe_dget hu (pv 1) (pv 8) (fun _ _=>rfl)) (aA (pv 9) (aA (pv 10) aB)))) aB))))))
   (aM (bG (bT (aA (bD (cC (K:=K) rfl) rfl T.b_tuple cN (aA (pv 5) aB)) (aA (bD (cC (K:=K) rfl) rfl T.b_tuple cN (aA (pv 6) aB)) aB))))))))),?_⟩
  obtain⟨na,nb,nc,xs,ys,rfl,q,q1,l1,q2,l2⟩:=dM hx
  have exl:xs.length=net.vs.length:=by rw[l1.length,List.length_map]
  have eyl:ys.length=net.sps.length:=by rw[l2.length,List.length_map]
  have muv:Mut (H dv):=by rw[hdv];exact trivial
  have mus:Mut (H ds):=by rw[hds];exact trivial
  refine⟨_,rfl,na,_,rfl,q,rfl,_,_,rfl,_,_,rfl,rfl,?_⟩
  refine⟨_,rfl,dv,_,rfl,hdv,fun ob=>?_⟩
  have b1:cK dv H (upd H dv (.frz ob (.dK (dcD nv)))):=cK.upd
  have ts1:=b1.ts (K:=K) muv
  have f1:upd H dv (.frz ob (.dK (dcD nv))) dv=some (.frz ob (.dK (dcD nv))):=aD
  have hds1:=b1 _ _ (fun z=>nds z.symm) hds
  generalize upd H dv (.frz ob (.dK (dcD nv)))=H1 at b1 ts1 f1 hds1
  refine lc_dict (a:=dv) (o:=ob) (kvs:=dcD nv) (fun D i r σ' H'=>H1 D=none∧aK H1 H'∧H' D=some (.lst r)∧IsL K H' (((nv.take i).map fun p=>renV nv ms (net.vs.getD p.1.toNat vNil)).map vsD) r∧∃ u,σ'=[u,some (.ref dv),some (.ref ds),some (.ref nb)])
   (fun D i r σ' H' p=>p.2.1 _ _ f1) (fun D hD=>⟨hD,aK.new hD,aD,.nil,none,rfl⟩) ?_ ?_
  rotate_left
  ·rintro D i key vv r σ' H2 hk ⟨hD,sm,hDl,lr,u,rfl⟩
   obtain⟨pp,hpp,rfl,rfl⟩:=dc_at hk
   have hil:=(List.getElem?_eq_some_iff.mp hpp).1
   have hlv:=rok.lv
   obtain⟨p0,p1⟩:=rok.vs pp (List.mem_of_getElem? hpp)
   have hlt:pp.1.toNat < xs.length:=by omega
   have hxj:xs[pp.1.toNat]? = some xs[pp.1.toNat]:=by simp
   obtain⟨d,hd,iv⟩:=l1.get' hxj
   rw[List.getElem?_map] at hd
   obtain⟨v,hv,rfl⟩:=Option.map_eq_some_iff.mp hd
   have vok:=nok.vs v (List.mem_of_getElem? hv)
   have egd:net.vs.getD pp.1.toNat vNil=v:=by rw[List.getD_eq_getElem?_getD,hv];rfl
   refine d9 ?_
   have tsA:=ts1.trans sm.ts
   refine⟨_,rfl,_,rfl,.inr (.inl ⟨nb,xs,pp.1,xs[pp.1.toNat],rfl,rfl,tsA _ _ q1,atI_int p0 hxj,_,rfl,_,rfl,_,dv,ds,v,nv,ms,rfl,Is.mono tsA _ _ iv,vok.o3,vok.a3,.inr ⟨ob,sm _ _ f1⟩,.inl (sm _ _ hds1),fun p H3 s3 ip=>?_⟩)⟩
   have hDl3:=s3 _ _ hDl
   have muD:Mut (H3 D):=by rw[hDl3];exact trivial
   have hrl:r.length≤12:=by rw[lr.length,List.length_map,List.length_map,List.length_take];omega
   refine⟨hDl3,aQ (by omega),hD,(sm.trans s3).put hD,aD,?_,_,rfl⟩
   rw[List.take_succ,hpp,List.map_append,List.map_append]
   refine L2.IsL.snoc ?_ (L2.IsL.mono (s3.ts.trans (cK.ts cK.upd muD)) _ _ lr)
   show Is K _ (vsD (renV nv ms (net.vs.getD pp.1.toNat vNil))) p
   rw[egd]
   exact Is.mono (cK.ts cK.upd muD) _ _ ip
  rintro D1 r1 σ' H2 ⟨hD1,sm1,hDl1,lr1,_⟩
  have elen:(dcD nv).length=nv.length:=by unfold dcD;rw[List.length_map]
  rw[elen,List.take_length] at lr1
  refine⟨Nat.zero_le _,fun D2 hD2=>?_⟩
  have s3:=aK.new (o:=HO.lst []) hD2
  have e3:upd H2 D2 (.lst []) D2=some (.lst []):=aD
  generalize upd H2 D2 (.lst [])=H3 at s3 e3
  have hds3:=s3 _ _ (sm1 _ _ hds1)
  have nD2:D2≠ds:=fun z=>by rw[z,sm1 _ _ hds1] at hD2;cases hD2
  have mus3:Mut (H3 ds):=by rw[hds3];exact trivial
  refine⟨_,rfl,ds,_,rfl,hds3,fun ob2=>?_⟩
  have b4:cK ds H3 (upd H3 ds (.frz ob2 (.dK (dcD ms)))):=cK.upd
  have ts4:=b4.ts (K:=K) mus3
  have f4:upd H3 ds (.frz ob2 (.dK (dcD ms))) ds=some (.frz ob2 (.dK (dcD ms))):=aD
  have e4:=b4 _ _ nD2 e3
  have g4:=b4 _ _ nds (s3 _ _ (sm1 _ _ f1))
  have nD1:D1≠ds:=fun z=>by rw[z,hds1] at hD1;cases hD1
  have hDl4:=b4 _ _ nD1 (s3 _ _ hDl1)
  have ts14:=((ts1.trans sm1.ts).trans s3.ts).trans ts4
  have lr4:=L2.IsL.mono (s3.ts.trans ts4) _ _ lr1
  have nD12:D1≠D2:=fun z=>by rw[z] at hDl1;rw[hDl1] at hD2;cases hD2
  have nDv:D2≠dv:=fun z=>by rw[z,sm1 _ _ f1] at hD2;cases hD2
  have fD2:H1 D2=none:=sm1.free hD2
  have keep04:∀ b o,b∉[dv,ds]→H b=some o→upd H3 ds (.frz ob2 (.dK (dcD ms))) b=some o:=fun b o hb e=>b4 _ _ (fun z=>hb (by simp [z])) (s3 _ _ (sm1 _ _ (b1 _ _ (fun z=>hb (by simp [z])) e)))
  generalize upd H3 ds (.frz ob2 (.dK (dcD ms)))=H4 at b4 ts4 f4 e4 g4 hDl4 ts14 lr4 keep04
  refine for_dict (a:=ds) (o:=ob2) (kvs:=dcD ms) (fun i σ' H'=>cK D2 H4 H'∧∃ (r:List V) (v7 v8 v9 v10:Option V),H' D2=some (.lst r)∧IsL K H' (((ms.take i).map fun p=>renS nv (net.sps.getD p.1.toNat (0,0,false))).map spD) r∧
    σ'=[some (.ref na),some (.ref dv),some (.ref ds),some (.ref nb),some (.ref nc),some (.ref D1),some (.ref D2),v7,v8,v9,v10])
   (fun i σ' H' p=>p.1 _ _ (fun z=>nD2 z.symm) f4) ⟨cK.refl _,[],_,_,_,_,e4,.nil,rfl⟩ ?_ ?_
  rotate_left
  ·rintro i key vv σ' H5 hk ⟨b5,r,v7,v8,v9,v10,h5,lr,rfl⟩
   obtain⟨pp,hpp,rfl,rfl⟩:=dc_at hk
   have hil:=(List.getElem?_eq_some_iff.mp hpp).1
   have hls:=rok.ls
   obtain⟨p0,p1⟩:=rok.sp pp (List.mem_of_getElem? hpp)
   obtain⟨j,hj⟩:=rok.tg pp (List.mem_of_getElem? hpp)
   have hlt:pp.1.toNat < ys.length:=by omega
   have hyj:ys[pp.1.toNat]? = some ys[pp.1.toNat]:=by simp
   obtain⟨sp,hsp,sa,esa,qs⟩:=sps_at l2 hyj
   have egd:net.sps.getD pp.1.toNat (0,0,false)=sp:=by rw[List.getD_eq_getElem?_getD,hsp];rfl
   rw[egd] at hj
   have muD4:Mut (H4 D2):=by rw[e4];exact trivial
   have ts5:=ts14.trans (b5.ts muD4)
   have hrl:r.length≤12:=by rw[lr.length,List.length_map,List.length_map,List.length_take];omega
   dsimp only [gName]
   refine⟨_,rfl,_,rfl,.inr (.inl ⟨nc,ys,pp.1,.ref sa,rfl,rfl,ts5 _ _ q2,atI_int p0 (by rw[hyj,esa]),sa,_,rfl,ts5 _ _ qs,rfl,_,_,rfl,_,_,rfl,_,_,rfl,rfl,?_⟩)⟩
   have g0:DGet H5 dv (.int sp.1) (some (.int j)):=by
    have:=RdD.get (show RdD H5 dv nv from .inr ⟨ob,b5 _ _ (fun z=>nDv z.symm) g4⟩) (some sp.1)
    rw[show ((some sp.1).bind (lkp nv)).map V.int=some (.int j) by show (lkp nv sp.1).map V.int=_;rw[hj];rfl] at this
    exact this
   refine⟨_,rfl,.inl ⟨rfl,_,bY.of h5⟩,_,rfl,_,rfl,dv,.int j,rfl,g0,_,rfl,_,rfl,(show 3≤sizeLine by decide),fun e he=>?_⟩
   have m6:=aK.new (o:=HO.tup [.int j,.int sp.2.1,.bl sp.2.2]) he
   have i6:Is K (upd H5 e (.tup [.int j,.int sp.2.1,.bl sp.2.2])) (spD (renS nv (net.sps.getD pp.1.toNat (0,0,false)))) (.ref e):=by
    rw[egd]
    unfold renS
    rw[hj]
    exact Is.tupOf (ds:=[.int j,.int sp.2.1,.bl sp.2.2]) (bR.of aD) (.cons (Is.i _) (.cons (Is.i _) (.cons (Is.b _) .nil)))
   generalize upd H5 e (.tup [.int j,.int sp.2.1,.bl sp.2.2])=H6 at m6 i6 ⊢
   have h6:=m6 _ _ h5
   have muD:Mut (H6 D2):=by rw[h6];exact trivial
   refine⟨D2,r,_,rfl,rfl,h6,aQ (by omega),(b5.trans m6.but).trans cK.upd,_,_,_,_,_,aD,?_,rfl⟩
   rw[List.take_succ,hpp,List.map_append,List.map_append]
   exact L2.IsL.snoc (Is.mono (cK.ts cK.upd muD) _ _ i6) (L2.IsL.mono (m6.ts.trans (cK.ts cK.upd muD)) _ _ lr)
  ·rintro σ' H5 ⟨b5,r2,v7,v8,v9,v10,h5,lr2,rfl⟩
   have elen2:(dcD ms).length=ms.length:=by unfold dcD;rw[List.length_map]
   rw[elen2,List.take_length] at lr2
   have muD4:Mut (H4 D2):=by rw[e4];exact trivial
   have ts45:=b5.ts (K:=K) muD4
   refine⟨_,rfl,D1,r1,rfl,.inl ⟨bY.of (b5 _ _ nD12 hDl4),fun p1 hp1=>?_⟩⟩
   have m6:=aK.new (o:=HO.tup r1) hp1
   have t6:bR K (upd H5 p1 (.tup r1)) p1 r1:=bR.of aD
   generalize upd H5 p1 (.tup r1)=H6 at m6 t6
   refine⟨_,rfl,D2,r2,rfl,.inl ⟨bY.of (m6 _ _ h5),fun p2 hp2=>⟨(show 2≤sizeLine by decide),fun p hp=>?_⟩⟩⟩
   have m7:=aK.new (o:=HO.tup r2) hp2
   have t7:bR K (upd H6 p2 (.tup r2)) p2 r2:=bR.of aD
   generalize upd H6 p2 (.tup r2)=H7 at m7 t7 hp
   have m8:=aK.new (o:=HO.tup [.ref p1,.ref p2]) hp
   have m58:=(m6.trans m7).trans m8
   refine k _ _ (fun b o hb e=>m58 _ _ (b5 _ _ (fun z=>?_) (keep04 b o hb e))) ?_
   ·have:=b1.free (fun z'=>nDv (by rw[← z'];)) fD2
    rw[z,this] at e;cases e
   ·refine Is.tupOf (ds:=[.tup ((nv.map fun p=>renV nv ms (net.vs.getD p.1.toNat vNil)).map vsD),.tup ((ms.map fun p=>renS nv (net.sps.getD p.1.toNat (0,0,false))).map spD)]) (bR.of aD) (.cons (Is.tupOf ((m7.trans m8).tup t6) (L2.IsL.mono (ts45.trans m58.ts) _ _ lr4)) (.cons (Is.tupOf (m8.tup t7) (L2.IsL.mono m58.ts _ _ lr2)) .nil))
end
end Tw
namespace L2
open PySem PySem.Spec PyProof.Rows TwZ
section
variable {X:Cx}
theorem ps_calm {st:Stmt}{t:TS} (h:∀ pn:List (Addr×Obj),PS (X.within pn fun _ _=>False) st t):PS X st t:=by
 intro pins s σ H D I h1
 refine wpAny_mono (h (X.pn++pins) [] s σ H D I.within h1) (fun f s₁ hf=>?_) fun _ _ z=>z.elim
 cases f with
 | next=>obtain⟨σ',H',J,q⟩:=hf;exact⟨σ',H',J.unwithin,q⟩
 | brk=>obtain⟨σ',H',J,q⟩:=hf;exact⟨σ',H',J.unwithin,q⟩
 | cont=>obtain⟨σ',H',J,q⟩:=hf;exact⟨σ',H',J.unwithin,q⟩
 | ret u=>obtain⟨v,σ',H',J,r,q⟩:=hf;exact⟨v,σ',H',J.unwithin,r,q⟩
end
end L2
namespace Tw
open PySem L2
noncomputable def dG (n:Nat) (k:Int):Nums:=(List.range n).map fun (i:Nat)=>((i:Int),(i:Int)+k)
theorem rngN_len (n:Nat) (k:Int):(dG n k).length=n:=by unfold dG;simp
theorem rngN_succ (n:Nat) (k:Int):dG (n+1) k=dG n k++[((n:Int),(n:Int)+k)]:=by unfold dG;rw[List.range_succ,List.map_append];rfl
theorem lkp_app (a b:Nums) (i:Int):lkp (a++b) i=(lkp a i).or (lkp b i):=by
 unfold lkp
 rw[List.find?_append]
 cases a.find? fun p=>decide (p.1=i) <;> rfl
theorem lkp_rng (k:Int):∀ (n:Nat) (i:Int),lkp (dG n k) i=if 0≤i∧i < n then some (i+k) else none
 | 0,i=>by
  rw[if_neg (by omega)];rfl
 | n+1,i=>by
  rw[rngN_succ,lkp_app,lkp_rng k n i]
  by_cases h:0≤i∧i < n
  ·rw[if_pos h,if_pos (by omega)];rfl
  ·rw[if_neg h,Option.none_or]
   by_cases e:(n:Int)=i
   ·rw[if_pos (by omega)]
    unfold lkp
    rw[List.find?_cons_of_pos (by simpa using e),← e];rfl
   ·rw[if_neg (by omega)]
    unfold lkp
    rw[List.find?_cons_of_neg (by simpa using e)];rfl
theorem map_range_getD {α β:Type} (f:α→β) (d:α) (l:List α):(List.range l.length).map (fun i=>f (l.getD i d))=l.map f:=by
 apply List.ext_getElem
 ·simp
 ·intro i h1 h2
  have hi:i < l.length:=by simpa using h2
  rw[List.getElem_map,List.getElem_map,List.getElem_range]
  congr 1
  rw[List.getD_eq_getElem?_getD,List.getElem?_eq_getElem hi];rfl
theorem filterMap_all {α β:Type} (f:α→Option β) (g:α→β):∀ l:List α,(∀ a∈l,f a=some (g a))→l.filterMap f=l.map g
 | [],_=>rfl
 | a::l,h=>by rw[List.filterMap_cons,h a List.mem_cons_self,List.map_cons,filterMap_all f g l fun b hb=>h b (List.mem_cons_of_mem _ hb)]
theorem renV_rng {n m:Nat}{a b:Nat}{v:Vs} (h:VOk n m v):renV (dG n a) (dG m b) v=shV a b v:=by
 unfold renV shV
 have e1:v.outs.map (renO (dG n a))=v.outs.map (shO a):=List.map_congr_left fun o ho=>by
  unfold renO shO
  cases ho1:o.1 with
  | none=>rfl
  | some t=>
   have:=(h.outs o ho).tg t ho1
   show (lkp (dG n a) t,o.2)=_
   rw[lkp_rng,if_pos this];rfl
 have e2:v.spill.bind (lkp (dG n a))=shT a v.spill:=by
  cases hs:v.spill with
  | none=>rfl
  | some t=>
   have:=h.spill t hs
   show lkp (dG n a) t=_
   rw[lkp_rng,if_pos this];rfl
 have e3:v.acts.filterMap (renA (dG m b))=v.acts.map (shA b):=filterMap_all _ _ _ fun x hx=>by
  have:=h.acts x hx
  unfold renA shA
  rw[lkp_rng,if_pos ⟨this.lo,this.hi⟩];rfl
 rw[e1,e2,e3]
theorem ren_rng {B:Net} (hb:NetOk B) (a b:Nat):renN B (dG B.vs.length a) (dG B.sps.length b)=⟨B.vs.map (shV a b),B.sps.map (shS a)⟩:=by
 unfold renN
 have e1:((dG B.vs.length a).map fun p=>renV (dG B.vs.length a) (dG B.sps.length b) (B.vs.getD p.1.toNat vNil))=B.vs.map (shV a b):=by
  have h1:((dG B.vs.length a).map fun p=>renV (dG B.vs.length a) (dG B.sps.length b) (B.vs.getD p.1.toNat vNil))=(List.range B.vs.length).map fun i=>renV (dG B.vs.length a) (dG B.sps.length b) (B.vs.getD i vNil):=by
   unfold dG;rw[List.map_map];rfl
  rw[h1,map_range_getD (renV (dG B.vs.length a) (dG B.sps.length b)) vNil]
  exact List.map_congr_left fun v hv=>renV_rng (hb.vs v hv)
 have e2:((dG B.sps.length b).map fun p=>renS (dG B.vs.length a) (B.sps.getD p.1.toNat (0,0,false)))=B.sps.map (shS a):=by
  have h1:((dG B.sps.length b).map fun p=>renS (dG B.vs.length a) (B.sps.getD p.1.toNat (0,0,false)))=(List.range B.sps.length).map fun i=>renS (dG B.vs.length a) (B.sps.getD i (0,0,false)):=by
   unfold dG;rw[List.map_map];rfl
  rw[h1,map_range_getD (renS (dG B.vs.length a)) (0,0,false)]
  exact List.map_congr_left fun s hs=>by
   unfold renS shS
   rw[lkp_rng,if_pos (hb.sps s hs)];rfl
 rw[e1,e2]
theorem ren_rng_ok {B:Net} (hb:NetOk B) (a b:Nat):RenOk B (dG B.vs.length a) (dG B.sps.length b) where
 vs:=fun p hp=>by
  unfold dG at hp
  obtain⟨i,hi,rfl⟩:=List.mem_map.1 hp
  have:=List.mem_range.1 hi
  exact⟨by show (0:Int)≤(i:Int);omega,by show (i:Int) < _;omega⟩
 sp:=fun p hp=>by
  unfold dG at hp
  obtain⟨i,hi,rfl⟩:=List.mem_map.1 hp
  have:=List.mem_range.1 hi
  exact⟨by show (0:Int)≤(i:Int);omega,by show (i:Int) < _;omega⟩
 tg:=fun p hp=>by
  unfold dG at hp
  obtain⟨i,hi,rfl⟩:=List.mem_map.1 hp
  have hil:=List.mem_range.1 hi
  have hm:B.sps.getD ((i:Int)).toNat (0,0,false)∈B.sps:=by
   rw[Int.toNat_natCast,List.getD_eq_getElem?_getD,List.getElem?_eq_getElem hil];exact List.getElem_mem hil
  exact⟨_,by rw[lkp_rng,if_pos (hb.sps _ hm)]⟩
 lv:=by rw[rngN_len];exact hb.hi
 ls:=by rw[rngN_len];exact hb.sp
noncomputable def Fits (A B:Net):Prop:=A.vs.length+B.vs.length≤12∧A.sps.length+B.sps.length≤12
noncomputable def ledV (n:Nat) (v:Vs):Vs:={ v with outs:=v.outs.map fun o=>(some (o.1.getD (n:Int)),o.2) }
noncomputable def ledN (A:Net) (j:Nat) (B:Net):Net:=⟨(aR A B).vs.take j++[ledV A.vs.length (A.vs.getD j vNil)]++(aR A B).vs.drop (j+1),(aR A B).sps⟩
theorem dc_nums {n:Nat}{many:Int}{a:Addr}{σ:St}{H1:Hp}{Q:Addr→Hp→Prop}{fr:List (Option Nat)} (hfr:frσ fr σ=[none,some (.int many)]) (hn:n≤12)
  (k:∀ D H',H1 D=none→aK H1 H'→H' D=some (.dK (dcD (dG n many)))→Q D H') :
  dcRest (Itr 0 n) (gName 0) tYes (cZ 0) (tOp (rI0 fun i j=>.int (i+j)) (cZ 0) (cZ 1)) fr σ H1 Q:=by
 refine dc_range (n:=n) (fun D i σ' H'=>H1 D=none∧aK H1 H'∧H' D=some (.dK (dcD (dG i many)))∧∃ u,σ'=[u,some (.int many)]) (fun D hD=>⟨hD,aK.new hD,aD,none,hfr⟩) (fun D σ' H' p=>k D H' p.1 p.2.1 p.2.2.1) ?_
 rintro D i σ' H2 hi ⟨hD,sm,hDl,u,rfl⟩
 refine d9 ?_
 refine⟨_,rfl,_,rfl,_,rfl,_,_,rfl,rfl,dcD (dG i many),Sum.inl (i:Int),rfl,hDl,aQ (by unfold dcD;rw[List.length_map,rngN_len];omega),hD,sm.put hD,?_,_,rfl⟩
 have hv:eM (dcD (dG i many)) (Sum.inl (i:Int))=none:=by rw[val_dcD,lkp_rng,if_neg (by omega)];rfl
 rw[putK_new _ hv,aD,rngN_succ]
 unfold dcD
 rw[List.map_append];rfl
section
variable {P:Program}{w:World}{K:PySem.W.Frag}{mg:Str→Option Value}{base:Heap}{C c_TipError c_NoNet c_NoVessel c_TooLong c_TooMany c_TooMuch c_Nothing c_NoText c_NoRow aw:Addr}
structure TxtV (mg:Str→Option Value):Prop where
 g_MOST_VESSELS:∃ u,mg "MOST_VESSELS" = some u∧bK (.int 12) u
 g_MOST_SPOUTS:∃ u,mg "MOST_SPOUTS" = some u∧bK (.int 12) u
noncomputable def spBesR (K:PySem.W.Frag) (cM:Addr):Sp:=fun vs H Q E=>∃ (x y:V) (A B:Net),vs=[x,y]∧Is K H (dU A) x∧Is K H (dU B) y∧NetOk A∧NetOk B∧
 ((Fits A B∧∀ p H',aK H H'→Is K H' (dU (aR A B)) p→Q p H')∨(¬ Fits A B∧∀ H',aK H H'→E (.ref cM) none H'))
theorem sc_beside:FnScope ["net","other","vessels","spouts","other_vessels","other_spouts","many","many_spouts","moved_vessels","moved_spouts"] ["net","other"] (aJ (aX 30)):=⟨rfl,rfl,rfl,by decide +kernel,rfl,by decide +kernel,by decide +kernel⟩
theorem ok_besideR {f f1:Addr}{fd fd1:FuncData} (F:Fun K "beside" "beside" (aX 30) f fd) (T:Txt mg) (U:TxtV mg) (XC_TooMany:ExC K "TooMany" c_TooMany) (G_renumbered:Callee P w K mg base "renumbered" ["net","new_vessels","new_spouts"] 2 (spRen K) f1 fd1) :
  FnOk P w K mg base (CXR P w) 3 f fd ["net","other"] (spBesR K c_TooMany):=by
 refine F.okR sc_beside (fun vs H Q E h=>?_) (fun cdv A outer s H vs Q E hr h L=>?_)
 ·obtain⟨x,y,A,B,rfl,_⟩:=h;rfl
 ·obtain⟨x,y,A1,B1,rfl,hx,hy,ha,hb,k⟩:=h
  have sc:=sc_beside
  refine⟨_,(aE (bS (pv 0) (aW (K:=K) (n:=2) rfl rfl (aG (aF (i:=2) sc.nd rfl (Or.inl rfl)) (aG (aF (i:=3) sc.nd rfl (Or.inl rfl)) aV))))
   (aE (bS (pv 1) (aW (K:=K) (n:=2) rfl rfl (aG (aF (i:=4) sc.nd rfl (Or.inl rfl)) (aG (aF (i:=5) sc.nd rfl (Or.inl rfl)) aV))))
   (aE (bS (bT (aA (aS (bH (K:=K) rfl) rfl T.b_len PySem.boot_len (aA (pv 2) aB)) (aA (aS (bH (K:=K) rfl) rfl T.b_len PySem.boot_len (aA (pv 3) aB)) aB))) (aW (K:=K) (n:=2) rfl rfl (aG (aF (i:=6) sc.nd rfl (Or.inr rfl)) (aG (aF (i:=7) sc.nd rfl (Or.inr rfl)) aV))))
   (aE (dC (PW.pt (pw_or (cX op_gt (aY cH (pv 6) (aS (bH (K:=K) rfl) rfl T.b_len PySem.boot_len (aA (pv 4) aB))) (eC rfl U.g_MOST_VESSELS) (cQ _)) (pw_or1 (cX op_gt (aY cH (pv 7) (aS (bH (K:=K) rfl) rfl T.b_len PySem.boot_len (aA (pv 5) aB))) (eC rfl U.g_MOST_SPOUTS) (cQ _))))) (aM (ps_raise L rfl rfl XC_TooMany.exc XC_TooMany.ns PySem.F.excBase_ValueError (aA pe_str aB))) bV)
   (aE (ps_calm fun pn=>(bS (d7 G_renumbered hr (aA (pv 1) (aA (pe_dc (fun _ _ h=>h) rfl (LcOk.mk (N':=["number","many"]) (fr:=[none,some 6]) rfl ⟨rfl,trivial⟩ rfl rfl rfl rfl rfl ⟨⟨_,rfl,rfl,rfl,rfl⟩,trivial⟩) (cB rfl T.b_range (aA (aS (bH (K:=K) rfl) rfl T.b_len PySem.boot_len (aA (pv 4) aB)) aB)) (fun _ _ _=>(aF (i:=0) (show (["number","many"]:List Str).Nodup by decide +kernel) rfl (Or.inl rfl) (Or.inr rfl))) (fun _ _ _=>cP) (fun _ _ _=>(pv 0)) (fun _ _ _=>(aY cH (pv 0) (pv 1)))) (aA (pe_dc (fun _ _ h=>h) rfl (LcOk.mk (N':=["number","many_spouts"]) (fr:=[none,some 7]) rfl ⟨rfl,trivial⟩ rfl rfl rfl rfl rfl ⟨⟨_,rfl,rfl,rfl,rfl⟩,trivial⟩) (cB rfl T.b_range (aA (aS (bH (K:=K) rfl) rfl T.b_len PySem.boot_len (aA (pv 5) aB)) aB)) (fun _ _ _=>(aF (i:=0) (show (["number","many_spouts"]:List Str).Nodup by decide +kernel) rfl (Or.inl rfl) (Or.inr rfl))) (fun _ _ _=>cP) (fun _ _ _=>(pv 0)) (fun _ _ _=>(aY cH (pv 0) (pv 1)))) aB)))) (aW (K:=K) (n:=2) rfl rfl (aG (aF (i:=8) sc.nd rfl (Or.inl rfl)) (aG (aF (i:=9) sc.nd rfl (Or.inl rfl)) aV)))))
   (aM (bG (bT (aA (aY (op_catTZK (K:=K) rfl) (pv 2) (pv 8)) (aA (aY (op_catTZK (K:=K) rfl) (pv 3) (pv 9)) aB)))))))))),?_⟩
  obtain⟨na,nb,nc,xs,ys,rfl,q,q1,l1,q2,l2⟩:=dM hx
  obtain⟨ma,mb,mc,us,vs',rfl,w',w1,m1,w2,m2⟩:=dM hy
  have exl:xs.length=A1.vs.length:=by rw[l1.length,List.length_map]
  have eyl:ys.length=A1.sps.length:=by rw[l2.length,List.length_map]
  have eul:us.length=B1.vs.length:=by rw[m1.length,List.length_map]
  have evl:vs'.length=B1.sps.length:=by rw[m2.length,List.length_map]
  have a2:=ha.hi
  have b2:=hb.hi
  have a3:=ha.sp
  have b3:=hb.sp
  refine⟨_,rfl,na,_,rfl,q,rfl,_,_,rfl,_,_,rfl,rfl,?_⟩
  refine⟨_,rfl,ma,_,rfl,w',rfl,_,_,rfl,_,_,rfl,rfl,?_⟩
  refine⟨_,rfl,nb,xs,rfl,.inr q1,_,rfl,nc,ys,rfl,.inr q2,(show 2≤sizeLine by decide),fun t ht=>?_⟩
  have s1:=aK.new (o:=HO.tup [.int (xs.length:Int),.int (ys.length:Int)]) ht
  have e1:bR K (upd H t (.tup [.int (xs.length:Int),.int (ys.length:Int)])) t [.int (xs.length:Int),.int (ys.length:Int)]:=bR.of aD
  generalize upd H t (.tup [.int (xs.length:Int),.int (ys.length:Int)])=H1 at s1 e1
  rw[exl,eyl] at e1
  refine⟨t,_,rfl,e1,rfl,_,_,rfl,_,_,rfl,rfl,?_⟩
  have no:¬ Fits A1 B1→E (.ref c_TooMany) none H1:=fun h=>by
   rcases k with ⟨hf,_⟩ | ⟨_,k⟩
   ·exact absurd hf h
   ·exact k _ s1
  refine⟨_,rfl,_,rfl,mb,us,rfl,.inr (s1.tup w1),_,_,rfl,rfl,_,_,rfl,rfl,_,rfl,ite2 (fun hT=>?_) fun hF=>?_⟩
  ·have hT:=of_decide_eq_true hT
   exact iteT ⟨by show 1≤100;decide,no fun h=>by have:=h.1;rw[eul] at hT;omega⟩
  refine⟨_,rfl,_,rfl,mc,vs',rfl,.inr (s1.tup w2),_,_,rfl,rfl,_,_,rfl,rfl,_,rfl,ite2 (fun hT=>?_) fun hF2=>?_⟩
  ·have hT:=of_decide_eq_true hT
   exact⟨by show 1≤100;decide,no fun h=>by have:=h.2;rw[evl] at hT;omega⟩
  have fit:Fits A1 B1:=by
   have h1:¬ (12:Int) < (A1.vs.length:Int)+(us.length:Int):=fun z=>hF (decide_eq_true z)
   have h2:¬ (12:Int) < (A1.sps.length:Int)+(vs'.length:Int):=fun z=>hF2 (decide_eq_true z)
   rw[eul] at h1
   rw[evl] at h2
   exact⟨by omega,by omega⟩
  have k:∀ p H',aK H H'→Is K H' (dU (aR A1 B1)) p→Q p H':=by
   rcases k with ⟨_,k⟩ | ⟨h,_⟩
   ·exact k
   ·exact absurd fit h
  refine⟨_,rfl,_,rfl,mb,us,rfl,.inr (s1.tup w1),?_⟩
  rw[eul]
  refine⟨_,rfl,by omega,by omega,dc_nums (n:=B1.vs.length) (a:=t) rfl (by omega) fun dv H2 hdv s2 e2=>?_⟩
  have s12:=s1.trans s2
  refine⟨_,rfl,mc,vs',rfl,.inr (s12.tup w2),?_⟩
  rw[evl]
  refine⟨_,rfl,by omega,by omega,dc_nums (n:=B1.sps.length) (a:=t) rfl (by omega) fun ds H3 hds s3 e3=>?_⟩
  have s13:=s12.trans s3
  have nds:dv≠ds:=fun z=>by rw[z] at e2;rw[e2] at hds;cases hds
  refine⟨_,dv,ds,B1,_,_,rfl,Is.mono s13.ts _ _ hy,hb,s3 _ _ e2,e3,nds,ren_rng_ok hb _ _,fun p H4 b4 ip=>?_⟩
  rw[ren_rng hb] at ip
  have fdv:H dv=none:=s1.free hdv
  have fds:H ds=none:=s12.free hds
  have s4:aK H H4:=fun b o e=>b4 b o (fun z=>by
   rcases List.mem_cons.1 z with z | z
   ·rw[z,fdv] at e;cases e
   ·rw[List.mem_singleton.1 z,fds] at e;cases e) (s13 _ _ e)
  obtain⟨pa,pb,pc,zs,ws,rfl,g,g1,h1,g2,h2⟩:=dM ip
  have ezl:zs.length=B1.vs.length:=by rw[h1.length,List.length_map];show (B1.vs.map _).length=_;rw[List.length_map]
  have ewl:ws.length=B1.sps.length:=by rw[h2.length,List.length_map];show (B1.sps.map _).length=_;rw[List.length_map]
  refine⟨pa,_,rfl,g,rfl,_,_,rfl,_,_,rfl,rfl,?_⟩
  refine⟨_,rfl,_,rfl,nb,pb,_,_,rfl,rfl,s4.tup q1,g1,Nat.le_of_lt (aQ (by omega)),fun c1 H5 s5 t5=>?_⟩
  refine⟨_,rfl,_,rfl,nc,pc,_,_,rfl,rfl,(s4.trans s5).tup q2,s5.tup g2,Nat.le_of_lt (aQ (by omega)),fun c2 H6 s6 t6=>⟨(show 2≤sizeLine by decide),fun p hp=>?_⟩⟩
  have s7:=aK.new (o:=HO.tup [.ref c1,.ref c2]) hp
  have s47:=(s5.trans s6).trans s7
  have s07:=s4.trans s47
  refine k _ _ s07 (Is.tupOf (ds:=[.tup ((A1.vs++B1.vs.map (shV A1.vs.length A1.sps.length)).map vsD),.tup ((A1.sps++B1.sps.map (shS A1.vs.length)).map spD)]) (bR.of aD) (.cons (Is.tupOf ((s6.trans s7).tup t5) ?_) (.cons (Is.tupOf (s7.tup t6) ?_) .nil)))
  ·rw[List.map_append];exact IsL.append (L2.IsL.mono s07.ts _ _ l1) (L2.IsL.mono s47.ts _ _ h1)
  ·rw[List.map_append];exact IsL.append (L2.IsL.mono s07.ts _ _ l2) (L2.IsL.mono s47.ts _ _ h2)
noncomputable def spLedR (K:PySem.W.Frag) (cV cM:Addr):Sp:=fun vs H Q E=>∃ (x y:V) (v:Int) (A B:Net),vs=[x,.int v,y]∧Is K H (dU A) x∧Is K H (dU B) y∧NetOk A∧NetOk B∧
 ((¬ (0≤v∧v < A.vs.length)∧E (.ref cV) none H)∨∃ j:Nat,v=(j:Int)∧j < A.vs.length∧((Fits A B∧∀ p H',aK H H'→Is K H' (dU (ledN A j B)) p→Q p H')∨(¬ Fits A B∧∀ H',aK H H'→E (.ref cM) none H')))
theorem sc_led_on:FnScope ["net","vessel","other","size","brim","outs","holds","spill","acts","behind","led_outs"] ["net","vessel","other"] (aJ (aX 31)):=⟨rfl,rfl,rfl,by decide +kernel,rfl,by decide +kernel,by decide +kernel⟩
theorem ok_led_onR {f f1 f2 f3:Addr}{fd fd1 fd2 fd3:FuncData} (F:Fun K "led_on" "led_on" (aX 31) f fd) (T:Txt mg) (G_need_vessel:CalleeR P w K mg base "need_vessel" ["net","number"] 2 (spNeedR K c_NoVessel) f1 fd1)
  (G_beside:CalleeR P w K mg base "beside" ["net","other"] 3 (spBesR K c_TooMany) f2 fd2) (G_with_vessel:Callee P w K mg base "with_vessel" ["net","number","vessel"] 1 (spWith K) f3 fd3):FnOk P w K mg base (CXR P w) 4 f fd ["net","vessel","other"] (spLedR K c_NoVessel c_TooMany):=by
 refine F.okR sc_led_on (fun vs H Q E h=>?_) (fun cdv A outer s H vs Q E hr h L=>?_)
 ·obtain⟨x,y,v,A,B,rfl,_⟩:=h;rfl
 ·obtain⟨x,y,v,A1,B1,rfl,hx,hy,ha,hb,k⟩:=h
  have sc:=sc_led_on
  refine⟨_,(aE (cL (pe_call G_need_vessel.ok (hr.mono (by decide)) rfl G_need_vessel.mg G_need_vessel.kp G_need_vessel.bd .nil (pass_xe L) (aA (pv 0) (aA (pv 1) aB))))
   (aE (bS (aP (aL (K:=K) rfl) (aP (aL (K:=K) rfl) (pv 0) aH (fun _ _=>rfl)) (pv 1) (fun _ _=>rfl)) (aW (K:=K) (n:=6) rfl rfl (aG (aF (i:=3) sc.nd rfl (Or.inl rfl)) (aG (aF (i:=4) sc.nd rfl (Or.inl rfl)) (aG (aF (i:=5) sc.nd rfl (Or.inl rfl)) (aG (aF (i:=6) sc.nd rfl (Or.inl rfl)) (aG (aF (i:=7) sc.nd rfl (Or.inl rfl)) (aG (aF (i:=8) sc.nd rfl (Or.inl rfl)) aV))))))))
   (aE (bE (i:=9) sc.nd rfl (Or.inr rfl) (aS (bH (K:=K) rfl) rfl T.b_len PySem.boot_len (aA (aP (aL (K:=K) rfl) (pv 0) aH (fun _ _=>rfl)) aB)))
   (aE (ps_calm fun pn=>(eD (i:=10) sc.nd rfl rfl (fun _ _ h=>h) rfl (LcOk.mk (N':=["target","parts","behind"]) (fr:=[none,none,some 9]) rfl ⟨rfl,trivial⟩ rfl rfl rfl rfl rfl ⟨⟨_,rfl,rfl,rfl,rfl⟩,trivial⟩) (d8 (K:=K) rfl (pv 5)) (fun _ _ _=>(aW (K:=K) (n:=2) rfl rfl (aG (aF (i:=0) (show (["target","parts","behind"]:List Str).Nodup by decide +kernel) rfl (Or.inl rfl) (Or.inr rfl)) (aG (aF (i:=1) (show (["target","parts","behind"]:List Str).Nodup by decide +kernel) rfl (Or.inl rfl) (Or.inr rfl)) aV)))) (fun _ _ _=>cP) (fun _ _ _=>(bT (aA (pe_ifExp (cX op_isN (pv 0) pe_non (cQ _)) (pv 2) (pv 0)) (aA (pv 1) aB))))))
   (aM (bG (d7 G_with_vessel hr (aA (pe_call G_beside.ok (hr.mono (by decide)) rfl G_beside.mg G_beside.kp G_beside.bd .nil (pass_xe L) (aA (pv 0) (aA (pv 2) aB))) (aA (pv 1) (aA (bT (aA (pv 3) (aA (pv 4) (aA (bD (cC (K:=K) rfl) rfl T.b_tuple cN (aA (pv 10) aB)) (aA (pv 6) (aA (pv 7) (aA (pv 8) aB))))))) aB)))))))))),?_⟩
  refine⟨_,rfl,_,rfl,x,A1,v,rfl,hx,?_⟩
  rcases k with ⟨hn,k⟩ | ⟨j,rfl,hj,k⟩
  ·exact .inr ⟨hn,k⟩
  refine .inl ⟨by omega,by omega,?_⟩
  obtain⟨na,nb,nc,xs,ys,rfl,q,q1,l1,q2,l2⟩:=dM hx
  have exl:xs.length=A1.vs.length:=by rw[l1.length,List.length_map]
  have hxj:xs[j]? = some (xs[j]'(by omega)):=by simp
  obtain⟨d,hd,iv⟩:=l1.get' hxj
  rw[List.getElem?_map] at hd
  obtain⟨v,hv,rfl⟩:=Option.map_eq_some_iff.mp hd
  have vok:=ha.vs v (List.mem_of_getElem? hv)
  have egd:A1.vs.getD j vNil=v:=by rw[List.getD_eq_getElem?_getD,hv];rfl
  obtain⟨va,o,c,ev,qv,io,ic⟩:=vs_un iv
  obtain⟨oa,os,rfl,qo,lo⟩:=io.un
  have eol:os.length=v.outs.length:=by rw[lo.length,List.length_map]
  have o3:=vok.o3
  refine⟨_,rfl,.inr (.inl ⟨na,_,0,_,rfl,rfl,q,rfl,_,rfl,.inr (.inl ⟨nb,xs,(j:Int),.ref va,rfl,rfl,q1,cT (by rw[hxj,ev]),va,_,rfl,qv,rfl,_,_,rfl,_,_,rfl,_,_,rfl,_,_,rfl,_,_,rfl,_,_,rfl,rfl,?_⟩)⟩)⟩
  refine⟨_,rfl,.inr (.inl ⟨na,_,0,_,rfl,rfl,q,rfl,nb,xs,rfl,.inr q1,?_⟩)⟩
  dsimp only
  rw[exl]
  refine⟨_,rfl,oa,rfl,⟨_,qo⟩,eT (K:=K) (a:=oa) (xs:=os) (fun D i r σ' H'=>H D=none∧aK H H'∧H' D=some (.lst r)∧IsL K H' (((v.outs.take i).map fun o=>(some (o.1.getD (A1.vs.length:Int)),o.2)).map outD) r∧∃ u1 u2,σ'=[u1,u2,some (.int (A1.vs.length:Int))])
   (fun D i r σ' H' p=>p.2.1.tup qo) (fun D hD=>⟨hD,aK.new hD,aD,.nil,none,none,rfl⟩) ?_ ?_⟩
  rotate_left
  ·rintro D i y' r σ' H1 hy' ⟨hD,sm,hDl,lr,u1,u2,rfl⟩
   obtain⟨t,ht,ta,rfl,qt⟩:=outs_at lo hy'
   have hil:=(List.getElem?_eq_some_iff.mp ht).1
   refine⟨ta,_,rfl,sm.tup qt,rfl,_,_,rfl,_,_,rfl,rfl,?_⟩
   refine yes_of ?_
   have rest:∀ e,H1 e=none→upd H1 e (.tup [.int (t.1.getD (A1.vs.length:Int)),.int t.2]) D=some (.lst r)∧r.length < sizeLine∧H D=none∧aK H (upd (upd H1 e (.tup [.int (t.1.getD (A1.vs.length:Int)),.int t.2])) D (.lst (r++[.ref e])))∧upd (upd H1 e (.tup [.int (t.1.getD (A1.vs.length:Int)),.int t.2])) D (.lst (r++[.ref e])) D=some (.lst (r++[.ref e]))∧
     IsL K (upd (upd H1 e (.tup [.int (t.1.getD (A1.vs.length:Int)),.int t.2])) D (.lst (r++[.ref e]))) (((v.outs.take (i+1)).map fun o=>(some (o.1.getD (A1.vs.length:Int)),o.2)).map outD) (r++[.ref e]):=fun e he=>by
    have m1:=aK.new (o:=HO.tup [.int (t.1.getD (A1.vs.length:Int)),.int t.2]) he
    have i1:Is K (upd H1 e (.tup [.int (t.1.getD (A1.vs.length:Int)),.int t.2])) (outD (some (t.1.getD (A1.vs.length:Int)),t.2)) (.ref e):=Is.tupOf (ds:=[.int (t.1.getD (A1.vs.length:Int)),.int t.2]) (bR.of aD) (.cons (Is.i _) (.cons (Is.i _) .nil))
    generalize upd H1 e (.tup [.int (t.1.getD (A1.vs.length:Int)),.int t.2])=H2 at m1 i1 ⊢
    have hDl2:=m1 _ _ hDl
    have muD:Mut (H2 D):=by rw[hDl2];exact trivial
    have hrl:r.length≤12:=by rw[lr.length,List.length_map,List.length_map,List.length_take];omega
    refine⟨hDl2,aQ (by omega),hD,(sm.trans m1).put hD,aD,?_⟩
    rw[List.take_succ,ht,List.map_append,List.map_append]
    exact L2.IsL.snoc (Is.mono (cK.ts cK.upd muD) _ _ i1) (L2.IsL.mono (m1.ts.trans (cK.ts cK.upd muD)) _ _ lr)
   refine⟨_,rfl,rfl,_,rfl,?_⟩
   cases ht1:t.1 with
   | none=>
    rw[ht1] at rest
    refine iteT ⟨_,rfl,_,rfl,(show 2≤sizeLine by decide),fun e he=>?_⟩
    obtain⟨g1,g2,g3,g4,g5,g6⟩:=rest e he
    exact⟨g1,g2,g3,g4,g5,g6,_,_,rfl⟩
   | some tt=>
    rw[ht1] at rest
    refine eJ ⟨_,rfl,_,rfl,(show 2≤sizeLine by decide),fun e he=>?_⟩
    obtain⟨g1,g2,g3,g4,g5,g6⟩:=rest e he
    exact⟨g1,g2,g3,g4,g5,g6,_,_,rfl⟩
  rintro D1 r1 σ' H1 ⟨hD1,sm1,hDl1,lr1,_⟩
  rw[eol,List.take_length] at lr1
  refine⟨_,rfl,_,rfl,_,y,A1,B1,rfl,Is.mono sm1.ts _ _ hx,Is.mono sm1.ts _ _ hy,ha,hb,?_⟩
  rcases k with ⟨fit,k⟩ | ⟨nf,k⟩
  rotate_left
  ·exact .inr ⟨nf,fun H' s=>k _ (sm1.trans s)⟩
  refine .inl ⟨fit,fun p H2 s2 ip=>?_⟩
  have s02:=sm1.trans s2
  refine⟨_,rfl,_,rfl,_,rfl,_,rfl,D1,_,rfl,.inl ⟨bY.of (s2 _ _ hDl1),fun p1 hp1=>?_⟩⟩
  have s3:=aK.new (o:=HO.tup r1) hp1
  have t3:bR K (upd H2 p1 (.tup r1)) p1 r1:=bR.of aD
  generalize upd H2 p1 (.tup r1)=H3 at s3 t3
  refine⟨_,rfl,_,rfl,_,rfl,(show 6≤sizeLine by decide),fun p2 hp2=>?_⟩
  have s4:=aK.new (o:=HO.tup [.int v.size,.int v.brim,.ref p1,.bl v.holds,tgV v.spill,c]) hp2
  have i4:Is K (upd H3 p2 (.tup [.int v.size,.int v.brim,.ref p1,.bl v.holds,tgV v.spill,c])) (vsD (ledV A1.vs.length v)) (.ref p2):=
   Is.tupOf (ds:=[.int v.size,.int v.brim,.tup ((ledV A1.vs.length v).outs.map outD),.bl v.holds,tgD v.spill,.tup (v.acts.map actD)]) (bR.of aD)
    (.cons (Is.i _) (.cons (Is.i _) (.cons (Is.tupOf (s4.tup t3) (L2.IsL.mono ((s2.trans s3).trans s4).ts _ _ lr1)) (.cons (Is.b _) (.cons (Is.tgOf _) (.cons (Is.mono ((s02.trans s3).trans s4).ts _ _ ic) .nil))))))
  generalize upd H3 p2 (.tup [.int v.size,.int v.brim,.ref p1,.bl v.holds,tgV v.spill,c])=H4 at s4 i4
  have bl:(aR A1 B1).vs.length=A1.vs.length+B1.vs.length:=by show (A1.vs++B1.vs.map _).length=_;rw[List.length_append,List.length_map]
  have f1:=fit.1
  refine⟨_,.ref p2,aR A1 B1,ledV A1.vs.length v,j,rfl,Is.mono (s3.trans s4).ts _ _ ip,by omega,by omega,i4,fun p' H5 s5 ip'=>k _ _ (((s02.trans s3).trans s4).trans s5) ?_⟩
  unfold ledN
  rw[egd]
  exact ip'
end
end Tw
namespace HT
open PySem PySem.Spec PyProof.Rows L2
section
variable {prog:Program}{w:World}{A:Around}{E:Value→Shared→Prop}{s:Shared}
theorem getItem_tuple_whole {t sl:Addr}{items:Array Value}{vl vu:Value}{lo hi:Option Int}{Q:Value→Shared→Prop} (ht:IsTup s.heap t items) (hs:s.heap.IsSliceOf sl vl vu .none) (pl:IsPart vl lo) (pu:IsPart vu hi)
  (hw:sIx items.size 0 lo=0∧sIx items.size items.size hi=items.size) (h:Q (.ref t) s):wpAny (model prog w) A (getItem (.ref t) (.ref sl)) Q E s:=by
 obtain⟨os,hos,hcs,hds⟩:=id hs
 have hTs:s.TypeIs (.ref sl) "slice" := ⟨os,hos,hcs⟩
 unfold getItem
 try with_reducible refine wpAny_holding ?_
 first | refine wpAny_bind (wpAny_pure ?_) | skip
 refine wpAny_bind (wpAny_sequenceKey ht.typeIs (by decide) ?_)
 refine wpAny_bind (wpAny_callSpecial?_slot (name:=Str.ofString "__getitem__") ht.typeIs PyProof.Rows.slot_tuple_getitem
  (wpAny_call_entry PyProof.Rows.slot_tuple_getitem ht.typeIs entry_tuple_getitem ?_ (args_tuple_getitem _ _)))
 show wpAny _ _ (Builtin.Tuple.tupleItemsOf (.ref t) >>= _) _ _ s
 refine wpAny_bind (tupleItemsOf_ ht ?_)
 refine wpAny_bind (wpAny_typeOf hTs ?_)
 rw[if_pos (by decide)]
 refine wpAny_bind (sliceApplied_gen hs pl pu ?_)
 have hyes:(((sIx items.size 0 lo:Nat):Int) == 0 && (1:Int) == 1 && (sIx items.size items.size hi - sIx items.size 0 lo) == items.size)=true:=by
  rw[hw.1,hw.2];simp
 show wpAny _ _ (if (((sIx items.size 0 lo:Nat):Int) == 0 && (1:Int) == 1 && (sIx items.size items.size hi - sIx items.size 0 lo) == items.size)=true then _ else _) _ _ s
 rw[if_pos hyes]
 refine wpAny_bind ?_
 refine wpAny_bind (m:=Builtin.Tuple.tupleIsExact (.ref t)) ?_
 unfold Builtin.Tuple.tupleIsExact
 refine wpAny_bind (wpAny_typeOf ht.typeIs (wpAny_pure ?_))
 refine wpAny_pure ?_
 rw[if_pos (by decide)]
 refine wpAny_bind (wpAny_rule ?_)
 refine wpAny_pure ?_
 refine⟨_,rfl,wpAny_pure ?_⟩
 exact h
end
end HT
namespace L2
open PySem
section
variable {X:Cx}{K:PySem.W.Frag}
noncomputable def rSlTW (K:PySem.W.Frag):V→Option Int→Option Int→Hp→VK→Prop:=fun x lo hi H Q=>∃ a xs,x=.ref a∧bR K H a xs∧
 ((HT.sIx xs.length 0 lo=0∧HT.sIx xs.length xs.length hi=xs.length)→Q (.ref a) H)∧
 (¬ (HT.sIx xs.length 0 lo=0∧HT.sIx xs.length xs.length hi=xs.length)→∀ p,H p=none→Q (.ref p) (upd H p (.tup (cutV xs lo hi))))
theorem sl_tupW (hK:X.K=K):SlR X (rSlTW K):=by
 subst hK
 intro pins s σ H x v vl vu lo hi sl Q I rx hs pl pu h
 obtain⟨a,xs,rfl,hx,q1,q2⟩:=h
 by_cases hw:HT.sIx xs.length 0 lo=0∧HT.sIx xs.length xs.length hi=xs.length
 ·have q1:=q1 hw
  cases rx
  obtain⟨its,r,ht,hz⟩:=I.tuple hx
  have hlen:its.toArray.size=xs.length:=by rw[List.size_toArray];exact r.length.symm
  refine⟨"tuple",_,PyProof.Rows.slot_tuple_getitem.lookup,ht.typeIs,?_⟩
  exact HT.getItem_tuple_whole ht hs pl pu (by rw[hlen];exact hw) ⟨.ref a,H,I,rfl,q1⟩
 ·exact sl_tup pins s σ H _ v vl vu lo hi sl Q I rx hs pl pu ⟨a,xs,rfl,hx,hw,q2 hw⟩
end
end L2
namespace Tw
open PySem L2
noncomputable def fewA (m:Int) (v:Vs):Vs:={ v with acts:=v.acts.filter fun a=>decide (a.2 < m) }
noncomputable def cutN (m:Nat) (net:Net):Net:=⟨net.vs.map (fewA (m:Int)),net.sps.take m⟩
theorem cutN_ok {m:Nat}{net:Net} (h:NetOk net):NetOk (cutN m net):=by
 refine { lo:=by show 1≤(net.vs.map _).length;rw[List.length_map];exact h.lo,hi:=by show (net.vs.map _).length≤12;rw[List.length_map];exact h.hi,sp:=by show (net.sps.take m).length≤12;rw[List.length_take];have:=h.sp;omega,vs:=fun v hv=>?_,sps:=fun s hs=>?_ }
 ·obtain⟨x,hx,rfl⟩:=List.mem_map.1 (show v∈net.vs.map (fewA (m:Int)) from hv)
  have k:=h.vs x hx
  show VOk (net.vs.map (fewA (m:Int))).length (net.sps.take m).length _
  rw[List.length_map,List.length_take]
  refine { size:=k.size,ne:=k.ne,o3:=k.o3,outs:=k.outs,spill:=k.spill,a3:=Nat.le_trans (List.length_filter_le _ _) k.a3,acts:=fun a haa=>?_ }
  obtain⟨ha,hl⟩:=List.mem_filter.1 haa
  have:=k.acts a ha
  have hl:=of_decide_eq_true hl
  exact⟨this.word,this.lo,by have:=this.hi;omega⟩
 ·show 0≤s.1∧s.1 < ((net.vs.map (fewA (m:Int))).length:Nat)
  rw[List.length_map]
  exact h.sps s (List.mem_of_mem_take hs)
theorem cutN_full {m:Nat}{net:Net} (h:NetFull net):NetFull (cutN m net):=by
 refine⟨fun i v hv=>?_,fun s hs=>h.sps s (List.mem_of_mem_take hs)⟩
 have hv:(net.vs.map (fewA (m:Int)))[i]? = some v:=hv
 rw[List.getElem?_map] at hv
 obtain⟨x,hx,rfl⟩:=Option.map_eq_some_iff.mp hv
 have k:=h.vs i x hx
 exact⟨k.sz,k.br,k.bh,k.sp⟩
theorem ledN_set {A B:Net}{j:Nat} (hj:j < A.vs.length):(ledN A j B).vs=(aR A B).vs.set j (ledV A.vs.length (A.vs.getD j vNil)):=by
 have hl:j < (aR A B).vs.length:=by show j < (A.vs++B.vs.map _).length;rw[List.length_append];omega
 rw[List.set_eq_take_append_cons_drop,if_pos hl]
 show _++[_]++_=_
 rw[List.append_assoc];rfl
theorem bes_at {A B:Net}{j:Nat} (hj:j < A.vs.length):(aR A B).vs[j]? = some (A.vs.getD j vNil):=by
 show (A.vs++B.vs.map _)[j]? = _
 rw[List.getElem?_append_left hj,List.getD_eq_getElem?_getD,List.getElem?_eq_getElem hj];rfl
theorem ledN_ok {A B:Net}{j:Nat} (ha:NetOk A) (hb:NetOk B) (hj:j < A.vs.length) (fit:Fits A B):NetOk (ledN A j B):=by
 have h:=beside_ok ha hb fit.1 fit.2
 have hl:(ledN A j B).vs.length=(aR A B).vs.length:=by rw[ledN_set hj,List.length_set]
 have hbl:(aR A B).vs.length=A.vs.length+B.vs.length:=by show (A.vs++B.vs.map _).length=_;rw[List.length_append,List.length_map]
 refine { lo:=by rw[hl];exact h.lo,hi:=by rw[hl];exact h.hi,sp:=h.sp,vs:=fun v hv=>?_,sps:=fun s hs=>by rw[hl];exact h.sps s hs }
 rw[hl]
 show VOk _ (aR A B).sps.length v
 rw[ledN_set hj] at hv
 rcases List.mem_or_eq_of_mem_set hv with hv | rfl
 ·exact h.vs v hv
 ·have k:=h.vs _ (List.mem_of_getElem? (bes_at (B:=B) hj))
  refine { size:=k.size,ne:=fun z=>k.ne (by have:=List.map_eq_nil_iff.1 z;exact this),o3:=by show (List.map _ _).length≤3;rw[List.length_map];exact k.o3,outs:=fun o ho=>?_,spill:=k.spill,a3:=k.a3,acts:=k.acts }
  obtain⟨o',ho',rfl⟩:=List.mem_map.1 ho
  have ko:=k.outs o' ho'
  refine⟨fun t ht=>?_,ko.lo,ko.hi⟩
  have hb1:=hb.lo
  cases e:o'.1 with
  | none=>
   rw[e] at ht
   have:(A.vs.length:Int)=t:=by simpa using ht
   omega
  | some z=>rw[e] at ht;cases ht;exact ko.tg _ e
theorem ledN_full {A B:Net}{j:Nat} (ha:NetFull A) (hb:NetFull B) (hj:j < A.vs.length):NetFull (ledN A j B):=by
 have h:=beside_full ha hb
 refine⟨fun i v hv=>?_,h.sps⟩
 rw[ledN_set hj] at hv
 by_cases e:j=i
 ·subst e
  have hl:j < (aR A B).vs.length:=(List.getElem?_eq_some_iff.mp (bes_at (B:=B) hj)).1
  rw[List.getElem?_set_self hl] at hv
  cases hv
  have k:=h.vs j _ (bes_at (B:=B) hj)
  exact⟨k.sz,k.br,k.bh,k.sp⟩
 ·rw[List.getElem?_set_ne e] at hv
  exact h.vs i v hv
section
variable {P:Program}{w:World}{K:PySem.W.Frag}{mg:Str→Option Value}{base:Heap}{C:Addr}
noncomputable def spFewer (K:PySem.W.Frag):Sp:=fun vs H Q _=>∃ (x:V) (net:Net) (m:Nat),vs=[x,.int (m:Int)]∧Is K H (dU net) x∧NetOk net∧∀ p H',aK H H'→Is K H' (dU (cutN m net)) p→Q p H'
theorem sc__law_fewer:FnScope ["net","most","vessels","size","brim","outs","holds","spill","acts"] ["net","most"] (aJ (aX 55)):=⟨rfl,rfl,rfl,by decide +kernel,rfl,by decide +kernel,by decide +kernel⟩
theorem ok__law_fewer {f:Addr}{fd:FuncData} (F:Fun K "_law_fewer" "_law_fewer" (aX 55) f fd) (T:Txt mg):FnOk P w K mg base CX0 1 f fd ["net","most"] (spFewer K):=by
 refine F.ok sc__law_fewer (fun vs H Q E h=>?_) (fun cdv A outer s H vs Q E hr h=>?_)
 ·obtain⟨x,net,m,rfl,_⟩:=h;rfl
 ·obtain⟨x,net,at_,rfl,hx,nok,k⟩:=h
  have sc:=sc__law_fewer
  refine⟨_,(aE (bE (i:=2) sc.nd rfl (Or.inl rfl) (cG aB))
   (aE (dN PassesOwn.never rfl (d8 (K:=K) rfl (aP (aL (K:=K) rfl) (pv 0) aH (fun _ _=>rfl))) (aW (K:=K) (n:=6) rfl rfl (aG (aF (i:=3) sc.nd rfl (Or.inl rfl)) (aG (aF (i:=4) sc.nd rfl (Or.inl rfl)) (aG (aF (i:=5) sc.nd rfl (Or.inl rfl)) (aG (aF (i:=6) sc.nd rfl (Or.inl rfl)) (aG (aF (i:=7) sc.nd rfl (Or.inl rfl)) (aG (aF (i:=8) sc.nd rfl (Or.inl rfl)) aV))))))) (aE (bE (i:=8) sc.nd rfl (Or.inl rfl) (bD (cC (K:=K) rfl) rfl T.b_tuple cN (aA (pe_lc (fun _ _ h=>h) rfl (LcOk.mk (N':=["act","most"]) (fr:=[none,some 1]) rfl ⟨rfl,trivial⟩ rfl rfl rfl rfl rfl ⟨⟨_,rfl,rfl,rfl,rfl⟩,trivial⟩) (d8 (K:=K) rfl (pv 8)) (fun _ _ _=>(aF (i:=0) (show (["act","most"]:List Str).Nodup by decide +kernel) rfl (Or.inl rfl) (Or.inr rfl))) (fun _ _ _=>pif_one (cX op_lt (aP (aL (K:=K) rfl) (pv 0) aH (fun _ _=>rfl)) (pv 1) (cQ _))) (fun _ _ _=>(pv 0))) aB)))
   (aM (cL (pe_bmK (K:=K) rfl PySem.F.plainAttrs_list PySem.F.slot_list_append PySem.F.type_list_append d4 (pv 2) (aA (bT (aA (pv 3) (aA (pv 4) (aA (pv 5) (aA (pv 6) (aA (pv 7) (aA (pv 8) aB))))))) aB))))))
   (aM (bG (bT (aA (bD (cC (K:=K) rfl) rfl T.b_tuple cN (aA (pv 2) aB)) (aA (pe_slice (sl_tupW (K:=K) rfl) (aP (aL (K:=K) rfl) (pv 0) aH (fun _ _=>rfl)) po_none (po_some (pv 1))) aB))))))),?_⟩
  obtain⟨a,b,c,xs,ys,rfl,q,q1,l1,q2,l2⟩:=dM hx
  have exl:xs.length=net.vs.length:=by rw[l1.length,List.length_map]
  have n2:=nok.hi
  refine⟨Nat.zero_le _,fun vl hvl=>?_⟩
  have s0:aK H (upd H vl (.lst [])):=aK.new hvl
  refine⟨_,rfl,.inr (.inl ⟨a,_,0,_,rfl,rfl,s0.tup q,rfl,b,rfl,⟨_,s0.tup q1⟩,for_tup (K:=K) (a:=b) (xs:=xs)
   (fun i σ' H'=>aK H H'∧(∃ zs,H' vl=some (.lst zs)∧IsL K H' (((net.vs.take i).map (fewA (at_:Int))).map vsD) zs)∧∃ v3 v4 v5 v6 v7 v8,σ'=[some (.ref a),some (.int (at_:Int)),some (.ref vl),v3,v4,v5,v6,v7,v8])
   ⟨s0,⟨[],aD,.nil⟩,_,_,_,_,_,_,rfl⟩ (fun i σ' H' _ p=>p.1.tup q1) ?_ ?_⟩)⟩
  ·rintro i x σ' H1 hx ⟨sm,⟨zs,hz,lz⟩,v3,v4,v5,v6,v7,v8,rfl⟩
   have hil:=(List.getElem?_eq_some_iff.mp hx).1
   obtain⟨d,hd,ix⟩:=L2.IsL.get' l1 hx
   rw[List.getElem?_map] at hd
   obtain⟨v,hv,rfl⟩:=Option.map_eq_some_iff.mp hd
   have vok:=nok.vs v (List.mem_of_getElem? hv)
   obtain⟨va,o,cc,rfl,qv,ho,hc⟩:=vs_un ix
   obtain⟨ca,cs,rfl,qc,lc⟩:=hc.un
   have ha3:=vok.a3
   refine⟨va,_,rfl,sm.tup qv,rfl,_,_,rfl,_,_,rfl,_,_,rfl,_,_,rfl,_,_,rfl,_,_,rfl,rfl,?_⟩
   refine⟨_,rfl,ca,rfl,⟨_,sm.tup qc⟩,eT (K:=K) (a:=ca) (xs:=cs)
    (fun D j rr σ' H'=>H1 D=none∧aK H1 H'∧H' D=some (.lst rr)∧IsL K H' (((v.acts.take j).filter fun a=>decide (a.2 < (at_:Int))).map actD) rr∧∃ u,σ'=[u,some (.int (at_:Int))])
    (fun D j rr σ' H' p=>p.2.1.tup (sm.tup qc)) (fun D hD=>⟨hD,aK.new hD,aD,.nil,none,rfl⟩) ?_ ?_⟩
   rotate_left
   ·rintro D j x rr σ' H2 hx ⟨hD,sm2,hDl,lr,u,rfl⟩
    obtain⟨ac,hac,aa,rfl,qa⟩:=acts_at lc hx
    have hjl:=(List.getElem?_eq_some_iff.mp hac).1
    have s02:=sm.trans sm2
    have hrl:rr.length≤3:=by
     rw[lr.length,List.length_map]
     exact Nat.le_trans (List.length_filter_le _ _) (by rw[List.length_take];omega)
    refine⟨_,rfl,.inr (.inl ⟨aa,_,1,_,rfl,rfl,s02.tup qa,rfl,_,rfl,_,_,rfl,rfl,_,rfl,ite2 (fun e=>?_) fun e=>?_⟩)⟩
    ·have e:=of_decide_eq_true e
     refine⟨_,rfl,hDl,aQ (by omega),hD,sm2.put hD,aD,?_,_,rfl⟩
     have muD:Mut (H2 D):=by rw[hDl];exact trivial
     have ts:bU K H2 (upd H2 D (.lst (rr++[.ref aa]))):=cK.ts cK.upd muD
     rw[bJ hac,List.filter_append,List.map_append]
     have:[ac].filter (fun a=>decide (a.2 < (at_:Int)))=[ac]:=by simp [e]
     rw[this]
     exact L2.IsL.snoc (Is.tupOf (ds:=[.str ac.1,.int ac.2]) (ts _ _ (s02.tup qa)) (.cons (Is.s _) (.cons (Is.i _) .nil))) (L2.IsL.mono ts _ _ lr)
    ·refine⟨hD,sm2,hDl,?_,_,rfl⟩
     have e:¬ ac.2 < (at_:Int):=fun z=>e (decide_eq_true z)
     rw[bJ hac,List.filter_append,List.map_append]
     have:[ac].filter (fun a=>decide (a.2 < (at_:Int)))=[]:=by simp [e]
     rw[this,List.map_nil,List.append_nil]
     exact lr
   ·rintro D rr σ' H2 ⟨hD,sm2,hDl,lr,_⟩
    have ecl:cs.length=v.acts.length:=by rw[lc.length,List.length_map]
    rw[ecl,List.take_length] at lr
    refine⟨D,_,rfl,.inl ⟨bY.of hDl,fun ta hta=>?_⟩⟩
    have s3:=aK.new (o:=HO.tup rr) hta
    have ita:Is K (upd H2 ta (.tup rr)) (.tup ((v.acts.filter fun a=>decide (a.2 < (at_:Int))).map actD)) (.ref ta):=Is.tupOf (bR.of aD) (L2.IsL.mono s3.ts _ _ lr)
    generalize upd H2 ta (.tup rr)=H3 at s3 ita
    have s13:aK H1 H3:=sm2.trans s3
    refine⟨_,rfl,.inl ⟨rfl,_,bY.of (s13 _ _ hz)⟩,_,rfl,_,rfl,_,rfl,_,rfl,_,rfl,_,rfl,(show 6≤sizeLine by decide),fun e he=>?_⟩
    have s4:=aK.new (o:=HO.tup [.int v.size,.int v.brim,o,.bl v.holds,tgV v.spill,.ref ta]) he
    have iv:Is K (upd H3 e (.tup [.int v.size,.int v.brim,o,.bl v.holds,tgV v.spill,.ref ta])) (vsD (fewA (at_:Int) v)) (.ref e):=
     Is.tupOf (ds:=[.int v.size,.int v.brim,.tup (v.outs.map outD),.bl v.holds,tgD v.spill,.tup ((v.acts.filter fun (a:Str×Int)=>decide (a.2 < (at_:Int))).map actD)]) (bR.of aD)
      (.cons (Is.i _) (.cons (Is.i _) (.cons (Is.mono ((sm.trans s13).trans s4).ts _ _ ho) (.cons (Is.b _) (.cons (Is.tgOf _) (.cons (Is.mono s4.ts _ _ ita) .nil))))))
    generalize upd H3 e (.tup [.int v.size,.int v.brim,o,.bl v.holds,tgV v.spill,.ref ta])=H4 at s4 iv
    have s14:=s13.trans s4
    have hz4:=s14 _ _ hz
    have hzl:zs.length≤12:=by rw[lz.length,List.length_map,List.length_map,List.length_take];omega
    refine⟨vl,zs,_,rfl,rfl,hz4,aQ (by omega),?_⟩
    have mu4:Mut (H4 vl):=by rw[hz4];exact trivial
    have ts5:bU K H4 (upd H4 vl (.lst (zs++[.ref e]))):=cK.ts cK.upd mu4
    refine⟨(sm.trans s14).put hvl,⟨_,aD,?_⟩,_,_,_,_,_,_,rfl⟩
    rw[bJ hv,List.map_append,List.map_append]
    exact L2.IsL.snoc (Is.mono ts5 _ _ iv) (L2.IsL.mono (s14.ts.trans ts5) _ _ lz)
  ·rintro σ' H1 ⟨sm,⟨zs,hz,lz⟩,v3,v4,v5,v6,v7,v8,rfl⟩
   rw[exl,List.take_length] at lz
   refine⟨_,rfl,vl,zs,rfl,.inl ⟨bY.of hz,fun tv htv=>?_⟩⟩
   have s2:=aK.new (o:=HO.tup zs) htv
   have t2:bR K (upd H1 tv (.tup zs)) tv zs:=bR.of aD
   generalize upd H1 tv (.tup zs)=H2 at s2 t2
   have s02:=sm.trans s2
   have fin:∀ p1 H3,aK H2 H3→bR K H3 p1 (ys.take at_)→∀ p,H3 p=none→Q (.ref p) (upd H3 p (.tup [.ref tv,.ref p1])):=fun p1 H3 s3 t3 p hp=>by
    have s4:=aK.new (o:=HO.tup [.ref tv,.ref p1]) hp
    have s24:=s3.trans s4
    have s04:=s02.trans s24
    refine k _ _ s04 (Is.tupOf (ds:=[.tup ((net.vs.map (fewA (at_:Int))).map vsD),.tup ((net.sps.take at_).map spD)]) (bR.of aD) (.cons (Is.tupOf (s24.tup t2) (L2.IsL.mono (s2.trans s24).ts _ _ lz)) (.cons (Is.tupOf (s4.tup t3) ?_) .nil)))
    rw[List.map_take]
    exact L2.IsL.mono s04.ts _ _ (isL_take13 at_ l2)
   refine⟨_,rfl,.inr (.inl ⟨a,_,1,_,rfl,rfl,s02.tup q,rfl,_,rfl,_,rfl,c,ys,rfl,s02.tup q2,fun hw=>?_,fun hw p1 hp1=>?_⟩)⟩
   ·refine⟨(show 2≤sizeLine by decide),fun p hp=>fin c H2 (aK.refl H2) ?_ p hp⟩
    have hw2:=hw.2
    rw[HT.sIx_nat] at hw2
    rw[List.take_of_length_le (by omega)]
    exact s02.tup q2
   ·have hc1:cutV ys none (some (at_:Int))=ys.take at_:=by
     unfold cutV
     rw[HT.sIx_none,HT.sIx_nat,List.drop_zero,Nat.sub_zero]
     by_cases hh:at_≤ys.length
     ·rw[Nat.min_eq_left hh]
     ·rw[Nat.min_eq_right (by omega),List.take_length,List.take_of_length_le (by omega)]
    rw[hc1]
    exact⟨(show 2≤sizeLine by decide),fun p hp=>fin p1 _ (aK.new hp1) (bR.of aD) p hp⟩
end
end Tw
namespace Tw
open PySem L2
noncomputable def addH (l:List Int) (x:Int):List Int:=l.set 0 (l.getD 0 0+x)
noncomputable def gBy (v:Vs) (has:Int):Int:=if dJ v has=true then bB none (eP v (bL v has)) else 0
theorem whole_led (n:Nat) (outs:List (Option Int×Int)):whole (outs.map fun o=>(some (o.1.getD (n:Int)),o.2))=whole outs:=by
 unfold whole;rw[List.map_map];rfl
theorem sum_led (n:Nat) (q:Int) (k:Int):∀ outs:List (Option Int×Int),bB (some k) ((outs.map fun o=>(some (o.1.getD (n:Int)),o.2)).map fun o=>(o.1,q * o.2))=bB (some k) (outs.map fun o=>(o.1,q * o.2))+if k=(n:Int) then bB none (outs.map fun o=>(o.1,q * o.2)) else 0
 | []=>by simp [bB]
 | o::outs=>by
  have ih:=sum_led n q k outs
  show (if some (o.1.getD (n:Int))=some k then q * o.2 else 0)+bB (some k) ((outs.map fun o=>(some (o.1.getD (n:Int)),o.2)).map fun o=>(o.1,q * o.2))=((if o.1=some k then q * o.2 else 0)+bB (some k) (outs.map fun o=>(o.1,q * o.2)))+if k=(n:Int) then ((if o.1=none then q * o.2 else 0)+bB none (outs.map fun o=>(o.1,q * o.2))) else 0
  rw[ih]
  cases h:o.1 with
  | none=>
   by_cases e:k=(n:Int)
   ·subst e;simp;omega
   ·rw[if_neg e,if_neg e,if_neg (by simp;omega),if_neg (by simp)];omega
  | some t=>
   by_cases e:k=(n:Int)
   ·subst e;simp;omega
   ·rw[if_neg e,if_neg e];simp
theorem led_goes (n:Nat) (v:Vs) (h k:Int):bB (some k) (cY (ledV n v) h)=bB (some k) (cY v h)+if k=(n:Int) then gBy v h else 0:=by
 have e:eP (ledV n v) (bL v h)=(v.outs.map fun o=>(some (o.1.getD (n:Int)),o.2)).map fun o=>(o.1,bL v h / whole v.outs * o.2):=by
  unfold eP
  show (v.outs.map fun o=>(some (o.1.getD (n:Int)),o.2)).map (fun o=>(o.1,bL v h / whole (v.outs.map fun o=>(some (o.1.getD (n:Int)),o.2)) * o.2))=_
  rw[whole_led]
 have eg:cY (ledV n v) h=(v.spill,h - bL v h)::(if dJ v h=true then eP (ledV n v) (bL v h)++(if v.holds=true then [] else [(none,bL v h % whole v.outs)]) else []):=by
  unfold cY
  show (v.spill,h - bL v h)::(if dJ v h=true then eP (ledV n v) (bL v h)++(if v.holds=true then [] else [(none,bL v h % whole (v.outs.map fun o=>(some (o.1.getD (n:Int)),o.2)))]) else [])=_
  rw[whole_led]
 rw[eg]
 unfold cY gBy
 by_cases ht:dJ v h=true
 ·rw[if_pos ht,if_pos ht,if_pos ht]
  show (if v.spill=some k then h - bL v h else 0)+bB (some k) (_++_)=((if v.spill=some k then h - bL v h else 0)+bB (some k) (_++_))+_
  rw[cD,cD,e,sum_led]
  show _+(bB (some k) (eP v (bL v h))+(if k=(n:Int) then bB none (eP v (bL v h)) else 0)+_)=_
  omega
 ·rw[if_neg ht,if_neg ht,if_neg ht]
  simp
theorem goes_set (t:Option Int) (v v':Vs) (h:Int):∀ (vs:List Vs) (hs:List Int) (j:Nat),vs[j]? = some v→hs[j]? = some h→bB t (bP (vs.set j v') hs)+bB t (cY v h)=bB t (bP vs hs)+bB t (cY v' h)
 | [],_,j,e,_=>by simp at e
 | _::_,[],j,_,e=>by simp at e
 | a::vs,b::hs,0,e1,e2=>by
  have e1:a=v:=by simpa using e1
  have e2:b=h:=by simpa using e2
  subst e1 e2
  show bB t (cY v' b++bP vs hs)+_=bB t (cY a b++bP vs hs)+_
  rw[cD,cD];omega
 | a::vs,b::hs,j+1,e1,e2=>by
  have ih:=goes_set t v v' h vs hs j (by simpa using e1) (by simpa using e2)
  show bB t (cY a b++bP (vs.set j v') hs)+_=bB t (cY a b++bP vs hs)+_
  rw[cD,cD];omega
theorem stays_set (v v':Vs) (hv:∀ h,dY v' h=dY v h):∀ (vs:List Vs) (hs:List Int) (j:Nat),vs[j]? = some v→bW (vs.set j v') hs=bW vs hs
 | [],_,j,e=>by simp at e
 | _::_,[],0,_=>rfl
 | _::_,[],_+1,_=>rfl
 | a::vs,b::hs,0,e1=>by
  have e1:a=v:=by simpa using e1
  subst e1
  show dY v' b::bW vs hs=dY a b::bW vs hs
  rw[hv]
 | a::vs,b::hs,j+1,e1=>by
  show dY a b::bW (vs.set j v') hs=dY a b::bW vs hs
  rw[stays_set v v' hv vs hs j (by simpa using e1)]
theorem tips_set (v v':Vs) (hv:∀ h,dJ v' h=dJ v h):∀ (i:Nat) (vs:List Vs) (hs:List Int) (j:Nat),vs[j]? = some v→bF i (vs.set j v') hs=bF i vs hs
 | _,[],_,j,e=>by simp at e
 | _,_::_,[],0,_=>rfl
 | _,_::_,[],_+1,_=>rfl
 | i,a::vs,b::hs,0,e1=>by
  have e1:a=v:=by simpa using e1
  subst e1
  show (if dJ v' b=true then i::bF (i+1) vs hs else bF (i+1) vs hs)=(if dJ a b=true then i::bF (i+1) vs hs else bF (i+1) vs hs)
  rw[hv]
 | i,a::vs,b::hs,j+1,e1=>by
  show (if dJ a b=true then i::bF (i+1) (vs.set j v') hs else bF (i+1) (vs.set j v') hs)=(if dJ a b=true then i::bF (i+1) vs hs else bF (i+1) vs hs)
  rw[tips_set v v' hv (i+1) vs hs j (by simpa using e1)]
theorem doors_set (v v':Vs) (vs:List Vs) (j:Nat) (e:vs[j]? = some v) (ha:v'.acts=v.acts):∀ (tip:List Nat) (ds:List Bool),bI (vs.set j v') ds tip=bI vs ds tip
 | [],_=>rfl
 | i::tip,ds=>by
  have ih:=doors_set v v' vs j e ha tip
  have ee:(match (vs.set j v')[i]? with | some v=>cF ds v.acts | none=>ds)=(match vs[i]? with | some v=>cF ds v.acts | none=>ds):=by
   by_cases h:j=i
   ·subst h
    rw[List.getElem?_set_self (List.getElem?_eq_some_iff.mp e).1,e]
    show cF ds v'.acts=cF ds v.acts
    rw[ha]
   ·rw[List.getElem?_set_ne h]
  show bI (vs.set j v') (match (vs.set j v')[i]? with | some v=>cF ds v.acts | none=>ds) tip=bI vs (match vs[i]? with | some v=>cF ds v.acts | none=>ds) tip
  rw[ee];exact ih _
theorem range_bump (N n:Nat) (f:Nat→Int) (g:Int) (hn:n < N):((List.range N).map fun k=>f k+if (k:Int)=(n:Int) then g else 0)=((List.range N).map f).set n (((List.range N).map f).getD n 0+g):=by
 apply List.ext_getElem
 ·simp
 ·intro i h1 h2
  have hi:i < N:=by simpa using h1
  rw[List.getElem_map,List.getElem_range,List.getElem_set]
  by_cases e:n=i
  ·subst e
   rw[if_pos rfl,if_pos rfl,List.getD_eq_getElem?_getD,List.getElem?_map,List.getElem?_range hn];rfl
  ·rw[if_neg e,if_neg (by omega),List.getElem_map,List.getElem_range,Int.add_zero]
theorem later_len (n:Nat) (gs:List (Option Int×Int)):(dA n gs).length=n:=by unfold dA;simp
theorem tick_led {A B:Net} (ha:NetOk A) (hb:NetOk B) {j:Nat} (hj:j < A.vs.length) {h1 c1 p1 h2 c2 p2:List Int}{d1 d2:List Bool} (s1:StOk A h1 c1 d1) (l1:p1.length=A.vs.length) (s2:StOk B h2 c2 d2) (l2:p2.length=B.vs.length) :
  (bC (ledN A j B) (h1++h2) (c1++c2) (p1++p2) (d1++d2)).held=(bC A h1 c1 p1 d1).held++(bC B h2 c2 p2 d2).held∧
  (bC (ledN A j B) (h1++h2) (c1++c2) (p1++p2) (d1++d2)).coming=(bC A h1 c1 p1 d1).coming++addH (bC B h2 c2 p2 d2).coming (gBy (A.vs.getD j vNil) ((aZ A h1 c1 p1 d1).getD j 0))∧
  (bC (ledN A j B) (h1++h2) (c1++c2) (p1++p2) (d1++d2)).doors=(bC A h1 c1 p1 d1).doors++(bC B h2 c2 p2 d2).doors∧
  (bC (ledN A j B) (h1++h2) (c1++c2) (p1++p2) (d1++d2)).tip=(bC A h1 c1 p1 d1).tip++(bC B h2 c2 p2 d2).tip.map (A.vs.length + ·):=by
 obtain⟨k1,k2,k3,k4,_⟩:=tick_beside ha hb s1 l1 s2 l2
 have hs:=has_beside ha hb s1 l1 s2 l2
 have eh:aZ (ledN A j B) (h1++h2) (c1++c2) (p1++p2) (d1++d2)=aZ (aR A B) (h1++h2) (c1++c2) (p1++p2) (d1++d2):=rfl
 have lA:(aZ A h1 c1 p1 d1).length=A.vs.length:=by unfold aZ;rw[dQ,eK s1.h s1.c l1]
 have hat:=bes_at (B:=B) hj
 have ev:=ledN_set (A:=A) (B:=B) (j:=j) hj
 have hha:(aZ (aR A B) (h1++h2) (c1++c2) (p1++p2) (d1++d2))[j]? = some ((aZ A h1 c1 p1 d1).getD j 0):=by
  rw[hs,List.getElem?_append_left (by omega),List.getD_eq_getElem?_getD,List.getElem?_eq_getElem (by omega)];rfl
 have el:(ledN A j B).vs.length=(aR A B).vs.length:=by rw[ev,List.length_set]
 have et:bF 0 (ledN A j B).vs (aZ (ledN A j B) (h1++h2) (c1++c2) (p1++p2) (d1++d2))=bF 0 (aR A B).vs (aZ (aR A B) (h1++h2) (c1++c2) (p1++p2) (d1++d2)):=by
  rw[eh,ev];exact tips_set (A.vs.getD j vNil) (ledV A.vs.length (A.vs.getD j vNil)) (fun h=>rfl) _ _ _ _ hat
 refine⟨?_,?_,?_,?_⟩
 ·rw[← k1]
  show bW (ledN A j B).vs _=bW (aR A B).vs _
  rw[eh,ev]
  refine stays_set (A.vs.getD j vNil) (ledV A.vs.length (A.vs.getD j vNil)) (fun h=>?_) _ _ _ hat
  unfold dY
  show (if dJ _ h=true then (if _=true then bL _ h % whole (List.map _ _) else 0) else bL _ h)=_
  rw[whole_led];rfl
 ·have hbl:0 < B.vs.length:=hb.lo
  have e2:(bC (ledN A j B) (h1++h2) (c1++c2) (p1++p2) (d1++d2)).coming=((bC (aR A B) (h1++h2) (c1++c2) (p1++p2) (d1++d2)).coming).set A.vs.length ((bC (aR A B) (h1++h2) (c1++c2) (p1++p2) (d1++d2)).coming.getD A.vs.length 0+gBy (A.vs.getD j vNil) ((aZ A h1 c1 p1 d1).getD j 0)):=by
   show dA (ledN A j B).vs.length (bP (ledN A j B).vs _)=(dA (aR A B).vs.length (bP (aR A B).vs _)).set _ ((dA (aR A B).vs.length (bP (aR A B).vs _)).getD _ 0+_)
   rw[el,eh,ev]
   unfold dA
   rw[← range_bump (aR A B).vs.length A.vs.length _ _ (by rw[beside_len];omega)]
   refine List.map_congr_left fun k _=>?_
   have:=goes_set (some (k:Int)) _ (ledV A.vs.length (A.vs.getD j vNil)) _ (aR A B).vs _ j hat hha
   rw[led_goes] at this
   omega
  rw[e2,k2]
  have lc:(bC A h1 c1 p1 d1).coming.length=A.vs.length:=later_len _ _
  rw[List.set_append_right _ _ (by omega),lc,Nat.sub_self,List.getD_eq_getElem?_getD,List.getElem?_append_right (by omega),lc,Nat.sub_self,← List.getD_eq_getElem?_getD];rfl
 ·rw[← k3]
  show bI (ledN A j B).vs _ (bF 0 (ledN A j B).vs _)=bI (aR A B).vs _ (bF 0 (aR A B).vs _)
  rw[et,ev]
  exact doors_set (A.vs.getD j vNil) (ledV A.vs.length (A.vs.getD j vNil)) _ _ hat rfl _ _
 ·rw[← k4];exact et
theorem add3_addH (h:List Int):∀ (c p:List Int) (x:Int),c.length=p.length→dR h (addH c x) p=dR h c (addH p x)
 | [],[],x,_=>rfl
 | a::c,b::p,x,_=>by
  cases h with
  | nil=>rfl
  | cons y h=>
   show (y+(a+x)+b)::dR h c p=(y+a+(b+x))::dR h c p
   congr 1;omega
 | [],_::_,_,h=>by simp at h
 | _::_,[],_,h=>by simp at h
theorem addH_len (l:List Int) (x:Int):(addH l x).length=l.length:=by unfold addH;rw[List.length_set]
theorem addH_zero (l:List Int):addH l 0=l:=by
 cases l with
 | nil=>rfl
 | cons a l=>show (a+0)::l=a::l;rw[Int.add_zero]
theorem tick_pour (net:Net) (h c p:List Int) (d:List Bool) (x:Int) (e:c.length=p.length):bC net h c (addH p x) d=bC net h (addH c x) p d:=by
 have:aZ net h c (addH p x) d=aZ net h (addH c x) p d:=by unfold aZ;rw[add3_addH h c p x e]
 unfold bC
 rw[this]
structure LedS (A B:Net) (j:Nat) (led:Bool) (S0 S1 S2:RunS) (more:Int):Prop where
 n0:S0.net=A
 n1:S1.net=B
 n2:S2.net=if led=true then ledN A j B else aR A B
 ok0:RunOk S0
 ok1:RunOk S1
 held:S2.cur.held=S0.cur.held++S1.cur.held
 coming:S2.cur.coming=S0.cur.coming++addH S1.cur.coming more
 doors:S2.cur.doors=S0.cur.doors++S1.cur.doors
 poured:S2.cur.poured=S0.cur.poured++S1.cur.poured
 t0:S0.cur.tick=S2.cur.tick
 t1:S1.cur.tick=S2.cur.tick
 tips:S2.tips=S0.tips++S1.tips
noncomputable def cW (A B:Net) (j:Nat) (led:Bool):Net:=if led=true then ledN A j B else aR A B
theorem ledN_len {A B:Net}{j:Nat} (hj:j < A.vs.length):(ledN A j B).vs.length=A.vs.length+B.vs.length:=by rw[ledN_set hj,List.length_set,beside_len]
theorem dX {A B:Net}{j:Nat} (led:Bool) (hj:j < A.vs.length):(cW A B j led).vs.length=A.vs.length+B.vs.length:=by
 unfold cW
 cases led
 ·exact beside_len A B
 ·exact ledN_len hj
theorem wholeN_sps {A B:Net}{j:Nat} (led:Bool):(cW A B j led).sps=(aR A B).sps:=by unfold cW;cases led <;> rfl
theorem led0 {A B:Net}{j:Nat} (led:Bool) (ha:NetOk A) (hb:NetOk B) (hj:j < A.vs.length):LedS A B j led (run0 A) (run0 B) (run0 (cW A B j led)) 0 where
 n0:=rfl
 n1:=rfl
 n2:=rfl
 ok0:=run0_ok ha
 ok1:=run0_ok hb
 held:=by show bZ (cW A B j led).vs.length=bZ _++bZ _;rw[dX led hj,zeros_app]
 coming:=by rw[addH_zero];show bZ (cW A B j led).vs.length=bZ _++bZ _;rw[dX led hj,zeros_app]
 doors:=by show (cW A B j led).sps.map _=A.sps.map _++B.sps.map _;rw[wholeN_sps];show (A.sps++B.sps.map (shS A.vs.length)).map _=A.sps.map _++B.sps.map _;rw[List.map_append,List.map_map];rfl
 poured:=by show bZ (cW A B j led).vs.length=bZ _++bZ _;rw[dX led hj,zeros_app]
 t0:=rfl
 t1:=rfl
 tips:=by show List.replicate (cW A B j led).vs.length []=List.replicate _ []++List.replicate _ [];rw[dX led hj,List.replicate_append_replicate]
variable {A B:Net}{j:Nat}{led:Bool}{S0 S1 S2:RunS}{more:Int}
theorem LedS.pourL (h:LedS A B j led S0 S1 S2 more) (v a:Int) (v0:0≤v) (v1:v < A.vs.length):LedS A B j led (S0.pour v a) S1 (S2.pour v a) more:=by
 have hp:(S2.pour v a).cur.poured=(S0.pour v a).cur.poured++S1.cur.poured:=by
   have l0:S0.cur.poured.length=A.vs.length:=by have:=h.ok0.cur.pl;rw[h.n0] at this;exact this
   show S2.cur.poured.set v.toNat (S2.cur.poured.getD v.toNat 0+a)=S0.cur.poured.set v.toNat (S0.cur.poured.getD v.toNat 0+a)++S1.cur.poured
   rw[h.poured,List.set_append_left _ _ (by omega),List.getD_eq_getElem?_getD,List.getElem?_append_left (by omega),← List.getD_eq_getElem?_getD]
 exact { h with ok0:=h.ok0.pour v a,poured:=hp }
theorem LedS.pourR (h:LedS A B j led S0 S1 S2 more) (v a:Int) (v0:0≤v):LedS A B j led S0 (S1.pour v a) (S2.pour (v+A.vs.length) a) more:=by
 have hp:(S2.pour (v+A.vs.length) a).cur.poured=S0.cur.poured++(S1.pour v a).cur.poured:=by
   have l0:S0.cur.poured.length=A.vs.length:=by have:=h.ok0.cur.pl;rw[h.n0] at this;exact this
   have e:(v+A.vs.length).toNat=S0.cur.poured.length+v.toNat:=by omega
   show S2.cur.poured.set (v+A.vs.length).toNat (S2.cur.poured.getD (v+A.vs.length).toNat 0+a)=S0.cur.poured++S1.cur.poured.set v.toNat (S1.cur.poured.getD v.toNat 0+a)
   rw[h.poured,e,List.set_append_right _ _ (by omega),Nat.add_sub_cancel_left,List.getD_eq_getElem?_getD,List.getElem?_append_right (by omega),Nat.add_sub_cancel_left,← List.getD_eq_getElem?_getD]
 exact { h with ok1:=h.ok1.pour _ a,poured:=hp }
noncomputable def onWay (A:Net) (j:Nat) (led:Bool) (S0:RunS):Int:=if led=true then gBy (A.vs.getD j vNil) ((aZ A S0.cur.held S0.cur.coming S0.cur.poured S0.cur.doors).getD j 0) else 0
theorem LedS.go (ha:NetOk A) (hb:NetOk B) (hj:j < A.vs.length) (h:LedS A B j led S0 S1 S2 more):LedS A B j led (S0.go 1) ((S1.pour 0 more).go 1) (S2.go 1) (onWay A j led S0):=by
 have o0:=h.ok0.cur
 have o1:=h.ok1.cur
 rw[h.n0] at o0
 rw[h.n1] at o1
 have e2:S2.cur.tk S2.net=bC (cW A B j led) (S0.cur.held++S1.cur.held) (S0.cur.coming++addH S1.cur.coming more) (S0.cur.poured++S1.cur.poured) (S0.cur.doors++S1.cur.doors):=by
  unfold Mom.tk;rw[h.n2,h.held,h.coming,h.poured,h.doors];rfl
 have e0:S0.cur.tk S0.net=bC A S0.cur.held S0.cur.coming S0.cur.poured S0.cur.doors:=by unfold Mom.tk;rw[h.n0]
 have e1:(S1.pour 0 more).cur.tk (S1.pour 0 more).net=bC B S1.cur.held (addH S1.cur.coming more) S1.cur.poured S1.cur.doors:=by
  have c:S1.cur.coming.length=S1.cur.poured.length:=by rw[o1.st.c,o1.pl]
  rw[← tick_pour B _ _ _ _ more c]
  show bC S1.net S1.cur.held S1.cur.coming (S1.cur.poured.set (0:Int).toNat (S1.cur.poured.getD (0:Int).toNat 0+more)) S1.cur.doors=_
  rw[h.n1];rfl
 have s1':StOk B S1.cur.held (addH S1.cur.coming more) S1.cur.doors:=⟨o1.st.h,by rw[addH_len];exact o1.st.c,o1.st.d⟩
 obtain⟨k1,k2,k3,k4⟩:(bC (cW A B j led) (S0.cur.held++S1.cur.held) (S0.cur.coming++addH S1.cur.coming more) (S0.cur.poured++S1.cur.poured) (S0.cur.doors++S1.cur.doors)).held=(bC A S0.cur.held S0.cur.coming S0.cur.poured S0.cur.doors).held++(bC B S1.cur.held (addH S1.cur.coming more) S1.cur.poured S1.cur.doors).held∧
  (bC (cW A B j led) (S0.cur.held++S1.cur.held) (S0.cur.coming++addH S1.cur.coming more) (S0.cur.poured++S1.cur.poured) (S0.cur.doors++S1.cur.doors)).coming=(bC A S0.cur.held S0.cur.coming S0.cur.poured S0.cur.doors).coming++addH (bC B S1.cur.held (addH S1.cur.coming more) S1.cur.poured S1.cur.doors).coming (onWay A j led S0)∧
  (bC (cW A B j led) (S0.cur.held++S1.cur.held) (S0.cur.coming++addH S1.cur.coming more) (S0.cur.poured++S1.cur.poured) (S0.cur.doors++S1.cur.doors)).doors=(bC A S0.cur.held S0.cur.coming S0.cur.poured S0.cur.doors).doors++(bC B S1.cur.held (addH S1.cur.coming more) S1.cur.poured S1.cur.doors).doors∧
  (bC (cW A B j led) (S0.cur.held++S1.cur.held) (S0.cur.coming++addH S1.cur.coming more) (S0.cur.poured++S1.cur.poured) (S0.cur.doors++S1.cur.doors)).tip=(bC A S0.cur.held S0.cur.coming S0.cur.poured S0.cur.doors).tip++(bC B S1.cur.held (addH S1.cur.coming more) S1.cur.poured S1.cur.doors).tip.map (A.vs.length + ·):=by
  cases led with
  | true=>exact tick_led ha hb hj o0.st o0.pl s1' o1.pl
  | false=>
   obtain⟨k1,k2,k3,k4,_⟩:=tick_beside ha hb o0.st o0.pl s1' o1.pl
   refine⟨k1,?_,k3,k4⟩
   show _=_++addH _ 0
   rw[addH_zero];exact k2
 have lt0:S0.tips.length=A.vs.length:=by rw[h.ok0.tl,h.n0]
 refine { n0:=h.n0,n1:=h.n1,n2:=h.n2,ok0:=h.ok0.go 1,ok1:=(h.ok1.pour 0 more).go 1,held:=?_,coming:=?_,doors:=?_,poured:=?_,t0:=?_,t1:=?_,tips:=?_ }
 ·show (S2.cur.tk S2.net).held=(S0.cur.tk S0.net).held++((S1.pour 0 more).cur.tk (S1.pour 0 more).net).held
  rw[e0,e1,e2,k1]
 ·show (S2.cur.tk S2.net).coming=(S0.cur.tk S0.net).coming++addH ((S1.pour 0 more).cur.tk (S1.pour 0 more).net).coming _
  rw[e0,e1,e2,k2]
 ·show (S2.cur.tk S2.net).doors=(S0.cur.tk S0.net).doors++((S1.pour 0 more).cur.tk (S1.pour 0 more).net).doors
  rw[e0,e1,e2,k3]
 ·show bZ S2.net.vs.length=bZ S0.net.vs.length++bZ S1.net.vs.length
  rw[h.n0,h.n1,h.n2]
  show bZ (cW A B j led).vs.length=_
  rw[dX led hj,zeros_app]
 ·show S0.cur.tick+1=S2.cur.tick+1
  rw[h.t0]
 ·show S1.cur.tick+1=S2.cur.tick+1
  rw[h.t1]
 ·show ([]++eO S2.net S2.cur).foldl addTip S2.tips=([]++eO S0.net S0.cur).foldl addTip S0.tips++([]++eO (S1.pour 0 more).net (S1.pour 0 more).cur).foldl addTip S1.tips
  rw[List.nil_append,List.nil_append,List.nil_append]
  have et2:eO S2.net S2.cur=eO S0.net S0.cur++(((S1.pour 0 more).cur.tk (S1.pour 0 more).net).tip.map fun k=>(S2.cur.tick,S0.tips.length+k)):=by
   unfold eO
   rw[e2,k4,List.map_append,e0,e1,h.t0,List.map_map,lt0];rfl
  have et1:eO (S1.pour 0 more).net (S1.pour 0 more).cur=((S1.pour 0 more).cur.tk (S1.pour 0 more).net).tip.map fun k=>(S2.cur.tick,k):=by
   unfold eO
   show List.map (fun k=>(S1.cur.tick,k)) _=_
   rw[h.t1]
  rw[et2,List.foldl_append,h.tips,addTips_left S1.tips (eO S0.net S0.cur) S0.tips fun p hp=>?_]
  ·have ll:((eO S0.net S0.cur).foldl addTip S0.tips).length=S0.tips.length:=addTips_len _ _
   rw[et1]
   have:=addTips_right ((eO S0.net S0.cur).foldl addTip S0.tips) S2.cur.tick ((S1.pour 0 more).cur.tk (S1.pour 0 more).net).tip S1.tips
   rw[ll] at this
   exact this
  ·obtain⟨k,hk,rfl⟩:=List.mem_map.1 hp
   have:=tk_lt hk
   rw[lt0,← h.n0];exact this
end Tw
namespace Tw
open PySem L2
end Tw
namespace Tw
open PySem L2
section
variable {K:PySem.W.Frag}{C:Addr}{σ:St}{H:Hp}{Q:VK}{t sl r rl na nb:Addr}{S:RunS}{fp:List Addr}{i j l:Nat}{n m v x:Int}{xs ys:List V}{u:V}
theorem x_drawC (h:σ[i]? = some (some (.ref t))) (tp:dW H t sl) (h1:0 < n) (h2:n < 1000000) (k:∀ (r:Int) H',cK t H H'→dW H' t sl→0≤r→r < n→Q (.int r) H'):tCall spDraw [] E0 (dS (cZ i) (dS (tC (.int n)) tNil)) σ H Q:=
 ⟨_,h,t,sl,n,rfl,tp,h1,h2,k⟩
theorem x_ixL (h:σ[i]? = some (some (.ref na))) (q:H na=some (.lst xs)) (e:atI xs m=some u) (k:Q u H):tOp (rIx K) (cZ i) (tC (.int m)) σ H Q:=⟨_,h,.inl ⟨na,xs,m,u,rfl,rfl,bY.of q,e,k⟩⟩
theorem m_tell {f:Str}{φ:RunS→V→Hp→Prop} (h:σ[i]? = some (some (.ref rl))) (hl:H rl=some (.lst xs)) (e:atI xs n=some (.ref r)) (lk:∀ np R M T,(flds np R M T).lookup f=none) (ra:bX K C H r S fp) (k:∀ v,φ S v H→Q v H) :
  tMeth C f (spTell K C φ) [] E0 (tOp (rIx K) (cZ i) (tC (.int n))) tNil σ H Q:=by
 obtain⟨dx,np,R,M,T,ei⟩:=ra.ins
 exact x_ixL h hl e ⟨r,dx,_,rfl,ei,lk np R M T,r,S,fp,rfl,ra,k⟩
theorem m_tellV {f:Str}{φ:RunS→V→Hp→Prop} (h:σ[i]? = some (some (.ref r))) (lk:∀ np R M T,(flds np R M T).lookup f=none) (ra:bX K C H r S fp) (k:∀ v,φ S v H→Q v H):tMeth C f (spTell K C φ) [] E0 (cZ i) tNil σ H Q:=by
 obtain⟨dx,np,R,M,T,ei⟩:=ra.ins
 exact⟨_,h,r,dx,_,rfl,ei,lk np R M T,r,S,fp,rfl,ra,k⟩
theorem m_goV {B:Nat} (h:σ[i]? = some (some (.ref r))) (ra:bX K C H r S fp) (sz:RunSz S B) (hB:B≤1000000) (k:∀ H',ButL fp H H'→bX K C H' r (S.go 1) fp→Q .non H'):tMeth C "go" (spGo K C) [] E0 (cZ i) (dS (tC (.int 1)) tNil) σ H Q:=by
 obtain⟨dx,np,R,M,T,ei⟩:=ra.ins
 exact⟨_,h,r,dx,_,rfl,ei,lk_m "go" rfl,r,S,fp,1,B,rfl,ra,sz,hB,by decide,k⟩
noncomputable def spTips (K:PySem.W.Frag) (C:Addr):Sp:=fun vs H Q _=>∃ (r:Addr) (S:RunS) (fp:List Addr) (v:Int) (l:List Int),vs=[.ref r,.int v]∧bX K C H r S fp∧0≤v∧v < S.net.vs.length∧S.tips[v.toNat]? = some l∧
 ∀ p,H p=none→Q (.ref p) (upd H p (.lst (l.map V.int)))
theorem m_tipsI {tl:List Int} (h:σ[i]? = some (some (.ref rl))) (hj:σ[j]? = some (some (.int v))) (hl:H rl=some (.lst xs)) (e:atI xs n=some (.ref r)) (ra:bX K C H r S fp) (v0:0≤v) (v1:v < S.net.vs.length) (ht:S.tips[v.toNat]? = some tl)
  (k:∀ p,H p=none→Q (.ref p) (upd H p (.lst (tl.map V.int)))):tMeth C "tips" (spTips K C) [] E0 (tOp (rIx K) (cZ i) (tC (.int n))) (dS (cZ j) tNil) σ H Q:=by
 obtain⟨dx,np,R,M,T,ei⟩:=ra.ins
 exact x_ixL h hl e ⟨r,dx,_,rfl,ei,lk_m "tips" rfl,_,hj,r,S,fp,v,tl,rfl,ra,v0,v1,ht,k⟩
end
end Tw
namespace L2
open PySem PySem.Spec PyProof.Rows TwZ
section
variable {X:Cx}
end
end L2
namespace Tw
open PySem L2
section
variable {K:PySem.W.Frag}{H:Hp}
end
section
variable {P:Program}{w:World}{K:PySem.W.Frag}{mg:Str→Option Value}{base:Heap}{C:Addr}
theorem sc_tips:FnScope ["self","vessel"] ["self","vessel"] (aJ (bQ (aX 48) 6)):=⟨rfl,rfl,rfl,by decide +kernel,rfl,by decide +kernel,by decide +kernel⟩
theorem ok_tips {f f1:Addr}{fd fd1:FuncData} (F:Fun K "tips" "Run.tips" (bQ (aX 48) 6) f fd) (T:Txt mg) (tx:RunTx K C) (G_need_vessel:Callee P w K mg base "need_vessel" ["net","number"] 2 (spNeed K) f1 fd1) :
  FnOk P w K mg base CX0 3 f fd ["self","vessel"] (spTips K C):=by
 refine F.ok sc_tips (fun vs H Q E h=>?_) (fun cdv A outer s H vs Q E hr h=>?_)
 ·obtain⟨r,S,fp,v,l,rfl,_⟩:=h;rfl
 ·obtain⟨r,S,fp,v,l,rfl,⟨dx,np,R,M,T',ts,rs,ms,mv,c,rfl⟩,v0,v1,hl,k⟩:=h
  have sc:=sc_tips
  refine⟨_,(aE (cL (d7 G_need_vessel hr (aA (eL (K:=K) rfl (pv 0) rfl) (aA (pv 1) aB))))
   (aM (bG (bD (call_lstK (K:=K) rfl) rfl T.b_list bt_list (aA (aP (aL (K:=K) rfl) (eL (K:=K) rfl (pv 0) rfl) (pv 1) (fun _ _=>rfl)) aB))))),?_⟩
  have hlt:v.toNat < ts.length:=by rw[c.tl];exact (List.getElem?_eq_some_iff.mp hl).1
  have htt:ts[v.toNat]? = some ts[v.toNat]:=by simp [hlt]
  have hti:=c.ti _ _ _ htt hl
  refine⟨_,rfl,r,C,dx,_,_,rfl,c.ins,tx.cls,tx.net,lk_net,_,rfl,np,S.net,v,rfl,c.net,v0,v1,?_⟩
  exact⟨_,rfl,r,C,dx,_,_,rfl,c.ins,tx.cls,tx.tips,lk_tips,_,rfl,.inl ⟨T',_,v,.ref ts[v.toNat],rfl,rfl,bY.of c.hT,atI_int v0 (by rw[List.getElem?_map,htt];rfl),ts[v.toNat],_,rfl,.inl (bY.of hti),fun p hp=>k p hp⟩⟩
end
end Tw
namespace Tw
open PySem L2
section
variable {P:Program}{w:World}{K:PySem.W.Frag}{mg:Str→Option Value}{base:Heap}{C:Addr}
end
end Tw
namespace Tw
open PySem L2
theorem depth_ints06:∀ l:List Int,eI (l.map L2.D.int)=0
 | []=>by rw[List.map_nil,eI]
 | t::l=>by rw[List.map_cons,eI,depth_int,depth_ints06 l];rfl
section
variable {K:PySem.W.Frag}{C:Addr}{H:Hp}
theorem butL_ts06 {H':Hp}{fq:List Addr} (s:ButL fq H H') (hm:∀ b∈fq,Mut (H b)):bU K H H':=by
 intro b xs h
 have ne:∀ {o:HO},H b=some o→¬ Mut (some o)→b∉fq:=fun e n z=>by have:=hm b z;rw[e] at this;exact n this
 rcases h with (h | ⟨o,h⟩) | h
 ·exact .inl (.inl (s _ _ (ne h (fun z=>z)) h))
 ·exact .inl (.inr ⟨o,s _ _ (ne h (fun z=>z)) h⟩)
 ·exact .inr h
theorem bX.r_out {r r':Addr}{S S':RunS}{fp fp':List Addr} (c:bX K C H r S fp) (c':bX K C H r' S' fp'):r∉fp':=fun z=>by
 obtain⟨xs,e⟩:=c'.lists r z
 obtain⟨dx,np,R,M,T,ei⟩:=c.ins
 rw[ei] at e;cases e
structure L6 (K:PySem.W.Frag) (C:Addr) (H:Hp) (t sl rl r0 r1 r2:Addr) (fp0 fp1 fp2:List Addr) (vb:Addr) (zs:List V) (po:V) (B:Net) (S0 S1 S2:RunS):Prop where
 tp:dW H t sl
 rs:H rl=some (.lst [.ref r0,.ref r1,.ref r2])
 a0:bX K C H r0 S0 fp0
 a1:bX K C H r1 S1 fp1
 a2:bX K C H r2 S2 fp2
 n0:t∉fp0∧sl∉fp0∧rl∉fp0
 n1:t∉fp1∧sl∉fp1∧rl∉fp1
 n2:t∉fp2∧sl∉fp2∧rl∉fp2
 rt:rl≠t
 d01:∀ b∈fp0,b∉fp1
 d02:∀ b∈fp0,b∉fp2
 d12:∀ b∈fp1,b∉fp2
 hv:bR K H vb zs
 ho:Is K H (dU B) po
variable {t sl rl r0 r1 r2 vb:Addr}{fp0 fp1 fp2:List Addr}{zs:List V}{po:V}{B:Net}{S0 S1 S2:RunS}
theorem L6.tr {r:Addr}{S:RunS}{fp:List Addr} (tp:dW H t sl) (c:bX K C H r S fp):t≠r:=by
 obtain⟨dx,np,R,M,T,e⟩:=c.ins
 obtain⟨ns,pos,cell,e2,_⟩:=tp
 exact fun z=>by rw[z,e] at e2;cases e2
theorem RunSz.up06 {S:RunS}{a b:Nat} (h:RunSz S a) (hb:a≤b):RunSz S b:=⟨Nat.le_trans h.rows hb,Nat.le_trans h.pre hb,fun l hl=>Nat.le_trans (h.tips l hl) hb⟩
end
end Tw
namespace Tw
open PySem L2
noncomputable def gnd (q:Int) (outs:List (Option Int×Int)):List Int:=(outs.filter fun o=>o.1.isNone).map fun o=>q * o.2
theorem gnd_sum (q:Int):∀ outs:List (Option Int×Int),(gnd q outs).sum=bB none (outs.map fun o=>(o.1,q * o.2))
 | []=>rfl
 | o::outs=>by
  have ih:=gnd_sum q outs
  show (gnd q (o::outs)).sum=(if o.1=none then q * o.2 else 0)+bB none (outs.map fun o=>(o.1,q * o.2))
  unfold gnd at ih ⊢
  cases h:o.1 with
  | none=>rw[List.filter_cons_of_pos (by rw[h];rfl),List.map_cons,List.sum_cons,ih];simp
  | some t=>rw[List.filter_cons_of_neg (by rw[h];simp),ih];simp
section
variable {P:Program}{w:World}{K:PySem.W.Frag}{mg:Str→Option Value}{base:Heap}{C:Addr}
noncomputable def spGBy (K:PySem.W.Frag):Sp:=fun vs H Q _=>∃ (x y:V) (z:Addr) (net:Net) (held coming poured:List Int) (doors:List Bool) (j:Nat),vs=[x,y,.ref z,.int (j:Int)]∧Is K H (dU net) x∧Is K H (stD held coming doors) y∧Sq2 K H z (poured.map V.int)∧
 NetOk net∧StOk net held coming doors∧poured.length=net.vs.length∧j < net.vs.length∧∀ H',aK H H'→Q (.int (gBy (net.vs.getD j vNil) ((aZ net held coming poured doors).getD j 0))) H'
theorem sc__law_grounded_by:FnScope ["net","state","poured","vessel","has","outs","whole"] ["net","state","poured","vessel"] (aJ (aX 56)):=⟨rfl,rfl,rfl,by decide +kernel,rfl,by decide +kernel,by decide +kernel⟩
theorem ok__law_grounded_by {f f1:Addr}{fd fd1:FuncData} (F:Fun K "_law_grounded_by" "_law_grounded_by" (aX 56) f fd) (T:Txt mg) (G__law_filled:Callee P w K mg base "_law_filled" ["net","state","poured"] 1 (spFilledL K) f1 fd1) :
  FnOk P w K mg base CX0 2 f fd ["net","state","poured","vessel"] (spGBy K):=by
 refine F.ok sc__law_grounded_by (fun vs H Q E h=>?_) (fun cdv A outer s H vs Q E hr h=>?_)
 ·obtain⟨x,y,z,net,held,coming,poured,doors,j,rfl,_⟩:=h;rfl
 ·obtain⟨x,y,z,net,held,coming,poured,doors,j,rfl,hx,hy,qz,nok,sok,hpl,hj,k⟩:=h
  have sc:=sc__law_grounded_by
  refine⟨_,(aE (bE (i:=4) sc.nd rfl (Or.inr rfl) (aS (call_min2 rfl) rfl T.b_min PyProof.Rows.boot_min (aA (aP (aL (K:=K) rfl) (d7 G__law_filled hr (aA (pv 0) (aA (pv 1) (aA (pv 2) aB)))) (pv 3) (fun _ _=>rfl)) (aA (aP (aL (K:=K) rfl) (aP (aL (K:=K) rfl) (aP (aL (K:=K) rfl) (pv 0) aH (fun _ _=>rfl)) (pv 3) (fun _ _=>rfl)) aH (fun _ _=>rfl)) aB))))
   (aE (bE (i:=5) sc.nd rfl (Or.inl rfl) (aP (aL (K:=K) rfl) (aP (aL (K:=K) rfl) (aP (aL (K:=K) rfl) (pv 0) aH (fun _ _=>rfl)) (pv 3) (fun _ _=>rfl)) aH (fun _ _=>rfl)))
   (aE (dC (cX op_lt (pv 4) (aP (aL (K:=K) rfl) (aP (aL (K:=K) rfl) (aP (aL (K:=K) rfl) (pv 0) aH (fun _ _=>rfl)) (pv 3) (fun _ _=>rfl)) aH (fun _ _=>rfl)) (cQ _)) (aM (bG aH)) bV)
   (aE (bE (i:=6) sc.nd rfl (Or.inr rfl) (aS (call_sumK (K:=K) rfl rfl) rfl T.b_sum PyProof.Rows.boot_sum (aA (pe_lc (fun _ _ h=>h) rfl (LcOk.mk (N':=["target","parts"]) (fr:=[none,none]) rfl trivial rfl rfl rfl rfl rfl trivial) (d8 (K:=K) rfl (pv 5)) (fun _ _ _=>(aW (K:=K) (n:=2) rfl rfl (aG (aF (i:=0) (show (["target","parts"]:List Str).Nodup by decide +kernel) rfl (Or.inl rfl) (Or.inr rfl)) (aG (aF (i:=1) (show (["target","parts"]:List Str).Nodup by decide +kernel) rfl (Or.inl rfl) (Or.inr rfl)) aV)))) (fun _ _ _=>cP) (fun _ _ _=>(pv 1))) aB)))
   (aM (bG (aS (call_sumK (K:=K) rfl rfl) rfl T.b_sum PyProof.Rows.boot_sum (aA (pe_lc (fun _ _ h=>h) rfl (LcOk.mk (N':=["target","parts","has","whole"]) (fr:=[none,none,some 4,some 6]) rfl ⟨rfl,rfl,trivial⟩ rfl rfl rfl rfl rfl ⟨⟨_,rfl,rfl,rfl,rfl⟩,⟨_,rfl,rfl,rfl,rfl⟩,trivial⟩) (d8 (K:=K) rfl (pv 5)) (fun _ _ _=>(aW (K:=K) (n:=2) rfl rfl (aG (aF (i:=0) (show (["target","parts","has","whole"]:List Str).Nodup by decide +kernel) rfl (Or.inl rfl) (Or.inr rfl)) (aG (aF (i:=1) (show (["target","parts","has","whole"]:List Str).Nodup by decide +kernel) rfl (Or.inl rfl) (Or.inr rfl)) aV)))) (fun _ _ _=>pif_one (cX op_isN (pv 0) pe_non (cQ _))) (fun _ _ _=>(aY op_mul (aY op_fdiv (pv 2) (pv 3)) (pv 1)))) aB)))))))),?_⟩
  obtain⟨a,b,c,xs,ys,rfl,q,q1,l1,q2,l2⟩:=dM hx
  have hsl:(aZ net held coming poured doors).length=net.vs.length:=by
   unfold aZ;rw[dQ,eK sok.h sok.c hpl]
  have hv:net.vs[j]? = some net.vs[j]:=by simp [hj]
  have vok:=nok.vs net.vs[j] (List.getElem_mem hj)
  have egd:net.vs.getD j vNil=net.vs[j]:=by rw[List.getD_eq_getElem?_getD,hv];rfl
  have hhi:(aZ net held coming poured doors)[j]? = some ((aZ net held coming poured doors).getD j 0):=by
   rw[List.getD_eq_getElem?_getD,List.getElem?_eq_getElem (by omega)];rfl
  rw[egd] at k
  generalize (aZ net held coming poured doors).getD j 0=h at hhi k
  have hhm:((aZ net held coming poured doors).map V.int)[j]? = some (.int h):=by rw[List.getElem?_map,hhi];rfl
  generalize net.vs[j]=v at hv vok k
  obtain⟨xv,hxv,ixv⟩:=l1.get (i:=j) (d:=vsD v) (by rw[List.getElem?_map,hv];rfl)
  obtain⟨va,o,cc,rfl,qv,ho,hc⟩:=vs_un ixv
  obtain⟨oa,os,rfl,qo,lo⟩:=ho.un
  have eol:os.length=v.outs.length:=by rw[lo.length,List.length_map]
  have hw1:=whole_pos vok.ne vok.outs
  have hw2:=whole_le vok.outs
  have ho3:=vok.o3
  refine⟨_,rfl,_,rfl,_,rfl,.ref a,y,z,net,held,coming,poured,doors,rfl,hx,hy,qz,nok,sok,hpl,fun hl H1 sm1 fr1 hH1=>?_⟩
  refine⟨_,rfl,.inl ⟨hl,_,(j:Int),_,rfl,rfl,bY.of hH1,cT hhm,_,rfl,.inr (.inl ⟨a,_,0,_,rfl,rfl,sm1.tup q,rfl,_,rfl,.inr (.inl ⟨b,xs,(j:Int),_,rfl,rfl,sm1.tup q1,cT hxv,.inr (.inl ⟨va,_,1,_,rfl,rfl,sm1.tup qv,rfl,_,_,rfl,?_⟩)⟩)⟩)⟩⟩
  have eh:(if v.brim < h then v.brim else h)=bL v h:=by unfold bL;split <;> omega
  rw[eh]
  refine⟨_,rfl,.inr (.inl ⟨a,_,0,_,rfl,rfl,sm1.tup q,rfl,_,rfl,.inr (.inl ⟨b,xs,(j:Int),_,rfl,rfl,sm1.tup q1,cT hxv,.inr (.inl ⟨va,_,2,_,rfl,rfl,sm1.tup qv,rfl,?_⟩)⟩)⟩)⟩
  refine⟨_,rfl,_,rfl,.inr (.inl ⟨a,_,0,_,rfl,rfl,sm1.tup q,rfl,_,rfl,.inr (.inl ⟨b,xs,(j:Int),_,rfl,rfl,sm1.tup q1,cT hxv,.inr (.inl ⟨va,_,0,_,rfl,rfl,sm1.tup qv,rfl,_,_,rfl,rfl,_,rfl,ite2 (fun hT=>?_) fun hF=>?_⟩)⟩)⟩)⟩
  ·have hT:=of_decide_eq_true hT
   have:gBy v h=0:=by
    unfold gBy
    rw[if_neg]
    intro z
    have:=of_decide_eq_true z
    omega
   rw[this] at k
   exact k _ sm1
  have hF:v.size≤bL v h:=by
   by_cases z:bL v h < v.size
   ·exact absurd (decide_eq_true z) hF
   ·omega
  have eg:gBy v h=(gnd (bL v h / whole v.outs) v.outs).sum:=by
   unfold gBy
   rw[if_pos (show dJ v h=true from decide_eq_true hF),gnd_sum];rfl
  rw[eg] at k
  refine⟨_,rfl,oa,rfl,⟨_,sm1.tup qo⟩,eT (K:=K) (a:=oa) (xs:=os) (fun D i r σ' H'=>H1 D=none∧aK H1 H'∧H' D=some (.lst r)∧r=((v.outs.take i).map (·.2)).map V.int∧∃ u1 u2,σ'=[u1,u2])
   (fun D i r σ' H' p=>p.2.1.tup (sm1.tup qo)) (fun D hD=>⟨hD,aK.new hD,aD,rfl,none,none,rfl⟩) ?_ ?_⟩
  rotate_left
  ·rintro D i y' r σ' H2 hy' ⟨hD,sm,hDl,rfl,u1,u2,rfl⟩
   obtain⟨ot,hot,ta,rfl,qt⟩:=outs_at lo hy'
   refine⟨ta,_,rfl,(sm1.trans sm).tup qt,rfl,_,_,rfl,_,_,rfl,rfl,?_⟩
   refine yes_of ⟨_,rfl,hDl,aQ (by rw[List.length_map,List.length_map,List.length_take];omega),hD,sm.put hD,aD,?_,_,_,rfl⟩
   rw[bJ hot,List.map_append,List.map_append];rfl
  rintro D r σ' H2 ⟨hD,s2,hDl,rfl,_⟩
  rw[eol,List.take_length] at hDl
  have s02:=sm1.trans s2
  refine⟨false,D,_,rfl,bY.of hDl,?_⟩
  have ew:(v.outs.map (·.2)).sum=whole v.outs:=rfl
  rw[ew]
  refine⟨_,rfl,oa,rfl,⟨_,s02.tup qo⟩,eT (K:=K) (a:=oa) (xs:=os) (fun D i r σ' H'=>H2 D=none∧aK H2 H'∧H' D=some (.lst r)∧r=(gnd (bL v h / whole v.outs) (v.outs.take i)).map V.int∧∃ u1 u2,σ'=[u1,u2,some (.int (bL v h)),some (.int (whole v.outs))])
   (fun D i r σ' H' p=>p.2.1.tup (s02.tup qo)) (fun D hD=>⟨hD,aK.new hD,aD,rfl,none,none,rfl⟩) ?_ ?_⟩
  rotate_left
  ·rintro D i y' r σ' H3 hy' ⟨hD,sm,hDl,rfl,u1,u2,rfl⟩
   obtain⟨ot,hot,ta,rfl,qt⟩:=outs_at lo hy'
   have ook:=vok.outs ot (List.mem_of_getElem? hot)
   have p1:=ook.lo
   have p2:=ook.hi
   have hll:(gnd (bL v h / whole v.outs) (v.outs.take i)).length≤3:=by
    unfold gnd
    rw[List.length_map]
    exact Nat.le_trans (List.length_filter_le _ _) (by rw[List.length_take];omega)
   refine⟨ta,_,rfl,(s02.trans sm).tup qt,rfl,_,_,rfl,_,_,rfl,rfl,?_⟩
   refine⟨_,rfl,rfl,_,rfl,?_⟩
   cases ho1:ot.1 with
   | none=>
    refine iteT ⟨_,rfl,_,rfl,_,_,rfl,rfl,⟨by omega,by omega⟩,_,rfl,_,_,rfl,rfl,.inr ⟨by omega,by omega⟩,hDl,aQ (by rw[List.length_map];omega),hD,sm.put hD,aD,?_,_,_,rfl⟩
    unfold gnd
    rw[bJ hot,List.filter_append,List.filter_cons_of_pos (by rw[ho1];rfl),List.map_append,List.map_append];rfl
   | some tt=>
    refine eJ ⟨hD,sm,hDl,?_,_,_,rfl⟩
    unfold gnd
    rw[bJ hot,List.filter_append,List.filter_cons_of_neg (by rw[ho1];simp),List.filter_nil,List.append_nil]
  rintro D3 r σ' H3 ⟨hD3,s3,hDl3,rfl,_⟩
  rw[eol,List.take_length] at hDl3
  exact⟨false,D3,_,rfl,bY.of hDl3,k _ (s02.trans s3)⟩
end
end Tw
namespace L2
open PySem PySem.Spec PyProof.Rows TwZ
section
variable {X:Cx}{pins:List (Addr×Obj)}{σ:St}{H:Hp}{s:Shared}
end
section
variable {X:Cx}{pins:List (Addr×Obj)}{σ:St}{H:Hp}{s:Shared}
end
section
variable {K:PySem.W.Frag}{H:Hp}
end
end L2
namespace Tw
open PySem L2
noncomputable def part (ps:List Int) (i:Nat):List Int:=ps.take i++bZ (ps.length - i)
theorem part_zero (ps:List Int):part ps 0=bZ ps.length:=by unfold part;rw[List.take_zero,List.nil_append,Nat.sub_zero]
theorem part_all (ps:List Int):part ps ps.length=ps:=by
 unfold part;rw[List.take_length,Nat.sub_self];show ps++[]=ps;rw[List.append_nil]
theorem part_step {ps:List Int}{i:Nat} (h:i < ps.length):(part ps i).set i ((part ps i).getD i 0+ps.getD i 0)=part ps (i+1):=by
 have e1:part ps i=ps.take i++(0::bZ (ps.length - (i+1))):=by
  unfold part
  rw[show ps.length - i=ps.length - (i+1)+1 by omega];rfl
 have lt:(ps.take i).length=i:=by rw[List.length_take];omega
 rw[e1,List.set_append_right _ _ (by omega),lt,Nat.sub_self,List.getD_eq_getElem?_getD,List.getElem?_append_right (by omega),lt,Nat.sub_self]
 show ps.take i++((0+ps.getD i 0)::bZ (ps.length - (i+1)))=_
 unfold part
 rw[bJ (show ps[i]? = some (ps.getD i 0) by rw[List.getD_eq_getElem?_getD,List.getElem?_eq_getElem h];rfl),List.append_assoc,Int.zero_add];rfl
noncomputable def bI2:Bool→Int
 | false=>0
 | true=>1
theorem atI_g {g:Bool→Addr} (b:Bool):atI [V.ref (g false),.ref (g true)] (bI2 b)=some (.ref (g b)):=by cases b <;> rfl
section
variable {K:PySem.W.Frag}{C:Addr}{H:Hp}
theorem lc_tipsG {te:TE}{σ:St}{Q:Addr→Hp→Prop}{fr:List (Option Nat)}{σ0:St}{n:Nat} (L:Nat→List Int) (hfr:frσ fr σ=none::σ0) (h12:n≤12)
  (step:∀ (i:Nat) (H2:Hp) (Q:VK),i < n→aK H H2→(∀ p,H2 p=none→Q (.ref p) (upd H2 p (.lst ((L i).map V.int))))→te (some (.int (i:Int))::σ0) H2 Q)
  (k:∀ D H' (ns:List Addr),H D=none→aK H H'→H' D=some (.lst (ns.map V.ref))→ns.length=n→(∀ (i:Nat) (t:Addr),ns[i]? = some t→H' t=some (.lst ((L i).map V.int)))→Q D H') :
  lcRest (Itr 0 n) (gName 0) tYes te fr σ H Q:=by
 refine lc_range (n:=n) (fun D i rr σ' H'=>H D=none∧aK H H'∧H' D=some (.lst rr)∧(∃ ns:List Addr,rr=ns.map V.ref∧ns.length=i∧(∀ t∈ns,t≠D)∧∀ (i:Nat) (t:Addr),ns[i]? = some t→H' t=some (.lst ((L i).map V.int)))∧∃ u,σ'=u::σ0)
  (fun D hD=>⟨hD,aK.new hD,aD,⟨[],rfl,rfl,fun t ht=>(nomatch ht),fun i t h=>by simp at h⟩,none,hfr⟩) ?_ ?_
 rotate_left
 ·rintro D i rr σ' H2 hi ⟨hD,s2,hDl,⟨ns,rfl,hns,hfr',hti⟩,u,rfl⟩
  refine d9 ?_
  refine step i H2 _ hi s2 fun nt hnt=>?_
  have s4:=aK.new (o:=HO.lst ((L i).map V.int)) hnt
  have ntD:nt≠D:=fun z=>by rw[z,hDl] at hnt;cases hnt
  refine⟨s4 _ _ hDl,aQ (by rw[List.length_map];omega),hD,(s2.trans s4).put hD,aD,⟨ns++[nt],by rw[List.map_append];rfl,by simp [hns],fun t ht=>?_,fun i' t g1=>?_⟩,_,rfl⟩
  ·rcases List.mem_append.1 ht with z | z
   ·exact hfr' t z
   ·have:t=nt:=by simpa using z
    subst this
    exact ntD
  ·have hil':=(List.getElem?_eq_some_iff.mp g1).1
   rw[List.length_append,List.length_singleton] at hil'
   by_cases e':i' < i
   ·rw[List.getElem?_append_left (by omega)] at g1
    rw[aN (hfr' t (List.mem_of_getElem? g1))]
    exact s4 _ _ (hti i' t g1)
   ·have:i'=i:=by omega
    subst this
    rw[List.getElem?_append_right (by omega)] at g1
    rw[hns,Nat.sub_self] at g1
    have:nt=t:=by simpa using g1
    subst this
    rw[aN ntD]
    exact aD
 ·rintro D rr σ' H2 ⟨hD,s2,hDl,⟨ns,rfl,hns,hfr',hti⟩,_⟩
  exact k D H2 ns hD s2 hDl hns hti
theorem same_tips {a b:Addr}{ns ms:List Addr}{L:Nat→List Int} (q1:H a=some (.lst (ns.map V.ref))) (q2:H b=some (.lst (ms.map V.ref))) (hl:ns.length=ms.length) (h1:∀ (i:Nat) (t:Addr),ns[i]? = some t→H t=some (.lst ((L i).map V.int))) (h2:∀ (i:Nat) (t:Addr),ms[i]? = some t→H t=some (.lst ((L i).map V.int))) :
  SameLs K H (.ref a) (.ref b):=by
 refine⟨a,b,_,_,rfl,rfl,bY.of q1,bY.of q2,by rw[List.length_map,List.length_map];exact hl,fun i u v hu hv=>?_⟩
 rw[List.getElem?_map] at hu hv
 obtain⟨a2,ha2,rfl⟩:=Option.map_eq_some_iff.mp hu
 obtain⟨a3,ha3,rfl⟩:=Option.map_eq_some_iff.mp hv
 exact .inr ⟨a2,a3,_,_,_,rfl,rfl,bY.of (h1 i a2 ha2),bY.of (h2 i a3 ha3),L2.IsL.of_ints _,L2.IsL.of_ints _,by rw[depth_ints06];decide⟩
structure L24 (K:PySem.W.Frag) (C:Addr) (H:Hp) (t sl rl r0 r1 r2:Addr) (fp0 fp1 fp2:List Addr) (x y:V) (A B:Net) (S0 S1 S2:RunS):Prop where
 tp:dW H t sl
 rs:H rl=some (.lst [.ref r0,.ref r1])
 a0:bX K C H r0 S0 fp0
 a1:bX K C H r1 S1 fp1
 a2:bX K C H r2 S2 fp2
 n0:t∉fp0∧sl∉fp0∧rl∉fp0
 n1:t∉fp1∧sl∉fp1∧rl∉fp1
 n2:t∉fp2∧sl∉fp2∧rl∉fp2
 rt:rl≠t
 d01:∀ b∈fp0,b∉fp1
 d02:∀ b∈fp0,b∉fp2
 d12:∀ b∈fp1,b∉fp2
 hx:Is K H (dU A) x
 ho:Is K H (dU B) y
noncomputable def Out24 (t sl rl:Addr) (fp0 fp1 fp2:List Addr) (g:Addr):Prop:=g≠t∧g≠sl∧g≠rl∧g∉fp0∧g∉fp1∧g∉fp2
variable {t sl rl r0 r1 r2:Addr}{fp0 fp1 fp2:List Addr}{x y:V}{A B:Net}{S0 S1 S2:RunS}
theorem L24.same {H':Hp} (h:L24 K C H t sl rl r0 r1 r2 fp0 fp1 fp2 x y A B S0 S1 S2) (s:aK H H'):L24 K C H' t sl rl r0 r1 r2 fp0 fp1 fp2 x y A B S0 S1 S2:=
 { h with tp:=h.tp.same s,rs:=s _ _ h.rs,a0:=h.a0.same s,a1:=h.a1.same s,a2:=h.a2.same s,hx:=Is.mono s.ts _ _ h.hx,ho:=Is.mono s.ts _ _ h.ho }
theorem L24.draw {H':Hp} (h:L24 K C H t sl rl r0 r1 r2 fp0 fp1 fp2 x y A B S0 S1 S2) (b:cK t H H') (tp':dW H' t sl):L24 K C H' t sl rl r0 r1 r2 fp0 fp1 fp2 x y A B S0 S1 S2:=
 { h with tp:=tp',rs:=b _ _ h.rt h.rs,a0:=h.a0.but b h.tp.mut (L6.tr h.tp h.a0) h.n0.1,a1:=h.a1.but b h.tp.mut (L6.tr h.tp h.a1) h.n1.1,a2:=h.a2.but b h.tp.mut (L6.tr h.tp h.a2) h.n2.1,hx:=Is.mono (b.ts h.tp.mut) _ _ h.hx,ho:=Is.mono (b.ts h.tp.mut) _ _ h.ho }
theorem L24.on0 {H':Hp}{S':RunS} (h:L24 K C H t sl rl r0 r1 r2 fp0 fp1 fp2 x y A B S0 S1 S2) (b:ButL fp0 H H') (ra:bX K C H' r0 S' fp0):L24 K C H' t sl rl r0 r1 r2 fp0 fp1 fp2 x y A B S' S1 S2:=
 { h with tp:=h.tp.butL b h.n0.1 h.n0.2.1,rs:=b _ _ h.n0.2.2 h.rs,a0:=ra,a1:=h.a1.butL b h.a0.mut (h.a1.r_out h.a0) (fun c hc z=>h.d01 c z hc),a2:=h.a2.butL b h.a0.mut (h.a2.r_out h.a0) (fun c hc z=>h.d02 c z hc),hx:=Is.mono (butL_ts06 b h.a0.mut) _ _ h.hx,ho:=Is.mono (butL_ts06 b h.a0.mut) _ _ h.ho }
theorem L24.on1 {H':Hp}{S':RunS} (h:L24 K C H t sl rl r0 r1 r2 fp0 fp1 fp2 x y A B S0 S1 S2) (b:ButL fp1 H H') (ra:bX K C H' r1 S' fp1):L24 K C H' t sl rl r0 r1 r2 fp0 fp1 fp2 x y A B S0 S' S2:=
 { h with tp:=h.tp.butL b h.n1.1 h.n1.2.1,rs:=b _ _ h.n1.2.2 h.rs,a1:=ra,a0:=h.a0.butL b h.a1.mut (h.a0.r_out h.a1) (fun c hc z=>h.d01 c hc z),a2:=h.a2.butL b h.a1.mut (h.a2.r_out h.a1) (fun c hc z=>h.d12 c z hc),hx:=Is.mono (butL_ts06 b h.a1.mut) _ _ h.hx,ho:=Is.mono (butL_ts06 b h.a1.mut) _ _ h.ho }
theorem L24.on2 {H':Hp}{S':RunS} (h:L24 K C H t sl rl r0 r1 r2 fp0 fp1 fp2 x y A B S0 S1 S2) (b:ButL fp2 H H') (ra:bX K C H' r2 S' fp2):L24 K C H' t sl rl r0 r1 r2 fp0 fp1 fp2 x y A B S0 S1 S':=
 { h with tp:=h.tp.butL b h.n2.1 h.n2.2.1,rs:=b _ _ h.n2.2.2 h.rs,a2:=ra,a0:=h.a0.butL b h.a2.mut (h.a0.r_out h.a2) (fun c hc z=>h.d02 c hc z),a1:=h.a1.butL b h.a2.mut (h.a1.r_out h.a2) (fun c hc z=>h.d12 c hc z),hx:=Is.mono (butL_ts06 b h.a2.mut) _ _ h.hx,ho:=Is.mono (butL_ts06 b h.a2.mut) _ _ h.ho }
theorem L24.out (h:L24 K C H t sl rl r0 r1 r2 fp0 fp1 fp2 x y A B S0 S1 S2) {g:Addr} (hg:H g=none):Out24 t sl rl fp0 fp1 fp2 g:=
 ⟨fun z=>(by obtain⟨o,e⟩:=h.tp.some;rw[← z,hg] at e;cases e),fun z=>(by obtain⟨ns,pos,cell,_,e,_⟩:=h.tp;rw[← z,hg] at e;cases e),fun z=>(by have:=h.rs;rw[← z,hg] at this;cases this),h.a0.notfp hg,h.a1.notfp hg,h.a2.notfp hg⟩
theorem bX.ne_lst {r g:Addr}{S:RunS}{fp:List Addr}{xs:List V} (c:bX K C H r S fp) (e:H g=some (.lst xs)):g≠r:=fun z=>by
 obtain⟨dx,np,R,M,T,ei⟩:=c.ins
 rw[z,ei] at e;cases e
theorem L24.put (h:L24 K C H t sl rl r0 r1 r2 fp0 fp1 fp2 x y A B S0 S1 S2) {g:Addr}{xs ys:List V} (e:H g=some (.lst xs)) (o:Out24 t sl rl fp0 fp1 fp2 g):L24 K C (upd H g (.lst ys)) t sl rl r0 r1 r2 fp0 fp1 fp2 x y A B S0 S1 S2:=by
 have mu:Mut (H g):=by rw[e];exact trivial
 have b:cK g H (upd H g (.lst ys)):=cK.upd
 exact { h with tp:=h.tp.put o.1 o.2.1,rs:=b _ _ (Ne.symm o.2.2.1) h.rs,a0:=h.a0.but b mu (h.a0.ne_lst e) o.2.2.2.1,a1:=h.a1.but b mu (h.a1.ne_lst e) o.2.2.2.2.1,a2:=h.a2.but b mu (h.a2.ne_lst e) o.2.2.2.2.2,hx:=Is.mono (b.ts mu) _ _ h.hx,ho:=Is.mono (b.ts mu) _ _ h.ho }
structure P24 (H:Hp) (t sl rl:Addr) (fp0 fp1 fp2:List Addr) (pl:Addr) (g:Bool→Addr) (ps:Bool→List Int):Prop where
 ep:H pl=some (.lst [.ref (g false),.ref (g true)])
 e:∀ b,H (g b)=some (.lst ((ps b).map V.int))
 op:Out24 t sl rl fp0 fp1 fp2 pl
 o:∀ b,Out24 t sl rl fp0 fp1 fp2 (g b)
 ng:g false≠g true
 np:∀ b,pl≠g b
variable {pl:Addr}{g:Bool→Addr}{ps:Bool→List Int}
theorem P24.draw {H':Hp} (p:P24 H t sl rl fp0 fp1 fp2 pl g ps) (s:cK t H H'):P24 H' t sl rl fp0 fp1 fp2 pl g ps:={ p with ep:=s _ _ p.op.1 p.ep,e:=fun b=>s _ _ (p.o b).1 (p.e b) }
theorem P24.on0 {H':Hp} (p:P24 H t sl rl fp0 fp1 fp2 pl g ps) (s:ButL fp0 H H'):P24 H' t sl rl fp0 fp1 fp2 pl g ps:={ p with ep:=s _ _ p.op.2.2.2.1 p.ep,e:=fun b=>s _ _ (p.o b).2.2.2.1 (p.e b) }
theorem P24.on1 {H':Hp} (p:P24 H t sl rl fp0 fp1 fp2 pl g ps) (s:ButL fp1 H H'):P24 H' t sl rl fp0 fp1 fp2 pl g ps:={ p with ep:=s _ _ p.op.2.2.2.2.1 p.ep,e:=fun b=>s _ _ (p.o b).2.2.2.2.1 (p.e b) }
theorem P24.on2 {H':Hp} (p:P24 H t sl rl fp0 fp1 fp2 pl g ps) (s:ButL fp2 H H'):P24 H' t sl rl fp0 fp1 fp2 pl g ps:={ p with ep:=s _ _ p.op.2.2.2.2.2 p.ep,e:=fun b=>s _ _ (p.o b).2.2.2.2.2 (p.e b) }
theorem P24.put (p:P24 H t sl rl fp0 fp1 fp2 pl g ps) (b:Bool) (l:List Int):P24 (upd H (g b) (.lst (l.map V.int))) t sl rl fp0 fp1 fp2 pl g (fun c=>if c=b then l else ps c):=
 { p with
  ep:=by rw[aN (p.np b)];exact p.ep
  e:=fun c=>by
   by_cases h:c=b
   ·subst h;rw[if_pos rfl];exact aD
   ·have ne:g c≠g b:=by
     cases c <;> cases b
     ·exact absurd rfl h
     ·exact p.ng
     ·exact Ne.symm p.ng
     ·exact absurd rfl h
    rw[if_neg h,aN ne];exact p.e c }
end
end Tw
namespace Tw
open PySem L2
theorem depth_bools24:∀ l:List Bool,eI (l.map L2.D.bl)=0
 | []=>by rw[List.map_nil,eI]
 | t::l=>by rw[List.map_cons,eI,depth_bools24 l];simp [L2.D.depth]
section
variable {P:Program}{w:World}{K:PySem.W.Frag}{mg:Str→Option Value}{base:Heap}{C c_NoVessel c_TooMany:Addr}
theorem sc_law:FnScope ["script","tape","one","other","many","vessel","led","whole","runs","more","tick","poured","k","at","number","run","states","told"] ["script"] (aJ (aX 57)):=⟨rfl,rfl,rfl,by decide +kernel,rfl,by decide +kernel,by decide +kernel⟩
theorem ok_law {f f1 f2 f3 f4 f5 f6 f7 f8 f9 f10 f11:Addr}{fd fd1 fd2 fd3 fd4 fd5 fd6 fd7 fd8 fd9 fd10 fd11:FuncData} (F:Fun K "law" "law" (aX 57) f fd) (T:Txt mg)
  (G__law_draw:Callee P w K mg base "_law_draw" ["tape","many"] 1 spDraw f1 fd1)
  (G__law_net:Callee P w K mg base "_law_net" ["tape","most","small"] 4 (spNetM K) f2 fd2)
  (G__law_fewer:Callee P w K mg base "_law_fewer" ["net","most"] 1 (spFewer K) f3 fd3)
  (G_beside:CalleeR P w K mg base "beside" ["net","other"] 3 (spBesR K c_TooMany) f4 fd4)
  (G_led_on:CalleeR P w K mg base "led_on" ["net","vessel","other"] 4 (spLedR K c_NoVessel c_TooMany) f5 fd5)
  (G__law_grounded_by:Callee P w K mg base "_law_grounded_by" ["net","state","poured","vessel"] 2 (spGBy K) f6 fd6)
  (G_Run:MkCal P w K mg base C "Run" ["self","net"] 5 (spInit K C) f7 fd7)
  (G_Run_pour:MCal P w K mg base C "pour" ["self","vessel","amount"] 3 (spPour K C) f8 fd8)
  (G_Run_go:MCal P w K mg base C "go" ["self","many"] 7 (spGo K C) f9 fd9)
  (G_Run_state:MCal P w K mg base C "state" ["self"] 1 (spTell K C fun S v H=>Is K H (stD S.cur.held S.cur.coming S.cur.doors) v) f10 fd10)
  (G_Run_tips:MCal P w K mg base C "tips" ["self","vessel"] 3 (spTips K C) f11 fd11):FnOk P w K mg base CX0 8 f fd ["script"] (spLaw K):=by
 refine F.ok sc_law (fun vs H Q E h=>?_) (fun cdv A outer s H vs Q E hr h=>?_)
 ·obtain⟨a,ns,rfl,_⟩:=h;rfl
 ·obtain⟨a,ns,rfl,hS,hlen,k⟩:=h
  have sc:=sc_law
  refine⟨_,(aE (bE (i:=1) sc.nd rfl (Or.inl rfl) (cG (aA (bD (call_lstK (K:=K) rfl) rfl T.b_list bt_list (aA (pv 0) aB)) (aA aH (aA aH aB)))))
   (aE (bE (i:=2) sc.nd rfl (Or.inl rfl) (d7 G__law_fewer hr (aA (d7 G__law_net hr (aA (pv 1) (aA aH (aA pe_bl aB)))) (aA aH aB))))
   (aE (bE (i:=3) sc.nd rfl (Or.inl rfl) (d7 G__law_fewer hr (aA (d7 G__law_net hr (aA (pv 1) (aA aH (aA pe_bl aB)))) (aA aH aB))))
   (aE (bE (i:=4) sc.nd rfl (Or.inr rfl) (aS (bH (K:=K) rfl) rfl T.b_len PySem.boot_len (aA (aP (aL (K:=K) rfl) (pv 2) aH (fun _ _=>rfl)) aB)))
   (aE (bE (i:=5) sc.nd rfl (Or.inl rfl) (d7 G__law_draw hr (aA (pv 1) (aA (pv 4) aB))))
   (aE (bE (i:=6) sc.nd rfl (Or.inl rfl) (pe_cmpR op_gt (d7 G__law_draw hr (aA (pv 1) (aA aH aB))) aH (cQ _)))
   (aE (bE (i:=7) sc.nd rfl (Or.inr rfl) (pe_make G_Run.make G_Run.ok (hr.mono (by decide)) rfl G_Run.mg G_Run.bd .nil pass0 (aA (aP (aL (K:=K) rfl) (cG (aA (pe_call G_beside.ok (hr.mono (by decide)) rfl G_beside.mg G_beside.kp G_beside.bd .nil passR0 (aA (pv 2) (aA (pv 3) aB))) (aA (pe_call G_led_on.ok (hr.mono (by decide)) rfl G_led_on.mg G_led_on.kp G_led_on.bd .nil passR0 (aA (pv 2) (aA (pv 5) (aA (pv 3) aB)))) aB))) (bD call_int1 rfl T.b_int bt_int (aA (pv 6) aB)) (fun _ _=>rfl)) aB)))
   (aE (bE (i:=8) sc.nd rfl (Or.inr rfl) (cG (aA (pe_make G_Run.make G_Run.ok (hr.mono (by decide)) rfl G_Run.mg G_Run.bd .nil pass0 (aA (pv 2) aB)) (aA (pe_make G_Run.make G_Run.ok (hr.mono (by decide)) rfl G_Run.mg G_Run.bd .nil pass0 (aA (pv 3) aB)) aB))))
   (aE (bE (i:=9) sc.nd rfl (Or.inl rfl) aH)
   (aE (dN PassesOwn.never rfl (cB rfl T.b_range (aA aH aB)) (aF (i:=10) sc.nd rfl (Or.inl rfl)) (aE (bE (i:=11) sc.nd rfl (Or.inl rfl) (cG (aA (aY op_rep (cG (aA aH aB)) (pv 4)) (aA (aY op_rep (cG (aA aH aB)) (aS (bH (K:=K) rfl) rfl T.b_len PySem.boot_len (aA (aP (aL (K:=K) rfl) (pv 3) aH (fun _ _=>rfl)) aB))) aB))))
   (aE (dN PassesOwn.never rfl (cB rfl T.b_range (aA (d7 G__law_draw hr (aA (pv 1) (aA aH aB))) aB)) (aF (i:=12) sc.nd rfl (Or.inl rfl)) (aE (bE (i:=13) sc.nd rfl (Or.inl rfl) (d7 G__law_draw hr (aA (pv 1) (aA aH aB))))
   (aE (bE (i:=14) sc.nd rfl (Or.inl rfl) (d7 G__law_draw hr (aA (pv 1) (aA (aS (bH (K:=K) rfl) rfl T.b_len PySem.boot_len (aA (aP (aL (K:=K) rfl) (pv 11) (pv 13) (fun _ _=>rfl)) aB)) aB))))
   (aM (bS (aY cH (aP (aL (K:=K) rfl) (aP (aL (K:=K) rfl) (pv 11) (pv 13) (fun _ _=>rfl)) (pv 14) (fun _ _=>rfl)) (d7 G__law_draw hr (aA (pv 1) (aA aH aB)))) (pg_sub (aP (aL (K:=K) rfl) (pv 11) (pv 13) (fun _ _=>rfl)) (pv 14) set_list))))))
   (aE (dN PassesOwn.never rfl (cB rfl T.b_range (aA aH aB)) (aF (i:=13) sc.nd rfl (Or.inl rfl)) (aM (dN PassesOwn.never rfl (cB rfl T.b_range (aA (aS (bH (K:=K) rfl) rfl T.b_len PySem.boot_len (aA (aP (aL (K:=K) rfl) (pv 11) (pv 13) (fun _ _=>rfl)) aB)) aB)) (aF (i:=14) sc.nd rfl (Or.inl rfl)) (aE (cL (pe_meth (aP (aL (K:=K) rfl) (pv 8) (pv 13) (fun _ _=>rfl)) G_Run_pour.cls G_Run_pour.mt G_Run_pour.ok (hr.mono (by decide)) G_Run_pour.bd .nil pass0 (aA (pv 14) (aA (aP (aL (K:=K) rfl) (aP (aL (K:=K) rfl) (pv 11) (pv 13) (fun _ _=>rfl)) (pv 14) (fun _ _=>rfl)) aB))))
   (aM (cL (pe_meth (pv 7) G_Run_pour.cls G_Run_pour.mt G_Run_pour.ok (hr.mono (by decide)) G_Run_pour.bd .nil pass0 (aA (aY cH (pv 14) (aY op_mul (pv 4) (pv 13))) (aA (aP (aL (K:=K) rfl) (aP (aL (K:=K) rfl) (pv 11) (pv 13) (fun _ _=>rfl)) (pv 14) (fun _ _=>rfl)) aB)))))))))
   (aE (cL (pe_meth (aP (aL (K:=K) rfl) (pv 8) aH (fun _ _=>rfl)) G_Run_pour.cls G_Run_pour.mt G_Run_pour.ok (hr.mono (by decide)) G_Run_pour.bd .nil pass0 (aA aH (aA (pv 9) aB))))
   (aE (bE (i:=9) sc.nd rfl (Or.inl rfl) (aY op_mul (bD call_int1 rfl T.b_int bt_int (aA (pv 6) aB)) (d7 G__law_grounded_by hr (aA (pv 2) (aA (pe_meth0 (aP (aL (K:=K) rfl) (pv 8) aH (fun _ _=>rfl)) G_Run_state.cls G_Run_state.mt G_Run_state.ok (hr.mono (by decide)) G_Run_state.bd .nil pass0) (aA (aP (aL (K:=K) rfl) (pv 11) aH (fun _ _=>rfl)) (aA (pv 5) aB)))))))
   (aE (dN PassesOwn.never rfl (pi_listK (K:=K) rfl (aY op_cat (cG (aA (pv 7) aB)) (pv 8))) (aF (i:=15) sc.nd rfl (Or.inl rfl)) (aM (cL (pe_meth (pv 15) G_Run_go.cls G_Run_go.mt G_Run_go.ok (hr.mono (by decide)) G_Run_go.bd .nil pass0 (aA aH aB)))))
   (aE (eD (i:=16) sc.nd rfl rfl (fun _ _ h=>h) rfl (LcOk.mk (N':=["run"]) (fr:=[none]) rfl trivial rfl rfl rfl rfl rfl trivial) (pi_listK (K:=K) rfl (pv 8)) (fun _ _ _=>(aF (i:=0) (show (["run"]:List Str).Nodup by decide +kernel) rfl (Or.inl rfl) (Or.inr rfl))) (fun _ _ _=>cP) (fun _ _ _=>(pe_meth0 (pv 0) G_Run_state.cls G_Run_state.mt G_Run_state.ok (hr.mono (by decide)) G_Run_state.bd .nil pass0)))
   (aE (bE (i:=17) sc.nd rfl (Or.inl rfl) (pe_meth0 (pv 7) G_Run_state.cls G_Run_state.mt G_Run_state.ok (hr.mono (by decide)) G_Run_state.bd .nil pass0))
   (aE (dC (PW.pt (pw_or (cX (op_neSameK (K:=K) rfl hr.units) (aP (aL (K:=K) rfl) (pv 17) aH (fun _ _=>rfl)) (aY (op_catTZK (K:=K) rfl) (aP (aL (K:=K) rfl) (aP (aL (K:=K) rfl) (pv 16) aH (fun _ _=>rfl)) aH (fun _ _=>rfl)) (aP (aL (K:=K) rfl) (aP (aL (K:=K) rfl) (pv 16) aH (fun _ _=>rfl)) aH (fun _ _=>rfl))) (cQ _)) (pw_or1 (cX (op_neSameK (K:=K) rfl hr.units) (aP (aL (K:=K) rfl) (pv 17) aH (fun _ _=>rfl)) (aY (op_catTZK (K:=K) rfl) (aP (aL (K:=K) rfl) (aP (aL (K:=K) rfl) (pv 16) aH (fun _ _=>rfl)) aH (fun _ _=>rfl)) (aP (aL (K:=K) rfl) (aP (aL (K:=K) rfl) (pv 16) aH (fun _ _=>rfl)) aH (fun _ _=>rfl))) (cQ _))))) (aM (bG pe_bl)) bV)
   (aE (dC (cX (op_neSameLK (K:=K) rfl hr.units) (pe_lc (fun _ _ h=>h) rfl (LcOk.mk (N':=["k","whole","many"]) (fr:=[none,some 7,some 4]) rfl ⟨rfl,rfl,trivial⟩ rfl rfl rfl rfl rfl ⟨⟨_,rfl,rfl,rfl,rfl⟩,⟨_,rfl,rfl,rfl,rfl⟩,trivial⟩) (cB rfl T.b_range (aA (aS (bH (K:=K) rfl) rfl T.b_len PySem.boot_len (aA (aP (aL (K:=K) rfl) (pv 3) aH (fun _ _=>rfl)) aB)) aB)) (fun _ _ _=>(aF (i:=0) (show (["k","whole","many"]:List Str).Nodup by decide +kernel) rfl (Or.inl rfl) (Or.inr rfl))) (fun _ _ _=>cP) (fun _ _ _=>(pe_meth (pv 1) G_Run_tips.cls G_Run_tips.mt G_Run_tips.ok (hr.mono (by decide)) G_Run_tips.bd .nil pass0 (aA (aY cH (pv 0) (pv 2)) aB)))) (pe_lc (fun _ _ h=>h) rfl (LcOk.mk (N':=["k","runs"]) (fr:=[none,some 8]) rfl ⟨rfl,trivial⟩ rfl rfl rfl rfl rfl ⟨⟨_,rfl,rfl,rfl,rfl⟩,trivial⟩) (cB rfl T.b_range (aA (aS (bH (K:=K) rfl) rfl T.b_len PySem.boot_len (aA (aP (aL (K:=K) rfl) (pv 3) aH (fun _ _=>rfl)) aB)) aB)) (fun _ _ _=>(aF (i:=0) (show (["k","runs"]:List Str).Nodup by decide +kernel) rfl (Or.inl rfl) (Or.inr rfl))) (fun _ _ _=>cP) (fun _ _ _=>(pe_meth (aP (aL (K:=K) rfl) (pv 1) aH (fun _ _=>rfl)) G_Run_tips.cls G_Run_tips.mt G_Run_tips.ok (hr.mono (by decide)) G_Run_tips.bd .nil pass0 (aA (pv 0) aB)))) (cQ _)) (aM (bG pe_bl)) bV)
   (aM (dC (cX (op_neSameLK (K:=K) rfl hr.units) (pe_lc (fun _ _ h=>h) rfl (LcOk.mk (N':=["k","whole"]) (fr:=[none,some 7]) rfl ⟨rfl,trivial⟩ rfl rfl rfl rfl rfl ⟨⟨_,rfl,rfl,rfl,rfl⟩,trivial⟩) (cB rfl T.b_range (aA (pv 4) aB)) (fun _ _ _=>(aF (i:=0) (show (["k","whole"]:List Str).Nodup by decide +kernel) rfl (Or.inl rfl) (Or.inr rfl))) (fun _ _ _=>cP) (fun _ _ _=>(pe_meth (pv 1) G_Run_tips.cls G_Run_tips.mt G_Run_tips.ok (hr.mono (by decide)) G_Run_tips.bd .nil pass0 (aA (pv 0) aB)))) (pe_lc (fun _ _ h=>h) rfl (LcOk.mk (N':=["k","runs"]) (fr:=[none,some 8]) rfl ⟨rfl,trivial⟩ rfl rfl rfl rfl rfl ⟨⟨_,rfl,rfl,rfl,rfl⟩,trivial⟩) (cB rfl T.b_range (aA (pv 4) aB)) (fun _ _ _=>(aF (i:=0) (show (["k","runs"]:List Str).Nodup by decide +kernel) rfl (Or.inl rfl) (Or.inr rfl))) (fun _ _ _=>cP) (fun _ _ _=>(pe_meth (aP (aL (K:=K) rfl) (pv 1) aH (fun _ _=>rfl)) G_Run_tips.cls G_Run_tips.mt G_Run_tips.ok (hr.mono (by decide)) G_Run_tips.bd .nil pass0 (aA (pv 0) aB)))) (cQ _)) (aM (bG pe_bl)) bV)))))))))))))
   (aM (bG pe_bl)))))))))))),?_⟩
  refine⟨_,rfl,a,_,rfl,.inl hS,fun sl hsl=>⟨(show 3≤sizeLine by decide),fun t ht=>?_⟩⟩
  have nst:sl≠t:=aO (show upd H sl (.lst (ns.map V.int)) sl=_ from aD) ht
  have tp0:dW (upd (upd H sl (.lst (ns.map V.int))) t (.lst [.ref sl,.int 0,.int 0])) t sl:=⟨ns,0,0,aD,by rw[aN nst];exact aD,by omega⟩
  generalize upd (upd H sl (.lst (ns.map V.int))) t (.lst [.ref sl,.int 0,.int 0])=H0 at tp0
  refine⟨_,rfl,t,sl,6,false,rfl,by decide,by decide,tp0,fun A0 p0 H1 e1 nok0 nfu0 hm0 hp0=>?_⟩
  refine⟨p0,A0,6,rfl,hp0,nok0,fun q0 H2 s2 hq0=>?_⟩
  have tp2:=e1.tp.same s2
  refine⟨_,rfl,t,sl,6,false,rfl,by decide,by decide,tp2,fun B0 p1 H3 e3 nok1 nfu1 hm1 hp1=>⟨p1,B0,6,rfl,hp1,nok1,fun q1' H4 s4 hq1=>?_⟩⟩
  have tp4:=e3.tp.same s4
  have okA:=cutN_ok (m:=6) nok0
  have okB:=cutN_ok (m:=6) nok1
  have fuA:=cutN_full (m:=6) nfu0
  have fuB:=cutN_full (m:=6) nfu1
  have lA:(cutN 6 A0).vs.length≤6:=by show (A0.vs.map _).length≤6;rw[List.length_map];omega
  have lB:(cutN 6 B0).vs.length≤6:=by show (B0.vs.map _).length≤6;rw[List.length_map];omega
  have hA:(cutN 6 A0).sps.length≤6:=by show (A0.sps.take 6).length≤6;rw[List.length_take];omega
  have hB:(cutN 6 B0).sps.length≤6:=by show (B0.sps.take 6).length≤6;rw[List.length_take];omega
  have hqA:Is K H4 (dU (cutN 6 A0)) q0:=Is.mono ((e3.bt.ts tp2.mut).trans s4.ts) _ _ hq0
  clear hp0 hp1 nok0 nok1 nfu0 nfu1 hq0 hm0 hm1 s2 s4 e1 e3
  generalize cutN 6 A0=A at okA fuA lA hA hqA
  generalize cutN 6 B0=B at okB fuB lB hB hq1
  have nA1:=okA.lo
  have nB1:=okB.lo
  obtain⟨oa,ob,oc,xs,ys,rfl,qo,qo1,lo1,qo2,lo2⟩:=dM hqA
  have exl:xs.length=A.vs.length:=by rw[lo1.length,List.length_map]
  refine⟨_,rfl,.inr (.inl ⟨oa,_,0,_,rfl,rfl,qo,rfl,ob,xs,rfl,.inr qo1,?_⟩)⟩
  rw[exl]
  refine⟨_,rfl,_,rfl,t,sl,_,rfl,tp4,by omega,by omega,fun rj H5 b5 tp5 g0 g1=>?_⟩
  obtain⟨j,rfl⟩:∃ j:Nat,rj=(j:Int):=⟨rj.toNat,by omega⟩
  have hj:j < A.vs.length:=by omega
  refine⟨_,rfl,t,sl,_,rfl,tp5,by decide,by decide,fun rd H6 b6 tp6 _ _=>⟨_,_,rfl,rfl,?_⟩⟩
  dsimp only
  generalize decide ((0:Int) < rd)=led
  have ts6:=(b5.ts (K:=K) tp4.mut).trans (b6.ts tp5.mut)
  have iA6:=Is.mono ts6 _ _ hqA
  have iB6:=Is.mono ts6 _ _ hq1
  clear qo qo1 qo2 lo1 lo2 hqA hq1 ts6 tp4 tp5 b5 b6 xs ys exl
  have fit:Fits A B:=⟨by omega,by omega⟩
  refine⟨_,rfl,_,rfl,_,_,A,B,rfl,iA6,iB6,okA,okB,.inl ⟨fit,fun w0 H7 s7 iw0=>?_⟩⟩
  have iA7:=Is.mono s7.ts _ _ iA6
  have iB7:=Is.mono s7.ts _ _ iB6
  refine⟨_,rfl,_,rfl,_,rfl,_,_,_,A,B,rfl,iA7,iB7,okA,okB,.inr ⟨j,rfl,hj,.inl ⟨fit,fun w1 H8 s8 iw1=>⟨(show 2≤sizeLine by decide),fun ll hll=>?_⟩⟩⟩⟩
  have s9:=aK.new (o:=HO.lst [w0,w1]) hll
  have e9:upd H8 ll (.lst [w0,w1]) ll=some (.lst [w0,w1]):=aD
  generalize upd H8 ll (.lst [w0,w1])=H9 at s9 e9
  obtain⟨pw,hpw,ipw⟩:∃ pw,atI [w0,w1] (if led=true then 1 else 0)=some pw∧Is K H9 (dU (cW A B j led)) pw:=by
   cases led
   ·exact⟨w0,rfl,Is.mono (s8.trans s9).ts _ _ iw0⟩
   ·exact⟨w1,rfl,Is.mono s9.ts _ _ iw1⟩
  have okW:NetOk (cW A B j led):=by
   unfold cW
   cases led
   ·exact beside_ok okA okB fit.1 fit.2
   ·exact ledN_ok okA okB hj fit
  have fuW:NetFull (cW A B j led):=by
   unfold cW
   cases led
   ·exact beside_full fuA fuB
   ·exact ledN_full fuA fuB hj
  have iA:=Is.mono (s8.trans s9).ts _ _ iA7
  have iB:=Is.mono (s8.trans s9).ts _ _ iB7
  have tp9:=((tp6.same s7).same s8).same s9
  refine⟨_,rfl,.inr ⟨_,rfl,.inl ⟨ll,_,_,pw,rfl,rfl,bY.of e9,hpw,fun r2 dx2 hr2 hdx2 ndx2=>?_⟩⟩⟩
  have m1:aK H9 (upd (upd H9 dx2 (.own r2)) r2 (.ins C dx2 [])):=fun b o e=>by
   rw[aN (aO e hr2),aN (aO e hdx2)];exact e
  refine⟨r2,dx2,pw,cW A B j led,rfl,aD,Is.mono m1.ts _ _ ipw,okW,fuW,fun fp2 H10 hfp2 bt2 ra2=>⟨rfl,?_⟩⟩
  have s10:aK H9 H10:=fun b o e=>bt2 b o (aO e hr2) (m1 b o e)
  have ff2:∀ b∈fp2,H9 b=none:=fun b hb=>m1.free (hfp2 b hb)
  refine⟨_,rfl,fun r0 dx0 hr0 hdx0 ndx0=>?_⟩
  have m2:aK H10 (upd (upd H10 dx0 (.own r0)) r0 (.ins C dx0 [])):=fun b o e=>by
   rw[aN (aO e hr0),aN (aO e hdx0)];exact e
  refine⟨r0,dx0,.ref oa,A,rfl,aD,Is.mono (s10.trans m2).ts _ _ iA,okA,fuA,fun fp0 H11 hfp0 bt0 ra0=>⟨rfl,_,rfl,fun r1 dx1 hr1 hdx1 ndx1=>?_⟩⟩
  have s11:aK H10 H11:=fun b o e=>bt0 b o (aO e hr0) (m2 b o e)
  have ff0:∀ b∈fp0,H10 b=none:=fun b hb=>m2.free (hfp0 b hb)
  have m3:aK H11 (upd (upd H11 dx1 (.own r1)) r1 (.ins C dx1 [])):=fun b o e=>by
   rw[aN (aO e hr1),aN (aO e hdx1)];exact e
  refine⟨r1,dx1,q1',B,rfl,aD,Is.mono ((s10.trans s11).trans m3).ts _ _ iB,okB,fuB,fun fp1 H12 hfp1 bt1 ra1=>⟨rfl,(show 2≤sizeLine by decide),fun rl hrl=>?_⟩⟩
  have s12:aK H11 H12:=fun b o e=>bt1 b o (aO e hr1) (m3 b o e)
  have ff1:∀ b∈fp1,H11 b=none:=fun b hb=>m3.free (hfp1 b hb)
  have s13:=aK.new (o:=HO.lst [.ref r0,.ref r1]) hrl
  have sA:=((s10.trans s11).trans s12).trans s13
  have tp10:=tp9.same s10
  have tp11:=tp10.same s11
  have tp12:=tp11.same s12
  have ra2':=(ra2.same s11).same s12
  have ra0':=ra0.same s12
  have nt:∀ {Hx:Hp}{fp:List Addr},dW Hx t sl→(∀ b∈fp,Hx b=none)→t∉fp∧sl∉fp:=fun tp ff=>⟨fun z=>(by obtain⟨o,e⟩:=tp.some;rw[ff t z] at e;cases e),fun z=>(by obtain⟨ns,pos,cell,_,e,_⟩:=tp;rw[ff sl z] at e;cases e)⟩
  have i0:L24 K C (upd H12 rl (.lst [.ref r0,.ref r1])) t sl rl r0 r1 r2 fp0 fp1 fp2 (.ref oa) q1' A B (run0 A) (run0 B) (run0 (cW A B j led)):={
   tp:=tp12.same s13
   rs:=aD
   a0:=ra0'.same s13
   a1:=ra1.same s13
   a2:=ra2'.same s13
   n0:=⟨(nt tp10 ff0).1,(nt tp10 ff0).2,ra0'.notfp hrl⟩
   n1:=⟨(nt tp11 ff1).1,(nt tp11 ff1).2,ra1.notfp hrl⟩
   n2:=⟨(nt tp9 ff2).1,(nt tp9 ff2).2,ra2'.notfp hrl⟩
   rt:=fun z=>by obtain⟨o,e⟩:=tp12.some;rw[z,e] at hrl;cases hrl
   d01:=fun b hb z=>by obtain⟨ys,e⟩:=ra0.lists b hb;rw[ff1 b z] at e;cases e
   d02:=fun b hb z=>by obtain⟨ys,e⟩:=ra2.lists b z;rw[ff0 b hb] at e;cases e
   d12:=fun b hb z=>by obtain⟨ys,e⟩:=(ra2.same s11).lists b z;rw[ff1 b hb] at e;cases e
   hx:=Is.mono sA.ts _ _ iA
   ho:=Is.mono sA.ts _ _ iB }
  have bo0:=led0 led okA okB hj
  have z0:=run0_sz A
  have z1:=run0_sz B
  have z2:=run0_sz (cW A B j led)
  generalize upd H12 rl (.lst [.ref r0,.ref r1])=H13 at i0
  clear sA s13 s12 s11 s10 m1 m2 m3 bt0 bt1 bt2 ra0 ra1 ra2 ra0' ra2' ff0 ff1 ff2 tp9 tp10 tp11 tp12 nt iA iB iA6 iB6 iA7 iB7 ipw hpw e9 hfp0 hfp1 hfp2 hr0 hr1 hr2 hdx0 hdx1 hdx2 s9 s8 s7 iw0 iw1
  refine⟨_,rfl,by decide,by decide,?_⟩
  refine dP (lo:=0) (n:=40) (fun i σ' H'=>∃ (S0 S1 S2:RunS) (more:Int),L24 K C H' t sl rl r0 r1 r2 fp0 fp1 fp2 (.ref oa) q1' A B S0 S1 S2∧LedS A B j led S0 S1 S2 more∧S0.cur.poured=bZ A.vs.length∧S1.cur.poured=bZ B.vs.length∧RunSz S0 (100 * i)∧RunSz S1 (100 * i)∧RunSz S2 (100 * i)∧
   ∃ v10 v11 v12 v13 v14 v15 v16 v17,σ'=[some (.ref a),some (.ref t),some (.ref oa),some q1',some (.int (A.vs.length:Int)),some (.int (j:Int)),some (.bl led),some (.ref r2),some (.ref rl),some (.int more),v10,v11,v12,v13,v14,v15,v16,v17]) ?_ ?_ ?_
  ·exact⟨_,_,_,0,i0,bo0,rfl,rfl,z0,z1,z2,_,_,_,_,_,_,_,_,rfl⟩
  rotate_left
  ·rintro σ' H14 _
   exact k H14
  clear i0 bo0 z0 z1 z2
  rintro i σ' H14 hi ⟨S0,S1,S2,more,I,bo,zp0,zp1,z0,z1,z2,v10,v11,v12,v13,v14,v15,v16,v17,rfl⟩
  obtain⟨ya,yb,yc,us,ws,rfl,qy,qy1,ly1,_,_⟩:=dM I.ho
  have eul:us.length=B.vs.length:=by rw[ly1.length,List.length_map]
  have eA0:S0.net.vs.length=A.vs.length:=by rw[bo.n0]
  have eB0:S1.net.vs.length=B.vs.length:=by rw[bo.n1]
  refine⟨(show 1≤sizeLine by decide),fun c0 hc0=>⟨_,rfl,c0,_,[.int 0],rfl,rfl,aD,by omega,by omega,Nat.le_of_lt (aQ (by rw[List.length_singleton,Int.toNat_natCast];omega)),fun g0 hg0=>?_⟩⟩
  rw[Int.toNat_natCast,rep0] at *
  have s1:=aK.new (o:=HO.lst [.int 0]) hc0
  generalize upd H14 c0 (.lst [.int 0])=H15 at s1 hg0
  have s2:=aK.new (o:=HO.lst ((List.replicate A.vs.length (0:Int)).map V.int)) hg0
  have e2:upd H15 g0 (.lst ((List.replicate A.vs.length (0:Int)).map V.int)) g0=some (.lst ((bZ A.vs.length).map V.int)):=aD
  generalize upd H15 g0 (.lst ((List.replicate A.vs.length (0:Int)).map V.int))=H16 at s2 e2
  refine⟨(show 1≤sizeLine by decide),fun c1 hc1=>?_⟩
  have s3:=aK.new (o:=HO.lst [.int 0]) hc1
  have e3:upd H16 c1 (.lst [.int 0]) c1=some (.lst [.int 0]):=aD
  generalize upd H16 c1 (.lst [.int 0])=H17 at s3 e3
  have s03:=(s1.trans s2).trans s3
  refine⟨_,rfl,.inr (.inl ⟨ya,_,0,_,rfl,rfl,s03.tup qy,rfl,yb,us,rfl,.inr (s03.tup qy1),c1,_,[.int 0],rfl,rfl,e3,by omega,by omega,Nat.le_of_lt (aQ (by rw[List.length_singleton,Int.toNat_natCast];omega)),fun g1 hg1=>⟨(show 2≤sizeLine by decide),fun pl hpl=>?_⟩⟩)⟩
  rw[Int.toNat_natCast,rep0,eul] at *
  have s4:=aK.new (o:=HO.lst ((List.replicate B.vs.length (0:Int)).map V.int)) hg1
  have e4:upd H17 g1 (.lst ((List.replicate B.vs.length (0:Int)).map V.int)) g1=some (.lst ((bZ B.vs.length).map V.int)):=aD
  generalize upd H17 g1 (.lst ((List.replicate B.vs.length (0:Int)).map V.int))=H18 at s4 e4 hpl
  have s5:=aK.new (o:=HO.lst [.ref g0,.ref g1]) hpl
  have e5:upd H18 pl (.lst [.ref g0,.ref g1]) pl=some (.lst [.ref g0,.ref g1]):=aD
  generalize upd H18 pl (.lst [.ref g0,.ref g1])=H19 at s5 e5
  have I19:=I.same ((s03.trans s4).trans s5)
  have h24:=s3.trans s4
  have P19:∃ g ps,P24 H19 t sl rl fp0 fp1 fp2 pl g ps∧(ps false).length=A.vs.length∧(ps true).length=B.vs.length:=by
   refine⟨fun b=>if b=true then g1 else g0,fun b=>if b=true then bZ B.vs.length else bZ A.vs.length,⟨e5,fun b=>?_,I.out ((s03.trans s4).free hpl),fun b=>?_,?_,fun b=>?_⟩,zeros_len _,zeros_len _⟩
   ·cases b
    ·exact s5 _ _ (h24 _ _ e2)
    ·exact s5 _ _ e4
   ·cases b
    ·exact I.out (s1.free hg0)
    ·exact I.out (s03.free hg1)
   ·exact aO (s3 _ _ e2) hg1
   ·cases b
    ·exact Ne.symm (aO (h24 _ _ e2) hpl)
    ·exact Ne.symm (aO e4 hpl)
  clear e2 e3 e4 e5 s1 s2 s3 s4 s5 s03 h24 hg0 hg1 hpl hc0 hc1 I qy qy1 ly1
  obtain⟨g,ps,P19,lp0,lp1⟩:=P19
  dsimp only [tSeq,gName,tAsg]
  refine for_by (fun σ' H'=>∃ ps,L24 K C H' t sl rl r0 r1 r2 fp0 fp1 fp2 (.ref oa) (.ref ya) A B S0 S1 S2∧P24 H' t sl rl fp0 fp1 fp2 pl g ps∧(ps false).length=A.vs.length∧(ps true).length=B.vs.length∧
   ∃ v10 v12 v13 v14 v15 v16 v17,σ'=[some (.ref a),some (.ref t),some (.ref oa),some (.ref ya),some (.int (A.vs.length:Int)),some (.int (j:Int)),some (.bl led),some (.ref r2),some (.ref rl),some (.int more),v10,some (.ref pl),v12,v13,v14,v15,v16,v17]) (fun D' hD=>?_) ?_
  ·refine x_drawC rfl I19.tp (by decide) (by decide) fun kk H20 b20 t20 c0 c1=>⟨_,rfl,by omega,by omega,?_⟩
   have I20:=I19.draw b20 t20
   have P20:=P19.draw b20
   refine dP (lo:=0) (n:=kk.toNat) (fun _ σ' H'=>∃ ps,L24 K C H' t sl rl r0 r1 r2 fp0 fp1 fp2 (.ref oa) (.ref ya) A B S0 S1 S2∧P24 H' t sl rl fp0 fp1 fp2 pl g ps∧(ps false).length=A.vs.length∧(ps true).length=B.vs.length∧
    ∃ v10 v12 v13 v14 v15 v16 v17,σ'=[some (.ref a),some (.ref t),some (.ref oa),some (.ref ya),some (.int (A.vs.length:Int)),some (.int (j:Int)),some (.bl led),some (.ref r2),some (.ref rl),some (.int more),v10,some (.ref pl),v12,v13,v14,v15,v16,v17]) ⟨ps,I20,P20,lp0,lp1,_,_,_,_,_,_,_,rfl⟩ ?_ fun σ' H' p=>hD _ _ p
   clear I20 P20 I19 P19 lp0 lp1 ps
   rintro _ σ' H21 _ ⟨ps,I,P1,lp0,lp1,v10,v12,v13,v14,v15,v16,v17,rfl⟩
   refine x_drawC rfl I.tp (by decide) (by decide) fun at_ H22 b22 t22 a0 a1=>?_
   have I22:=I.draw b22 t22
   have P22:=P1.draw b22
   obtain⟨b,rfl⟩:∃ b:Bool,at_=bI2 b:=by
    by_cases e:at_=0
    ·exact⟨false,e⟩
    ·exact⟨true,by show at_=1;omega⟩
   have lb:1≤(ps b).length∧(ps b).length≤6:=by cases b <;> omega
   refine⟨_,rfl,_,rfl,_,rfl,.inl ⟨pl,_,bI2 b,_,rfl,rfl,bY.of P22.ep,atI_g b,g b,_,rfl,.inl (bY.of (P22.e b)),t,sl,_,rfl,t22,by rw[List.length_map];omega,by rw[List.length_map];omega,fun v H23 b23 t23 w0 w1=>?_⟩⟩
   rw[List.length_map] at w1
   have I23:=I22.draw b23 t23
   have P23:=P22.draw b23
   have hv:((ps b).map V.int)[v.toNat]? = some (.int ((ps b).getD v.toNat 0)):=by
    rw[List.getElem?_map,List.getD_eq_getElem?_getD,List.getElem?_eq_getElem (by omega)];rfl
   refine⟨_,rfl,_,rfl,.inl ⟨pl,_,bI2 b,_,rfl,rfl,bY.of P23.ep,atI_g b,_,rfl,.inl ⟨g b,_,v,_,rfl,rfl,bY.of (P23.e b),atI_int w0 hv,?_⟩⟩⟩
   refine x_drawC rfl I23.tp (by decide) (by decide) fun am H24 b24 t24 m0 m1=>?_
   have I24:=I23.draw b24 t24
   have P24':=P23.draw b24
   refine⟨_,_,rfl,rfl,_,rfl,_,rfl,.inl ⟨pl,_,bI2 b,_,rfl,rfl,bY.of P24'.ep,atI_g b,_,rfl,g b,_,v,v.toNat,rfl,rfl,P24'.e b,ixN_nat w0 (by rw[List.length_map];omega),?_⟩⟩
   have em:((ps b).map V.int).set v.toNat (.int ((ps b).getD v.toNat 0+am))=((ps b).set v.toNat ((ps b).getD v.toNat 0+am)).map V.int:=by rw[List.map_set]
   rw[em]
   refine⟨_,I24.put (P24'.e b) (P24'.o b),P24'.put b _,?_,?_,_,_,_,_,_,_,_,rfl⟩
   ·cases b
    ·show ((ps false).set _ _).length=_;rw[List.length_set];exact lp0
    ·exact lp0
   ·cases b
    ·exact lp1
    ·show ((ps true).set _ _).length=_;rw[List.length_set];exact lp1
  clear I19 P19 lp0 lp1 ps
  rintro σ' H20 ⟨ps,I,P1,lp0,lp1,v10,v12,v13,v14,v15,v16,v17,rfl⟩
  dsimp only [tSeq,gName,tAsg]
  refine for_by (fun σ' H'=>∃ S0 S1 S2,L24 K C H' t sl rl r0 r1 r2 fp0 fp1 fp2 (.ref oa) (.ref ya) A B S0 S1 S2∧P24 H' t sl rl fp0 fp1 fp2 pl g ps∧LedS A B j led S0 S1 S2 more∧S0.cur.poured=ps false∧S1.cur.poured=ps true∧RunSz S0 (100 * i+12)∧RunSz S1 (100 * i+12)∧RunSz S2 (100 * i+12)∧
   ∃ v10 v12 v13 v14 v15 v16 v17,σ'=[some (.ref a),some (.ref t),some (.ref oa),some (.ref ya),some (.int (A.vs.length:Int)),some (.int (j:Int)),some (.bl led),some (.ref r2),some (.ref rl),some (.int more),v10,some (.ref pl),v12,v13,v14,v15,v16,v17]) (fun D' hD=>?_) ?_
  ·refine⟨_,rfl,by decide,by decide,?_⟩
   refine dP (lo:=0) (n:=2) (fun q σ' H'=>∃ S0 S1 S2,L24 K C H' t sl rl r0 r1 r2 fp0 fp1 fp2 (.ref oa) (.ref ya) A B S0 S1 S2∧P24 H' t sl rl fp0 fp1 fp2 pl g ps∧LedS A B j led S0 S1 S2 more∧S0.cur.poured=(if 1≤q then ps false else bZ A.vs.length)∧S1.cur.poured=(if 2≤q then ps true else bZ B.vs.length)∧RunSz S0 (100 * i+6 * q)∧RunSz S1 (100 * i+6 * q)∧RunSz S2 (100 * i+6 * q)∧
    ∃ v10 v12 v13 v14 v15 v16 v17,σ'=[some (.ref a),some (.ref t),some (.ref oa),some (.ref ya),some (.int (A.vs.length:Int)),some (.int (j:Int)),some (.bl led),some (.ref r2),some (.ref rl),some (.int more),v10,some (.ref pl),v12,v13,v14,v15,v16,v17]) ⟨S0,S1,S2,I,P1,bo,zp0,zp1,z0,z1,z2,_,_,_,_,_,_,_,rfl⟩ ?_ fun σ' H' p=>hD _ _ p
   clear I P1 bo zp0 zp1 z0 z1 z2
   rintro q σ' H21 hq ⟨S0,S1,S2,I,P1,bo,zp0,zp1,z0,z1,z2,v10,v12,v13,v14,v15,v16,v17,rfl⟩
   rcases q with _ | _ | q
   ·
    refine⟨_,rfl,_,rfl,.inl ⟨pl,_,0,_,rfl,rfl,bY.of P1.ep,rfl,g false,_,rfl,.inl (bY.of (P1.e false)),_,rfl,by rw[List.length_map];omega,by rw[List.length_map];omega,?_⟩⟩
    rw[List.length_map,Int.toNat_natCast]
    refine dP (lo:=0) (n:=(ps false).length) (fun m σ' H'=>∃ S0 S2,L24 K C H' t sl rl r0 r1 r2 fp0 fp1 fp2 (.ref oa) (.ref ya) A B S0 S1 S2∧P24 H' t sl rl fp0 fp1 fp2 pl g ps∧LedS A B j led S0 S1 S2 more∧S0.cur.poured=part (ps false) m∧RunSz S0 (100 * i+m)∧RunSz S2 (100 * i+m)∧
     ∃ v10 v12 v14 v15 v16 v17,σ'=[some (.ref a),some (.ref t),some (.ref oa),some (.ref ya),some (.int (A.vs.length:Int)),some (.int (j:Int)),some (.bl led),some (.ref r2),some (.ref rl),some (.int more),v10,some (.ref pl),v12,some (.int 0),v14,v15,v16,v17]) ?_ ?_ ?_
    ·exact⟨_,_,I,P1,bo,by rw[part_zero,lp0];exact zp0,z0.up06 (by omega),z2.up06 (by omega),_,_,_,_,_,_,rfl⟩
    ·clear I P1 bo z2 z0 zp0
     rintro m σ' H22 hm ⟨S0,S2,I,P1,bo,hpd,z0,z2,v10,v12,v14,v15,v16,v17,rfl⟩
     have eN:S0.net.vs.length=A.vs.length:=by rw[bo.n0]
     have eW:S2.net.vs.length=A.vs.length+B.vs.length:=by rw[bo.n2];exact dX led hj
     have hmv:((ps false).map V.int)[m]? = some (.int ((ps false).getD m 0)):=by
      rw[List.getElem?_map,List.getD_eq_getElem?_getD,List.getElem?_eq_getElem hm];rfl
     rw[Int.zero_add]
     obtain⟨dx,np,R,M,T',ei⟩:=I.a0.ins
     refine⟨_,rfl,_,rfl,.inl ⟨rl,_,0,_,rfl,rfl,bY.of I.rs,rfl,r0,dx,_,rfl,ei,lk_m "pour" rfl,_,rfl,_,rfl,_,rfl,.inl ⟨pl,_,0,_,rfl,rfl,bY.of P1.ep,rfl,_,rfl,.inl ⟨g false,_,(m:Int),_,rfl,rfl,bY.of (P1.e false),cT hmv,r0,S0,fp0,_,_,100 * i+m,rfl,I.a0,z0,by omega,by omega,by omega,fun H23 b23 ra23=>?_⟩⟩⟩⟩
     have I23:=I.on0 b23 ra23
     have P23:=P1.on0 b23
     obtain⟨dx,np,R,M,T',ei⟩:=I23.a2.ins
     refine⟨_,rfl,r2,dx,_,rfl,ei,lk_m "pour" rfl,_,rfl,_,rfl,_,rfl,_,_,rfl,rfl,.inr ⟨by decide,by decide⟩,_,_,rfl,rfl,_,rfl,_,rfl,.inl ⟨pl,_,0,_,rfl,rfl,bY.of P23.ep,rfl,_,rfl,.inl ⟨g false,_,(m:Int),_,rfl,rfl,bY.of (P23.e false),cT hmv,r2,S2,fp2,(m:Int),(ps false).getD m 0,100 * i+m,?_,I23.a2,z2,by omega,by omega,by omega,fun H24 b24 ra24=>?_⟩⟩⟩
     ·show [V.ref r2,V.int ((m:Int)+(A.vs.length:Int) * 0),V.int ((ps false).getD m 0)]=_
      rw[show (m:Int)+(A.vs.length:Int) * 0=(m:Int) by omega]
     refine⟨_,_,I23.on2 b24 ra24,P23.on2 b24,bo.pourL (m:Int) _ (by omega) (by omega),?_,z0.pour _ _,z2.pour _ _,_,_,_,_,_,_,rfl⟩
     show S0.cur.poured.set (m:Int).toNat (S0.cur.poured.getD (m:Int).toNat 0+_)=_
     rw[Int.toNat_natCast,hpd]
     exact part_step hm
    ·rintro σ' H22 ⟨S0,S2,I,P1,bo,hpd,z0,z2,v10,v12,v14,v15,v16,v17,rfl⟩
     rw[part_all] at hpd
     exact⟨S0,S1,S2,I,P1,bo,hpd,zp1,z0.up06 (by omega),z1.up06 (by omega),z2.up06 (by omega),_,_,_,_,_,_,_,rfl⟩
   ·
    refine⟨_,rfl,_,rfl,.inl ⟨pl,_,1,_,rfl,rfl,bY.of P1.ep,rfl,g true,_,rfl,.inl (bY.of (P1.e true)),_,rfl,by rw[List.length_map];omega,by rw[List.length_map];omega,?_⟩⟩
    rw[List.length_map,Int.toNat_natCast]
    refine dP (lo:=0) (n:=(ps true).length) (fun m σ' H'=>∃ S1 S2,L24 K C H' t sl rl r0 r1 r2 fp0 fp1 fp2 (.ref oa) (.ref ya) A B S0 S1 S2∧P24 H' t sl rl fp0 fp1 fp2 pl g ps∧LedS A B j led S0 S1 S2 more∧S1.cur.poured=part (ps true) m∧RunSz S1 (100 * i+6+m)∧RunSz S2 (100 * i+6+m)∧
     ∃ v10 v12 v14 v15 v16 v17,σ'=[some (.ref a),some (.ref t),some (.ref oa),some (.ref ya),some (.int (A.vs.length:Int)),some (.int (j:Int)),some (.bl led),some (.ref r2),some (.ref rl),some (.int more),v10,some (.ref pl),v12,some (.int 1),v14,v15,v16,v17]) ?_ ?_ ?_
    ·exact⟨_,_,I,P1,bo,by rw[part_zero,lp1];exact zp1,z1.up06 (by omega),z2.up06 (by omega),_,_,_,_,_,_,rfl⟩
    ·clear I P1 bo z2 z1 zp1
     rintro m σ' H22 hm ⟨S1,S2,I,P1,bo,hpd,z1,z2,v10,v12,v14,v15,v16,v17,rfl⟩
     have eN:S1.net.vs.length=B.vs.length:=by rw[bo.n1]
     have eW:S2.net.vs.length=A.vs.length+B.vs.length:=by rw[bo.n2];exact dX led hj
     have hmv:((ps true).map V.int)[m]? = some (.int ((ps true).getD m 0)):=by
      rw[List.getElem?_map,List.getD_eq_getElem?_getD,List.getElem?_eq_getElem hm];rfl
     rw[Int.zero_add]
     obtain⟨dx,np,R,M,T',ei⟩:=I.a1.ins
     refine⟨_,rfl,_,rfl,.inl ⟨rl,_,1,_,rfl,rfl,bY.of I.rs,rfl,r1,dx,_,rfl,ei,lk_m "pour" rfl,_,rfl,_,rfl,_,rfl,.inl ⟨pl,_,1,_,rfl,rfl,bY.of P1.ep,rfl,_,rfl,.inl ⟨g true,_,(m:Int),_,rfl,rfl,bY.of (P1.e true),cT hmv,r1,S1,fp1,_,_,100 * i+6+m,rfl,I.a1,z1,by omega,by omega,by omega,fun H23 b23 ra23=>?_⟩⟩⟩⟩
     have I23:=I.on1 b23 ra23
     have P23:=P1.on1 b23
     obtain⟨dx,np,R,M,T',ei⟩:=I23.a2.ins
     refine⟨_,rfl,r2,dx,_,rfl,ei,lk_m "pour" rfl,_,rfl,_,rfl,_,rfl,_,_,rfl,rfl,.inr ⟨by decide,by decide⟩,_,_,rfl,rfl,_,rfl,_,rfl,.inl ⟨pl,_,1,_,rfl,rfl,bY.of P23.ep,rfl,_,rfl,.inl ⟨g true,_,(m:Int),_,rfl,rfl,bY.of (P23.e true),cT hmv,r2,S2,fp2,(m:Int)+(A.vs.length:Int),(ps true).getD m 0,100 * i+6+m,?_,I23.a2,z2,by omega,by omega,by omega,fun H24 b24 ra24=>?_⟩⟩⟩
     ·show [V.ref r2,V.int ((m:Int)+(A.vs.length:Int) * 1),V.int ((ps true).getD m 0)]=_
      rw[show (m:Int)+(A.vs.length:Int) * 1=(m:Int)+(A.vs.length:Int) by omega]
     refine⟨_,_,I23.on2 b24 ra24,P23.on2 b24,bo.pourR (m:Int) _ (by omega),?_,z1.pour _ _,z2.pour _ _,_,_,_,_,_,_,rfl⟩
     show S1.cur.poured.set (m:Int).toNat (S1.cur.poured.getD (m:Int).toNat 0+_)=_
     rw[Int.toNat_natCast,hpd]
     exact part_step hm
    ·rintro σ' H22 ⟨S1,S2,I,P1,bo,hpd,z1,z2,v10,v12,v14,v15,v16,v17,rfl⟩
     rw[part_all] at hpd
     exact⟨S0,S1,S2,I,P1,bo,zp0,hpd,z0.up06 (by omega),z1.up06 (by omega),z2.up06 (by omega),_,_,_,_,_,_,_,rfl⟩
   ·omega
  clear I P1 bo zp0 zp1 z0 z1 z2 eA0 eB0
  rintro σ' H21 ⟨S0,S1,S2,I,P1,bo,pd0,pd1,z0,z1,z2,v10,v12,v13,v14,v15,v16,v17,rfl⟩
  have eB:S1.net.vs.length=B.vs.length:=by rw[bo.n1]
  obtain⟨dx,np,R,M,T',ei⟩:=I.a1.ins
  refine⟨_,rfl,.inl ⟨rl,_,1,_,rfl,rfl,bY.of I.rs,rfl,r1,dx,_,rfl,ei,lk_m "pour" rfl,_,rfl,r1,S1,fp1,0,more,100 * i+12,rfl,I.a1,z1,by omega,by decide,by omega,fun H22 b22 ra22=>?_⟩⟩
  have I22:=I.on1 b22 ra22
  have P22:=P1.on1 b22
  have z1:=z1.pour 0 more
  refine⟨_,rfl,.inr ⟨_,rfl,_,rfl,?_⟩⟩
  refine m_tell rfl I22.rs rfl (fun _ _ _ _=>rfl) I22.a0 fun st hst=>?_
  have o0:=I22.a0.ok.cur
  rw[bo.n0] at o0
  refine⟨_,rfl,.inl ⟨pl,_,0,_,rfl,rfl,bY.of P22.ep,rfl,_,rfl,.ref oa,st,g false,A,S0.cur.held,S0.cur.coming,ps false,S0.cur.doors,j,rfl,I22.hx,hst,.inr (bY.of (P22.e false)),okA,o0.st,lp0,hj,fun H23 s23=>⟨_,_,rfl,rfl,.inl ⟨by cases led <;> decide,by cases led <;> decide⟩,?_⟩⟩⟩
  have I23:=I22.same s23
  have em:(if led=true then (1:Int) else 0) * gBy (A.vs.getD j vNil) ((aZ A S0.cur.held S0.cur.coming (ps false) S0.cur.doors).getD j 0)=onWay A j led S0:=by
   unfold onWay
   rw[pd0]
   cases led
   ·rw[if_neg (by decide),if_neg (by decide),Int.zero_mul]
   ·rw[if_pos rfl,if_pos rfl,Int.one_mul]
  dsimp only
  rw[em]
  have bg:=bo.go okA okB hj
  generalize onWay A j led S0=more' at bg
  clear I I22 P22 P1 bo pd0 pd1 b22 s23 em hst o0
  generalize S1.pour 0 more=S1 at *
  refine for_by (fun σ' H'=>L24 K C H' t sl rl r0 r1 r2 fp0 fp1 fp2 (.ref oa) (.ref ya) A B (S0.go 1) (S1.go 1) (S2.go 1)∧∃ v10 v11 v12 v13 v14 v15 v16 v17,σ'=[some (.ref a),some (.ref t),some (.ref oa),some (.ref ya),some (.int (A.vs.length:Int)),some (.int (j:Int)),some (.bl led),some (.ref r2),some (.ref rl),some (.int more'),v10,v11,v12,v13,v14,v15,v16,v17]) (fun D' hD=>?_) ?_
  ·refine⟨_,rfl,(show 1≤sizeLine by decide),fun c0 hc0=>?_⟩
   have s1:=aK.new (o:=HO.lst [.ref r2]) hc0
   have e1:upd H23 c0 (.lst [.ref r2]) c0=some (.lst [.ref r2]):=aD
   generalize upd H23 c0 (.lst [.ref r2])=H24 at s1 e1
   have I24:=I23.same s1
   refine⟨_,rfl,c0,rl,_,_,rfl,rfl,e1,I24.rs,(show 3≤sizeLine by decide),fun ql hql=>?_⟩
   have oq:=I24.out hql
   have s2:=aK.new (o:=HO.lst [.ref r2,.ref r0,.ref r1]) hql
   refine⟨ql,rfl,⟨_,bY.of aD⟩,for_list (K:=K) (a:=ql) (xs:=[.ref r2,.ref r0,.ref r1]) (fun m σ' H'=>H' ql=some (.lst [.ref r2,.ref r0,.ref r1])∧L24 K C H' t sl rl r0 r1 r2 fp0 fp1 fp2 (.ref oa) (.ref ya) A B (if 2≤m then S0.go 1 else S0) (if 3≤m then S1.go 1 else S1) (if 1≤m then S2.go 1 else S2)∧
     ∃ v10 v11 v12 v13 v14 v15 v16 v17,σ'=[some (.ref a),some (.ref t),some (.ref oa),some (.ref ya),some (.int (A.vs.length:Int)),some (.int (j:Int)),some (.bl led),some (.ref r2),some (.ref rl),some (.int more'),v10,v11,v12,v13,v14,v15,v16,v17])
    ⟨aD,I24.same s2,_,_,_,_,_,_,_,_,rfl⟩ (fun m σ' H' _ p=>bY.of p.1) ?_ ?_⟩
   ·rintro m u σ' H25 hu ⟨eq,I25,v10,v11,v12,v13,v14,v15,v16,v17,rfl⟩
    rcases m with _ | _ | _ | m
    ·cases hu
     exact m_goV rfl I25.a2 z2 (by omega) fun H26 b26 ra26=>⟨b26 _ _ oq.2.2.2.2.2 eq,I25.on2 b26 ra26,_,_,_,_,_,_,_,_,rfl⟩
    ·cases hu
     exact m_goV rfl I25.a0 z0 (by omega) fun H26 b26 ra26=>⟨b26 _ _ oq.2.2.2.1 eq,I25.on0 b26 ra26,_,_,_,_,_,_,_,_,rfl⟩
    ·cases hu
     exact m_goV rfl I25.a1 z1 (by omega) fun H26 b26 ra26=>⟨b26 _ _ oq.2.2.2.2.1 eq,I25.on1 b26 ra26,_,_,_,_,_,_,_,_,rfl⟩
    ·cases hu
   ·rintro σ' H25 ⟨_,I25,v10,v11,v12,v13,v14,v15,v16,v17,rfl⟩
    exact hD _ _ ⟨I25,_,_,_,_,_,_,_,_,rfl⟩
  rintro σ' H24 ⟨I24,v10,v11,v12,v13,v14,v15,v16,v17,rfl⟩
  have w0:=(z0.go I23.a0.ok.nok 1).up06 (show _≤100 * (i+1) by omega)
  have w1:=(z1.go I23.a1.ok.nok 1).up06 (show _≤100 * (i+1) by omega)
  have w2:=(z2.go I23.a2.ok.nok 1).up06 (show _≤100 * (i+1) by omega)
  have zp0:(S0.go 1).cur.poured=bZ A.vs.length:=by rw[← bg.n0];rfl
  have zp1:(S1.go 1).cur.poured=bZ B.vs.length:=by rw[← bg.n1];rfl
  clear I23 z0 z1 z2
  generalize S0.go 1=S0 at *
  generalize S1.go 1=S1 at *
  generalize S2.go 1=S2 at *
  have eA:S0.net.vs.length=A.vs.length:=by rw[bg.n0]
  have eB:S1.net.vs.length=B.vs.length:=by rw[bg.n1]
  have eW:S2.net.vs.length=A.vs.length+B.vs.length:=by rw[bg.n2];exact dX led hj
  have o0:=I24.a0.ok.cur
  have o1:=I24.a1.ok.cur
  rw[bg.n0] at o0
  rw[bg.n1] at o1
  have t0:S0.tips.length=A.vs.length:=by rw[I24.a0.ok.tl,eA]
  have t1:S1.tips.length=B.vs.length:=by rw[I24.a1.ok.tl,eB]
  refine⟨_,rfl,rl,rfl,⟨_,bY.of I24.rs⟩,lc_list (K:=K) (a:=rl) (xs:=[.ref r0,.ref r1]) (fun D q rr σ' H'=>H24 D=none∧aK H24 H'∧H' D=some (.lst rr)∧IsL K H' (([S0,S1].take q).map fun S=>stD S.cur.held S.cur.coming S.cur.doors) rr∧∃ u,σ'=[u])
   (fun D q rr σ' H' p=>bY.of (p.2.1 _ _ I24.rs)) (fun D hD=>⟨hD,aK.new hD,aD,.nil,none,rfl⟩) ?_ ?_⟩
  rotate_left
  ·rintro D q x rr σ' H25 hx ⟨hD,sm,hDl,lr,u,rfl⟩
   refine d9 ?_
   have hg:∃ (r:Addr) (S:RunS) (fp:List Addr),x=.ref r∧[S0,S1][q]? = some S∧bX K C H25 r S fp:=by
    rcases q with _ | _ | q
    ·cases hx;exact⟨r0,S0,fp0,rfl,rfl,I24.a0.same sm⟩
    ·cases hx;exact⟨r1,S1,fp1,rfl,rfl,I24.a1.same sm⟩
    ·cases hx
   obtain⟨r,S,fp,rfl,hS,ra⟩:=hg
   refine m_tellV rfl (fun _ _ _ _=>rfl) ra fun v hv=>?_
   have mu:Mut (H25 D):=by rw[hDl];exact trivial
   have ts2:bU K H25 (upd H25 D (.lst (rr++[v]))):=cK.ts cK.upd mu
   have hrl:rr.length≤3:=by rw[lr.length,List.length_map,List.length_take];exact Nat.le_trans (Nat.min_le_right _ _) (show 2≤3 by decide)
   refine⟨hDl,aQ (by omega),hD,sm.put hD,aD,?_,_,rfl⟩
   rw[bJ hS,List.map_append]
   exact L2.IsL.snoc (Is.mono ts2 _ _ hv) (L2.IsL.mono ts2 _ _ lr)
  rintro sa rr σ' H25 ⟨_,s25,hsa,lr,_⟩
  obtain⟨x0,rr,rfl,h0,lr⟩:=L2.IsL.un (show IsL K H25 (stD S0.cur.held S0.cur.coming S0.cur.doors::[stD S1.cur.held S1.cur.coming S1.cur.doors]) rr from lr)
  obtain⟨x1,rr,rfl,h1,lr⟩:=lr.un
  have:=lr.un0
  subst this
  have I25:=I24.same s25
  obtain⟨a0,b0,c0,d0,rfl,q0,qb0,qc0,qd0⟩:=st_un h0
  obtain⟨a1,b1,c1,d1,rfl,q1,qb1,qc1,qd1⟩:=st_un h1
  refine m_tellV rfl (fun _ _ _ _=>rfl) I25.a2 fun st hst=>?_
  obtain⟨a2,b2,c2,d2,rfl,q2,qb2,qc2,qd2⟩:=st_un hst
  have lh0:=o0.st.h
  have lh1:=o1.st.h
  have ld0:=o0.st.d
  have ld1:=o1.st.d
  refine⟨_,rfl,.inr (.inl ⟨a2,_,0,_,rfl,rfl,q2,rfl,_,rfl,.inl ⟨sa,_,0,_,rfl,rfl,bY.of hsa,rfl,.inr (.inl ⟨a0,_,0,_,rfl,rfl,q0,rfl,_,rfl,.inl ⟨sa,_,1,_,rfl,rfl,bY.of hsa,rfl,.inr (.inl ⟨a1,_,0,_,rfl,rfl,q1,rfl,b0,b1,_,_,rfl,rfl,qb0,qb1,Nat.le_of_lt (aQ (by rw[List.length_map,List.length_map];omega)),fun p H26 s26 qp=>?_⟩)⟩⟩)⟩⟩)⟩
  rw[← List.map_append,← bg.held] at qp
  refine⟨S2.cur.held.map L2.D.int,by rw[List.length_map,bg.held,List.length_append];omega,by rw[depth_ints06];decide,Is.tupOf (s26.tup qb2) (L2.IsL.of_ints _),Is.tupOf qp (L2.IsL.of_ints _),_,rfl,eJ ?_⟩
  refine⟨_,rfl,.inr (.inl ⟨a2,_,2,_,rfl,rfl,s26.tup q2,rfl,_,rfl,.inl ⟨sa,_,0,_,rfl,rfl,bY.of (s26 _ _ hsa),rfl,.inr (.inl ⟨a0,_,2,_,rfl,rfl,s26.tup q0,rfl,_,rfl,.inl ⟨sa,_,1,_,rfl,rfl,bY.of (s26 _ _ hsa),rfl,.inr (.inl ⟨a1,_,2,_,rfl,rfl,s26.tup q1,rfl,d0,d1,_,_,rfl,rfl,s26.tup qd0,s26.tup qd1,Nat.le_of_lt (aQ (by rw[List.length_map,List.length_map];omega)),fun p' H27 s27 qp'=>?_⟩)⟩⟩)⟩⟩)⟩
  rw[← List.map_append,← bg.doors] at qp'
  refine⟨S2.cur.doors.map L2.D.bl,by rw[List.length_map,bg.doors,List.length_append];omega,by rw[depth_bools24];decide,Is.tupOf ((s26.trans s27).tup qd2) (L2.IsL.of_bools _),Is.tupOf qp' (L2.IsL.of_bools _),_,rfl,eJ ?_⟩
  have I27:=I25.same (s26.trans s27)
  clear I24 I25 h0 h1 hst q0 q1 q2 qb0 qb1 qb2 qc0 qc1 qc2 qd0 qd1 qd2 qp qp' hsa s25 s26 s27
  obtain⟨ya',yb,yc,us,ws,eya,qy,qy1,ly1,_,_⟩:=dM I27.ho
  cases eya
  have eul:us.length=B.vs.length:=by rw[ly1.length,List.length_map]
  refine⟨_,rfl,.inr (.inl ⟨ya,_,0,_,rfl,rfl,qy,rfl,yb,us,rfl,.inr qy1,_,rfl,by omega,by omega,?_⟩)⟩
  rw[show ((us.length:Nat):Int).toNat=B.vs.length by omega]
  refine lc_tipsG (fun m=>S1.tips.getD m []) rfl (by omega) (fun m H2 Q hm s2 kk=>?_) fun D1 H28 ns1 _ s28 hD1 hl1 ht1=>?_
  ·have ra:=I27.a2.same s2
   obtain⟨dx,np,R,M,T',ei⟩:=ra.ins
   refine⟨_,rfl,r2,dx,_,rfl,ei,lk_m "tips" rfl,_,rfl,_,rfl,_,_,rfl,rfl,r2,S2,fp2,(m:Int)+(A.vs.length:Int),S1.tips.getD m [],rfl,ra,by omega,by omega,?_,kk⟩
   rw[show ((m:Int)+(A.vs.length:Int)).toNat=S0.tips.length+m by omega,bg.tips,List.getElem?_append_right (by omega),Nat.add_sub_cancel_left,List.getD_eq_getElem?_getD,List.getElem?_eq_getElem (by omega)];rfl
  have I28:=I27.same s28
  refine⟨_,rfl,.inr (.inl ⟨ya,_,0,_,rfl,rfl,s28.tup qy,rfl,yb,us,rfl,.inr (s28.tup qy1),_,rfl,by omega,by omega,?_⟩)⟩
  rw[show ((us.length:Nat):Int).toNat=B.vs.length by omega]
  refine lc_tipsG (fun m=>S1.tips.getD m []) rfl (by omega) (fun m H2 Q hm s2 kk=>?_) fun D2 H29 ns2 _ s29 hD2 hl2 ht2=>?_
  ·exact m_tipsI (v:=(m:Int)) rfl rfl (s2 _ _ I28.rs) rfl (I28.a1.same s2) (by omega) (by omega) (by rw[Int.toNat_natCast,List.getD_eq_getElem?_getD,List.getElem?_eq_getElem (by omega)];rfl) kk
  refine⟨same_tips (s29 _ _ hD1) hD2 (by omega) (fun m t h=>s29 _ _ (ht1 m t h)) ht2,_,rfl,eJ ?_⟩
  have I29:=I28.same s29
  clear I27 I28 hD1 hD2 ht1 ht2 qy qy1 ly1
  refine⟨_,rfl,_,rfl,by omega,by omega,?_⟩
  rw[Int.toNat_natCast]
  refine lc_tipsG (fun m=>S0.tips.getD m []) rfl (by omega) (fun m H2 Q hm s2 kk=>?_) fun D1 H30 ns1 _ s30 hD1 hl1 ht1=>?_
  ·have ra:=I29.a2.same s2
   obtain⟨dx,np,R,M,T',ei⟩:=ra.ins
   refine⟨_,rfl,r2,dx,_,rfl,ei,lk_m "tips" rfl,_,rfl,r2,S2,fp2,(m:Int),S0.tips.getD m [],rfl,ra,by omega,by omega,?_,kk⟩
   rw[Int.toNat_natCast,bg.tips,List.getElem?_append_left (by omega),List.getD_eq_getElem?_getD,List.getElem?_eq_getElem (by omega)];rfl
  have I30:=I29.same s30
  refine⟨_,rfl,_,rfl,by omega,by omega,?_⟩
  rw[Int.toNat_natCast]
  refine lc_tipsG (fun m=>S0.tips.getD m []) rfl (by omega) (fun m H2 Q hm s2 kk=>?_) fun D2 H31 ns2 _ s31 hD2 hl2 ht2=>?_
  ·exact m_tipsI (v:=(m:Int)) rfl rfl (s2 _ _ I30.rs) rfl (I30.a0.same s2) (by omega) (by omega) (by rw[Int.toNat_natCast,List.getD_eq_getElem?_getD,List.getElem?_eq_getElem (by omega)];rfl) kk
  refine⟨same_tips (s31 _ _ hD1) hD2 (by omega) (fun m t h=>s31 _ _ (ht1 m t h)) ht2,_,rfl,eJ ?_⟩
  exact⟨S0,S1,S2,more',I30.same s31,bg,zp0,zp1,w0,w1,w2,_,_,_,_,_,_,_,_,rfl⟩
end
end Tw
namespace Tw
open PySem L2
theorem by_len1 {α:Type}{p:List α→Prop} (h:∀ a0,p [a0]):∀ us:List α,us.length=1→p us
 | [a0],_=>h a0
theorem eE {α:Type}{p:List α→Prop} (h:∀ a0 a1,p [a0,a1]):∀ us:List α,us.length=2→p us
 | [a0,a1],_=>h a0 a1
theorem cS {α:Type}{p:List α→Prop} (h:∀ a0 a1 a2,p [a0,a1,a2]):∀ us:List α,us.length=3→p us
 | [a0,a1,a2],_=>h a0 a1 a2
theorem by_len4 {α:Type}{p:List α→Prop} (h:∀ a0 a1 a2 a3,p [a0,a1,a2,a3]):∀ us:List α,us.length=4→p us
 | [a0,a1,a2,a3],_=>h a0 a1 a2 a3
theorem by_len5 {α:Type}{p:List α→Prop} (h:∀ a0 a1 a2 a3 a4,p [a0,a1,a2,a3,a4]):∀ us:List α,us.length=5→p us
 | [a0,a1,a2,a3,a4],_=>h a0 a1 a2 a3 a4
theorem all_mk {l:PySem.W.OpenLaw}{w:World}{K:PySem.W.Frag}{h:Heap}{mg:Str→Option Value}{fa f0 f1 f2 f3 f4 f5 f6 f7 f8 f9 f10 f11 f12 f13 f14 f15 f16 f17 f18 f19 f20 f21 f22 f23 f24 f25 f26 f27 f28 f29 f30 f31 f32 f33 f34 f35 f36 f37 f38 C aw c_TipError c_NoNet c_NoVessel c_TooMany c_Nothing:Addr} (X:K.In h) (G:h.Ns mainGlobals mg) (hfa:mg "law" = some (.ref fa))
  {od0 an0 od1 an1 od2 an2 od3 an3 od4 an4 od5 an5 od6 an6 od7 an7 od8 an8 od9 an9 od10 an10 od11 an11 od12 an12 od13 an13 od14 an14 od15 an15 od16 an16 od17 an17 od18 an18 od19 an19 od20 an20 od21 an21 od22 an22 od23 an23 od24 an24 od25 an25 od26 an26 od27 an27 od28 an28 od29 an29 od30 an30 od31 an31 od32 an32 od33 an33 od34 an34 od35 an35 od36 an36 od37 an37 od38 an38:Option Addr}{sl0 sl1 sl2 sl3 sl4 sl5 sl6 sl7 sl8 sl9 sl10 sl11 sl12 sl13 sl14 sl15 sl16 sl17 sl18 sl19 sl20 sl21 sl22 sl23 sl24 sl25 sl26 sl27 sl28 sl29 sl30 sl31 sl32 sl33 sl34 sl35 sl36 sl37 sl38:Array (Option Value)}{oc0 kV0 dc0 pm0 cd0 ct0 oc1 kV1 dc1 pm1 cd1 ct1 oc2 kV2 dc2 pm2 cd2 ct2 oc3 kV3 dc3 pm3 cd3 ct3 oc4 kV4 dc4 pm4 cd4 ct4 oc5 kV5 dc5 pm5 cd5 ct5 oc6 kV6 dc6 pm6 cd6 ct6 oc7 kV7 dc7 pm7 cd7 ct7 oc8 kV8 dc8 pm8 cd8 ct8 oc9 kV9 dc9 pm9 cd9 ct9 oc10 kV10 dc10 pm10 cd10 ct10 oc11 kV11 dc11 pm11 cd11 ct11 oc12 kV12 dc12 pm12 cd12 ct12 oc13 kV13 dc13 pm13 cd13 ct13 oc14 kV14 dc14 pm14 cd14 ct14 oc15 kV15 dc15 pm15 cd15 ct15 oc16 kV16 dc16 pm16 cd16 ct16 oc17 kV17 dc17 pm17 cd17 ct17 oc18 kV18 dc18 pm18 cd18 ct18 oc19 kV19 dc19 pm19 cd19 ct19 oc20 kV20 dc20 pm20 cd20 ct20 oc21 kV21 dc21 pm21 cd21 ct21 oc22 kV22 dc22 pm22 cd22 ct22 oc23 kV23 dc23 pm23 cd23 ct23 oc24 kV24 dc24 pm24 cd24 ct24 oc25 kV25 dc25 pm25 cd25 ct25 oc26 kV26 dc26 pm26 cd26 ct26 oc27 kV27 dc27 pm27 cd27 ct27 oc28 kV28 dc28 pm28 cd28 ct28 oc29 kV29 dc29 pm29 cd29 ct29 oc30 kV30 dc30 pm30 cd30 ct30 oc31 kV31 dc31 pm31 cd31 ct31 oc32 kV32 dc32 pm32 cd32 ct32 oc33 kV33 dc33 pm33 cd33 ct33 oc34 kV34 dc34 pm34 cd34 ct34 oc35 kV35 dc35 pm35 cd35 ct35 oc36 kV36 dc36 pm36 cd36 ct36 oc37 kV37 dc37 pm37 cd37 ct37 oc38 kV38 dc38 pm38 cd38 ct38:Value}
  {tk0 tk1 tk2 tk3 tk4 tk5 tk6 tk7 tw1 tw2 tw3:Tok}{odw:Option Addr}{nw:Nat}{slw:Array (Option Value)}
  (aC:PySem.W.nsIn K mainGlobals "Run" = some (some (.ref C)))
  {tkV1 tkV2:Tok}
  (a0:PySem.W.nsIn K mainGlobals "_law_draw" = some (some (.ref f0)))
  (l0:K.lookup f0=some ⟨oc0,od0,.func (PySem.W.fnOf "_law_draw" "_law_draw" (bA (aX 50)) (b9 (aX 50)) (aJ (aX 50)) .none kV0 dc0 pm0 an0 cd0 ct0),sl0⟩)
  (c0:PySem.W.codeIn K cd0 "_law_draw" = true)
  (k0:PySem.W.keepIn K (.ref f0)=true)
  (a1:PySem.W.nsIn K mainGlobals "_law_outs" = some (some (.ref f1)))
  (l1:K.lookup f1=some ⟨oc1,od1,.func (PySem.W.fnOf "_law_outs" "_law_outs" (bA (aX 51)) (b9 (aX 51)) (aJ (aX 51)) .none kV1 dc1 pm1 an1 cd1 ct1),sl1⟩)
  (c1:PySem.W.codeIn K cd1 "_law_outs" = true)
  (k1:PySem.W.keepIn K (.ref f1)=true)
  (a2:PySem.W.nsIn K mainGlobals "_law_vessel" = some (some (.ref f2)))
  (l2:K.lookup f2=some ⟨oc2,od2,.func (PySem.W.fnOf "_law_vessel" "_law_vessel" (bA (aX 52)) (b9 (aX 52)) (aJ (aX 52)) .none kV2 dc2 pm2 an2 cd2 ct2),sl2⟩)
  (c2:PySem.W.codeIn K cd2 "_law_vessel" = true)
  (k2:PySem.W.keepIn K (.ref f2)=true)
  (a3:PySem.W.nsIn K mainGlobals "_law_net" = some (some (.ref f3)))
  (l3:K.lookup f3=some ⟨oc3,od3,.func (PySem.W.fnOf "_law_net" "_law_net" (bA (aX 53)) (b9 (aX 53)) (aJ (aX 53)) .none kV3 dc3 pm3 an3 cd3 ct3),sl3⟩)
  (c3:PySem.W.codeIn K cd3 "_law_net" = true)
  (k3:PySem.W.keepIn K (.ref f3)=true)
  (a4:PySem.W.nsIn K mainGlobals "_law_fewer" = some (some (.ref f4)))
  (l4:K.lookup f4=some ⟨oc4,od4,.func (PySem.W.fnOf "_law_fewer" "_law_fewer" (bA (aX 55)) (b9 (aX 55)) (aJ (aX 55)) .none kV4 dc4 pm4 an4 cd4 ct4),sl4⟩)
  (c4:PySem.W.codeIn K cd4 "_law_fewer" = true)
  (k4:PySem.W.keepIn K (.ref f4)=true)
  (a5:PySem.W.nsIn K mainGlobals "renumbered_vessel" = some (some (.ref f5)))
  (l5:K.lookup f5=some ⟨oc5,od5,.func (PySem.W.fnOf "renumbered_vessel" "renumbered_vessel" (bA (aX 28)) (b9 (aX 28)) (aJ (aX 28)) .none kV5 dc5 pm5 an5 cd5 ct5),sl5⟩)
  (c5:PySem.W.codeIn K cd5 "renumbered_vessel" = true)
  (k5:PySem.W.keepIn K (.ref f5)=true)
  (a6:PySem.W.nsIn K mainGlobals "renumbered" = some (some (.ref f6)))
  (l6:K.lookup f6=some ⟨oc6,od6,.func (PySem.W.fnOf "renumbered" "renumbered" (bA (aX 27)) (b9 (aX 27)) (aJ (aX 27)) .none kV6 dc6 pm6 an6 cd6 ct6),sl6⟩)
  (c6:PySem.W.codeIn K cd6 "renumbered" = true)
  (k6:PySem.W.keepIn K (.ref f6)=true)
  (a7:PySem.W.nsIn K mainGlobals "beside" = some (some (.ref f7)))
  (l7:K.lookup f7=some ⟨oc7,od7,.func (PySem.W.fnOf "beside" "beside" (bA (aX 30)) (b9 (aX 30)) (aJ (aX 30)) .none kV7 dc7 pm7 an7 cd7 ct7),sl7⟩)
  (c7:PySem.W.codeIn K cd7 "beside" = true)
  (k7:PySem.W.keepIn K (.ref f7)=true)
  (a8:PySem.W.nsIn K mainGlobals "is_whole" = some (some (.ref f8)))
  (l8:K.lookup f8=some ⟨oc8,od8,.func (PySem.W.fnOf "is_whole" "is_whole" (bA (aX 25)) (b9 (aX 25)) (aJ (aX 25)) .none kV8 dc8 pm8 an8 cd8 ct8),sl8⟩)
  (c8:PySem.W.codeIn K cd8 "is_whole" = true)
  (k8:PySem.W.keepIn K (.ref f8)=true)
  (a9:PySem.W.nsIn K mainGlobals "need_vessel" = some (some (.ref f9)))
  (l9:K.lookup f9=some ⟨oc9,od9,.func (PySem.W.fnOf "need_vessel" "need_vessel" (bA (aX 22)) (b9 (aX 22)) (aJ (aX 22)) .none kV9 dc9 pm9 an9 cd9 ct9),sl9⟩)
  (c9:PySem.W.codeIn K cd9 "need_vessel" = true)
  (k9:PySem.W.keepIn K (.ref f9)=true)
  (a10:PySem.W.nsIn K mainGlobals "with_vessel" = some (some (.ref f10)))
  (l10:K.lookup f10=some ⟨oc10,od10,.func (PySem.W.fnOf "with_vessel" "with_vessel" (bA (aX 23)) (b9 (aX 23)) (aJ (aX 23)) .none kV10 dc10 pm10 an10 cd10 ct10),sl10⟩)
  (c10:PySem.W.codeIn K cd10 "with_vessel" = true)
  (k10:PySem.W.keepIn K (.ref f10)=true)
  (a11:PySem.W.nsIn K mainGlobals "led_on" = some (some (.ref f11)))
  (l11:K.lookup f11=some ⟨oc11,od11,.func (PySem.W.fnOf "led_on" "led_on" (bA (aX 31)) (b9 (aX 31)) (aJ (aX 31)) .none kV11 dc11 pm11 an11 cd11 ct11),sl11⟩)
  (c11:PySem.W.codeIn K cd11 "led_on" = true)
  (k11:PySem.W.keepIn K (.ref f11)=true)
  (a12:PySem.W.nsIn K mainGlobals "_law_filled" = some (some (.ref f12)))
  (l12:K.lookup f12=some ⟨oc12,od12,.func (PySem.W.fnOf "_law_filled" "_law_filled" (bA (aX 54)) (b9 (aX 54)) (aJ (aX 54)) .none kV12 dc12 pm12 an12 cd12 ct12),sl12⟩)
  (c12:PySem.W.codeIn K cd12 "_law_filled" = true)
  (k12:PySem.W.keepIn K (.ref f12)=true)
  (a13:PySem.W.nsIn K mainGlobals "_law_grounded_by" = some (some (.ref f13)))
  (l13:K.lookup f13=some ⟨oc13,od13,.func (PySem.W.fnOf "_law_grounded_by" "_law_grounded_by" (bA (aX 56)) (b9 (aX 56)) (aJ (aX 56)) .none kV13 dc13 pm13 an13 cd13 ct13),sl13⟩)
  (c13:PySem.W.codeIn K cd13 "_law_grounded_by" = true)
  (k13:PySem.W.keepIn K (.ref f13)=true)
  (a14:PySem.W.nsIn K mainGlobals "is_tuple" = some (some (.ref f14)))
  (l14:K.lookup f14=some ⟨oc14,od14,.func (PySem.W.fnOf "is_tuple" "is_tuple" (bA (aX 24)) (b9 (aX 24)) (aJ (aX 24)) .none kV14 dc14 pm14 an14 cd14 ct14),sl14⟩)
  (c14:PySem.W.codeIn K cd14 "is_tuple" = true)
  (k14:PySem.W.keepIn K (.ref f14)=true)
  (a15:PySem.W.nsIn K mainGlobals "is_out" = some (some (.ref f15)))
  (l15:K.lookup f15=some ⟨oc15,od15,.func (PySem.W.fnOf "is_out" "is_out" (bA (aX 19)) (b9 (aX 19)) (aJ (aX 19)) .none kV15 dc15 pm15 an15 cd15 ct15),sl15⟩)
  (c15:PySem.W.codeIn K cd15 "is_out" = true)
  (k15:PySem.W.keepIn K (.ref f15)=true)
  (a16:PySem.W.nsIn K mainGlobals "is_act" = some (some (.ref f16)))
  (l16:K.lookup f16=some ⟨oc16,od16,.func (PySem.W.fnOf "is_act" "is_act" (bA (aX 20)) (b9 (aX 20)) (aJ (aX 20)) .none kV16 dc16 pm16 an16 cd16 ct16),sl16⟩)
  (c16:PySem.W.codeIn K cd16 "is_act" = true)
  (k16:PySem.W.keepIn K (.ref f16)=true)
  (a17:PySem.W.nsIn K mainGlobals "is_vessel" = some (some (.ref f17)))
  (l17:K.lookup f17=some ⟨oc17,od17,.func (PySem.W.fnOf "is_vessel" "is_vessel" (bA (aX 18)) (b9 (aX 18)) (aJ (aX 18)) .none kV17 dc17 pm17 an17 cd17 ct17),sl17⟩)
  (c17:PySem.W.codeIn K cd17 "is_vessel" = true)
  (k17:PySem.W.keepIn K (.ref f17)=true)
  (a18:PySem.W.nsIn K mainGlobals "is_spout" = some (some (.ref f18)))
  (l18:K.lookup f18=some ⟨oc18,od18,.func (PySem.W.fnOf "is_spout" "is_spout" (bA (aX 21)) (b9 (aX 21)) (aJ (aX 21)) .none kV18 dc18 pm18 an18 cd18 ct18),sl18⟩)
  (c18:PySem.W.codeIn K cd18 "is_spout" = true)
  (k18:PySem.W.keepIn K (.ref f18)=true)
  (a19:PySem.W.nsIn K mainGlobals "is_net" = some (some (.ref f19)))
  (l19:K.lookup f19=some ⟨oc19,od19,.func (PySem.W.fnOf "is_net" "is_net" (bA (aX 17)) (b9 (aX 17)) (aJ (aX 17)) .none kV19 dc19 pm19 an19 cd19 ct19),sl19⟩)
  (c19:PySem.W.codeIn K cd19 "is_net" = true)
  (k19:PySem.W.keepIn K (.ref f19)=true)
  (a20:PySem.W.nsIn K mainGlobals "first_state" = some (some (.ref f20)))
  (l20:K.lookup f20=some ⟨oc20,od20,.func (PySem.W.fnOf "first_state" "first_state" (bA (aX 33)) (b9 (aX 33)) (aJ (aX 33)) .none kV20 dc20 pm20 an20 cd20 ct20),sl20⟩)
  (c20:PySem.W.codeIn K cd20 "first_state" = true)
  (k20:PySem.W.keepIn K (.ref f20)=true)
  (a21:PySem.W.nsIn K mainGlobals "pouring" = some (some (.ref f21)))
  (l21:K.lookup f21=some ⟨oc21,od21,.func (PySem.W.fnOf "pouring" "pouring" (bA (aX 34)) (b9 (aX 34)) (aJ (aX 34)) .none kV21 dc21 pm21 an21 cd21 ct21),sl21⟩)
  (c21:PySem.W.codeIn K cd21 "pouring" = true)
  (k21:PySem.W.keepIn K (.ref f21)=true)
  (a22:PySem.W.nsIn K mainGlobals "first_moment" = some (some (.ref f22)))
  (l22:K.lookup f22=some ⟨oc22,od22,.func (PySem.W.fnOf "first_moment" "first_moment" (bA (aX 43)) (b9 (aX 43)) (aJ (aX 43)) .none kV22 dc22 pm22 an22 cd22 ct22),sl22⟩)
  (c22:PySem.W.codeIn K cd22 "first_moment" = true)
  (k22:PySem.W.keepIn K (.ref f22)=true)
  (a23:PySem.W.findIn K (.ref C) "__init__" = some (some (.ref f23)))
  (i23:PySem.W.isFn K (.ref f23)=true)
  (l23:K.lookup f23=some ⟨oc23,od23,.func (PySem.W.fnOf "__init__" "Run.__init__" (bA (bQ (aX 48) 0)) (b9 (bQ (aX 48) 0)) (aJ (bQ (aX 48) 0)) .none kV23 dc23 pm23 an23 cd23 ct23),sl23⟩)
  (c23:PySem.W.codeIn K cd23 "Run.__init__" = true)
  (k23:PySem.W.keepIn K (.ref f23)=true)
  (a24:PySem.W.nsIn K mainGlobals "moment_poured" = some (some (.ref f24)))
  (l24:K.lookup f24=some ⟨oc24,od24,.func (PySem.W.fnOf "moment_poured" "moment_poured" (bA (aX 44)) (b9 (aX 44)) (aJ (aX 44)) .none kV24 dc24 pm24 an24 cd24 ct24),sl24⟩)
  (c24:PySem.W.codeIn K cd24 "moment_poured" = true)
  (k24:PySem.W.keepIn K (.ref f24)=true)
  (a25:PySem.W.findIn K (.ref C) "pour" = some (some (.ref f25)))
  (i25:PySem.W.isFn K (.ref f25)=true)
  (l25:K.lookup f25=some ⟨oc25,od25,.func (PySem.W.fnOf "pour" "Run.pour" (bA (bQ (aX 48) 1)) (b9 (bQ (aX 48) 1)) (aJ (bQ (aX 48) 1)) .none kV25 dc25 pm25 an25 cd25 ct25),sl25⟩)
  (c25:PySem.W.codeIn K cd25 "Run.pour" = true)
  (k25:PySem.W.keepIn K (.ref f25)=true)
  (a26:PySem.W.nsIn K mainGlobals "filled" = some (some (.ref f26)))
  (l26:K.lookup f26=some ⟨oc26,od26,.func (PySem.W.fnOf "filled" "filled" (bA (aX 37)) (b9 (aX 37)) (aJ (aX 37)) .none kV26 dc26 pm26 an26 cd26 ct26),sl26⟩)
  (c26:PySem.W.codeIn K cd26 "filled" = true)
  (k26:PySem.W.keepIn K (.ref f26)=true)
  (a27:PySem.W.nsIn K mainGlobals "send" = some (some (.ref f27)))
  (l27:K.lookup f27=some ⟨oc27,od27,.func (PySem.W.fnOf "send" "send" (bA (aX 40)) (b9 (aX 40)) (aJ (aX 40)) .none kV27 dc27 pm27 an27 cd27 ct27),sl27⟩)
  (c27:PySem.W.codeIn K cd27 "send" = true)
  (k27:PySem.W.keepIn K (.ref f27)=true)
  (a28:PySem.W.nsIn K mainGlobals "share_out" = some (some (.ref f28)))
  (l28:K.lookup f28=some ⟨oc28,od28,.func (PySem.W.fnOf "share_out" "share_out" (bA (aX 39)) (b9 (aX 39)) (aJ (aX 39)) .none kV28 dc28 pm28 an28 cd28 ct28),sl28⟩)
  (c28:PySem.W.codeIn K cd28 "share_out" = true)
  (k28:PySem.W.keepIn K (.ref f28)=true)
  (a29:PySem.W.nsIn K mainGlobals "settle" = some (some (.ref f29)))
  (l29:K.lookup f29=some ⟨oc29,od29,.func (PySem.W.fnOf "settle" "settle" (bA (aX 38)) (b9 (aX 38)) (aJ (aX 38)) .none kV29 dc29 pm29 an29 cd29 ct29),sl29⟩)
  (c29:PySem.W.codeIn K cd29 "settle" = true)
  (k29:PySem.W.keepIn K (.ref f29)=true)
  (a30:PySem.W.nsIn K mainGlobals "doors_behind" = some (some (.ref f30)))
  (l30:K.lookup f30=some ⟨oc30,od30,.func (PySem.W.fnOf "doors_behind" "doors_behind" (bA (aX 41)) (b9 (aX 41)) (aJ (aX 41)) .none kV30 dc30 pm30 an30 cd30 ct30),sl30⟩)
  (c30:PySem.W.codeIn K cd30 "doors_behind" = true)
  (k30:PySem.W.keepIn K (.ref f30)=true)
  (a31:PySem.W.nsIn K mainGlobals "tick_behind" = some (some (.ref f31)))
  (l31:K.lookup f31=some ⟨oc31,od31,.func (PySem.W.fnOf "tick_behind" "tick_behind" (bA (aX 35)) (b9 (aX 35)) (aJ (aX 35)) .none kV31 dc31 pm31 an31 cd31 ct31),sl31⟩)
  (c31:PySem.W.codeIn K cd31 "tick_behind" = true)
  (k31:PySem.W.keepIn K (.ref f31)=true)
  (a32:PySem.W.nsIn K mainGlobals "came_in" = some (some (.ref f32)))
  (l32:K.lookup f32=some ⟨oc32,od32,.func (PySem.W.fnOf "came_in" "came_in" (bA (aX 36)) (b9 (aX 36)) (aJ (aX 36)) .none kV32 dc32 pm32 an32 cd32 ct32),sl32⟩)
  (c32:PySem.W.codeIn K cd32 "came_in" = true)
  (k32:PySem.W.keepIn K (.ref f32)=true)
  (a33:PySem.W.nsIn K mainGlobals "moment_behind" = some (some (.ref f33)))
  (l33:K.lookup f33=some ⟨oc33,od33,.func (PySem.W.fnOf "moment_behind" "moment_behind" (bA (aX 46)) (b9 (aX 46)) (aJ (aX 46)) .none kV33 dc33 pm33 an33 cd33 ct33),sl33⟩)
  (c33:PySem.W.codeIn K cd33 "moment_behind" = true)
  (k33:PySem.W.keepIn K (.ref f33)=true)
  (a34:PySem.W.nsIn K mainGlobals "moment_gone" = some (some (.ref f34)))
  (l34:K.lookup f34=some ⟨oc34,od34,.func (PySem.W.fnOf "moment_gone" "moment_gone" (bA (aX 45)) (b9 (aX 45)) (aJ (aX 45)) .none kV34 dc34 pm34 an34 cd34 ct34),sl34⟩)
  (c34:PySem.W.codeIn K cd34 "moment_gone" = true)
  (k34:PySem.W.keepIn K (.ref f34)=true)
  (a35:PySem.W.findIn K (.ref C) "go" = some (some (.ref f35)))
  (i35:PySem.W.isFn K (.ref f35)=true)
  (l35:K.lookup f35=some ⟨oc35,od35,.func (PySem.W.fnOf "go" "Run.go" (bA (bQ (aX 48) 2)) (b9 (bQ (aX 48) 2)) (aJ (bQ (aX 48) 2)) .none kV35 dc35 pm35 an35 cd35 ct35),sl35⟩)
  (c35:PySem.W.codeIn K cd35 "Run.go" = true)
  (k35:PySem.W.keepIn K (.ref f35)=true)
  (a36:PySem.W.findIn K (.ref C) "state" = some (some (.ref f36)))
  (i36:PySem.W.isFn K (.ref f36)=true)
  (l36:K.lookup f36=some ⟨oc36,od36,.func (PySem.W.fnOf "state" "Run.state" (bA (bQ (aX 48) 5)) (b9 (bQ (aX 48) 5)) (aJ (bQ (aX 48) 5)) .none kV36 dc36 pm36 an36 cd36 ct36),sl36⟩)
  (c36:PySem.W.codeIn K cd36 "Run.state" = true)
  (k36:PySem.W.keepIn K (.ref f36)=true)
  (a37:PySem.W.findIn K (.ref C) "tips" = some (some (.ref f37)))
  (i37:PySem.W.isFn K (.ref f37)=true)
  (l37:K.lookup f37=some ⟨oc37,od37,.func (PySem.W.fnOf "tips" "Run.tips" (bA (bQ (aX 48) 6)) (b9 (bQ (aX 48) 6)) (aJ (bQ (aX 48) 6)) .none kV37 dc37 pm37 an37 cd37 ct37),sl37⟩)
  (c37:PySem.W.codeIn K cd37 "Run.tips" = true)
  (k37:PySem.W.keepIn K (.ref f37)=true)
  (a38:PySem.W.nsIn K mainGlobals "law" = some (some (.ref f38)))
  (l38:K.lookup f38=some ⟨oc38,od38,.func (PySem.W.fnOf "law" "law" (bA (aX 57)) (b9 (aX 57)) (aJ (aX 57)) .none kV38 dc38 pm38 an38 cd38 ct38),sl38⟩)
  (c38:PySem.W.codeIn K cd38 "law" = true)
  (k38:PySem.W.keepIn K (.ref f38)=true)
  (pg:PySem.W.plainGet K C Str.empty=true)
  (hd:PySem.W.hasDictIn K C=true)
  (po:PySem.W.plainOver K C=true)
  (sa:PySem.W.findIn K (.ref C) "__setattr__" = some (some (.builtin "object.__setattr__")))
  (mk:PySem.W.makesIn K C=true)
  (kc:PySem.W.keepIn K (.ref C)=true)
  (n0:PySem.W.findIn K (.ref C) "net" = some none)
  (n1:PySem.W.findIn K (.ref C) "rows" = some none)
  (n2:PySem.W.findIn K (.ref C) "moments" = some none)
  (n3:PySem.W.findIn K (.ref C) "tip_ticks" = some none)
  (mc0:PySem.W.nsIn K mainGlobals "MOST_VESSELS" = some (some (.int 12 tk0)))
  (mc1:PySem.W.nsIn K mainGlobals "MOST_SPOUTS" = some (some (.int 12 tk1)))
  (mc2:PySem.W.nsIn K mainGlobals "MOST_SIZE" = some (some (.int 60 tk2)))
  (mc3:PySem.W.nsIn K mainGlobals "MOST_BRIM" = some (some (.int 200 tk3)))
  (mc4:PySem.W.nsIn K mainGlobals "MOST_OUTS" = some (some (.int 3 tk4)))
  (mc5:PySem.W.nsIn K mainGlobals "MOST_PARTS" = some (some (.int 60 tk5)))
  (mc6:PySem.W.nsIn K mainGlobals "MOST_ACTS" = some (some (.int 3 tk6)))
  (mc7:PySem.W.nsIn K mainGlobals "MOST_FLOW" = some (some (.int 60 tk7)))
  (mcw:PySem.W.nsIn K mainGlobals "ACT_WORDS" = some (some (.ref aw)))
  (mlw:K.lookup aw=some ⟨.type "tuple",odw,.seq #[.str "open" tw1,.str "shut" tw2,.str "turn" tw3] nw,slw⟩)
  (mcV1:PySem.W.nsIn K mainGlobals "MOST_VESSELS" = some (some (.int 12 tkV1)))
  (mcV2:PySem.W.nsIn K mainGlobals "MOST_SPOUTS" = some (some (.int 12 tkV2)))
  (xcTipError:PySem.W.nsIn K mainGlobals "TipError" = some (some (.ref c_TipError)))
  (xcNoNet:PySem.W.nsIn K mainGlobals "NoNet" = some (some (.ref c_NoNet)))
  (xcNoVessel:PySem.W.nsIn K mainGlobals "NoVessel" = some (some (.ref c_NoVessel)))
  (xcTooMany:PySem.W.nsIn K mainGlobals "TooMany" = some (some (.ref c_TooMany)))
  (xcNothing:PySem.W.nsIn K mainGlobals "Nothing" = some (some (.ref c_Nothing)))
  (z0:PySem.W.nsIn K mainGlobals "len" = some none)
  (z1:PySem.W.nsIn K mainGlobals "sum" = some none)
  (z2:PySem.W.nsIn K mainGlobals "all" = some none)
  (z3:PySem.W.nsIn K mainGlobals "max" = some none)
  (z4:PySem.W.nsIn K mainGlobals "min" = some none)
  (z5:PySem.W.nsIn K mainGlobals "int" = some none)
  (z6:PySem.W.nsIn K mainGlobals "tuple" = some none)
  (z7:PySem.W.nsIn K mainGlobals "list" = some none)
  (z8:PySem.W.nsIn K mainGlobals "bool" = some none)
  (z9:PySem.W.nsIn K mainGlobals "range" = some none)
  (z10:PySem.W.nsIn K mainGlobals "zip" = some none)
  (z11:PySem.W.nsIn K mainGlobals "enumerate" = some none)
  (z12:PySem.W.nsIn K mainGlobals "isinstance" = some none)
  (z13:PySem.W.nsIn K mainGlobals "divmod" = some none)
  (z14:PySem.W.nsIn K mainGlobals "set" = some none)
  (z15:PySem.W.nsIn K mainGlobals "sorted" = some none)
  (exV:PySem.W.excIn K c_NoVessel [.type "ValueError",.type "Exception",.type "BaseException",.type "object"] "ValueError.__new__" = true)
  (exM:PySem.W.excIn K c_TooMany [.type "ValueError",.type "Exception",.type "BaseException",.type "object"] "ValueError.__new__" = true) :
  ∃ fd:FuncData,(∀ (s:Shared) (v:Value),BindsTo s fd ⟨[v],[]⟩ [("script",v)])∧∀ base:Heap,K.In base→base.Ns mainGlobals mg→FnOk l.prog w K mg base CX0 8 fa fd ["script"] (spLaw K):=by
 have e:=hfa.symm.trans (PySem.W.mg_of X G a38)
 cases e
 have T:Txt mg:=⟨PySem.W.mg_none_of X G z0,PySem.W.mg_none_of X G z1,PySem.W.mg_none_of X G z2,PySem.W.mg_none_of X G z3,PySem.W.mg_none_of X G z4,PySem.W.mg_none_of X G z5,PySem.W.mg_none_of X G z6,PySem.W.mg_none_of X G z7,PySem.W.mg_none_of X G z8,PySem.W.mg_none_of X G z9,PySem.W.mg_none_of X G z10,PySem.W.mg_none_of X G z11,PySem.W.mg_none_of X G z12,PySem.W.mg_none_of X G z13,PySem.W.mg_none_of X G z14,PySem.W.mg_none_of X G z15⟩
 have U:TxtN K mg aw:=⟨⟨_,PySem.W.mg_of X G mc0,_,rfl⟩,⟨_,PySem.W.mg_of X G mc1,_,rfl⟩,⟨_,PySem.W.mg_of X G mc2,_,rfl⟩,⟨_,PySem.W.mg_of X G mc3,_,rfl⟩,⟨_,PySem.W.mg_of X G mc4,_,rfl⟩,⟨_,PySem.W.mg_of X G mc5,_,rfl⟩,⟨_,PySem.W.mg_of X G mc6,_,rfl⟩,⟨_,PySem.W.mg_of X G mc7,_,rfl⟩,⟨_,PySem.W.mg_of X G mcw,rfl⟩,fun H=>.inr ⟨_,_,_,mlw,rfl,rfl,by show 3≤sizeLine;decide,.cons ⟨_,rfl⟩ (.cons ⟨_,rfl⟩ (.cons ⟨_,rfl⟩ .nil))⟩⟩
 have UV:TxtV mg:=⟨⟨_,PySem.W.mg_of X G mcV1,_,rfl⟩,⟨_,PySem.W.mg_of X G mcV2,_,rfl⟩⟩
 have XC_NoVessel:ExC K "NoVessel" c_NoVessel:=⟨xcNoVessel,exV⟩
 have XC_TooMany:ExC K "TooMany" c_TooMany:=⟨xcTooMany,exM⟩
 have tx:RunTx K C:=⟨⟨pg,hd,po,sa⟩,n0,n1,n2,n3⟩
 have F0:=bN (st:=(aX 50)) l0 c0 k0
 have F1:=bN (st:=(aX 51)) l1 c1 k1
 have F2:=bN (st:=(aX 52)) l2 c2 k2
 have F3:=bN (st:=(aX 53)) l3 c3 k3
 have F4:=bN (st:=(aX 55)) l4 c4 k4
 have F5:=bN (st:=(aX 28)) l5 c5 k5
 have F6:=bN (st:=(aX 27)) l6 c6 k6
 have F7:=bN (st:=(aX 30)) l7 c7 k7
 have F8:=bN (st:=(aX 25)) l8 c8 k8
 have F9:=bN (st:=(aX 22)) l9 c9 k9
 have F10:=bN (st:=(aX 23)) l10 c10 k10
 have F11:=bN (st:=(aX 31)) l11 c11 k11
 have F12:=bN (st:=(aX 54)) l12 c12 k12
 have F13:=bN (st:=(aX 56)) l13 c13 k13
 have F14:=bN (st:=(aX 24)) l14 c14 k14
 have F15:=bN (st:=(aX 19)) l15 c15 k15
 have F16:=bN (st:=(aX 20)) l16 c16 k16
 have F17:=bN (st:=(aX 18)) l17 c17 k17
 have F18:=bN (st:=(aX 21)) l18 c18 k18
 have F19:=bN (st:=(aX 17)) l19 c19 k19
 have F20:=bN (st:=(aX 33)) l20 c20 k20
 have F21:=bN (st:=(aX 34)) l21 c21 k21
 have F22:=bN (st:=(aX 43)) l22 c22 k22
 have F23:=bN (st:=(bQ (aX 48) 0)) l23 c23 k23
 have F24:=bN (st:=(aX 44)) l24 c24 k24
 have F25:=bN (st:=(bQ (aX 48) 1)) l25 c25 k25
 have F26:=bN (st:=(aX 37)) l26 c26 k26
 have F27:=bN (st:=(aX 40)) l27 c27 k27
 have F28:=bN (st:=(aX 39)) l28 c28 k28
 have F29:=bN (st:=(aX 38)) l29 c29 k29
 have F30:=bN (st:=(aX 41)) l30 c30 k30
 have F31:=bN (st:=(aX 35)) l31 c31 k31
 have F32:=bN (st:=(aX 36)) l32 c32 k32
 have F33:=bN (st:=(aX 46)) l33 c33 k33
 have F34:=bN (st:=(aX 45)) l34 c34 k34
 have F35:=bN (st:=(bQ (aX 48) 2)) l35 c35 k35
 have F36:=bN (st:=(bQ (aX 48) 5)) l36 c36 k36
 have F37:=bN (st:=(bQ (aX 48) 6)) l37 c37 k37
 have F38:=bN (st:=(aX 57)) l38 c38 k38
 refine⟨PySem.W.fnOf "law" "law" (bA (aX 57)) (b9 (aX 57)) (aJ (aX 57)) .none kV38 dc38 pm38 an38 cd38 ct38,fun s v=>.of_eq rfl,fun base _ _=>?_⟩
 have C0:Callee l.prog w K mg base "_law_draw" ["tape","many"] 1 spDraw f0 _:=⟨ok__law_draw F0 T,PySem.W.mg_of X G a0,k0,F0.binds (ps:=["tape","many"]) fun _ _ _ _ _ _=>eE fun _ _=>rfl⟩
 have C1:Callee l.prog w K mg base "_law_outs" ["tape","many","small"] 2 (spOuts K) f1 _:=⟨ok__law_outs F1 T C0,PySem.W.mg_of X G a1,k1,F1.binds (ps:=["tape","many","small"]) fun _ _ _ _ _ _=>cS fun _ _ _=>rfl⟩
 have C2:Callee l.prog w K mg base "_law_vessel" ["tape","number","many","spouts","small"] 3 (spVessel K) f2 _:=⟨ok__law_vessel F2 T C0 C1,PySem.W.mg_of X G a2,k2,F2.binds (ps:=["tape","number","many","spouts","small"]) fun _ _ _ _ _ _=>by_len5 fun _ _ _ _ _=>rfl⟩
 have C3:Callee l.prog w K mg base "_law_net" ["tape","most","small"] 4 (spNetM K) f3 _:=⟨ok__law_netM F3 T C0 C2,PySem.W.mg_of X G a3,k3,F3.binds (ps:=["tape","most","small"]) fun _ _ _ _ _ _=>cS fun _ _ _=>rfl⟩
 have C4:Callee l.prog w K mg base "_law_fewer" ["net","most"] 1 (spFewer K) f4 _:=⟨ok__law_fewer F4 T,PySem.W.mg_of X G a4,k4,F4.binds (ps:=["net","most"]) fun _ _ _ _ _ _=>eE fun _ _=>rfl⟩
 have C5:Callee l.prog w K mg base "renumbered_vessel" ["vessel","new_vessels","new_spouts"] 1 (spRenV K) f5 _:=⟨ok_renumbered_vessel F5 T,PySem.W.mg_of X G a5,k5,F5.binds (ps:=["vessel","new_vessels","new_spouts"]) fun _ _ _ _ _ _=>cS fun _ _ _=>rfl⟩
 have C6:Callee l.prog w K mg base "renumbered" ["net","new_vessels","new_spouts"] 2 (spRen K) f6 _:=⟨ok_renumbered F6 T C5,PySem.W.mg_of X G a6,k6,F6.binds (ps:=["net","new_vessels","new_spouts"]) fun _ _ _ _ _ _=>cS fun _ _ _=>rfl⟩
 have C7:CalleeR l.prog w K mg base "beside" ["net","other"] 3 (spBesR K c_TooMany) f7 _:=⟨ok_besideR F7 T UV XC_TooMany C6,PySem.W.mg_of X G a7,k7,F7.binds (ps:=["net","other"]) fun _ _ _ _ _ _=>eE fun _ _=>rfl⟩
 have CB8:Callee l.prog w K mg base "is_whole" ["thing","least","most"] 1 spWholeI f8 _:=⟨ok_is_wholeI F8 T,PySem.W.mg_of X G a8,k8,F8.binds (ps:=["thing","least","most"]) fun _ _ _ _ _ _=>cS fun _ _ _=>rfl⟩
 have C8:Callee l.prog w K mg base "is_whole" ["thing","least","most"] 1 spWhole f8 _:=⟨ok_is_whole F8 T,PySem.W.mg_of X G a8,k8,F8.binds (ps:=["thing","least","most"]) fun _ _ _ _ _ _=>cS fun _ _ _=>rfl⟩
 have CB9:CalleeR l.prog w K mg base "need_vessel" ["net","number"] 2 (spNeedR K c_NoVessel) f9 _:=⟨ok_need_vesselR F9 T XC_NoVessel CB8,PySem.W.mg_of X G a9,k9,F9.binds (ps:=["net","number"]) fun _ _ _ _ _ _=>eE fun _ _=>rfl⟩
 have C9:Callee l.prog w K mg base "need_vessel" ["net","number"] 2 (spNeed K) f9 _:=⟨ok_need_vessel F9 T C8,PySem.W.mg_of X G a9,k9,F9.binds (ps:=["net","number"]) fun _ _ _ _ _ _=>eE fun _ _=>rfl⟩
 have C10:Callee l.prog w K mg base "with_vessel" ["net","number","vessel"] 1 (spWith K) f10 _:=⟨ok_with_vessel F10 T,PySem.W.mg_of X G a10,k10,F10.binds (ps:=["net","number","vessel"]) fun _ _ _ _ _ _=>cS fun _ _ _=>rfl⟩
 have C11:CalleeR l.prog w K mg base "led_on" ["net","vessel","other"] 4 (spLedR K c_NoVessel c_TooMany) f11 _:=⟨ok_led_onR F11 T CB9 C7 C10,PySem.W.mg_of X G a11,k11,F11.binds (ps:=["net","vessel","other"]) fun _ _ _ _ _ _=>cS fun _ _ _=>rfl⟩
 have C12:Callee l.prog w K mg base "_law_filled" ["net","state","poured"] 1 (spFilledL K) f12 _:=⟨ok__law_filled F12 T,PySem.W.mg_of X G a12,k12,F12.binds (ps:=["net","state","poured"]) fun _ _ _ _ _ _=>cS fun _ _ _=>rfl⟩
 have C13:Callee l.prog w K mg base "_law_grounded_by" ["net","state","poured","vessel"] 2 (spGBy K) f13 _:=⟨ok__law_grounded_by F13 T C12,PySem.W.mg_of X G a13,k13,F13.binds (ps:=["net","state","poured","vessel"]) fun _ _ _ _ _ _=>by_len4 fun _ _ _ _=>rfl⟩
 have C14:Callee l.prog w K mg base "is_tuple" ["thing","least","most"] 1 (spTupN K) f14 _:=⟨ok_is_tuple F14 T,PySem.W.mg_of X G a14,k14,F14.binds (ps:=["thing","least","most"]) fun _ _ _ _ _ _=>cS fun _ _ _=>rfl⟩
 have C15:Callee l.prog w K mg base "is_out" ["thing","vessel_count"] 2 (spIsOut K) f15 _:=⟨ok_is_out F15 T U C14 C8,PySem.W.mg_of X G a15,k15,F15.binds (ps:=["thing","vessel_count"]) fun _ _ _ _ _ _=>eE fun _ _=>rfl⟩
 have C16:Callee l.prog w K mg base "is_act" ["thing","spout_count"] 2 (spIsAct K) f16 _:=⟨ok_is_act F16 T U C14 C8,PySem.W.mg_of X G a16,k16,F16.binds (ps:=["thing","spout_count"]) fun _ _ _ _ _ _=>eE fun _ _=>rfl⟩
 have C17:Callee l.prog w K mg base "is_vessel" ["thing","number","vessel_count","spout_count"] 3 (spIsVessel K) f17 _:=⟨ok_is_vessel F17 T U C14 C8 C15 C16,PySem.W.mg_of X G a17,k17,F17.binds (ps:=["thing","number","vessel_count","spout_count"]) fun _ _ _ _ _ _=>by_len4 fun _ _ _ _=>rfl⟩
 have C18:Callee l.prog w K mg base "is_spout" ["thing","vessel_count"] 2 (spIsSpout K) f18 _:=⟨ok_is_spout F18 T U C14 C8,PySem.W.mg_of X G a18,k18,F18.binds (ps:=["thing","vessel_count"]) fun _ _ _ _ _ _=>eE fun _ _=>rfl⟩
 have C19:Callee l.prog w K mg base "is_net" ["thing"] 4 (spIsNet K) f19 _:=⟨ok_is_net F19 T U C14 C17 C18,PySem.W.mg_of X G a19,k19,F19.binds (ps:=["thing"]) fun _ _ _ _ _ _=>by_len1 fun _=>rfl⟩
 have C20:Callee l.prog w K mg base "first_state" ["net"] 1 (spFirst K) f20 _:=⟨ok_first_state F20 T,PySem.W.mg_of X G a20,k20,F20.binds (ps:=["net"]) fun _ _ _ _ _ _=>by_len1 fun _=>rfl⟩
 have C21:Callee l.prog w K mg base "pouring" ["net","amount"] 1 (spPouring K) f21 _:=⟨ok_pouring F21 T,PySem.W.mg_of X G a21,k21,F21.binds (ps:=["net","amount"]) fun _ _ _ _ _ _=>eE fun _ _=>rfl⟩
 have C22:Callee l.prog w K mg base "first_moment" ["net"] 2 (spFirstMom K) f22 _:=⟨ok_first_moment F22 T C20 C21,PySem.W.mg_of X G a22,k22,F22.binds (ps:=["net"]) fun _ _ _ _ _ _=>by_len1 fun _=>rfl⟩
 have C23:MkCal l.prog w K mg base C "Run" ["self","net"] 5 (spInit K C) f23 _:=⟨⟨mk,a23,i23,kc⟩,ok_init F23 T tx C19 C22,PySem.W.mg_of X G aC,F23.binds (ps:=["self","net"]) fun _ _ _ _ _ _=>eE fun _ _=>rfl⟩
 have C24:Callee l.prog w K mg base "moment_poured" ["moment","vessel","amount"] 1 (spMomPour K) f24 _:=⟨ok_moment_poured F24 T,PySem.W.mg_of X G a24,k24,F24.binds (ps:=["moment","vessel","amount"]) fun _ _ _ _ _ _=>cS fun _ _ _=>rfl⟩
 have C25:MCal l.prog w K mg base C "pour" ["self","vessel","amount"] 3 (spPour K C) f25 _:=⟨tx.cls,⟨a25,i25,k25⟩,ok_pour F25 T tx C9 C24,F25.binds (ps:=["self","vessel","amount"]) fun _ _ _ _ _ _=>cS fun _ _ _=>rfl⟩
 have C26:Callee l.prog w K mg base "filled" ["spouts","state","poured"] 1 (spFilled K) f26 _:=⟨ok_filled F26 T,PySem.W.mg_of X G a26,k26,F26.binds (ps:=["spouts","state","poured"]) fun _ _ _ _ _ _=>cS fun _ _ _=>rfl⟩
 have C27:Callee l.prog w K mg base "send" ["sent","target","amount"] 1 spSend f27 _:=⟨ok_send F27 T,PySem.W.mg_of X G a27,k27,F27.binds (ps:=["sent","target","amount"]) fun _ _ _ _ _ _=>cS fun _ _ _=>rfl⟩
 have C28:Callee l.prog w K mg base "share_out" ["outs","has","sent"] 2 (spShare K) f28 _:=⟨ok_share_out F28 T C27,PySem.W.mg_of X G a28,k28,F28.binds (ps:=["outs","has","sent"]) fun _ _ _ _ _ _=>cS fun _ _ _=>rfl⟩
 have C29:Callee l.prog w K mg base "settle" ["vessel","has","sent"] 3 (spSettle K) f29 _:=⟨ok_settle F29 T C27 C28,PySem.W.mg_of X G a29,k29,F29.binds (ps:=["vessel","has","sent"]) fun _ _ _ _ _ _=>cS fun _ _ _=>rfl⟩
 have C30:Callee l.prog w K mg base "doors_behind" ["vessels","doors","tipped"] 1 (spDoors K) f30 _:=⟨ok_doors_behind F30 T,PySem.W.mg_of X G a30,k30,F30.binds (ps:=["vessels","doors","tipped"]) fun _ _ _ _ _ _=>cS fun _ _ _=>rfl⟩
 have C31:Callee l.prog w K mg base "tick_behind" ["net","state","poured"] 4 (spTick K) f31 _:=⟨ok_tick_behind F31 T C26 C29 C30,PySem.W.mg_of X G a31,k31,F31.binds (ps:=["net","state","poured"]) fun _ _ _ _ _ _=>cS fun _ _ _=>rfl⟩
 have C32:Callee l.prog w K mg base "came_in" ["net","state","poured"] 1 (spCameIn K) f32 _:=⟨ok_came_in F32 T,PySem.W.mg_of X G a32,k32,F32.binds (ps:=["net","state","poured"]) fun _ _ _ _ _ _=>cS fun _ _ _=>rfl⟩
 have C33:Callee l.prog w K mg base "moment_behind" ["net","moment"] 5 (spMoment K) f33 _:=⟨ok_moment_behind F33 T C31 C32 C21,PySem.W.mg_of X G a33,k33,F33.binds (ps:=["net","moment"]) fun _ _ _ _ _ _=>eE fun _ _=>rfl⟩
 have C34:Callee l.prog w K mg base "moment_gone" ["net","moment","many"] 6 (spMomGo K) f34 _:=⟨ok_moment_gone F34 T C33,PySem.W.mg_of X G a34,k34,F34.binds (ps:=["net","moment","many"]) fun _ _ _ _ _ _=>cS fun _ _ _=>rfl⟩
 have C35:MCal l.prog w K mg base C "go" ["self","many"] 7 (spGo K C) f35 _:=⟨tx.cls,⟨a35,i35,k35⟩,ok_go F35 T tx C34,F35.binds (ps:=["self","many"]) fun _ _ _ _ _ _=>eE fun _ _=>rfl⟩
 have C36:MCal l.prog w K mg base C "state" ["self"] 1 (spTell K C fun S v H=>Is K H (stD S.cur.held S.cur.coming S.cur.doors) v) f36 _:=⟨tx.cls,⟨a36,i36,k36⟩,ok_state F36 T tx,F36.binds (ps:=["self"]) fun _ _ _ _ _ _=>by_len1 fun _=>rfl⟩
 have C37:MCal l.prog w K mg base C "tips" ["self","vessel"] 3 (spTips K C) f37 _:=⟨tx.cls,⟨a37,i37,k37⟩,ok_tips F37 T tx C9,F37.binds (ps:=["self","vessel"]) fun _ _ _ _ _ _=>eE fun _ _=>rfl⟩
 exact ok_law F38 T C0 C3 C4 C7 C11 C13 C23 C25 C35 C36 C37
theorem walk {l:PySem.W.OpenLaw}{q:Program}{loose:List Str}{XP:(Str→Option Value)→Heap→Prop}{YP:World→Heap→Prop}{d:DefRec}{K:Params→PySem.W.Frag} (hn:l.most=some 63) (hdf:d.params.defaults=[])
  (hY:∀ (w:World) (h:Heap),YP w h→(K w.params).In h)
  (F:∀ (w:World) (mg:Str→Option Value) (fa:Addr) (h:Heap),(K w.params).In h→h.Ns mainGlobals mg→mg d.name=some (.ref fa)→
   ∃ fd:FuncData,(∀ (s:Shared) (u:Value),BindsTo s fd ⟨[u],[]⟩ [("script",u)])∧∀ base:Heap,(K w.params).In base→base.Ns mainGlobals mg→FnOk l.prog w (K w.params) mg base CX0 8 fa fd ["script"] (spLaw (K w.params))) :
  PySem.W.WalkO q loose XP YP l.row.toRowW d [] (fun f vs=>PySem.call f vs):=
 L2.walk_of (n:=63) (k:=8) (x := "script") (CX:=fun _=>CX0) (sp:=fun w=>spLaw (K w.params)) hn (by decide) hdf ⟨rfl,by decide,by decide⟩ hY F (fun _ _ a ns hl _ hS=>⟨a,ns,rfl,hS,hl,fun _=>rfl⟩) fun _ _ _ _ _ z=>z
end Tw
noncomputable def PySem.W.Fast.tw6105347105297615644:Nat:=0
theorem PySem.W.Fast.te6105347105297615644:PySem.W.Fast.tw6105347105297615644=PySem.W.Fast.tw6105347105297615644:=rfl
noncomputable def PySem.W.Fast.tw3990847325651197299:PySem.Program:=PySem.Challenge.pw_tipwell_k24_whole_led_on
theorem PySem.W.Fast.te3990847325651197299:PySem.Challenge.pw_tipwell_k24_whole_led_on=PySem.W.Fast.tw3990847325651197299:=rfl
namespace PySem.W.Fast
def tw13258899856945314994:=0
def tw7797398601990837381:=0
def tw14454244909072631965:=0
def tw991345475463162883:=0
def tw14788957933778447440:=0
def tw6003351668311999404:=0
def tw16074177792663681390:=0
def tw4155932930910328694:=0
def tw5684863417805393892:=0
def tw18203246187141859689:=0
def tw13137293056484543409:=0
def tw1533592455648370319:=0
def tw6002290907241648425:=0
def tw4884114740365564745:=0
def tw14251686367455039569:=0
def tw8296456095001440013:=0
def tw2216174288135644198:=0
def tw5472060128590328261:=0
def tw1384610106363456234:=0
def tw7168112990809967638:=0
def tw4255277629129559248:=0
def tw12281804344074562706:=0
def tw6667044269295490652:=0
def tw15101033187511414609:=0
def tw16989625393870945700:=0
def tw1772576162644191329:=0
def tw107411106278634103:=0
def tw6289467293468444146:=0
def tw2468174493960272:=0
def tw5054800389020816721:=0
def tw12542718362539009827:=0
def tw18201676607739441713:=0
def tw7571400078519651277:=0
def tw10053244570114332277:=0
def tw6882667601208968370:=0
def tw5278640967787651672:=0
def tw9860099732230538393:=0
def tw10269087648824220423:=0
def tw11761892402097421924:=0
def tw14969128645313670532:=0
def tw9422712885449527092:=0
def tw2458090492847769016:=0
def tw3635189317681471907:=0
def tw14619228032661355995:=0
def tw12887947852078759593:=0
def tw6804457653205900843:=0
def tw11586252592730923224:=0
def tw5813900588715910610:=0
def tw9731132790089321141:=0
def tw6421784889376253222:=0
def tw1125933672979906000:=0
def tw11891333440276951775:=0
def tw4482803177899152861:=0
def tw10837667358584582440:=0
def tw11882524560316690671:=0
def tw2936490419831472465:=0
def tw7587705412653140712:=0
def tw7273106260767548871:=0
def tw12136736386110836102:=0
def tw10987566470154376675:=0
def tw18055710686735011803:=0
def tw9349980345583496971:=0
def tw11730194670211987006:=0
def tw11747486598769393366:=0
def tw14235664393273614450:=0
def tw13808551155843352045:=0
def tw1376247384514420921:=0
def tw9676759826673775708:=0
def tw9512991472432638345:=0
def tw8620481384489481191:=0
def tw10218906429570096334:=0
def tw12341370807001231106:=0
def tw12118020876795111280:=0
def tw407197126274479506:=0
def tw12229005644313114991:=0
def tw10170211832135436624:=0
def tw5273916037897072596:=0
def tw16105668320411949193:=0
def tw13937396773028430910:=0
def tw18143618945112824773:=0
def tw5224683589924292534:=0
def tw16589158964132664764:=0
def tw7486321205875034002:=0
def tw15937073403949688957:=0
def tw2437015433032018703:=0
def tw17378037233953830538:=0
def tw10864125732260490920:=0
def tw7804404765156862333:=0
def tw13252475045006170653:=0
def tw4069687839514420018:=0
def tw8510418125482299936:=0
def tw10100741725381284785:=0
def tw6685941397392409160:=0
def tw17076617379699681348:=0
def tw3745068493587588588:=0
def tw6788907962605359696:=0
def tw15858586289112545486:=0
def tw2365545906790596416:=0
def tw6181017572269480499:=0
def tw4984898846405563573:=0
def tw16295734386882042248:=0
def tw12586792693964901071:=0
def tw6321920966938499736:=0
end PySem.W.Fast
open PySem PySem.W PyProof.Rows
set_option maxRecDepth 100000 in
set_option maxHeartbeats 0 in
theorem PySem.Challenge.cw_tipwell_k24_whole_led_on_holds : PySem.Challenge.rw_tipwell_k24_whole_led_on.Holds := by
 w_on;o_law;k_head;(case hw=>w_witness2)
 k_fill
 refine Tw.walk (l:=PySem.Challenge.rw_tipwell_k24_whole_led_on) rfl rfl (fun w h Y=>by first | exact PySem.W.kIn_of Y | exact PySem.W.km_in_of Y) ?F
 case F=>
  intro w mg fa h KX G hmg
  refine' Tw.all_mk KX G hmg ?_ ?_ ?_ ?_ ?_ ?_ ?_ ?_ ?_ ?_ ?_ ?_ ?_ ?_ ?_ ?_ ?_ ?_ ?_ ?_ ?_ ?_ ?_ ?_ ?_ ?_ ?_ ?_ ?_ ?_ ?_ ?_ ?_ ?_ ?_ ?_ ?_ ?_ ?_ ?_ ?_ ?_ ?_ ?_ ?_ ?_ ?_ ?_ ?_ ?_ ?_ ?_ ?_ ?_ ?_ ?_ ?_ ?_ ?_ ?_ ?_ ?_ ?_ ?_ ?_ ?_ ?_ ?_ ?_ ?_ ?_ ?_ ?_ ?_ ?_ ?_ ?_ ?_ ?_ ?_ ?_ ?_ ?_ ?_ ?_ ?_ ?_ ?_ ?_ ?_ ?_ ?_ ?_ ?_ ?_ ?_ ?_ ?_ ?_ ?_ ?_ ?_ ?_ ?_ ?_ ?_ ?_ ?_ ?_ ?_ ?_ ?_ ?_ ?_ ?_ ?_ ?_ ?_ ?_ ?_ ?_ ?_ ?_ ?_ ?_ ?_ ?_ ?_ ?_ ?_ ?_ ?_ ?_ ?_ ?_ ?_ ?_ ?_ ?_ ?_ ?_ ?_ ?_ ?_ ?_ ?_ ?_ ?_ ?_ ?_ ?_ ?_ ?_ ?_ ?_ ?_ ?_ ?_ ?_ ?_ ?_ ?_ ?_ ?_ ?_ ?_ ?_ ?_ ?_ ?_ ?_ ?_ ?_ ?_ ?_ ?_ ?_ ?_ ?_ ?_ ?_ ?_ ?_ ?_ ?_ ?_ ?_ ?_ ?_ ?_ ?_ ?_ ?_ ?_ ?_ ?_ ?_ ?_ ?_ ?_ ?_ ?_ ?_ ?_ ?_ ?exV ?exM
  all_goals try k_is
  (case exV=>k_exc)
  (case exM=>k_exc)
#print axioms PySem.Challenge.cw_tipwell_k24_whole_led_on_holds