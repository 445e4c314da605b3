import PyProof.Rows.All
import Wide.All
import OpenK.AllK
import Wide.FinOn
import Lean
import PyProof.EqAt
import PyProof.EqKinds
import PyProof.TupleCall
import PyProof.FactsAll.NoneType
import PyProof.ZipIter
import PyProof.EnumMake
import KE.KUnpack
import KE.KTryMore
import PyProof.NsDelKeeps
import PyProof.TupleKey
import PyProof.FactsAll.bool_1
import PyProof.DictDisplay
import KE.KLam
import KE.KNestM
import PyProof.NeKinds
import PyProof.ListRange
import PyProof.FactsAll.tuple_0
import PyProof.FactsAll.tuple_2
import KE.RegKIsAll
import KE.RegKTryMore
import PySem.Challenge.RW_tipwell_k11_whole_alike_or_parted
set_option Elab.async false
set_option linter.all false
set_option maxRecDepth 100000
abbrev aaa:=PySem.W.Frag
noncomputable def aab:=@PySem.Heap.get?_push_of_some
noncomputable def aac:=@List.length_map
noncomputable def aad:=@List.getElem?_eq_some_iff
noncomputable def aae:=@List.map_append
noncomputable def aaf:=@Bool.false_ne_true
noncomputable def aag:=@PySem.Heap.get?_push_size
noncomputable def aah:=@List.getElem?_map
noncomputable def aai:=@PySem.Heap.lt_size
noncomputable def aaj:=@List.length_take
noncomputable def aak:=@List.length_append
noncomputable def aal:=@Nat.lt_of_lt_of_le
noncomputable def aam:=@List.size_toArray
noncomputable def aan:=@List.mem_of_getElem?
noncomputable def aao:=@List.take_length
noncomputable def aap:=@PySem.W.mg_of
noncomputable def aaq:=@Option.map_eq_some_iff
noncomputable def aar:=@PySem.boot_len
noncomputable def aas:=@PySem.F.plainAttrs_list
noncomputable def aat:=@Nat.ne_of_lt
noncomputable def aau:=@PySem.F.slot_list_append
noncomputable def aav:=@PySem.F.type_list_append
noncomputable def aaw:=@List.mem_singleton
noncomputable def aax:=@List.mem_append_right
noncomputable def aay:=@List.mem_cons_of_mem
noncomputable def aaz:=@PySem.W.mg_none_of
noncomputable def aba:=@List.getElem?_append_left
noncomputable def abb:=@List.map_cons
noncomputable def abc:=@List.length_replicate
noncomputable def abd:=@List.mem_append
noncomputable def abe:=@Option.some.inj
noncomputable def abf:=@List.mem_map
noncomputable def abg:=@PySem.Heap.size_push
noncomputable def abh:=@List.getElem?_eq_getElem
noncomputable def abi:=@List.length_cons
noncomputable def abj:=@Nat.lt_irrefl
noncomputable def abk:=@List.mem_cons_self
noncomputable def abl:=@List.all_eq_true
noncomputable def abm:=@List.mem_append_left
noncomputable def abn:=@List.take_succ
noncomputable def abo:=@List.mem_iff_getElem?
noncomputable def abp:=@Nat.le_trans
noncomputable def abq:=@List.getElem?_append_right
noncomputable def abr:=@List.append_assoc
noncomputable def abt:=@List.append_nil
noncomputable def abu:=@List.getElem_mem
noncomputable def abv:=@List.getD_eq_getElem?_getD
noncomputable def abw:=@List.mem_range
noncomputable def abx:=@List.getElem?_eq_none
noncomputable def aby:=@Array.length_toList
noncomputable def abz:=@List.map_map
noncomputable def aca:=@Nat.le_of_lt
noncomputable def acb:=@List.getElem?_set_self
noncomputable def acd:=@Int.toNat_natCast
noncomputable def ace:=@List.getElem?_set_ne
noncomputable def acf:=@List.nodup_cons
namespace L2
open PySem PySem.Spec PyProof.Rows
noncomputable abbrev fN:=Sum Int (Option Str)
noncomputable def AQ:Value->Bool
 | .none=>true
 | _=>false
theorem tY {v:Value} (h:AQ v=true):v=Value.none:=by
 cases v <;> simp_all [AQ]
noncomputable def qF:fN->Value->Bool
 | .inl k,v=>Value.isInt k v
 | .inr (some x),v=>Value.isStrOf x v
 | .inr none,v=>AQ v
noncomputable def lR:Int:=0xFCA86420
noncomputable def keyH (w:World):fN->Int
 | .inl k=>hashInt k
 | .inr (some x)=>hashStr w x
 | .inr none=>lR
theorem cI:∀ {k:fN}{v:Value},qF k v=true->(∃ i t,k=Sum.inl i/\v=Value.int i t)\/(∃ x t,k=Sum.inr (some x)/\v=Value.str x t)\/(k=Sum.inr none/\v=Value.none)
 | .inl i,v,h=>by
  obtain⟨t,e⟩:=Value.isInt_shape (k:=i) (v:=v) h
  exact .inl ⟨i,t,rfl,e⟩
 | .inr (some x),v,h=>by
  obtain⟨t,e⟩:=Value.isStrOf_shape (x:=x) (v:=v) h
  exact .inr (.inl ⟨x,t,rfl,e⟩)
 | .inr none,v,h=>.inr (.inr ⟨rfl,tY h⟩)
theorem xT (i:Int) (t:Tok):qF (.inl i) (.int i t)=true:=by simp [qF,Value.isInt]
theorem xS (x:Str) (t:Tok):qF (.inr (some x)) (.str x t)=true:=by simp [qF,Value.isStrOf]
theorem FS (a b:Int):decide ((Sum.inl a:fN)=Sum.inl b)=(a == b):=by
 by_cases e:a=b
 ·subst e;simp
 ·have h:¬ (Sum.inl a:fN)=Sum.inl b:=λ q=>e (Sum.inl.inj q)
  rw[decide_eq_false h]
  exact (beq_eq_false_iff_ne.mpr e).symm
theorem FQ (a b:Str):decide ((Sum.inr (some a):fN)=Sum.inr (some b))=decide (a=b):=by
 by_cases e:a=b
 ·subst e;simp
 ·have h:¬ (Sum.inr (some a):fN)=Sum.inr (some b):=λ q=>e (abe (Sum.inr.inj q))
  rw[decide_eq_false h,decide_eq_false e]
theorem AJ (i:Int) (o:Option Str):decide ((Sum.inl i:fN)=Sum.inr o)=false:=decide_eq_false (λ q=>nomatch q)
theorem AK (i:Int) (o:Option Str):decide ((Sum.inr o:fN)=Sum.inl i)=false:=decide_eq_false (λ q=>nomatch q)
theorem FP (x:Str):decide ((Sum.inr (some x):fN)=Sum.inr none)=false:=decide_eq_false (λ q=>nomatch (Sum.inr.inj q))
theorem FR (x:Str):decide ((Sum.inr none:fN)=Sum.inr (some x))=false:=decide_eq_false (λ q=>nomatch (Sum.inr.inj q))
theorem AU {prog:Program}{w:World}{A:Around}{E:Value->Shared->Prop}{s:Shared}{Q:Int->Shared->Prop} (h:Q lR { s with toks:=s.toks+1 }) :
  wpAny (model prog w) A (pyHash .none) Q E s:=by
 have hT:s.TypeIs .none "NoneType" := rfl
 unfold pyHash
 have hv:[Value.none].any Value.onHeap=false:=rfl
 refine wpAny_bind ?_
 rw[cRoomFor,if_neg (by rw[hv];exact aaf)];refine wpAny_pure ?_
 refine wpAny_bind (wpAny_specialOf hT F.slot_NoneType_hash.lookup ?_)
 show wpAny _ _ (if (some (Value.builtin "NoneType.__hash__") == some Value.none)=true then _ else _) Q E s
 rw[if_neg (by rw[beq_builtin_none];exact aaf)]
 refine wpAny_bind (wpAny_specialOf hT F.slot_NoneType_hash.lookup ?_)
 show wpAny _ _ (callSpecialIfBoundUnlessNone? .none "__hash__" _ >>= _) Q E s
 refine wpAny_bind (wpAny_callSpecialIfBoundUnlessNone?_slot hT F.slot_NoneType_hash
  (wpAny_call_entry F.slot_NoneType_hash hT F.entry_NoneType_hash
   (show wpAny _ _ (do ret (<- mkInt lR)) _ _ s from wpAny_ret_mkInt ?_) (F.args_NoneType_hash_1 _)))
 show wpAny _ _ (if (decide (-(2:Int) ^ 63<=lR) && decide (lR < 2 ^ 63))=true then _ else _) Q E _
 rw[if_pos (by decide)]
 exact wpAny_pure h
noncomputable def dG (prog:Program) (w:World):PySem.KeyKind prog w fN where
 is:=qF
 hash:=keyH w
 inj:=λ v a b ha hb=>by
  rcases cI ha with ⟨i,t,rfl,rfl⟩ | ⟨x,t,rfl,rfl⟩ | ⟨rfl,rfl⟩
  ·rcases cI hb with ⟨j,u,rfl,e⟩ | ⟨y,u,rfl,e⟩ | ⟨rfl,e⟩
   ·injection e with e1 _;rw[e1]
   ·exact nomatch e
   ·exact nomatch e
  ·rcases cI hb with ⟨j,u,rfl,e⟩ | ⟨y,u,rfl,e⟩ | ⟨rfl,e⟩
   ·exact nomatch e
   ·injection e with e1 _;rw[e1]
   ·exact nomatch e
  ·rcases cI hb with ⟨j,u,rfl,e⟩ | ⟨y,u,rfl,e⟩ | ⟨rfl,e⟩
   ·exact nomatch e
   ·exact nomatch e
   ·rfl
 byValue:=λ k v h=>by
  rcases cI h with ⟨i,t,rfl,rfl⟩ | ⟨x,t,rfl,rfl⟩ | ⟨rfl,rfl⟩ <;> rfl
 pyHash:=λ hv h=>by
  rcases cI hv with ⟨i,t,rfl,rfl⟩ | ⟨x,t,rfl,rfl⟩ | ⟨rfl,rfl⟩
  ·exact wpAny_pyHash_int h
  ·exact wpAny_pyHash_str h
  ·exact AU h
 eqBool:=λ hu hv h=>by
  rcases cI hu with ⟨i,t,rfl,rfl⟩ | ⟨x,t,rfl,rfl⟩ | ⟨rfl,rfl⟩
  ·rcases cI hv with ⟨j,u,rfl,rfl⟩ | ⟨y,u,rfl,rfl⟩ | ⟨rfl,rfl⟩
   ·rw[FS] at h;exact wpAny_eqBool_int h
   ·rw[AJ] at h;exact SeqAt.EqAt.int_str i t y u _ _ _ _ h
   ·rw[AJ] at h;exact SeqAt.EqAt.int_none i t _ _ _ _ h
  ·rcases cI hv with ⟨j,u,rfl,rfl⟩ | ⟨y,u,rfl,rfl⟩ | ⟨rfl,rfl⟩
   ·rw[AK] at h;exact SeqAt.EqAt.str_int x t j u _ _ _ _ h
   ·rw[FQ] at h;exact wpAny_eqBool_str h
   ·rw[FP] at h;exact SeqAt.EqAt.str_none x t _ _ _ _ h
  ·rcases cI hv with ⟨j,u,rfl,rfl⟩ | ⟨y,u,rfl,rfl⟩ | ⟨rfl,rfl⟩
   ·rw[AK] at h;exact SeqAt.EqAt.none_int j u _ _ _ _ h
   ·rw[FR] at h;exact SeqAt.EqAt.none_str y u _ _ _ _ h
   ·rw[decide_eq_true rfl] at h;exact SeqAt.EqAt.same Value.none _ _ _ _ h
 «strs»:=λ k x t v h=>by
  rcases cI h with ⟨i,u,rfl,e⟩ | ⟨y,u,rfl,e⟩ | ⟨rfl,e⟩
  ·exact nomatch e
  ·injection e with e1 _
   subst e1
   cases v <;> rfl
  ·exact nomatch e
theorem tR (prog:Program) (w:World) (i:Int) (t:Tok):(dG prog w).is (.inl i) (.int i t)=true:=xT i t
theorem tQ (prog:Program) (w:World) (x:Str) (t:Tok):(dG prog w).is (.inr (some x)) (.str x t)=true:=xS x t
end L2
namespace L2
open PySem PySem.Spec PyProof.Rows
inductive V where
 | non | bl (b:Bool) | int (i:Int) | str (x:Str) | byt (b:Array UInt8) | flt (b:UInt64) | ref (a:Addr) | ty (n:String)
 deriving DecidableEq
noncomputable def bN:V->Value->Prop
 | .non,u=>u=Value.none
 | .bl b,u=>u=Value.bool b
 | .int i,u=>∃ t,u=Value.int i t
 | .str x,u=>∃ t,u=Value.str x t
 | .byt b,u=>∃ t,u=Value.bytes b t
 | .flt b,u=>∃ t,u=Value.float b t
 | .ref a,u=>u=Value.ref a
 | .ty n,u=>u=Value.type n
noncomputable abbrev bP:List V->List Value->Prop:=Paired bN
theorem bP.length {xs:List V}{us:List Value} (r:bP xs us):xs.length=us.length:=Paired.length r
theorem bP.get:∀ {xs:List V}{us:List Value}{i:Nat}{x:V},bP xs us->xs[i]? = some x->∃ u,us[i]? = some u/\bN x u
 | _,_,_,_,.nil,e=>by simp at e
 | _,_,0,_,.cons r _,e=>by simp at e;subst e;exact⟨_,rfl,r⟩
 | _,_,i+1,x,.cons _ t,e=>by
  obtain⟨u,h1,h2⟩:=bP.get (i:=i) (x:=x) t (by simpa using e)
  exact⟨u,by simpa using h1,h2⟩
theorem bP.set {x:V}{u:Value} (r:bN x u):∀ {xs:List V}{us:List Value} (i:Nat),bP xs us->bP (xs.set i x) (us.set i u)
 | _,_,_,.nil=>.nil
 | _,_,0,.cons _ t=>.cons r t
 | _,_,i+1,.cons q t=>.cons q (bP.set r i t)
theorem bP.append:∀ {xs ys:List V}{us ws:List Value},bP xs us->bP ys ws->bP (xs++ys) (us++ws)
 | _,_,_,_,.nil,s=>s
 | _,_,_,_,.cons r t,s=>.cons r (bP.append t s)
theorem bP.take:∀ {xs:List V}{us:List Value} (n:Nat),bP xs us->bP (xs.take n) (us.take n)
 | _,_,0,_=>.nil
 | _,_,_+1,.nil=>.nil
 | _,_,n+1,.cons r t=>.cons r (bP.take n t)
theorem bP.drop:∀ {xs:List V}{us:List Value} (n:Nat),bP xs us->bP (xs.drop n) (us.drop n)
 | _,_,0,r=>r
 | _,_,_+1,.nil=>.nil
 | _,_,n+1,.cons _ t=>bP.drop n t
noncomputable def mV:Option V->Option Value->Prop
 | some v,some u=>bN v u
 | none,none=>True
 | _,_=>False
noncomputable def KV {au:Type}:List (au×V)->List (au×Value)->Prop:=Paired λ (p:au×V) (q:au×Value)=>p.1=q.1/\bN p.2 q.2
noncomputable def kV:fN->V
 | .inl i=>.int i
 | .inr (some x)=>.str x
 | .inr none=>.non
inductive HO where
 | lst (xs:List V)
 | tup (xs:List V)
 | dK (kvs:List (fN×V)) | dT (kvs:List (List fN×V))
 | set (S:Int->Bool) (n:Nat)
 | ins (C dx:Addr) (fs:List (Str×V))
 | own (x:Addr)
 | xd (fs:List (Str×V))
 | met (f x:Addr)
 | rng (lo hi:Int)
 | frz (o:Obj) (u:HO)
 | tbl (ps:Array Value)
 | ext (dz:Heap->Prop)
noncomputable abbrev Hp:=Addr->Option HO
noncomputable def upd (H:Hp) (a:Addr) (o:HO):Hp:=λ b=>if b=a then some o else H b
theorem aB {H:Hp}{a:Addr}{o:HO}:upd H a o a=some o:=by unfold upd;rw[if_pos rfl]
theorem aO {H:Hp}{a b:Addr}{o:HO} (h:b≠a):upd H a o b=H b:=by unfold upd;rw[if_neg h]
theorem E6 {H:Hp}{a b:Addr}{o u:HO} (h:H a=some o) (h':H b=some u) (d:o≠u):a≠b:=by
 intro e;subst e;rw[h] at h';exact d (abe h')
theorem aL {H:Hp}{a b:Addr}{o:HO} (h:H a=some o) (h':H b=none):a≠b:=by
 intro e;subst e;rw[h] at h';cases h'
section
variable (P:Program) (w:World)
noncomputable def cC (H:Hp) (h:Heap) (a:Addr):HO->Prop
 | .lst xs=>xs.length<=sizeLine/\∃ (its:List Value) (n:Nat),bP xs its/\h.get? a=some { cls:=.type "list",data:=.seq its.toArray n }
 | .tup xs=>xs.length<=sizeLine/\∃ its:List Value,bP xs its/\IsTup h a its.toArray
 | .dK kvs=>kvs.length<=sizeLine/\(a == sysModules)=false/\∃ vs,KV kvs vs/\h.DictOf (dG P w) a vs
 | .dT kvs=>kvs.length<=sizeLine/\(a == sysModules)=false/\∃ xs:List (List fN×Addr×Value),
   Paired (λ (p:List fN×V) (q:List fN×Addr×Value)=>p.1=q.1/\H q.2.1=some (.tup (p.1.map kV))/\bN p.2 q.2.2) kvs xs/\
   ∃ o es ep,h.get? a=some o/\o.ExactDict/\o.data=.dict es ep/\es.toList=xs.map (entryOfKey (tupleKind (dG P w)))/\(xs.map (·.1)).Nodup
 | .set S n=>h.SetOf (intKind P w) a S n
 | .ins C dx fs=>H dx=some (.own a)/\fs.length<=1000/\dx≠a/\h.get? a=some (PySem.W.instObj C dx)/\
   ∃ mA,h.Ns1 dx mA/\(∀ f,mV (fs.lookup f) (mA f))/\PySem.Within mA (fs.map (·.1))
 | .own _=>∃ o,h.get? a=some o
 | .xd fs=>∃ mA,h.Ns1 a mA/\∀ f,mV (fs.lookup f) (mA f)
 | .rng lo hi=>∃ t u v,h.get? a=some { cls:=.type "range",data:=.fields #[.int lo t,.int hi u,.int 1 v] }
 | .frz o u=>h.get? a=some o/\cC H h a u
 | .tbl ps=>h.get? a=some { cls:=.none,data:=.fields ps }
 | .met f x=>h.get? a=some (PySem.W.methodObj (.ref f) (.ref x))
 | .ext dz=>dz h/\(∃ o,h.get? a=some o)/\∀ h1 h2:Heap,dz h1->(∀ o,h1.get? a=some o->h2.get? a=some o)->dz h2
noncomputable def kA (H:Hp) (h:Heap):Prop:=∀ a o,H a=some o->cC P w H h a o
end
section
variable {P:Program}{w:World}{H H':Hp}{h h':Heap}{a:Addr}{o:HO}
theorem cC.lt (x:cC P w H h a o):a < h.objs.size:=by
 cases o with
 | lst xs=>obtain⟨_,_,_,_,e⟩:=x;exact aai e
 | tup xs=>obtain⟨_,_,_,p⟩:=x;exact p.lt
 | dK kvs=>obtain⟨_,_,_,_,o,_,_,e,_⟩:=x;exact aai e
 | dT kvs=>obtain⟨_,_,_,_,o,_,_,e,_⟩:=x;exact aai e
 | set S n=>obtain⟨o,_,_,_,e,_⟩:=x;exact aai e
 | ins C dx fs=>obtain⟨_,_,_,e,_⟩:=x;exact aai e
 | own y=>obtain⟨_,e⟩:=x;exact aai e
 | xd fs=>obtain⟨_,⟨_,_,_,e,_⟩,_⟩:=x;exact aai e
 | rng lo hi=>obtain⟨_,_,_,e⟩:=x;exact aai e
 | frz ob u=>obtain⟨e,_⟩:=x;exact aai e
 | tbl ps=>exact aai (show h.get? a=some _ from x)
 | met f y=>exact aai (show h.get? a=some _ from x)
 | ext dz=>obtain⟨_,⟨_,e⟩,_⟩:=x;exact aai e
theorem Paired.mapP {af cq:Type}{F G:af->cq->Prop}:∀ {bj:List af}{bn:List cq},Paired F bj bn->(∀ a b,F a b->G a b)->Paired G bj bn
 | _,_,.nil,_=>.nil
 | _,_,.cons r t,f=>.cons (f _ _ r) (Paired.mapP t f)
theorem cC.stay (x:cC P w H h a o) (k:∀ b u,(b=a\/H b=some (.own a))->h.get? b=some u->h'.get? b=some u)
  (ho:∀ b,H b=some (.own a)->H' b=some (.own a)) (ht:∀ b xs,H b=some (.tup xs)->H' b=some (.tup xs)):cC P w H' h' a o:=by
 induction o with
 | lst xs=>obtain⟨z,its,n,r,e⟩:=x;exact⟨z,its,n,r,k _ _ (.inl rfl) e⟩
 | tup xs=>obtain⟨z,its,r,ob,e,c⟩:=x;exact⟨z,its,r,ob,k _ _ (.inl rfl) e,c⟩
 | dK kvs=>obtain⟨z,y,vs,r,ob,es,ep,e,c⟩:=x;exact⟨z,y,vs,r,ob,es,ep,k _ _ (.inl rfl) e,c⟩
 | dT kvs=>
  obtain⟨z,y,xs,r,ob,es,ep,e,c⟩:=x
  exact⟨z,y,xs,Paired.mapP r λ p q z=>⟨z.1,ht _ _ z.2.1,z.2.2⟩,ob,es,ep,k _ _ (.inl rfl) e,c⟩
 | set S n=>obtain⟨ob,es,ep,t,e,c⟩:=x;exact⟨ob,es,ep,t,k _ _ (.inl rfl) e,c⟩
 | ins C dx fs=>
  obtain⟨d,z,ne,e,mA,⟨od,es,ep,e2,c⟩,r⟩:=x
  exact⟨ho _ d,z,ne,k _ _ (.inl rfl) e,mA,⟨od,es,ep,k _ _ (.inr d) e2,c⟩,r⟩
 | own y=>obtain⟨ob,e⟩:=x;exact⟨ob,k _ _ (.inl rfl) e⟩
 | xd fs=>obtain⟨mA,⟨od,es,ep,e,c⟩,r⟩:=x;exact⟨mA,⟨od,es,ep,k _ _ (.inl rfl) e,c⟩,r⟩
 | rng lo hi=>obtain⟨t,u,v,e⟩:=x;exact⟨t,u,v,k _ _ (.inl rfl) e⟩
 | frz ob u ih=>obtain⟨e,q⟩:=x;exact⟨k _ _ (.inl rfl) e,ih q⟩
 | tbl ps=>
  have e:h.get? a=some { cls:=.none,data:=.fields ps }:=x
  show h'.get? a=some { cls:=.none,data:=.fields ps }
  exact k a _ (.inl rfl) e
 | met f y=>
  have e:h.get? a=some (PySem.W.methodObj (.ref f) (.ref y)):=x
  show h'.get? a=some (PySem.W.methodObj (.ref f) (.ref y))
  exact k a _ (.inl rfl) e
 | ext dz=>obtain⟨p,⟨o,e⟩,st⟩:=x;exact⟨st _ _ p λ o q=>k _ _ (.inl rfl) q,⟨o,k _ _ (.inl rfl) e⟩,st⟩
theorem kA.lt (x:kA P w H h) (e:H a=some o):a < h.objs.size:=(x a o e).lt
theorem kA.fresh (x:kA P w H h) (e:h.objs.size<=a):H a=none:=by
 cases q:H a with
 | none=>rfl
 | some u=>exact absurd (aal (x.lt q) e) (abj _)
theorem kA.kept (x:kA P w H h) (k:∀ b u,h.get? b=some u->h'.get? b=some u):kA P w H h':=λ a o e=>
 (x a o e).stay (λ b u _ q=>k b u q) (λ _ q=>q) λ _ _ q=>q
theorem kA.laid (x:kA P w H h) (k:∀ b u,h.get? b=some u->h'.get? b=some u) (hp:h.objs.size<=a) (new:cC P w (upd H a o) h' a o):kA P w (upd H a o) h':=λ b u e=>by
 have hn:=x.fresh hp
 by_cases hb:b=a
 ·subst hb;rw[aB] at e;cases e;exact new
 ·rw[aO hb] at e
  exact (x b u e).stay (λ c v _ q=>k c v q) (λ c q=>by rw[aO (aL q hn)];exact q) λ c xs q=>by rw[aO (aL q hn)];exact q
end
noncomputable def Rd (H:Hp) (a:Addr) (u:HO):Prop:=H a=some u\/∃ o,H a=some (.frz o u)
theorem Rd.ok {P:Program}{w:World}{H:Hp}{h:Heap}{a:Addr}{u:HO} (r:Rd H a u) (x:kA P w H h):cC P w H h a u:=by
 rcases r with r | ⟨o,r⟩
 ·exact x a u r
 ·obtain⟨_,q⟩:=x a _ r
  exact q
noncomputable def kR:Option HO->Prop
 | some (.lst _)=>True
 | some (.dK _)=>True
 | some (.dT _)=>True
 | some (.set _ _)=>True
 | some (.ins _ _ _)=>True
 | some (.ext _)=>True
 | _=>False
section
variable {P:Program}{w:World}{H:Hp}{h h':Heap}{x e:Addr}{o':HO}
theorem kA.write (ok:kA P w H h) (mu:kR (H x)) (he:e=x\/H e=some (.own x)) (k:∀ b u,b≠e->h.get? b=some u->h'.get? b=some u) (heo:∃ u,h'.get? e=some u)
  (new:cC P w (upd H x o') h' x o'):kA P w (upd H x o') h':=λ b u q=>by
 have nown:∀ c y,H c=some (.own y)->c≠x:=λ c y r z=>by subst z;rw[r] at mu;exact mu
 have ntup:∀ c xs,H c=some (.tup xs)->c≠x:=λ c xs r z=>by subst z;rw[r] at mu;exact mu
 by_cases hb:b=x
 ·subst hb;rw[aB] at q;cases q;exact new
 ·rw[aO hb] at q
  by_cases hbe:b=e
  ·have q':H b=some (.own x):=by
    rcases he with z | z
    ·exact absurd (hbe.trans z) hb
    ·rw[hbe];exact z
   rw[q] at q';cases q'
   obtain⟨v,hv⟩:=heo
   exact⟨v,by rw[hbe];exact hv⟩
  ·refine (ok b u q).stay (λ c v hc r=>k c v ?_ r) (λ c r=>by rw[aO (nown c b r)];exact r) λ c xs r=>by rw[aO (ntup c xs r)];exact r
   rcases hc with rfl | hc
   ·exact hbe
   ·rintro rfl
    rcases he with z | z
    ·exact nown c b hc z
    ·rw[hc] at z;cases z;exact hb rfl
end
structure Un (fs ex:List Addr) (H H':Hp) (h h':Heap):Prop where
 keep:∀ b o,h.get? b=some o->H b=none->b∉fs->b∉ex->h'.get? b=some o
 slot:∀ b o,h.get? b=some o->H b=none->b∈fs->b∉ex->∃ sl,h'.get? b=some { o with slots:=sl }
 free:∀ b o,h.get? b=some o->H b=none->b∉ex->H' b=none
 there:∀ b o,h.get? b=some o->b∉ex->∃ o',h'.get? b=some o'
 tups:∀ b xs,H b=some (.tup xs)->H' b=some (.tup xs)
 frzs:∀ b o u,H b=some (.frz o u)->H' b=some (.frz o u)
 tbls:∀ b ps,H b=some (.tbl ps)->∃ more,H' b=some (.tbl (ps++more))
section
variable {fs fs' ex ex':List Addr}{H H1 H2:Hp}{h h1 h2 h':Heap}{a x e:Addr}{o:HO}
theorem Un.any (u:Un fs ex H H1 h h1) {b:Addr}{ob:Obj} (q:h.get? b=some ob) (n:H b=none) (hx:b∉ex):∃ sl,h1.get? b=some { ob with slots:=sl }:=by
 by_cases hb:b∈fs
 ·exact u.slot b ob q n hb hx
 ·exact⟨ob.slots,u.keep b ob q n hb hx⟩
theorem Un.kept (k:∀ b u,h.get? b=some u->h'.get? b=some u):Un fs ex H H h h':=
 ⟨λ b ob q _ _ _=>k b ob q,λ b ob q _ _ _=>⟨ob.slots,k b ob q⟩,λ _ _ _ n _=>n,λ b ob q _=>⟨ob,k b ob q⟩,λ _ _ q=>q,λ _ _ _ q=>q,λ _ ps q=>⟨#[],by rw[q];simp⟩⟩
theorem Un.refl:Un fs ex H H h h:=Un.kept λ _ _ q=>q
theorem Un.laid (k:∀ b u,h.get? b=some u->h'.get? b=some u) (hp:h.objs.size<=a) (hn:H a=none):Un fs ex H (upd H a o) h h' where
 keep:=λ b u q _ _ _=>k b u q
 slot:=λ b u q _ _ _=>⟨u.slots,k b u q⟩
 free:=λ b u q n _=>by rw[aO (aat (aal (aai q) hp))];exact n
 there:=λ b u q _=>⟨u,k b u q⟩
 tups:=λ b xs q=>by rw[aO (aL q hn)];exact q
 frzs:=λ b u xs q=>by rw[aO (aL q hn)];exact q
 tbls:=λ b ps q=>⟨#[],by rw[aO (aL q hn),q];simp⟩
theorem Un.write (mu:kR (H x)) (he:e=x\/H e=some (.own x)) (k:∀ b u,b≠e->h.get? b=some u->h'.get? b=some u) (heo:∃ u,h'.get? e=some u):Un fs ex H (upd H x o) h h':=by
 have hx:∀ b,H b=none->b≠x:=λ b n z=>by subst z;rw[n] at mu;exact mu
 have hb:∀ b,H b=none->b≠e:=λ b n z=>by
  subst z
  rcases he with r | r
  ·exact hx b n r
  ·rw[n] at r;cases r
 have hm:∀ b u,H b=some u->¬ kR (some u)->b≠x:=λ b u q nm z=>by subst z;rw[q] at mu;exact nm mu
 refine⟨λ b u q n _ _=>k b u (hb b n) q,λ b u q n _ _=>⟨u.slots,k b u (hb b n) q⟩,λ b u q n _=>by rw[aO (hx b n)];exact n,λ b u q _=>?_,
  λ b xs q=>by rw[aO (hm b _ q λ z=>z)];exact q,λ b u xs q=>by rw[aO (hm b _ q λ z=>z)];exact q,λ b ps q=>⟨#[],by rw[aO (hm b _ q λ z=>z),q];simp⟩⟩
 by_cases hbe:b=e
 ·subst hbe;exact heo
 ·exact⟨u,k b u hbe q⟩
end
noncomputable def trk (h:Heap) (H:Hp):List Addr:=(List.range h.objs.size).filter λ a=>(H a).isSome
noncomputable def pP (h:Heap) (H:Hp):Heap:=PySem.W.hideAll h (trk h H)
theorem xV (h:Heap) (H:Hp):(pP h H).objs.size=h.objs.size:=PySem.W.hideAll_size _ _
theorem AT {h:Heap}{H:Hp}{b:Addr}{o:Obj} (e:h.get? b=some o) (n:H b=none):(pP h H).get? b=some o:=
 PySem.W.hideAll_get _ e λ hm=>by
  have q:(H b).isSome=true:=(List.mem_filter.mp hm).2
  rw[n] at q;simp at q
theorem DD {h:Heap}{H:Hp}{b:Addr}{o:Obj} (e:(pP h H).get? b=some o):h.get? b=some o/\H b=none:=by
 have e':h.get? b=some o:=PySem.W.of_hideAll (trk h H) e
 refine⟨e',?_⟩
 cases q:H b with
 | none=>rfl
 | some x=>
  have hm:b∈trk h H:=List.mem_filter.mpr ⟨abw.mpr (aai e'),by simp [q]⟩
  have z:(pP h H).get? b=none:=PySem.W.hideAll_none (trk h H) hm
  rw[z] at e;cases e
end L2
namespace L2
open PySem PySem.Spec PyProof.Rows
structure Mod (K:aaa) (mg:Str->Option Value) (base:Heap):Prop where
 kin:K.In base
 glob:base.Ns mainGlobals mg
 blt:∃ mb,base.Ns builtinsNs mb/\∀ x:Str,x ≠ "__name__" -> mb x=bootBuiltins x
 nolimit:base.NoLimit
structure Cx where
 prog:Program
 w:World
 K:aaa
 mg:Str->Option Value
 base:Heap
 A:Around
 N:List Str
 s₀:Shared
 H₀:Hp
 env:Env
 outer:List Env
 stack:List Env
 ex:List Addr
 fn:Str->Bool
 calm:Bool
 pn:List (Addr×Obj)
 xe:Value->Shared->Prop
noncomputable def hJ (l:List Env):List Addr:=l.filterMap (·.frame)
noncomputable abbrev Cx.fs (X:Cx):List Addr:=hJ X.outer
noncomputable def IC (sc:Scope) (x:Str):Prop:=sc.names.lookup x=some .local\/sc.names.lookup x=some .cell\/sc.names.lookup x=some .free
noncomputable def IH (sc:Scope) (x:Str):Prop:=sc.names.lookup x=some .local\/sc.names.lookup x=some .cell
noncomputable def Look (env:Env) (h:Heap) (m:Str->Option Value) (x:Str) (u:Value):Prop:=
 (env.kindOf x=some .local/\m x=some u)\/((env.kindOf x=some .cell\/env.kindOf x=some .free)/\∃ c,env.cells.lookup x=some c/\h.IsCell c (some u))
structure Cx.Ok (X:Cx):Prop where
 mod:Mod X.K X.mg X.base
 kind:X.env.scope.kind=.function
 glob:X.env.globals=mainGlobals
 blt:X.env.builtins=builtinsNs
 above:X.s₀.heap.objs.size<=X.env.locals
 inj:∀ x y c,X.env.cells.lookup x=some c->X.env.cells.lookup y=some c->x=y
 has:∀ x,(X.env.kindOf x=some .cell\/X.env.kindOf x=some .free)->∃ c,X.env.cells.lookup x=some c
 cab:∀ x c,X.fn x=true->X.env.cells.lookup x=some c->X.s₀.heap.objs.size<=c
 hd:X.calm=true->X.A.handled=none
 frames:X.A.frames=some X.stack
 stk:X.stack=X.outer\/(X.stack=X.env::X.outer/\X.env.frame=some X.env.locals)
 exf:∀ b∈X.ex,b≠X.env.locals/\∀ x c,X.env.cells.lookup x=some c->c≠b
 bs:∀ b o,X.base.get? b=some o->X.s₀.heap.get? b=some o/\X.H₀ b=none
 bsz:X.base.objs.size<=X.s₀.heap.objs.size
 noex:∀ b o,X.base.get? b=some o->b∉X.ex
 exfs:∀ b∈X.ex,b∉X.fs
 funs:X.s₀.heap.FunFrames X.base X.outer
 frf:∀ b∈X.fs,X.H₀ b=none
structure Inv (X:Cx) (pins:List (Addr×Obj)) (σ:List (Option V)) (H:Hp) (s:Shared):Prop where
 ok:X.Ok
 os:s.os=X.s₀.os
 bare:AllBare s.gens
 base:Un X.fs X.ex X.H₀ H X.s₀.heap s.heap
 loc:∃ m,s.heap.Ns X.env.locals m/\∀ (i:Nat) (x:Str) (v:V),X.N[i]? = some x->σ[i]? = some (some v)->IC X.env.scope x->∃ u,bN v u/\Look X.env s.heap m x u
 cell:∀ x c,X.env.cells.lookup x=some c->∃ v,s.heap.IsCell c v
 free:H X.env.locals=none
 freeC:∀ x c,X.env.cells.lookup x=some c->H c=none
 pin:∀ p∈X.pn++pins,s.heap.get? p.1=some p.2/\H p.1=none/\p.1≠X.env.locals/\p.1∉X.fs/\∀ v,p.2.data≠.cell v
 hok:kA X.prog X.w H s.heap
 len:σ.length=X.N.length
section
variable {X:Cx}{pins:List (Addr×Obj)}{σ:List (Option V)}{H H':Hp}{s:Shared}{h':Heap}
theorem Cx.Ok.nofr (ok:X.Ok) {b:Addr}{o:Obj} (e:X.base.get? b=some o):b∉X.fs:=λ hb=>by
 have:=(ok.funs.mem hb).1
 rw[e] at this;cases this
theorem Inv.bs (I:Inv X pins σ H s):∀ b o,X.base.get? b=some o->s.heap.get? b=some o/\H b=none:=λ b o e=>
 ⟨I.base.keep b o (I.ok.bs b o e).1 (I.ok.bs b o e).2 (I.ok.nofr e) (I.ok.noex b o e),I.base.free b o (I.ok.bs b o e).1 (I.ok.bs b o e).2 (I.ok.noex b o e)⟩
theorem Inv.bk (I:Inv X pins σ H s):∀ b o,X.base.get? b=some o->s.heap.get? b=some o:=λ b o e=>(I.bs b o e).1
theorem Inv.mod (I:Inv X pins σ H s):Mod X.K X.mg X.base:=I.ok.mod
theorem Inv.kIn (I:Inv X pins σ H s):X.K.In s.heap:=I.ok.mod.kin.keeps I.bk
theorem Inv.lt (I:Inv X pins σ H s):X.env.locals < s.heap.objs.size:=let ⟨_,hn,_⟩:=I.loc;hn.lt
theorem Inv.sz (I:Inv X pins σ H s):X.s₀.heap.objs.size<=s.heap.objs.size:=abp I.ok.above (aca I.lt)
theorem Inv.nofs (I:Inv X pins σ H s) {a:Addr} (h:s.heap.objs.size<=a):a∉X.fs:=λ hb=>by
 obtain⟨_,o,ho,_⟩:=I.ok.funs.mem hb
 exact absurd (aal (aai ho) (abp I.sz h)) (abj _)
theorem Inv.cne (I:Inv X pins σ H s):∀ x c,X.env.cells.lookup x=some c->c≠X.env.locals:=λ x c e z=>by
 obtain⟨v,o,ho,hd⟩:=I.cell x c e
 obtain⟨m,⟨o',es,ep,ho',hd',_⟩,_⟩:=I.loc
 rw[z,ho'] at ho;cases ho;rw[hd'] at hd;cases hd
theorem Inv.funs (I:Inv X pins σ H s):s.heap.FunFrames X.base X.outer:=by
 have all:∀ (l:List Env),(∀ b∈hJ l,b∈X.fs)->X.s₀.heap.FunFrames X.base l->s.heap.FunFrames X.base l:=by
  intro l
  induction l with
  | nil=>intro _ _;trivial
  | cons env r ih=>
   intro hs hl
   obtain⟨hk,⟨L,o,hf,hn,ho,hd⟩,hr⟩:=hl
   have hL:L∈X.fs:=hs L (by unfold hJ;rw[List.filterMap_cons,hf];exact abk)
   obtain⟨sl,e⟩:=I.base.slot L o ho (I.ok.frf L hL) hL λ z=>I.ok.exfs L z hL
   exact⟨hk,⟨L,_,hf,hn,e,hd⟩,ih (λ b hb=>hs b (by unfold hJ;rw[List.filterMap_cons,hf];exact aay _ hb)) hr⟩
 exact all X.outer (λ _ hb=>hb) I.ok.funs
theorem Inv.stack (I:Inv X pins σ H s):s.heap.FunFrames X.base X.stack:=by
 rcases I.ok.stk with e | ⟨e,hf⟩
 ·rw[e];exact I.funs
 ·rw[e]
  obtain⟨m,hn,_⟩:=I.loc
  refine .cons (by rw[I.ok.kind];decide) hf hn ?_ I.funs
  exact Heap.get?_none_of_le (abp I.ok.bsz I.ok.above)
theorem Inv.stkSub (I:Inv X pins σ H s):∀ b∈hJ X.stack,b∈X.env.locals::X.fs:=λ b hb=>by
 rcases I.ok.stk with e | ⟨e,hf⟩
 ·rw[e] at hb;exact aay _ hb
 ·rw[e] at hb
  unfold hJ at hb
  rw[List.filterMap_cons,hf] at hb
  exact hb
theorem Inv.stkFree (I:Inv X pins σ H s):∀ b∈hJ X.stack,H b=none:=λ b hb=>by
 rcases List.mem_cons.mp (I.stkSub b hb) with e | hb
 ·rw[e];exact I.free
 ·obtain⟨_,o,ho,_⟩:=I.ok.funs.mem hb
  exact I.base.free b o ho (I.ok.frf b hb) λ z=>I.ok.exfs b z hb
theorem Inv.step {g':Array GenState}{t':Nat}{d':Drawn}{ch:List Addr} (I:Inv X pins σ H s)
  (hch:∀ b∈ch,(b∈X.ex\/X.s₀.heap.objs.size<=b)/\b≠X.env.locals/\(∀ x c,X.env.cells.lookup x=some c->c≠b)/\∀ p∈X.pn++pins,p.1≠b)
  (keep:∀ b o,b≠X.env.locals->b∉X.fs->b∉ch->s.heap.get? b=some o->H b=none->h'.get? b=some o)
  (slot:∀ b o,b≠X.env.locals->b∈X.fs->b∉ch->s.heap.get? b=some o->H b=none->∃ sl,h'.get? b=some { o with slots:=sl }) (free:∀ b o,b∉ch->s.heap.get? b=some o->H b=none->H' b=none)
  (there:∀ b o,b∉ch->s.heap.get? b=some o->∃ o',h'.get? b=some o')
  (tups:∀ b xs,H b=some (.tup xs)->H' b=some (.tup xs)) (frzs:∀ b o u,H b=some (.frz o u)->H' b=some (.frz o u)) (tbls:∀ b ps,H b=some (.tbl ps)->∃ more,H' b=some (.tbl (ps++more)))
  (ns:∀ m,s.heap.Ns X.env.locals m->h'.Ns X.env.locals m) (hok:kA X.prog X.w H' h') (hg:AllBare g') :
  Inv X pins σ H' { s with heap:=h',gens:=g',drawn:=d',toks:=t' }:=by
 have neL:∀ b o,X.s₀.heap.get? b=some o->b≠X.env.locals:=λ b o e=>aat (aal (aai e) I.ok.above)
 have neC:∀ b o,X.s₀.heap.get? b=some o->b∉X.ex->b∉ch:=λ b o e hx hb=>by
  rcases (hch b hb).1 with z | z
  ·exact hx z
  ·exact absurd (aal (aai e) z) (abj _)
 have cellK:∀ x c,X.env.cells.lookup x=some c->∀ v,s.heap.IsCell c v->h'.IsCell c v:=λ x c e v ⟨o,ho,hd⟩=>by
  have nch:c∉ch:=λ z=>(hch c z).2.2.1 x c e rfl
  by_cases hc:c∈X.fs
  ·obtain⟨sl,q⟩:=slot c o (I.cne x c e) hc nch ho (I.freeC x c e)
   exact⟨_,q,hd⟩
  ·exact⟨o,keep c o (I.cne x c e) hc nch ho (I.freeC x c e),hd⟩
 refine⟨I.ok,I.os,hg,⟨λ b o e n hb hx=>?_,λ b o e n hb hx=>?_,λ b o e n hx=>?_,λ b o e hx=>?_,λ b xs e=>tups b xs (I.base.tups b xs e),λ b o xs e=>frzs b o xs (I.base.frzs b o xs e),λ b ps e=>?_⟩,?_,λ x c e=>?_,?_,λ x c e=>?_,λ p hp=>?_,hok,I.len⟩
 ·exact keep b o (neL b o e) hb (neC b o e hx) (I.base.keep b o e n hb hx) (I.base.free b o e n hx)
 ·obtain⟨sl,e1⟩:=I.base.slot b o e n hb hx
  obtain⟨sl',e2⟩:=slot b _ (neL b o e) hb (neC b o e hx) e1 (I.base.free b o e n hx)
  exact⟨sl',e2⟩
 ·obtain⟨o',e1⟩:=I.base.there b o e hx
  exact free b o' (neC b o e hx) e1 (I.base.free b o e n hx)
 ·obtain⟨o',e1⟩:=I.base.there b o e hx
  exact there b o' (neC b o e hx) e1
 ·obtain⟨m1,e1⟩:=I.base.tbls b ps e
  obtain⟨m2,e2⟩:=tbls b _ e1
  exact⟨m1++m2,by rw[e2,Array.append_assoc]⟩
 ·obtain⟨m,hn,hl⟩:=I.loc
  refine⟨m,ns m hn,λ i x v e1 e2 e3=>?_⟩
  obtain⟨u,r,l⟩:=hl i x v e1 e2 e3
  refine⟨u,r,?_⟩
  rcases l with l | ⟨k,c,e,z⟩
  ·exact .inl l
  ·exact .inr ⟨k,c,e,cellK x c e _ z⟩
 ·obtain⟨v,z⟩:=I.cell x c e
  exact⟨v,cellK x c e v z⟩
 ·obtain⟨m,⟨o,_,_,ho,_⟩,_⟩:=I.loc
  exact free _ o (λ z=>(hch _ z).2.1 rfl) ho I.free
 ·obtain⟨v,o,ho,hd⟩:=I.cell x c e
  exact free c o (λ z=>(hch c z).2.2.1 x c e rfl) ho (I.freeC x c e)
 ·obtain⟨e,n,ne,nf,d⟩:=I.pin p hp
  have nch:p.1∉ch:=λ z=>(hch p.1 z).2.2.2 p hp rfl
  exact⟨keep p.1 p.2 ne nf nch e n,free p.1 p.2 nch e n,ne,nf,d⟩
theorem Inv.un {t':Nat} (I:Inv X pins σ H s) (u:Un X.fs [] H H' s.heap h') (hok:kA X.prog X.w H' h'):Inv X pins σ H' { s with heap:=h',toks:=t' }:=by
 obtain⟨m,⟨o,es,ep,ho,r⟩,_⟩:=id I.loc
 obtain⟨sl,hL⟩:=u.any ho I.free (by simp)
 exact I.step (g':=s.gens) (d':=s.drawn) (ch:=[]) (λ _ z=>nomatch z) (λ b o _ hb _ e n=>u.keep b o e n hb (by simp)) (λ b o _ hb _ e n=>u.slot b o e n hb (by simp)) (λ b o _ e n=>u.free b o e n (by simp)) (λ b o _ e=>u.there b o e (by simp)) u.tups u.frzs u.tbls (λ m' hm=>by
  obtain⟨o',es',ep',ho',r'⟩:=hm
  rw[ho] at ho';cases ho'
  exact⟨_,es',ep',hL,r'⟩) hok I.bare
theorem Inv.call {g':Array GenState}{t':Nat}{d':Drawn}{ch:List Addr} (I:Inv X pins σ H s) (u:Un (hJ X.stack) ch H H' s.heap h') (hok:kA X.prog X.w H' h') (hg:AllBare g')
  (hch:∀ b∈ch,(b∈X.ex\/X.s₀.heap.objs.size<=b)/\b≠X.env.locals/\(∀ x c,X.env.cells.lookup x=some c->c≠b)/\∀ p∈X.pn++pins,p.1≠b) :
  Inv X pins σ H' { s with heap:=h',gens:=g',drawn:=d',toks:=t' }:=by
 obtain⟨m,⟨o,es,ep,ho,r⟩,_⟩:=id I.loc
 obtain⟨sl,hL⟩:=u.any ho I.free λ z=>(hch _ z).2.1 rfl
 exact I.step (ch:=ch) hch (λ b o hL hb hc e n=>u.keep b o e n (λ z=>(List.mem_cons.mp (I.stkSub b z)).elim hL hb) hc) (λ b o _ _ hc e n=>u.any e n hc) (λ b o hc e n=>u.free b o e n hc) (λ b o hc e=>u.there b o e hc) u.tups u.frzs u.tbls (λ m' hm=>by
  obtain⟨o',es',ep',ho',r'⟩:=hm
  rw[ho] at ho';cases ho'
  exact⟨_,es',ep',hL,r'⟩) hok hg
theorem Inv.turned {t':Nat}{it:Addr} (I:Inv X pins σ H s) (k:∀ b o,b≠it->s.heap.get? b=some o->h'.get? b=some o) (hn:H it=none) (hL:it≠X.env.locals)
  (h1:it∈X.ex\/X.s₀.heap.objs.size<=it) (h2:∀ x c,X.env.cells.lookup x=some c->c≠it) (h3:∀ p∈X.pn++pins,p.1≠it):Inv X pins σ H { s with heap:=h',toks:=t' }:=by
 have nit:∀ b u,H b=some u->b≠it:=λ b u e z=>by rw[z,hn] at e;cases e
 refine I.step (g':=s.gens) (d':=s.drawn) (ch:=[it]) (λ b hb=>?_) (λ b o _ _ hc e _=>k b o (λ z=>hc (by simp [z])) e) (λ b o _ _ hc e _=>⟨o.slots,k b o (λ z=>hc (by simp [z])) e⟩) (λ _ _ _ _ n=>n)
  (λ b o hc e=>⟨o,k b o (λ z=>hc (by simp [z])) e⟩) (λ _ _ e=>e) (λ _ _ _ e=>e) (λ b ps e=>⟨#[],by rw[e];simp⟩) (λ m hm=>?_) (λ b u e=>?_) I.bare
 ·have e:b=it:=by simpa using hb
  subst e
  exact⟨h1,hL,h2,h3⟩
 ·obtain⟨o,es,ep,ho,r⟩:=hm
  exact⟨o,es,ep,k _ o (Ne.symm hL) ho,r⟩
 ·refine (I.hok b u e).stay (λ c v hc q=>k c v ?_ q) (λ _ q=>q) λ _ _ q=>q
  rcases hc with z | z
  ·rw[z];exact nit b u e
  ·exact nit c _ z
theorem Inv.tok (I:Inv X pins σ H s) (t:Nat):Inv X pins σ H { s with toks:=t }:=I.un (h':=s.heap) (t':=t) Un.refl I.hok
theorem Inv.kept {t':Nat} (I:Inv X pins σ H s) (k:∀ b u,s.heap.get? b=some u->h'.get? b=some u):Inv X pins σ H { s with heap:=h',toks:=t' }:=I.un (Un.kept k) (I.hok.kept k)
theorem Inv.laid {a:Addr}{o:HO}{t':Nat} (I:Inv X pins σ H s) (k:∀ b u,s.heap.get? b=some u->h'.get? b=some u) (hp:s.heap.objs.size<=a) (new:cC X.prog X.w (upd H a o) h' a o) :
  Inv X pins σ (upd H a o) { s with heap:=h',toks:=t' }:=I.un (Un.laid k hp (I.hok.fresh hp)) (I.hok.laid k hp new)
theorem Inv.write {x e:Addr}{o:HO}{t':Nat} (I:Inv X pins σ H s) (mu:kR (H x)) (he:e=x\/H e=some (.own x)) (k:∀ b u,b≠e->s.heap.get? b=some u->h'.get? b=some u) (heo:∃ u,h'.get? e=some u)
  (new:cC X.prog X.w (upd H x o) h' x o):Inv X pins σ (upd H x o) { s with heap:=h',toks:=t' }:=I.un (Un.write mu he k heo) (I.hok.write mu he k heo new)
theorem Inv.pins_of {pins':List (Addr×Obj)} (I:Inv X pins σ H s) (h:∀ p∈pins',s.heap.get? p.1=some p.2/\H p.1=none/\p.1≠X.env.locals/\p.1∉X.fs/\∀ v,p.2.data≠.cell v):Inv X pins' σ H s:=
 ⟨I.ok,I.os,I.bare,I.base,I.loc,I.cell,I.free,I.freeC,λ p hp=>(abd.mp hp).elim (λ z=>I.pin p (abm _ z)) (h p),I.hok,I.len⟩
theorem oO {N:List Str} (hN:N.Nodup) {i j:Nat}{x:Str} (a:N[i]? = some x) (b:N[j]? = some x):i=j:=by
 obtain⟨h1,e1⟩:=aad.mp a
 obtain⟨h2,e2⟩:=aad.mp b
 exact (List.getElem_inj hN).mp (e1.trans e2.symm)
theorem mE {M:Model}{A:Around}{E:Value->Shared->Prop}{i:Nat}{x:Str}{v:V}{u:Value}{Q:Unit->Shared->Prop} (I:Inv X pins σ H s) (hN:X.N.Nodup) (hi:X.N[i]? = some x) (hx:IH X.env.scope x) (r:bN v u)
  (h:∀ s',Inv X pins (σ.set i (some v)) H s'->(∃ a,Heap.SameBut a s.heap s'.heap/\(a=X.env.locals\/X.env.cells.lookup x=some a))->Q () s') (hf:X.fn x=true\/X.env.scope.names.lookup x=some .local:=by first | exact .inl rfl | exact .inr rfl | assumption):wpAny M A (storeName X.env x u) Q E s:=by
 obtain⟨m,hn,hl⟩:=id I.loc
 have hcls:(X.env.scope.kind == .class || (X.env.scope.kind == .module && X.env.locals != X.env.globals))=false:=by rw[I.ok.kind];rfl
 have dc:i < σ.length:=by rw[I.len];exact (aad.mp hi).1
 have cne:=I.cne
 have tracked:∀ {a:Addr}{h':Heap},(∃ o,s.heap.get? a=some o/\H a=none)->Heap.SameBut a s.heap h'->kA X.prog X.w H h':=λ {a h'} ha hs b ob e=>by
  obtain⟨_,_,hfree⟩:=ha
  refine (I.hok b ob e).stay (λ c w' hc q=>(hs.2 c ?_).trans q) (λ _ q=>q) λ _ _ q=>q
  rintro rfl
  rcases hc with rfl | hc
  ·rw[hfree] at e;cases e
  ·rw[hfree] at hc;cases hc
 rcases hx with hk | hk
 ·refine wpAny_storeName_local hk hn (λ h' hn' hs=>?_) hcls
  obtain⟨oL,_,_,hoL,_⟩:=id hn
  refine h _ ⟨I.ok,I.os,I.bare,⟨λ b o e n hb hx=>?_,λ b o e n hb hx=>?_,I.base.free,λ b o e hx=>?_,I.base.tups,I.base.frzs,I.base.tbls⟩,⟨_,hn',λ j y v' e1 e2 e3=>?_⟩,λ y c e=>?_,I.free,I.freeC,λ p hp=>?_,tracked ⟨oL,hoL,I.free⟩ hs,by simpa using I.len⟩ ⟨_,hs,.inl rfl⟩
  ·exact (hs.2 b (aat (aal (aai e) I.ok.above))).trans (I.base.keep b o e n hb hx)
  ·obtain⟨sl,e1⟩:=I.base.slot b o e n hb hx
   exact⟨sl,(hs.2 b (aat (aal (aai e) I.ok.above))).trans e1⟩
  ·obtain⟨o',e1⟩:=I.base.there b o e hx
   exact⟨o',(hs.2 b (aat (aal (aai e) I.ok.above))).trans e1⟩
  ·by_cases hj:j=i
   ·subst hj
    rw[hi] at e1;cases e1
    rw[acb dc] at e2
    cases e2
    exact⟨u,r,.inl ⟨hk,by simp⟩⟩
   ·rw[ace (Ne.symm hj)] at e2
    obtain⟨u',r',q⟩:=hl j y v' e1 e2 e3
    refine⟨u',r',?_⟩
    rcases q with ⟨k,e⟩ | ⟨k,c,e,z⟩
    ·refine .inl ⟨k,?_⟩
     have:y≠x:=λ e=>hj (oO hN e1 (e ▸ hi))
     simp [this,e]
    ·exact .inr ⟨k,c,e,z.sameBut hs (cne y c e)⟩
  ·obtain⟨w',z⟩:=I.cell y c e
   exact⟨w',z.sameBut hs (cne y c e)⟩
  ·obtain⟨e,n,ne,nf,d⟩:=I.pin p hp
   exact⟨(hs.2 p.1 ne).trans e,n,ne,nf,d⟩
 ·have hfn:X.fn x=true:=by
   rcases hf with z | z
   ·exact z
   ·rw[z] at hk;cases hk
  obtain⟨c,hc⟩:=I.ok.has x (.inl hk)
  obtain⟨w',z⟩:=I.cell x c hc
  refine wpAny_storeName_cell I.ok.kind hk hc z (λ h' hc' hs=>?_)
  obtain⟨oc,hoc,hocd⟩:=id z
  refine h { s with heap:=h' } ⟨I.ok,I.os,I.bare,⟨λ b o e n hb hx=>?_,λ b o e n hb hx=>?_,I.base.free,λ b o e hx=>?_,I.base.tups,I.base.frzs,I.base.tbls⟩,⟨m,hn.sameBut hs (Ne.symm (cne x c hc)),λ j y v' e1 e2 e3=>?_⟩,λ y c' e=>?_,I.free,I.freeC,λ p hp=>?_,tracked ⟨oc,hoc,I.freeC x c hc⟩ hs,by simpa using I.len⟩ ⟨c,hs,.inr hc⟩
  ·exact (hs.2 b (aat (aal (aai e) (I.ok.cab x c hfn hc)))).trans (I.base.keep b o e n hb hx)
  ·obtain⟨sl,e1⟩:=I.base.slot b o e n hb hx
   exact⟨sl,(hs.2 b (aat (aal (aai e) (I.ok.cab x c hfn hc)))).trans e1⟩
  ·obtain⟨o',e1⟩:=I.base.there b o e hx
   exact⟨o',(hs.2 b (aat (aal (aai e) (I.ok.cab x c hfn hc)))).trans e1⟩
  ·by_cases hj:j=i
   ·subst hj
    rw[hi] at e1;cases e1
    rw[acb dc] at e2
    cases e2
    exact⟨u,r,.inr ⟨.inl hk,c,hc,hc'⟩⟩
   ·rw[ace (Ne.symm hj)] at e2
    obtain⟨u',r',q⟩:=hl j y v' e1 e2 e3
    refine⟨u',r',?_⟩
    rcases q with q | ⟨k,c',e,z'⟩
    ·exact .inl q
    ·refine .inr ⟨k,c',e,z'.sameBut hs ?_⟩
     rintro rfl
     exact hj (oO hN e1 (I.ok.inj _ _ _ e hc ▸ hi))
  ·by_cases hcc:c'=c
   ·subst hcc;exact⟨_,hc'⟩
   ·obtain⟨w2,z2⟩:=I.cell y c' e
    exact⟨w2,z2.sameBut hs hcc⟩
  ·obtain⟨e,n,ne,nf,d⟩:=I.pin p hp
   refine⟨(hs.2 p.1 ?_).trans e,n,ne,nf,d⟩
   intro q
   rw[q,hoc] at e
   have q':oc=p.2:=abe e
   exact d w' (by rw[<- q'];exact hocd)
theorem eU {M:Model}{A:Around}{E:Value->Shared->Prop}{i:Nat}{x:Str}{v:V}{u:Value}{Q:Unit->Shared->Prop} (I:Inv X pins σ H s) (hN:X.N.Nodup) (hi:X.N[i]? = some x) (hx:IH X.env.scope x) (r:bN v u)
  (h:∀ s',Inv X pins (σ.set i (some v)) H s'->Q () s') (hf:X.fn x=true\/X.env.scope.names.lookup x=some .local:=by first | exact .inl rfl | exact .inr rfl | assumption):wpAny M A (storeName X.env x u) Q E s:=
 mE I hN hi hx r (λ s' I' _=>h s' I') hf
theorem Inv.call' {s':Shared}{ch:List Addr} (I:Inv X pins σ H s) (ho:s'.os=s.os) (u:Un (hJ X.stack) ch H H' s.heap s'.heap) (hok:kA X.prog X.w H' s'.heap) (hg:AllBare s'.gens)
  (hch:∀ b∈ch,(b∈X.ex\/X.s₀.heap.objs.size<=b)/\b≠X.env.locals/\(∀ x c,X.env.cells.lookup x=some c->c≠b)/\∀ p∈X.pn++pins,p.1≠b):Inv X pins σ H' s':=by
 obtain⟨h',g',d',t',o'⟩:=s'
 have e:o'=s.os:=ho
 subst e
 exact I.call (g':=g') (t':=t') (d':=d') u hok hg hch
end
noncomputable abbrev XK:=Value->Option Addr->Hp->Prop
noncomputable abbrev St:=List (Option V)
noncomputable abbrev VK:=V->Hp->Prop
noncomputable abbrev TE:=St->Hp->VK->Prop
noncomputable abbrev TT:=St->Hp->(Bool->Hp->Prop)->Prop
noncomputable abbrev TA:=St->Hp->(List V->Hp->Prop)->Prop
structure Ends where
 nx:St->Hp->Prop
 rt:VK
 bk:St->Hp->Prop:=λ _ _=>False
 ct:St->Hp->Prop:=λ _ _=>False
noncomputable abbrev TS:=Ends->St->Hp->Prop
noncomputable def EP (X:Cx) (pins:List (Addr×Obj)) (σ:St) (Q:VK) (u:Value) (s':Shared):Prop:=∃ v H',Inv X pins σ H' s'/\bN v u/\Q v H'
noncomputable def TP (X:Cx) (pins:List (Addr×Obj)) (σ:St) (Q:Bool->Hp->Prop) (b:Bool) (s':Shared):Prop:=∃ H',Inv X pins σ H' s'/\Q b H'
noncomputable def AP (X:Cx) (pins:List (Addr×Obj)) (σ:St) (Q:List V->Hp->Prop) (us:List Value) (s':Shared):Prop:=∃ vs H',Inv X pins σ H' s'/\bP vs us/\Q vs H'
noncomputable def SP (X:Cx) (pins:List (Addr×Obj)) (D:Ends) (f:Flow) (s':Shared):Prop:=
 match f with
 | .next=>∃ ac H',Inv X pins ac H' s'/\D.nx ac H'
 | .brk=>∃ ac H',Inv X pins ac H' s'/\D.bk ac H'
 | .cont=>∃ ac H',Inv X pins ac H' s'/\D.ct ac H'
 | .ret u=>∃ v ac H',Inv X pins ac H' s'/\bN v u/\D.rt v H'
noncomputable def PE (X:Cx) (e:Expr) (t:TE):Prop:=
 ∀ (pins:List (Addr×Obj)) (s:Shared) (σ:St) (H:Hp) (Q:VK),Inv X pins σ H s->t σ H Q->wpAny (model X.prog X.w) X.A (eval e X.env) (EP X pins σ Q) X.xe s
noncomputable def PT (X:Cx) (e:Expr) (t:TT):Prop:=
 ∀ (pins:List (Addr×Obj)) (s:Shared) (σ:St) (H:Hp) (Q:Bool->Hp->Prop),Inv X pins σ H s->t σ H Q->wpAny (model X.prog X.w) X.A (isTrue e X.env (eval e X.env)) (TP X pins σ Q) X.xe s
noncomputable def PW (X:Cx) (e:Expr) (t:TT):Prop:=
 ∀ (whole:Sem Value) (pins:List (Addr×Obj)) (s:Shared) (σ:St) (H:Hp) (Q:Bool->Hp->Prop),Inv X pins σ H s->t σ H Q->wpAny (model X.prog X.w) X.A (isTrue e X.env whole) (TP X pins σ Q) X.xe s
theorem PW.pt {X:Cx}{e:Expr}{t:TT} (h:PW X e t):PT X e t:=h _
noncomputable def PA (X:Cx) (es:List Expr) (t:TA):Prop:=
 ∀ (pos:Pos) (pins:List (Addr×Obj)) (s:Shared) (σ:St) (H:Hp) (Q:List V->Hp->Prop),Inv X pins σ H s->t σ H Q->wpAny (model X.prog X.w) X.A (spliced (backTo pos (starEach es X.env))) (AP X pins σ Q) X.xe s
noncomputable def PS (X:Cx) (st:Stmt) (t:TS):Prop:=
 ∀ (pins:List (Addr×Obj)) (s:Shared) (σ:St) (H:Hp) (D:Ends),Inv X pins σ H s->t D σ H->wpAny (model X.prog X.w) X.A (exec st X.env) (SP X pins D) X.xe s
noncomputable def sR (X:Cx) (st:List Stmt) (t:TS):Prop:=
 ∀ (pins:List (Addr×Obj)) (s:Shared) (σ:St) (H:Hp) (D:Ends),Inv X pins σ H s->t D σ H->wpAny (model X.prog X.w) X.A (execs st X.env) (SP X pins D) X.xe s
theorem cQ {af:Type}{t:Sem af}{Q Q':af->Shared->Prop}{M:Model}{A:Around}{E:Value->Shared->Prop}{s:Shared} (h:wpAny M A t Q E s) (hQ:∀ a s,Q a s->Q' a s):wpAny M A t Q' E s:=wpAny_mono h hQ λ _ _ x=>x
end L2
namespace L2
open PySem PySem.Spec PyProof.Rows
section
variable {X:Cx}
noncomputable def dN (i:Nat):TE:=λ σ H Q=>∃ v,σ[i]? = some (some v)/\Q v H
noncomputable def tC (v:V):TE:=λ _ H Q=>Q v H
theorem A4 {i:Nat}{x:Str}{pos:Pos} (hN:X.N[i]? = some x) (hv:IC X.env.scope x) (hd:(x == ("__debug__" : Str))=false:=by decide) (hcd:(x == ("__classdict__" : Str))=false:=by decide):PE X (.Name x pos) (dN i):=by
 intro pins s σ H Q I h
 obtain⟨v,e,h⟩:=h
 obtain⟨m,hn,hl⟩:=I.loc
 obtain⟨u,r,l⟩:=hl i x v hN e hv
 have fin:EP X pins σ Q u s:=⟨v,H,I,r,h⟩
 rcases l with ⟨hk,hm⟩ | ⟨hk,c,hc,hcell⟩
 ·exact wpAny_Name (wpAny_loadName_local I.ok.kind hk hn hm fin) hd
 ·rcases hk with hk | hk
  ·exact wpAny_Name (wpAny_loadName_cell I.ok.kind hk hc hcell fin) hd
  ·exact wpAny_Name (wpAny_loadName_free I.ok.kind hk hc hcell fin hcd) hd
theorem aE {i j pos}:PE X (.Constant (.int i) j pos) (tC (.int i)):=λ _ _ _ H _ I h=>wpAny_Constant_int ⟨.int i,H,I.tok _,⟨_,rfl⟩,h⟩
theorem eF {b j pos}:PE X (.Constant (.bool b) j pos) (tC (.bl b)):=λ _ _ _ H _ I h=>Constant_bool ⟨.bl b,H,I,rfl,h⟩
theorem eQ {j pos}:PE X (.Constant .none j pos) (tC .non):=λ _ _ _ H _ I h=>Constant_none ⟨.non,H,I,rfl,h⟩
theorem cH {x j pos}:PE X (.Constant (.str x) j pos) (tC (.str x)):=λ _ _ _ H _ I h=>Calls.Constant_str ⟨.str x,H,I.tok _,⟨_,rfl⟩,h⟩
noncomputable def Gl (X:Cx) (x:Str):Prop:=X.env.kindOf x=some .globalImplicit
theorem lM {E:Value->Shared->Prop}{pins:List (Addr×Obj)}{s:Shared}{σ:St}{H:Hp}{x:Str}{u:Value}{pos:Pos}{Q:Value->Shared->Prop} (I:Inv X pins σ H s) (hg:Gl X x) (hm:X.mg x=some u) (h:Q u s)
  (hd:(x == ("__debug__" : Str))=false:=by decide):wpAny (model X.prog X.w) X.A (eval (.Name x pos) X.env) Q E s:=
 Calls.Name_function_global I.ok.kind hg (Calls.loadGlobal_global (by rw[I.ok.glob];exact I.mod.glob.keeps I.bk) hm h) hd
theorem kH {E:Value->Shared->Prop}{pins:List (Addr×Obj)}{s:Shared}{σ:St}{H:Hp}{x:Str}{u:Value}{pos:Pos}{Q:Value->Shared->Prop} (I:Inv X pins σ H s) (hg:Gl X x) (hm:X.mg x=none) (hv:bootBuiltins x=some u) (h:Q u s)
  (hn:x ≠ "__name__" := by decide) (hd:(x == ("__debug__" : Str))=false:=by decide):wpAny (model X.prog X.w) X.A (eval (.Name x pos) X.env) Q E s:=by
 obtain⟨mb,h1,h2⟩:=I.mod.blt
 exact Calls.Name_function_global I.ok.kind hg (Calls.loadGlobal_builtin (by rw[I.ok.glob];exact I.mod.glob.keeps I.bk) hm (by rw[I.ok.blt];exact h1.keeps I.bk) ((h2 x hn).trans hv) h) hd
theorem D6 {x:Str}{v:V}{u:Value}{pos:Pos} (hg:Gl X x) (hm:X.mg x=some u) (r:bN v u) (hd:(x == ("__debug__" : Str))=false:=by decide):PE X (.Name x pos) (tC v):=
 λ _ _ _ H _ I h=>lM I hg hm ⟨v,H,I,r,h⟩ hd
theorem lI {x:Str}{v:V}{u:Value}{pos:Pos} (hg:Gl X x) (hm:X.mg x=none) (hv:bootBuiltins x=some u) (r:bN v u) (hn:x ≠ "__name__" := by decide) (hd:(x == ("__debug__" : Str))=false:=by decide):PE X (.Name x pos) (tC v):=
 λ _ _ _ H _ I h=>kH I hg hm hv ⟨v,H,I,r,h⟩ hn hd
variable {a b:Expr}{ta tb:TE}{pos:Pos}
noncomputable def tB (t:TE):TT:=λ σ H Q=>t σ H λ x H1=>∃ c,x=.bl c/\Q c H1
theorem fQ {e:Expr}{t:TE} (h:PE X e t) (he:∀ whole,isTrue e X.env whole=(do let v <- whole;standAt e.pos;holding [v] (truthy v)):=by intro _;rfl):PT X e (tB t):=by
 intro pins s σ H Q I hw
 refine isTrue_plain (cQ (h pins s σ H _ I hw) λ v s1 ⟨x,H1,I1,r1,q1⟩=>?_) (he _)
 obtain⟨d,rfl,q⟩:=q1
 cases r1
 exact wpAny_truthy_bool ⟨H1,I1,q⟩
variable {tA tB':TT}{rest:List Expr}
noncomputable def tAnd (t u:TT):TT:=λ σ H Q=>t σ H λ c H1=>if c=true then u σ H1 Q else Q false H1
noncomputable def tOr (t u:TT):TT:=λ σ H Q=>t σ H λ c H1=>if c=true then Q true H1 else u σ H1 Q
noncomputable def tNot (t:TT):TT:=λ σ H Q=>t σ H λ c H1=>Q (!c) H1
theorem rM (ha:PT X a tA):PW X (.BoolOp .And [a] pos) tA:=by
 intro wh pins s σ H Q I h
 refine isTrue_and (cQ (ha pins s σ H Q I h) λ c s1 e=>?_)
 cases c with
 | true=>exact isTrue_and_nil e
 | false=>exact e
theorem mK (ha:PT X a tA):PW X (.BoolOp .Or [a] pos) tA:=by
 intro wh pins s σ H Q I h
 refine isTrue_or (cQ (ha pins s σ H Q I h) λ c s1 e=>?_)
 cases c with
 | false=>exact isTrue_or_nil e
 | true=>exact e
theorem uY (ha:PT X a tA) (hb:PW X (.BoolOp .And (b::rest) pos) tB'):PW X (.BoolOp .And (a::b::rest) pos) (tAnd tA tB'):=by
 intro wh pins s σ H Q I h
 refine isTrue_and (cQ (ha pins s σ H _ I h) λ c s1 ⟨H1,I1,q1⟩=>?_)
 cases c with
 | true=>exact hb wh pins s1 σ H1 Q I1 q1
 | false=>exact⟨H1,I1,q1⟩
theorem n4 (ha:PT X a tA) (hb:PW X (.BoolOp .Or (b::rest) pos) tB'):PW X (.BoolOp .Or (a::b::rest) pos) (tOr tA tB'):=by
 intro wh pins s σ H Q I h
 refine isTrue_or (cQ (ha pins s σ H _ I h) λ c s1 ⟨H1,I1,q1⟩=>?_)
 cases c with
 | true=>exact⟨H1,I1,q1⟩
 | false=>exact hb wh pins s1 σ H1 Q I1 q1
theorem kF (ha:PT X a tA):PT X (.UnaryOp .Not a pos) (tNot tA):=by
 intro pins s σ H Q I h
 exact isTrue_not (ha pins s σ H (λ c H1=>Q (!c) H1) I h)
noncomputable def GY (ta tb:TE):TE:=λ σ H Q=>ta σ H λ x H1=>∃ c,x=.bl c/\if c=true then tb σ H1 Q else Q (.bl false) H1
noncomputable def tOrV (ta tb:TE):TE:=λ σ H Q=>ta σ H λ x H1=>∃ c,x=.bl c/\if c=true then Q (.bl true) H1 else tb σ H1 Q
noncomputable def DR (ta:TE):TE:=λ σ H Q=>ta σ H λ x H1=>∃ c,x=.bl c/\Q (.bl (!c)) H1
theorem vC {op}{t:TE} (h:PE X a t):PE X (.BoolOp op [a] pos) t:=λ pins s σ H Q I hw=>BoolOp_one (h pins s σ H Q I hw)
theorem rO (ha:PE X a ta) (hb:PE X (.BoolOp .And (b::rest) pos) tb):PE X (.BoolOp .And (a::b::rest) pos) (GY ta tb):=by
 intro pins s σ H Q I h
 refine BoolOp_and (cQ (ha pins s σ H _ I h) λ v s1 ⟨x,H1,I1,r1,q1⟩=>?_)
 obtain⟨c,rfl,q1⟩:=q1
 cases r1
 refine wpAny_truthy_bool ?_
 cases c with
 | true=>exact hb pins s1 σ H1 Q I1 q1
 | false=>exact⟨.bl false,H1,I1,rfl,q1⟩
theorem HL (ha:PE X a ta) (hb:PE X (.BoolOp .Or (b::rest) pos) tb):PE X (.BoolOp .Or (a::b::rest) pos) (tOrV ta tb):=by
 intro pins s σ H Q I h
 refine BoolOp_or (cQ (ha pins s σ H _ I h) λ v s1 ⟨x,H1,I1,r1,q1⟩=>?_)
 obtain⟨c,rfl,q1⟩:=q1
 cases r1
 refine wpAny_truthy_bool ?_
 cases c with
 | false=>exact hb pins s1 σ H1 Q I1 q1
 | true=>exact⟨.bl true,H1,I1,rfl,q1⟩
theorem oE (ha:PE X a ta):PE X (.UnaryOp .Not a pos) (DR ta):=by
 intro pins s σ H Q I h
 refine UnaryOp_ (cQ (ha pins s σ H _ I h) λ v s1 ⟨x,H1,I1,r1,q1⟩=>?_)
 obtain⟨c,rfl,q1⟩:=q1
 cases r1
 exact not_of (wpAny_truthy_bool ⟨.bl (!c),H1,I1,rfl,q1⟩)
end
end L2
namespace L2
open PySem PySem.Spec PyProof.Rows
noncomputable def bT (K:aaa) (H:Hp) (a:Addr) (xs:List V):Prop:=
 Rd H a (.lst xs)\/
  ∃ (o:Obj) (its:Array Value) (n:Nat),K.lookup a=some o/\o.cls=.type "list" /\ o.dict=none/\o.data=.seq its n/\its.size<=sizeLine/\bP xs its.toList
noncomputable def bD (K:aaa) (H:Hp) (a:Addr) (xs:List V):Prop:=
 Rd H a (.tup xs)\/
  ∃ (o:Obj) (its:Array Value) (n:Nat),K.lookup a=some o/\o.cls=.type "tuple" /\ o.data=.seq its n/\its.size<=sizeLine/\bP xs its.toList
noncomputable def absV:Value->Option V
 | .none=>some .non
 | .bool b=>some (.bl b)
 | .int i _=>some (.int i)
 | .str x _=>some (.str x)
 | .bytes b _=>some (.byt b)
 | .float b _=>some (.flt b)
 | .ref a=>some (.ref a)
 | .type n=>some (.ty n)
 | _=>none
theorem bN.abs {x:V}{u:Value} (r:bN x u):absV u=some x:=by
 cases x with
 | non=>cases r;rfl
 | bl _=>cases r;rfl
 | int _=>obtain⟨t,rfl⟩:=r;rfl
 | str _=>obtain⟨t,rfl⟩:=r;rfl
 | byt _=>obtain⟨t,rfl⟩:=r;rfl
 | flt _=>obtain⟨t,rfl⟩:=r;rfl
 | ref _=>cases r;rfl
 | ty _=>cases r;rfl
theorem bN.inj {x y:V}{u:Value} (r:bN x u) (q:bN y u):x=y:=abe (r.abs.symm.trans q.abs)
theorem bP.inj:∀ {xs ys:List V}{us:List Value},bP xs us->bP ys us->xs=ys
 | _,_,_,.nil,.nil=>rfl
 | _,_,_,.cons r t,.cons r' t'=>by rw[r.inj r',bP.inj t t']
section
variable {X:Cx}{pins:List (Addr×Obj)}{σ:St}{H:Hp}{s:Shared}{a:Addr}{xs ys:List V}
theorem bT.of {K:aaa} (h:H a=some (.lst xs)):bT K H a xs:=.inl (.inl h)
theorem bD.of {K:aaa} (h:H a=some (.tup xs)):bD K H a xs:=.inl (.inl h)
theorem Inv.list (I:Inv X pins σ H s) (h:bT X.K H a xs):∃ its:List Value,bP xs its/\PlainL s.heap a its.toArray/\xs.length<=sizeLine:=by
 rcases h with h | ⟨o,its,n,hk,hc,hd,hs,hz,r⟩
 ·obtain⟨z,its,n,r,e⟩:=h.ok I.hok
  exact⟨its,r,⟨_,n,e,rfl,rfl,rfl⟩,z⟩
 ·refine⟨its.toList,r,⟨o,n,I.kIn a o hk,hc,hd,by simpa using hs⟩,?_⟩
  have e:=r.length
  simp only [aby] at e
  omega
theorem Inv.tuple (I:Inv X pins σ H s) (h:bD X.K H a xs):∃ its:List Value,bP xs its/\IsTup s.heap a its.toArray/\xs.length<=sizeLine:=by
 rcases h with h | ⟨o,its,n,hk,hc,hs,hz,r⟩
 ·obtain⟨z,its,r,p⟩:=h.ok I.hok
  exact⟨its,r,p,z⟩
 ·refine⟨its.toList,r,⟨o,I.kIn a o hk,hc,n,by simpa using hs⟩,?_⟩
  have e:=r.length
  simp only [aby] at e
  omega
theorem Inv.list_inj (I:Inv X pins σ H s) (h:bT X.K H a xs) (h':bT X.K H a ys):xs=ys:=by
 obtain⟨its,r,⟨o,n,e,_,_,d⟩,_⟩:=I.list h
 obtain⟨its',r',⟨o',n',e',_,_,d'⟩,_⟩:=I.list h'
 rw[e] at e';cases e'
 rw[d] at d'
 injection d' with d1 _
 have:its=its':=by simpa using congrArg Array.toList d1
 subst this
 exact r.inj r'
theorem Inv.tuple_inj (I:Inv X pins σ H s) (h:bD X.K H a xs) (h':bD X.K H a ys):xs=ys:=by
 obtain⟨its,r,⟨o,e,_,n,d⟩,_⟩:=I.tuple h
 obtain⟨its',r',⟨o',e',_,n',d'⟩,_⟩:=I.tuple h'
 rw[e] at e';cases e'
 rw[d] at d'
 injection d' with d1 _
 have:its=its':=by simpa using congrArg Array.toList d1
 subst this
 exact r.inj r'
end
noncomputable abbrev Cx.wish (X:Cx) (E:Value->Shared->Prop):Cx:={ X with xe:=E }
noncomputable abbrev Cx.nox (X:Cx):Cx:=X.wish λ _ _=>False
theorem Cx.Ok.wish {X:Cx} (ok:X.Ok) (E:Value->Shared->Prop):(X.wish E).Ok:=
 ⟨ok.mod,ok.kind,ok.glob,ok.blt,ok.above,ok.inj,ok.has,ok.cab,ok.hd,ok.frames,ok.stk,ok.exf,ok.bs,ok.bsz,ok.noex,ok.exfs,ok.funs,ok.frf⟩
theorem Cx.Ok.unwish {X:Cx}{E:Value->Shared->Prop} (ok:(X.wish E).Ok):X.Ok:=
 ⟨ok.mod,ok.kind,ok.glob,ok.blt,ok.above,ok.inj,ok.has,ok.cab,ok.hd,ok.frames,ok.stk,ok.exf,ok.bs,ok.bsz,ok.noex,ok.exfs,ok.funs,ok.frf⟩
section
variable {X:Cx}{pins:List (Addr×Obj)}{σ:St}{H:Hp}{s:Shared}{E:Value->Shared->Prop}
theorem Inv.wish (I:Inv X pins σ H s) (E:Value->Shared->Prop):Inv (X.wish E) pins σ H s:=⟨I.ok.wish E,I.os,I.bare,I.base,I.loc,I.cell,I.free,I.freeC,I.pin,I.hok,I.len⟩
theorem Inv.unwish (I:Inv (X.wish E) pins σ H s):Inv X pins σ H s:=⟨I.ok.unwish,I.os,I.bare,I.base,I.loc,I.cell,I.free,I.freeC,I.pin,I.hok,I.len⟩
theorem SP.unwish {D:Ends}{f:Flow}{s':Shared} (h:SP (X.wish E) pins D f s'):SP X pins D f s':=by
 cases f with
 | next=>obtain⟨ac,H',I,q⟩:=h;exact⟨ac,H',I.unwish,q⟩
 | brk=>obtain⟨ac,H',I,q⟩:=h;exact⟨ac,H',I.unwish,q⟩
 | cont=>obtain⟨ac,H',I,q⟩:=h;exact⟨ac,H',I.unwish,q⟩
 | ret u=>obtain⟨v,ac,H',I,r,q⟩:=h;exact⟨v,ac,H',I.unwish,r,q⟩
theorem sR.nox {st:List Stmt}{t:TS} (h:sR X.nox st t):sR X st t:=λ pins s σ H D I hw=>
 wpAny_mono (h pins s σ H D (I.wish _) hw) (λ _ _ q=>q.unwish) λ _ _ z=>False.elim z
end
section
variable {X:Cx}{st:Stmt}{rest:List Stmt}{t u:TS}{e:Expr}{te:TE}{pos:Pos}
noncomputable def yZ:TS:=λ D σ H=>D.nx σ H
noncomputable def eP (t u:TS):TS:=λ D σ H=>t { D with nx:=u D } σ H
theorem bL:sR X [] yZ:=λ _ _ σ H _ I h=>wpAny_execs_nil ⟨σ,H,I,h⟩
theorem aD (h1:PS X st t) (h2:sR X rest u):sR X (st::rest) (eP t u):=by
 intro pins s σ H D I h
 refine wpAny_execs_cons (cQ (h1 pins s σ H { D with nx:=u D } I h) λ f s1 q=>?_)
 cases f with
 | next=>
  obtain⟨ac,H',I',q⟩:=q
  exact h2 pins s1 ac H' D I' q
 | ret v=>exact q
 | brk=>exact q
 | cont=>exact q
theorem aK (h1:PS X st t):sR X [st] t:=by
 intro pins s σ H D I h
 refine wpAny_execs_cons (cQ (h1 pins s σ H D I h) λ f s1 q=>?_)
 cases f with
 | next=>exact wpAny_execs_nil q
 | ret v=>exact q
 | brk=>exact q
 | cont=>exact q
theorem Inv.quiet {pins:List (Addr×Obj)}{σ:St}{H:Hp}{s:Shared} (I:Inv X pins σ H s):interactive X.env=false:=by simp [interactive,I.ok.kind]
noncomputable def GW (te:TE):TS:=λ D σ H=>te σ H λ _ H1=>D.nx σ H1
theorem cV (he:PE X e te) (hs:swapsWith e none pos.line X.env=pure false:=by rfl):PS X (.Expr e pos) (GW te):=by
 intro pins s σ H D I h
 exact wpAny_Expr_any (cQ (he pins s σ H _ I h) λ v s1 ⟨x,H1,I1,r1,q1⟩=>⟨σ,H1,I1,q1⟩) I.quiet hs
noncomputable def GT (te:TE):TS:=λ D σ H=>te σ H D.rt
theorem bC (he:PE X e te):PS X (.Return (some e) pos) (GT te):=by
 intro pins s σ H D I h
 exact wpAny_Return_some (cQ (he pins s σ H _ I h) λ v s1 ⟨x,H1,I1,r1,q1⟩=>⟨x,σ,H1,I1,r1,q1⟩)
noncomputable def zB (c:TT) (t u:TS):TS:=λ D σ H=>c σ H λ b H1=>if b=true then t D σ H1 else u D σ H1
theorem cF {c:Expr}{a b:List Stmt}{tc:TT} (hc:PT X c tc) (ha:sR X a t) (hb:sR X b u):PS X (.If c a b pos) (zB tc t u):=by
 intro pins s σ H D I h
 refine wpAny_If (cQ (hc pins s σ H _ I h) λ d s1 ⟨H1,I1,q1⟩=>?_)
 cases d with
 | true=>exact ha pins s1 σ H1 D I1 q1
 | false=>exact hb pins s1 σ H1 D I1 q1
end
noncomputable abbrev TG:=V->St->Hp->(St->Hp->Prop)->Prop
noncomputable abbrev BV:=List V->St->Hp->(St->Hp->Prop)->Prop
noncomputable def PG (X:Cx) (target:Expr) (t:TG):Prop:=
 ∀ (pins:List (Addr×Obj)) (s:Shared) (σ:St) (H:Hp) (v:V) (u:Value) (Q:St->Hp->Prop),Inv X pins σ H s->bN v u->t v σ H Q->
  wpAny (model X.prog X.w) X.A (assign target X.env u) (λ _ s'=>∃ ac H',Inv X pins ac H' s'/\Q ac H') X.xe s
noncomputable def GF (X:Cx) (ts:List Expr) (t:BV):Prop:=
 ∀ (pins:List (Addr×Obj)) (s:Shared) (σ:St) (H:Hp) (vs:List V) (us:List Value) (Q:St->Hp->Prop),Inv X pins σ H s->bP vs us->t vs σ H Q->
  wpAny (model X.prog X.w) X.A (assignInOrder ((assignEach ts X.env).map (·.2)) us) (λ _ s'=>∃ ac H',Inv X pins ac H' s'/\Q ac H') X.xe s
noncomputable abbrev BU:=V->V->V->Hp->(Hp->Prop)->Prop
noncomputable def GD (X:Cx) (t:BU):Prop:=
 ∀ (pins:List (Addr×Obj)) (s:Shared) (σ:St) (H:Hp) (o i v:V) (ov iv u:Value) (Q:Hp->Prop),Inv X pins σ H s->bN o ov->bN i iv->bN v u->t o i v H Q->
  wpAny (model X.prog X.w) X.A (setItem ov iv u) (λ _ s'=>∃ H',Inv X pins σ H' s'/\Q H') X.xe s
noncomputable abbrev GN:=V->V->Hp->VK->Prop
noncomputable def PIp (X:Cx) (op:Operator) (t:GN):Prop:=
 ∀ (pins:List (Addr×Obj)) (s:Shared) (σ:St) (H:Hp) (x y:V) (v u:Value) (Q:VK),Inv X pins σ H s->bN x v->bN y u->t x y H Q->
  wpAny (model X.prog X.w) X.A (inplaceOp op v u) (EP X pins σ Q) X.xe s
section
variable {X:Cx}{pos:Pos}
noncomputable def gE (i:Nat):TG:=λ v σ H Q=>Q (σ.set i (some v)) H
theorem aH {i:Nat}{x:Str} (hN:X.N.Nodup) (hi:X.N[i]? = some x) (hx:IH X.env.scope x) (hf:X.fn x=true\/X.env.scope.names.lookup x=some .local:=by first | exact .inl rfl | exact .inr rfl | assumption):PG X (.Name x pos) (gE i):=by
 intro pins s σ H v u Q I r h
 exact wpAny_assign_Name (eU I hN hi hx r (λ s' I'=>⟨_,H,I',h⟩) hf)
noncomputable def gNil:BV:=λ vs σ H Q=>vs=[]/\Q σ H
noncomputable def HY (t:TG) (u:BV):BV:=λ vs σ H Q=>∃ v r,vs=v::r/\t v σ H λ ac H'=>u r ac H' Q
theorem bF:GF X [] gNil:=by
 intro pins s σ H vs us Q I r h
 obtain⟨e,h⟩:=h
 subst e
 cases r
 exact assignInOrder_nil ⟨σ,H,I,h⟩
theorem aG {e:Expr}{es:List Expr}{t:TG}{u:BV} (h1:PG X e t) (h2:GF X es u)
  (hs:(assignEach (e::es) X.env).map (·.2)=assign e X.env::(assignEach es X.env).map (·.2):=by rfl):GF X (e::es) (HY t u):=by
 intro pins s σ H vs us Q I r h
 obtain⟨v,vr,e1,h⟩:=h
 subst e1
 cases r with
 | cons r rr=>
  rw[hs]
  refine assignInOrder_cons (cQ (h1 pins s σ H _ _ _ I r h) λ _ s1 ⟨db,H1,I1,q1⟩=>?_)
  exact h2 pins s1 db H1 _ _ Q I1 rr q1
noncomputable def HW (K:aaa) (n:Nat) (t:BV):TG:=λ v σ H Q=>∃ a xs,v=.ref a/\bD K H a xs/\xs.length=n/\t xs σ H Q
theorem FH {es:List Expr}{k:Nat}{t:BV}{n:Nat} (hc:X.calm=true) (h:GF X es t)
  (hn:(assignEach es X.env).length=n:=by rfl) (hst:(assignEach es X.env).findIdx? (·.1)=none:=by rfl):PG X (.Tuple es k pos) (HW X.K n t):=by
 intro pins s σ H v u Q I r hw
 obtain⟨a,xs,e1,hq,hl,hw⟩:=hw
 subst e1
 cases r
 obtain⟨its,rv,ht,hz⟩:=I.tuple hq
 refine assign_Tuple_tuple (I.ok.hd hc) ht (by simp [hn,<- hl,rv.length]) hst λ h' hx=>?_
 have I1:Inv X pins σ H { s with heap:=h' }:=I.kept (t':=s.toks) λ b o e=>hx b o (aat (aai e)) e
 exact h pins _ σ H xs _ Q I1 (by simpa using rv) hw
noncomputable def BB (to ti:TE) (t:BU):TG:=λ v σ H Q=>to σ H λ o H1=>ti σ H1 λ i H2=>t o i v H2 λ H3=>Q σ H3
theorem mO {o i:Expr}{to ti:TE}{t:BU} (ho:PE X o to) (hi:PE X i ti) (hs:GD X t)
  (ha:∀ v,assign (.Subscript o i pos) X.env v=(do
   let ov <- holding [v] (eval o X.env)
   let iv <- holding [v,ov] (eval i X.env)
   standAt pos
   holding [v,ov,iv] (setItem ov iv v)
   release [v,ov,iv] []):=by intro _;rfl):PG X (.Subscript o i pos) (BB to ti t):=by
 intro pins s σ H v u Q I r h
 rw[ha]
 refine wpAny_bind (wpAny_holding (cQ (ho pins s σ H _ I h) λ ov s1 ⟨x,H1,I1,r1,q1⟩=>?_))
 refine wpAny_bind (wpAny_holding (cQ (hi pins s1 σ H1 _ I1 q1) λ iv s2 ⟨y,H2,I2,r2,q2⟩=>?_))
 refine wpAny_bind (wpAny_standAt (wpAny_bind (wpAny_holding (cQ (hs pins s2 σ H2 x y v ov iv u _ I2 r1 r2 r q2) λ _ s3 ⟨H3,I3,q3⟩=>?_))))
 exact wpAny_release ⟨σ,H3,I3,q3⟩
noncomputable def jN (te:TE) (g:TG):TS:=λ D σ H=>te σ H λ x H1=>g x σ H1 D.nx
theorem cN {tg e:Expr}{te:TE}{g:TG} (he:PE X e te) (hg:PG X tg g) (hs:swapsWithSole [tg] e pos.line X.env=pure false:=by rfl) (hw:swappedStores [tg] e X.env=pure none:=by rfl)
  (h1:(assignEach [tg] X.env).map (·.2)=[assign tg X.env]:=by rfl):PS X (.Assign [tg] e pos) (jN te g):=by
 intro pins s σ H D I h
 refine wpAny_Assign_stores (cQ (he pins s σ H _ I h) λ v s1 ⟨x,H1,I1,r1,q1⟩=>?_) hs hw
 rw[h1]
 exact cQ (hg pins s1 σ H1 x v _ I1 r1 q1) λ _ s2 q=>q
theorem aP {i:Nat}{x:Str}{e:Expr}{te:TE}{pos':Pos} (hN:X.N.Nodup) (hi:X.N[i]? = some x) (hx:IH X.env.scope x) (he:PE X e te) (hs:swapsWith e (some (.Name x pos')) pos.line X.env=pure false:=by rfl) (hf:X.fn x=true\/X.env.scope.names.lookup x=some .local:=by first | exact .inl rfl | exact .inr rfl | assumption) :
  PS X (.Assign [.Name x pos'] e pos) (jN te (gE i)):=by
 intro pins s σ H D I h
 refine wpAny_Assign_Name (cQ (he pins s σ H _ I h) λ v s1 ⟨y,H1,I1,r1,q1⟩=>?_) hs
 exact eU I1 hN hi hx r1 (λ s2 I2=>⟨_,H1,I2,q1⟩) hf
noncomputable def tAug (i:Nat) (te:TE) (ti:GN):TS:=λ D σ H=>∃ x,σ[i]? = some (some x)/\te σ H λ y H1=>ti x y H1 λ z H2=>D.nx (σ.set i (some z)) H2
theorem zX {i:Nat}{x:Str}{e:Expr}{te:TE}{op:Operator}{ti:GN}{pos':Pos} (hN:X.N.Nodup) (hi:X.N[i]? = some x) (hx:IH X.env.scope x) (he:PE X e te) (ho:PIp X op ti) (hf:X.fn x=true\/X.env.scope.names.lookup x=some .local:=by first | exact .inl rfl | exact .inr rfl | assumption) :
  PS X (.AugAssign (.Name x pos') op e pos) (tAug i te ti):=by
 intro pins s σ H D I h
 obtain⟨v,e1,h⟩:=h
 obtain⟨m,hn,hl⟩:=I.loc
 have vis:IC X.env.scope x:=by rcases hx with k | k;exact .inl k;exact .inr (.inl k)
 obtain⟨u,r,l⟩:=hl i x v hi e1 vis
 refine wpAny_AugAssign_Name ?_
 have go:wpAny (model X.prog X.w) X.A (eval e X.env) (λ w cj=>wpAny (model X.prog X.w) X.A (inplaceOp op u w) (λ r bv=>wpAny (model X.prog X.w) X.A (storeName X.env x r) (λ _=>SP X pins D .next) X.xe bv) X.xe cj) X.xe s:=by
  refine cQ (he pins s σ H _ I h) λ w s1 ⟨y,H1,I1,r1,q1⟩=>?_
  refine cQ (ho pins s1 σ H1 v y u w _ I1 r r1 q1) λ z s2 ⟨zv,H2,I2,r2,q2⟩=>?_
  exact eU I2 hN hi hx r2 (λ s3 I3=>⟨_,H2,I3,q2⟩) hf
 rcases l with ⟨hk,hm⟩ | ⟨hk,c,hc,hcell⟩
 ·exact wpAny_loadName_local I.ok.kind hk hn hm go
 ·rcases hk with hk | hk
  ·exact wpAny_loadName_cell I.ok.kind hk hc hcell go
  ·rcases hx with k | k
   ·have:X.env.scope.names.lookup x=some .free:=hk
    rw[k] at this;cases this
   ·have:X.env.scope.names.lookup x=some .free:=hk
    rw[k] at this;cases this
noncomputable def GX (to ti te:TE) (tget:V->V->Hp->VK->Prop) (tip:GN) (tset:BU):TS:=λ D σ H=>to σ H λ o H1=>ti σ H1 λ i H2=>tget o i H2 λ x H3=>te σ H3 λ y H4=>tip x y H4 λ z H5=>tset o i z H5 λ H6=>D.nx σ H6
noncomputable def GG (X:Cx) (t:V->V->Hp->VK->Prop):Prop:=
 ∀ (pins:List (Addr×Obj)) (s:Shared) (σ:St) (H:Hp) (o i:V) (ov iv:Value) (Q:VK),Inv X pins σ H s->bN o ov->bN i iv->t o i H Q->
  wpAny (model X.prog X.w) X.A (getItem ov iv) (EP X pins σ Q) X.xe s
theorem CW {o i e:Expr}{to ti te:TE}{tget:V->V->Hp->VK->Prop}{tip:GN}{tset:BU}{op:Operator}{tpos:Pos} (ho:PE X o to) (hi:PE X i ti) (hg:GG X tget) (he:PE X e te) (hp:PIp X op tip) (hs:GD X tset)
  (ha:∀ ov iv new,augStore i ov iv new=(do holding [new,ov,iv] (setItem ov iv new);release [new,ov,iv] [];pure .next):=by intros;rfl):PS X (.AugAssign (.Subscript o i tpos) op e pos) (GX to ti te tget tip tset):=by
 intro pins s σ H D I h
 refine wpAny_AugAssign_SubscriptAny (cQ (ho pins s σ H _ I h) λ ov s1 ⟨x1,H1,I1,r1,q1⟩=>?_) ha
 refine cQ (hi pins s1 σ H1 _ I1 q1) λ iv s2 ⟨x2,H2,I2,r2,q2⟩=>?_
 refine cQ (hg pins s2 σ H2 x1 x2 ov iv _ I2 r1 r2 q2) λ old s3 ⟨x3,H3,I3,r3,q3⟩=>?_
 refine cQ (he pins s3 σ H3 _ I3 q3) λ v s4 ⟨x4,H4,I4,r4,q4⟩=>?_
 refine cQ (hp pins s4 σ H4 x3 x4 old v _ I4 r3 r4 q4) λ new s5 ⟨x5,H5,I5,r5,q5⟩=>?_
 exact cQ (hs pins s5 σ H5 x1 x2 x5 ov iv new _ I5 r1 r2 r5 q5) λ _ s6 ⟨H6,I6,q6⟩=>⟨σ,H6,I6,q6⟩
noncomputable def ipI (f:Int->Int->Int):GN:=λ x y H Q=>∃ i j,x=.int i/\y=.int j/\Q (.int (f i j)) H
theorem AR:PIp X .Add (ipI λ i j=>i+j):=by
 intro pins s σ H x y v u Q I r1 r2 h
 obtain⟨i,j,e1,e2,q⟩:=h
 subst e1;subst e2
 obtain⟨t,rfl⟩:=r1
 obtain⟨t',rfl⟩:=r2
 exact iadd_int ⟨.int _,H,I.tok _,⟨_,rfl⟩,q⟩
theorem FY:PIp X .Sub (ipI λ i j=>i - j):=by
 intro pins s σ H x y v u Q I r1 r2 h
 obtain⟨i,j,e1,e2,q⟩:=h
 subst e1;subst e2
 obtain⟨t,rfl⟩:=r1
 obtain⟨t',rfl⟩:=r2
 exact isub_int ⟨.int _,H,I.tok _,⟨_,rfl⟩,q⟩
end
section
variable {X:Cx}{pos:Pos}
noncomputable def EM (c:TT) (tb:TS):TS:=λ D σ H=>∃ W:Nat->St->Hp->Prop,(∃ m,W m σ H)/\∀ m σ H,W m σ H->
 c σ H λ b H1=>if b=true then ∃ N:St->Hp->Prop,(∀ ac H',N ac H'->∃ m',m' < m/\W m' ac H')/\tb { D with nx:=N,ct:=N,bk:=D.nx } σ H1 else D.nx σ H1
theorem tK {c:Expr}{body:List Stmt}{tc:TT}{tb:TS} (hp:PassesOwn (model X.prog X.w) X.A X.env X.xe) (hc:PT X c tc) (hb:sR X body tb):PS X (.While c body [] pos) (EM tc tb):=by
 intro pins s σ H D I h
 obtain⟨W,⟨m0,w0⟩,turn⟩:=h
 refine wpAny_While (codeAny_whileLoop (λ n s'=>∃ ac H',Inv X pins ac H' s'/\W n ac H') ?_ m0 ⟨σ,H,I,w0⟩)
 rintro n s1 ⟨db,H1,I1,w1⟩
 refine wpAny_passesOwn hp (cQ (hc pins s1 db H1 _ I1 (turn n db H1 w1)) λ b s2 ⟨H2,I2,q2⟩=>?_)
 cases b with
 | true=>
  obtain⟨N,hN,q2⟩:=q2
  rw[if_pos rfl]
  refine wpAny_passesOwn hp (cQ (hb pins s2 db H2 _ I2 q2) λ f s3 q3=>?_)
  cases f with
  | next=>
   obtain⟨ao,H3,I3,n3⟩:=q3
   obtain⟨m',hm,w3⟩:=hN ao H3 n3
   exact⟨m',hm,ao,H3,I3,w3⟩
  | cont=>
   obtain⟨ao,H3,I3,n3⟩:=q3
   obtain⟨m',hm,w3⟩:=hN ao H3 n3
   exact⟨m',hm,ao,H3,I3,w3⟩
  | brk=>exact q3
  | ret v=>exact q3
 | false=>
  rw[if_neg aaf]
  exact wpAny_execs_nil ⟨db,H2,I2,q2⟩
end
structure It where
 go:Nat->Hp->Prop
 yld:Nat->Hp->V->Hp->Prop
 stop:Nat->Hp->Prop
noncomputable def gP (X:Cx) (pins:List (Addr×Obj)) (H:Hp) (b:Addr):Prop:=
 H b=none/\b≠X.env.locals/\b∉X.fs/\(b∈X.ex\/X.s₀.heap.objs.size<=b)/\(∀ x c,X.env.cells.lookup x=some c->c≠b)/\∀ p∈X.pn++pins,p.1≠b
theorem Inv.fpOk {X:Cx}{pins:List (Addr×Obj)}{σ:St}{H H':Hp}{s:Shared}{b:Addr} (I:Inv X pins σ H s) (hb:s.heap.objs.size<=b) (hn:H' b=none):gP X pins H' b:=by
 refine⟨hn,Nat.ne_of_gt (aal I.lt hb),I.nofs hb,.inr (abp I.sz hb),λ x c e z=>?_,λ p hp z=>?_⟩
 ·obtain⟨v,q⟩:=I.cell x c e
  exact absurd (aal q.lt (by rw[z];exact hb)) (abj _)
 ·exact absurd (aal (aai (I.pin p hp).1) (by rw[z];exact hb)) (abj _)
structure Turn (P:Program) (w:World) (K:aaa) (tg:Expr) (J:It) (fp:List Addr) (it:Addr) (tn:Nat->Heap->Prop):Prop where
 mem:it∈fp
 obj:∀ i h,tn i h->∀ b∈fp,∃ o,h.get? b=some o/\∀ v,o.data≠.cell v
 keep:∀ i h h',tn i h->(∀ b∈fp,∀ o,h.get? b=some o->h'.get? b=some o)->tn i h'
 item:∀ (X:Cx),X.prog=P->X.w=w->X.K=K->X.calm=true->∀ (i:Nat) (pins:List (Addr×Obj)) (s:Shared) (σ:St) (H:Hp) (E:Value->Shared->Prop),Inv X pins σ H s->(∀ b∈fp,gP X pins H b)->tn i s.heap->J.go i H->
  wpAny (model P w) X.A (pyNext (.ref it)) (λ r s1=>∃ u,r=some u/\
   wpAny (model P w) X.A (letOwnedTupleGo tg (.ref it) u) (λ _ s2=>∃ x H',Inv X pins σ H' s2/\bN x u/\J.yld i H x H'/\tn (i+1) s2.heap/\∀ b∈fp,H' b=none) E s1) E s
 done:∀ (X:Cx),X.prog=P->X.w=w->X.K=K->X.calm=true->∀ (i:Nat) (pins:List (Addr×Obj)) (s:Shared) (σ:St) (H:Hp) (E:Value->Shared->Prop),Inv X pins σ H s->(∀ b∈fp,gP X pins H b)->tn i s.heap->J.stop i H->
  wpAny (model P w) X.A (pyNext (.ref it)) (λ r s1=>r=none/\Inv X pins σ H s1) E s
 self:∀ (A:Around) (i:Nat) (s:Shared) (Q:Value->Shared->Prop) (E:Value->Shared->Prop),tn i s.heap->Q (.ref it) s->wpAny (model P w) A (pyIter (.ref it)) Q E s
noncomputable abbrev TI:=St->Hp->(It->Hp->Prop)->Prop
noncomputable def PIE (X:Cx) (pins:List (Addr×Obj)) (σ:St) (tg:Expr) (R:It->Hp->Prop) (itv:Value) (s2:Shared):Prop:=
 ∃ (it:Addr) (fp:List Addr) (tn:Nat->Heap->Prop) (J:It) (H':Hp),itv=.ref it/\Inv X pins σ H' s2/\Turn X.prog X.w X.K tg J fp it tn/\tn 0 s2.heap/\(∀ b∈fp,gP X pins H' b)/\R J H'
noncomputable def PI (X:Cx) (tg iter:Expr) (wi:TI):Prop:=
 ∀ (pins:List (Addr×Obj)) (s:Shared) (σ:St) (H:Hp) (R:It->Hp->Prop),Inv X pins σ H s->wi σ H R->
  wpAny (model X.prog X.w) X.A (eval iter X.env) (λ v s1=>wpAny (model X.prog X.w) X.A (pyIter v) (PIE X pins σ tg R) X.xe s1) X.xe s
theorem AX {M:Model}{A:Around}{E:Value->Shared->Prop}{s:Shared}{tg:Expr}{it:Addr}{u:Value}{o:Obj}{n:String}{vs:Array Value}{Q:Unit->Shared->Prop} (ho:s.heap.get? it=some o) (hc:o.cls=.type n) (hd:o.data=.fields vs)
  (hn:["enumerate","zip","dict_itemiterator","dict_reverseitemiterator","odict_iterator","itertools.zip_longest","itertools.pairwise"].contains n=false) (hQ:Q () s):wpAny M A (letOwnedTupleGo tg (.ref it) u) Q E s:=by
 unfold letOwnedTupleGo
 cases tg <;> first
  | exact wpAny_pure hQ
  | (cases u <;> first
    | exact wpAny_pure hQ
    | (refine wpAny_bind (wpAny_load ho ?_)
       rw[hc,hd]
       show wpAny M A (if (["enumerate","zip","dict_itemiterator","dict_reverseitemiterator","odict_iterator","itertools.zip_longest","itertools.pairwise"].contains n && vs[0]? == some (rawInt _))=true then _ else _) Q E s
       rw[if_neg (by intro h;rw[hn,Bool.false_and] at h;cases h)]
       exact wpAny_pure hQ))
noncomputable def GQ (K:aaa) (a:Addr):It:=
 ⟨λ i H=>∃ xs x,bT K H a xs/\xs[i]? = some x,λ i H x H'=>H'=H/\∀ xs,bT K H a xs->xs[i]? = some x,λ i H=>∃ xs,bT K H a xs/\xs.length<=i⟩
noncomputable def GP (K:aaa) (a:Addr):It:=
 ⟨λ i H=>∃ xs x,bD K H a xs/\xs[i]? = some x,λ i H x H'=>H'=H/\∀ xs,bD K H a xs->xs[i]? = some x,λ i H=>∃ xs,bD K H a xs/\xs.length<=i⟩
noncomputable def GJ (lo:Int) (n:Nat):It:=⟨λ i _=>i < n,λ i H x H'=>H'=H/\x=.int (lo+i),λ i _=>n<=i⟩
theorem xC {P:Program}{w:World}{K:aaa}{tg:Expr} (a it:Addr):Turn P w K tg (GQ K a) [it] it (λ i h=>h.IsListIter it a i) where
 mem:=by simp
 obj:=λ i h st b hb=>by
  have e:b=it:=by simpa using hb
  subst e
  obtain⟨o,e,c,d⟩:=st
  exact⟨o,e,λ v z=>by rw[d] at z;cases z⟩
 keep:=λ i h h' st k=>st.at λ o e=>k it (by simp) o e
 item:=by
  intro X hP hw hK hc i pins s σ H E I hf st hg
  subst hP hw hK
  obtain⟨xs,x,hq,hx⟩:=hg
  obtain⟨its,rv,p,hz⟩:=I.list hq
  obtain⟨u,hu,ru⟩:=rv.get hx
  obtain⟨f0,f1,f2,f3,f4,f5⟩:=hf it (by simp)
  refine wpAny_pyNext_list_item st p.isList (x:=u) (by simpa using hu) λ h' st' sb=>?_
  have I1:Inv X pins σ H { s with heap:=h' }:=I.turned (t':=s.toks) (λ b o hb e=>(sb.2 b hb).trans e) f0 f1 f3 f4 f5
  obtain⟨o,e,c,d⟩:=id st'
  exact⟨u,rfl,AX (s:={ s with heap:=h' }) e c d (by decide) ⟨x,H,I1,ru,⟨rfl,λ ys hy=>by rw[I.list_inj hy hq];exact hx⟩,st',λ b hb=>(hf b hb).1⟩⟩
 done:=by
  intro X hP hw hK hc i pins s σ H E I hf st hg
  subst hP hw hK
  obtain⟨xs,hq,hx⟩:=hg
  obtain⟨its,rv,p,hz⟩:=I.list hq
  obtain⟨f0,f1,f2,f3,f4,f5⟩:=hf it (by simp)
  have hl:=rv.length
  exact wpAny_pyNext_list_end (I.ok.hd hc) st p.isList (by simp;omega) λ h' eb=>⟨rfl,I.turned (t':=s.toks) (λ b o hb e=>eb b o hb e) f0 f1 f3 f4 f5⟩
 self:=λ _ _ _ _ _ st h=>wpAny_pyIter_listiter st h
theorem uK {P:Program}{w:World}{K:aaa}{tg:Expr} (a it:Addr):Turn P w K tg (GP K a) [it] it (λ i h=>h.IsTupleIter it a i) where
 mem:=by simp
 obj:=λ i h st b hb=>by
  have e:b=it:=by simpa using hb
  subst e
  obtain⟨o,e,c,d⟩:=st
  exact⟨o,e,λ v z=>by rw[d] at z;cases z⟩
 keep:=λ i h h' st k=>st.at λ o e=>k it (by simp) o e
 item:=by
  intro X hP hw hK hc i pins s σ H E I hf st hg
  subst hP hw hK
  obtain⟨xs,x,hq,hx⟩:=hg
  obtain⟨its,rv,p,hz⟩:=I.tuple hq
  obtain⟨u,hu,ru⟩:=rv.get hx
  obtain⟨f0,f1,f2,f3,f4,f5⟩:=hf it (by simp)
  refine wpAny_pyNext_tuple_item st (show s.heap.IsTuple a its.toArray from p) (x:=u) (by simpa using hu) λ h' st' sb=>?_
  have I1:Inv X pins σ H { s with heap:=h' }:=I.turned (t':=s.toks) (λ b o hb e=>(sb.2 b hb).trans e) f0 f1 f3 f4 f5
  obtain⟨o,e,c,d⟩:=id st'
  exact⟨u,rfl,AX (s:={ s with heap:=h' }) e c d (by decide) ⟨x,H,I1,ru,⟨rfl,λ ys hy=>by rw[I.tuple_inj hy hq];exact hx⟩,st',λ b hb=>(hf b hb).1⟩⟩
 done:=by
  intro X hP hw hK hc i pins s σ H E I hf st hg
  subst hP hw hK
  obtain⟨xs,hq,hx⟩:=hg
  obtain⟨its,rv,p,hz⟩:=I.tuple hq
  obtain⟨f0,f1,f2,f3,f4,f5⟩:=hf it (by simp)
  have hl:=rv.length
  exact wpAny_pyNext_tuple_end (I.ok.hd hc) st (show s.heap.IsTuple a its.toArray from p) (by simp;omega) λ h' eb=>⟨rfl,I.turned (t':=s.toks) (λ b o hb e=>eb b o hb e) f0 f1 f3 f4 f5⟩
 self:=λ _ _ _ _ _ st h=>wpAny_pyIter_tupleiter st h
theorem uL {P:Program}{w:World}{K:aaa}{tg:Expr} (it:Addr) (lo:Int) (n:Nat):Turn P w K tg (GJ lo n) [it] it (λ i h=>IsRangeIter h it (lo+(i:Nat) * 1) ((n:Int) - (i:Nat)) 1) where
 mem:=by simp
 obj:=λ i h st b hb=>by
  have e:b=it:=by simpa using hb
  subst e
  exact⟨_,st,λ v z=>by
   have z':Data.fields _=Data.cell v:=z
   cases z'⟩
 keep:=λ i h h' st k=>k it (by simp) _ st
 item:=by
  intro X hP hw hK hc i pins s σ H E I hf st hg
  subst hP hw hK
  obtain⟨f0,f1,f2,f3,f4,f5⟩:=hf it (by simp)
  have W:=Walks.range (prog:=X.prog) (w:=X.w) (I.ok.hd hc) it lo 1 n
  refine W.item i s _ _ hg st λ v h' tk hv st' kk=>?_
  obtain⟨t,rfl⟩:=hv
  have I1:Inv X pins σ H { s with heap:=h',toks:=tk }:=I.turned (λ b o hb e=>kk b o (by simpa using hb) e) f0 f1 f3 f4 f5
  refine⟨_,rfl,AX (s:={ s with heap:=h',toks:=tk }) (n := "range_iterator") st' rfl rfl (by decide) ⟨.int (lo+i),H,I1,⟨t,?_⟩,⟨rfl,rfl⟩,st',λ b hb=>(hf b hb).1⟩⟩
  rw[Int.mul_one]
 done:=by
  intro X hP hw hK hc i pins s σ H E I hf st hg
  subst hP hw hK
  obtain⟨f0,f1,f2,f3,f4,f5⟩:=hf it (by simp)
  exact wpAny_pyNext_range_end (I.ok.hd hc) st (by have:n<=i:=hg;omega) λ h' eb=>⟨rfl,I.turned (t':=s.toks) (λ b o hb e=>eb b o hb e) f0 f1 f3 f4 f5⟩
 self:=λ _ _ _ _ _ st h=>wpAny_pyIter_rangeiter st h
end L2
namespace L2
open PySem PySem.Spec PyProof.Rows
section
variable {X:Cx}{tg:Expr}
noncomputable def E9 (K:aaa) (tl:TE):TI:=λ σ H R=>tl σ H λ x H1=>∃ a,x=.ref a/\(∃ xs,bT K H1 a xs)/\R (GQ K a) H1
noncomputable def HS (K:aaa) (tl:TE):TI:=λ σ H R=>tl σ H λ x H1=>∃ a,x=.ref a/\(∃ xs,bD K H1 a xs)/\R (GP K a) H1
theorem D3 {l:Expr}{tl:TE} (hl:PE X l tl):PI X tg l (E9 X.K tl):=by
 intro pins s σ H R I h
 refine cQ (hl pins s σ H _ I h) λ v s1 ⟨x,H1,I1,r1,q1⟩=>?_
 obtain⟨a,e,⟨xs,hq⟩,q⟩:=q1
 subst e
 cases r1
 obtain⟨its,rv,p,hz⟩:=I1.list hq
 refine wpAny_pyIter_list p.isList ?_
 refine⟨s1.heap.objs.size,[s1.heap.objs.size],_,_,H1,rfl,I1.kept (t':=s1.toks) λ b o e=>aab _ e,xC a _,⟨_,aag _ rfl,rfl,rfl⟩,λ b hb=>?_,q⟩
 have e:b=s1.heap.objs.size:=by simpa using hb
 subst e
 exact I1.fpOk (Nat.le_refl _) (I1.hok.fresh (Nat.le_refl _))
theorem FG {l:Expr}{tl:TE} (hl:PE X l tl):PI X tg l (HS X.K tl):=by
 intro pins s σ H R I h
 refine cQ (hl pins s σ H _ I h) λ v s1 ⟨x,H1,I1,r1,q1⟩=>?_
 obtain⟨a,e,⟨xs,hq⟩,q⟩:=q1
 subst e
 cases r1
 obtain⟨its,rv,p,hz⟩:=I1.tuple hq
 refine wpAny_pyIter_tuple (show s1.heap.IsTuple a its.toArray from p) ?_
 refine⟨s1.heap.objs.size,[s1.heap.objs.size],_,_,H1,rfl,I1.kept (t':=s1.toks) λ b o e=>aab _ e,uK a _,⟨_,aag _ rfl,rfl,rfl⟩,λ b hb=>?_,q⟩
 have e:b=s1.heap.objs.size:=by simpa using hb
 subst e
 exact I1.fpOk (Nat.le_refl _) (I1.hok.fresh (Nat.le_refl _))
theorem zQ {pins:List (Addr×Obj)}{σ:St}{H:Hp}{s:Shared}{R:It->Hp->Prop}{E:Value->Shared->Prop}{lo hi:Int}{t u v:Tok}{tk:Nat} (I:Inv X pins σ H s) (h1 : -(2 ^ 62)<=lo) (h2:lo < 2 ^ 62) (h3 : -(2 ^ 62)<=hi) (h4:hi < 2 ^ 62)
  (q:R (GJ lo (hi - lo).toNat) H):wpAny (model X.prog X.w) X.A (pyIter (.ref s.heap.objs.size)) (PIE X pins σ tg R) E { s with heap:=s.heap.push { cls:=.type "range",data:=.fields #[.int lo t,.int hi u,.int 1 v] },toks:=tk }:=by
 refine wpAny_pyIter_range (IsRange.new ..) (small_one h1 h2 h3 h4) ?_
 have I1:Inv X pins σ H { s with heap:=s.heap.push { cls:=.type "range",data:=.fields #[.int lo t,.int hi u,.int 1 v] },toks:=tk }:=I.kept λ b o e=>aab _ e
 refine⟨(s.heap.push { cls:=.type "range",data:=.fields #[.int lo t,.int hi u,.int 1 v] }).objs.size,[(s.heap.push { cls:=.type "range",data:=.fields #[.int lo t,.int hi u,.int 1 v] }).objs.size],_,_,H,rfl,
  I1.kept (t':=tk) λ b o e=>aab _ e,uL _ lo (hi - lo).toNat,?_,λ b hb=>?_,q⟩
 ·have e1:lo+((0:Nat):Int) * 1=lo:=by simp
  have e2:(((hi - lo).toNat:Nat):Int) - ((0:Nat):Int)=Builtin.Range.rangeSize lo hi 1:=by rw[rangeSize_one];split <;> omega
  show IsRangeIter _ _ (lo+((0:Nat):Int) * 1) ((((hi - lo).toNat:Nat):Int) - ((0:Nat):Int)) 1
  rw[e1,e2]
  exact aag _ rfl
 ·have e:b=(s.heap.push { cls:=.type "range",data:=.fields #[.int lo t,.int hi u,.int 1 v] }).objs.size:=by simpa using hb
  subst e
  exact I1.fpOk (Nat.le_refl _) (I1.hok.fresh (Nat.le_refl _))
noncomputable def HU (ta:TA):TI:=λ σ H R=>ta σ H λ vs H1=>∃ j:Int,vs=[.int j]/\-(2 ^ 62)<=j/\j < 2 ^ 62/\R (GJ 0 j.toNat) H1
theorem cK {a:Expr}{ta:TA}{p pos:Pos} (hg:Gl X "range") (hm:X.mg "range" = none) (ha:PA X [a] ta) (hs:starEach [a] X.env=[(false,eval a X.env)]:=by rfl):PI X tg (.Call (.Name "range" p) [a] [] pos) (HU ta):=by
 intro pins s σ H R I h
 refine Call_ (kH I hg hm boot_range (PyProof.Rows.callWith_type1 (cQ (ha pos pins s σ H _ I h) λ us s1 ⟨vs,H1,I1,r1,q1⟩=>?_) hs rfl))
 obtain⟨j,e,q1,q2,q⟩:=q1
 subst e
 cases r1 with
 | cons r rr=>
  cases rr
  obtain⟨t,rfl⟩:=r
  exact call_range_1 (zQ I1 (by omega) (by omega) q1 q2 (by simpa using q))
noncomputable def tFor (wi:TI) (g:TG) (tb:TS):TS:=λ D σ H=>wi σ H λ J H1=>∃ W:Nat->Nat->St->Hp->Prop,(∃ m,W 0 m σ H1)/\∀ i m σ H,W i m σ H->
 (J.stop i H/\D.nx σ H)\/(J.go i H/\∃ N:St->Hp->Prop,(∀ ac H',N ac H'->∃ m',m' < m/\W (i+1) m' ac H')/\∀ x H',J.yld i H x H'->g x σ H' λ ba H2=>tb { D with nx:=N,ct:=N,bk:=D.nx } ba H2)
noncomputable def mM (fp:List Addr) (h:Heap):List (Addr×Obj):=fp.filterMap λ b=>(h.get? b).map λ o=>(b,o)
theorem fB {fp:List Addr}{h:Heap}{b:Addr}{o:Obj} (hb:b∈fp) (e:h.get? b=some o):(b,o)∈mM fp h:=List.mem_filterMap.mpr ⟨b,hb,by rw[e];rfl⟩
theorem xN {fp:List Addr}{h:Heap}{p:Addr×Obj} (hp:p∈mM fp h):p.1∈fp/\h.get? p.1=some p.2:=by
 obtain⟨b,hb,e⟩:=List.mem_filterMap.mp hp
 cases q:h.get? b with
 | none=>rw[q] at e;cases e
 | some o=>
  rw[q] at e
  have e':(b,o)=p:=abe e
  subst e'
  exact⟨hb,q⟩
theorem Inv.pinned {pins:List (Addr×Obj)}{σ:St}{H:Hp}{s:Shared}{fp:List Addr} (I:Inv X pins σ H s) (hf:∀ b∈fp,gP X pins H b) (ho:∀ b∈fp,∃ o,s.heap.get? b=some o/\∀ v,o.data≠.cell v):Inv X (pins++mM fp s.heap) σ H s:=
 I.pins_of λ p hp=>(abd.mp hp).elim (λ z=>I.pin p (aax _ z)) λ z=>by
  obtain⟨hb,e⟩:=xN z
  obtain⟨f0,f1,f2,_⟩:=hf p.1 hb
  obtain⟨o,e',d⟩:=ho p.1 hb
  rw[e] at e';cases e'
  exact⟨e,f0,f1,f2,d⟩
theorem Inv.unpinned {pins pl:List (Addr×Obj)}{σ:St}{H:Hp}{s:Shared} (I:Inv X (pins++pl) σ H s):Inv X pins σ H s:=I.pins_of λ p hp=>I.pin p (aax _ (abm _ hp))
theorem cS {iter:Expr}{body:List Stmt}{wi:TI}{g:TG}{tb:TS}{pos:Pos} (hp:PassesOwn (model X.prog X.w) X.A X.env X.xe) (hc:X.calm=true) (hi:PI X tg iter wi) (hg:PG X tg g) (hb:sR X body tb)
  (hs:∀ x,foldedSetIterable iter X.env x=pure x:=by intro _;rfl):PS X (.For tg iter body [] pos) (tFor wi g tb):=by
 intro pins s σ H D I h
 refine wpAny_For (cQ (hi pins s σ H _ I h) λ v s1 h1=>cQ h1 λ itv s2 h2=>?_) hs
 obtain⟨it,fp,tn,J,H2,e,I2,T,st2,f2,W,⟨m0,w0⟩,turn⟩:=h2
 subst e
 have stat:∀ {H':Hp},(∀ b∈fp,H' b=none)->∀ b∈fp,gP X pins H' b:=λ hn b hb=>⟨hn b hb,(f2 b hb).2⟩
 refine codeAny_forLoop_any (λ n s'=>∃ i ac H',Inv X pins ac H' s'/\tn i s'.heap/\(∀ b∈fp,H' b=none)/\W i n ac H') ?_ m0 ⟨0,σ,H2,I2,st2,λ b hb=>(f2 b hb).1,w0⟩
 rintro n s3 ⟨i,ao,H3,I3,st3,fr3,w3⟩
 rcases turn i n ao H3 w3 with ⟨stop,qn⟩ | ⟨go,N,hN,step⟩
 ·refine wpAny_passesOwn hp (cQ (T.done X rfl rfl rfl hc i pins s3 ao H3 X.xe I3 (stat fr3) st3 stop) λ r s4 ⟨hr,I4⟩=>?_)
  subst hr
  exact wpAny_execs_nil ⟨ao,H3,I4,qn⟩
 ·refine wpAny_passesOwn hp (cQ (T.item X rfl rfl rfl hc i pins s3 ao H3 X.xe I3 (stat fr3) st3 go) λ r s4 ⟨u,hr,h4⟩=>?_)
  subst hr
  refine wpAny_passesOwn hp (cQ h4 λ _ s5 ⟨x,H5,I5,r5,y5,st5,fr5⟩=>?_)
  have I5':=I5.pinned (stat fr5) (T.obj _ _ st5)
  refine wpAny_passesOwn hp (cQ (hg _ s5 ao H5 x u _ I5' r5 (step x H5 y5)) λ _ s6 ⟨σ6,H6,I6,q6⟩=>?_)
  refine wpAny_passesOwn hp (cQ (hb _ s6 σ6 H6 _ I6 q6) λ f s7 q7=>?_)
  have again:∀ {bx:St}{H7:Hp},Inv X (pins++mM fp s5.heap) bx H7 s7->N bx H7->∃ m,m < n/\∃ i ac H',Inv X pins ac H' s7/\tn i s7.heap/\(∀ b∈fp,H' b=none)/\W i m ac H':=λ {bx H7} I7 n7=>by
   obtain⟨m',hm,w7⟩:=hN bx H7 n7
   refine⟨m',hm,i+1,bx,H7,I7.unpinned,T.keep _ _ _ st5 λ b hb o e=>(I7.pin (b,o) (aax _ (aax _ (fB hb e)))).1,λ b hb=>?_,w7⟩
   obtain⟨o,e,d⟩:=T.obj _ _ st5 b hb
   exact (I7.pin (b,o) (aax _ (aax _ (fB hb e)))).2.1
  cases f with
  | next=>obtain⟨bx,H7,I7,n7⟩:=q7;exact again I7 n7
  | cont=>obtain⟨bx,H7,I7,n7⟩:=q7;exact again I7 n7
  | brk=>obtain⟨bx,H7,I7,q7⟩:=q7;exact⟨bx,H7,I7.unpinned,q7⟩
  | ret v=>obtain⟨x7,bx,H7,I7,r7,q7⟩:=q7;exact⟨x7,bx,H7,I7.unpinned,r7,q7⟩
end
theorem lT {K:aaa}{a:Addr}{xs:List V}{g:TG}{tb:TS}{D:Ends}{σ:St}{H:Hp} (Pv:Nat->St->Hp->Prop) (h0:Pv 0 σ H) (hl:∀ i σ H,i<=xs.length->Pv i σ H->bT K H a xs)
  (hs:∀ i x σ H,xs[i]? = some x->Pv i σ H->g x σ H λ ba H2=>tb { D with nx:=Pv (i+1),ct:=Pv (i+1),bk:=D.nx } ba H2) (hd:∀ σ H,Pv xs.length σ H->D.nx σ H) :
  ∃ W:Nat->Nat->St->Hp->Prop,(∃ m,W 0 m σ H)/\∀ i m σ H,W i m σ H->
   ((GQ K a).stop i H/\D.nx σ H)\/((GQ K a).go i H/\∃ N:St->Hp->Prop,(∀ ac H',N ac H'->∃ m',m' < m/\W (i+1) m' ac H')/\∀ x H',(GQ K a).yld i H x H'->g x σ H' λ ba H2=>tb { D with nx:=N,ct:=N,bk:=D.nx } ba H2):=by
 refine⟨λ i m σ H=>m=xs.length - i/\i<=xs.length/\Pv i σ H,⟨xs.length,by simp,Nat.zero_le _,h0⟩,?_⟩
 rintro i m σ H ⟨rfl,hi,p⟩
 have q:=hl i σ H hi p
 by_cases hlt:i < xs.length
 ·refine .inr ⟨⟨xs,xs[i],q,by simp [hlt]⟩,Pv (i+1),λ ac H' p'=>⟨xs.length - (i+1),by omega,rfl,hlt,p'⟩,λ x H' y=>?_⟩
  obtain⟨e,y⟩:=y
  subst e
  exact hs i x σ _ (y xs q) p
 ·have e:i=xs.length:=by omega
  subst e
  exact .inl ⟨⟨xs,q,Nat.le_refl _⟩,hd σ H p⟩
theorem jI {K:aaa}{a:Addr}{xs:List V}{g:TG}{tb:TS}{D:Ends}{σ:St}{H:Hp} (Pv:Nat->St->Hp->Prop) (h0:Pv 0 σ H) (hl:∀ i σ H,i<=xs.length->Pv i σ H->bD K H a xs)
  (hs:∀ i x σ H,xs[i]? = some x->Pv i σ H->g x σ H λ ba H2=>tb { D with nx:=Pv (i+1),ct:=Pv (i+1),bk:=D.nx } ba H2) (hd:∀ σ H,Pv xs.length σ H->D.nx σ H) :
  ∃ W:Nat->Nat->St->Hp->Prop,(∃ m,W 0 m σ H)/\∀ i m σ H,W i m σ H->
   ((GP K a).stop i H/\D.nx σ H)\/((GP K a).go i H/\∃ N:St->Hp->Prop,(∀ ac H',N ac H'->∃ m',m' < m/\W (i+1) m' ac H')/\∀ x H',(GP K a).yld i H x H'->g x σ H' λ ba H2=>tb { D with nx:=N,ct:=N,bk:=D.nx } ba H2):=by
 refine⟨λ i m σ H=>m=xs.length - i/\i<=xs.length/\Pv i σ H,⟨xs.length,by simp,Nat.zero_le _,h0⟩,?_⟩
 rintro i m σ H ⟨rfl,hi,p⟩
 have q:=hl i σ H hi p
 by_cases hlt:i < xs.length
 ·refine .inr ⟨⟨xs,xs[i],q,by simp [hlt]⟩,Pv (i+1),λ ac H' p'=>⟨xs.length - (i+1),by omega,rfl,hlt,p'⟩,λ x H' y=>?_⟩
  obtain⟨e,y⟩:=y
  subst e
  exact hs i x σ _ (y xs q) p
 ·have e:i=xs.length:=by omega
  subst e
  exact .inl ⟨⟨xs,q,Nat.le_refl _⟩,hd σ H p⟩
theorem dS {lo:Int}{n:Nat}{g:TG}{tb:TS}{D:Ends}{σ:St}{H:Hp} (Pv:Nat->St->Hp->Prop) (h0:Pv 0 σ H)
  (hs:∀ i σ H,i < n->Pv i σ H->g (.int (lo+i)) σ H λ ba H2=>tb { D with nx:=Pv (i+1),ct:=Pv (i+1),bk:=D.nx } ba H2) (hd:∀ σ H,Pv n σ H->D.nx σ H) :
  ∃ W:Nat->Nat->St->Hp->Prop,(∃ m,W 0 m σ H)/\∀ i m σ H,W i m σ H->
   ((GJ lo n).stop i H/\D.nx σ H)\/((GJ lo n).go i H/\∃ N:St->Hp->Prop,(∀ ac H',N ac H'->∃ m',m' < m/\W (i+1) m' ac H')/\∀ x H',(GJ lo n).yld i H x H'->g x σ H' λ ba H2=>tb { D with nx:=N,ct:=N,bk:=D.nx } ba H2):=by
 refine⟨λ i m σ H=>m=n - i/\i<=n/\Pv i σ H,⟨n,by simp,Nat.zero_le _,h0⟩,?_⟩
 rintro i m σ H ⟨rfl,hi,p⟩
 by_cases hlt:i < n
 ·refine .inr ⟨hlt,Pv (i+1),λ ac H' p'=>⟨n - (i+1),by omega,rfl,hlt,p'⟩,λ x H' y=>?_⟩
  obtain⟨e,y⟩:=y
  subst e y
  exact hs i σ _ hlt p
 ·have e:i=n:=by omega
  subst e
  exact .inl ⟨Nat.le_refl _,hd σ H p⟩
end L2
namespace L2
open PySem PySem.Spec PyProof.Rows
noncomputable abbrev R2:=V->V->Hp->VK->Prop
noncomputable def iN (X:Cx) (f:Value->Value->Sem Value) (r:R2):Prop:=
 ∀ (pins:List (Addr×Obj)) (s:Shared) (σ:St) (H:Hp) (x y:V) (v u:Value) (Q:VK),Inv X pins σ H s->bN x v->bN y u->r x y H Q->
  wpAny (model X.prog X.w) X.A (f v u) (EP X pins σ Q) X.xe s
noncomputable def UnR (X:Cx) (f:Value->Sem Value) (r:V->Hp->VK->Prop):Prop:=
 ∀ (pins:List (Addr×Obj)) (s:Shared) (σ:St) (H:Hp) (x:V) (v:Value) (Q:VK),Inv X pins σ H s->bN x v->r x H Q->
  wpAny (model X.prog X.w) X.A (f v) (EP X pins σ Q) X.xe s
noncomputable def eN (X:Cx) (f:Value) (r:List V->Hp->VK->Prop):Prop:=
 ∀ (pins:List (Addr×Obj)) (s:Shared) (σ:St) (H:Hp) (xs:List V) (us:List Value) (Q:VK),Inv X pins σ H s->bP xs us->r xs H Q->
  wpAny (model X.prog X.w) X.A (call f us) (EP X pins σ Q) X.xe s
noncomputable def hU (r:R2) (ta tb:TE):TE:=λ σ H Q=>ta σ H λ x H1=>tb σ H1 λ y H2=>r x y H2 Q
noncomputable def tUn (r:V->Hp->VK->Prop) (ta:TE):TE:=λ σ H Q=>ta σ H λ x H1=>r x H1 Q
noncomputable def rI (C:Int->Int->Prop) (g:Int->Int->V):R2:=λ x y H Q=>∃ i j,x=.int i/\y=.int j/\C i j/\Q (g i j) H
noncomputable def rK (g:Int->Int->V):R2:=λ x y H Q=>∃ i j,x=.int i/\y=.int j/\Q (g i j) H
noncomputable def rU (g:Int->V):V->Hp->VK->Prop:=λ x H Q=>∃ i,x=.int i/\Q (g i) H
section
variable {X:Cx}{a b c:Expr}{ta tb tc:TE}{pos:Pos}
theorem GA (ha:PE X a ta) (hb:PE X b tb) {pins:List (Addr×Obj)}{s:Shared}{σ:St}{H:Hp}{R:V->V->Hp->Prop} (I:Inv X pins σ H s)
  (h:ta σ H λ x H1=>tb σ H1 λ y H2=>R x y H2) {Q:Value->Shared->Prop}{f:Value->Value->Sem Value}
  (hf:∀ v u s2 x y H2,Inv X pins σ H2 s2->bN x v->bN y u->R x y H2->wpAny (model X.prog X.w) X.A (f v u) Q X.xe s2) :
  wpAny (model X.prog X.w) X.A (eval a X.env) (λ v ai=>wpAny (model X.prog X.w) X.A (eval b X.env) (λ u cj=>wpAny (model X.prog X.w) X.A (f v u) Q X.xe cj) X.xe ai) X.xe s:=by
 refine cQ (ha pins s σ H _ I h) λ v s1 ⟨x,H1,I1,r1,q1⟩=>?_
 refine cQ (hb pins s1 σ H1 _ I1 q1) λ u s2 ⟨y,H2,I2,r2,q2⟩=>?_
 exact hf v u s2 x y H2 I2 r1 r2 q2
theorem aU {op:Operator}{r:R2} (ho:iN X (binaryOp op) r) (ha:PE X a ta) (hb:PE X b tb):PE X (.BinOp a op b pos) (hU r ta tb):=by
 intro pins s σ H Q I h
 exact wpAny_BinOp (GA ha hb I h λ v u s2 x y H2 I2 rx ry q=>ho pins s2 σ H2 x y v u Q I2 rx ry q)
theorem HK {op:UnaryOp}{r:V->Hp->VK->Prop} (ho:UnR X (unaryOp op) r) (ha:PE X a ta):PE X (.UnaryOp op a pos) (tUn r ta):=by
 intro pins s σ H Q I h
 exact UnaryOp_ (cQ (ha pins s σ H _ I h) λ v s1 ⟨x,H1,I1,r1,q1⟩=>ho pins s1 σ H1 x v Q I1 r1 q1)
theorem HQ {f:Value->Value->Sem Value}{C:Int->Int->Prop}{g:Int->Int->Int}
  (rule:∀ (i j:Int) (t u:Tok) (s:Shared) (Q:Value->Shared->Prop) (E:Value->Shared->Prop),C i j->Q (.int (g i j) s.toks) { s with toks:=s.toks+1 }->wpAny (model X.prog X.w) X.A (f (.int i t) (.int j u)) Q E s) :
  iN X f (rI C λ i j=>.int (g i j)):=by
 intro pins s σ H x y v u Q I rx ry h
 obtain⟨i,j,rfl,rfl,hc,q⟩:=h
 obtain⟨t,rfl⟩:=rx
 obtain⟨t',rfl⟩:=ry
 exact rule i j t t' s _ _ hc ⟨.int (g i j),H,I.tok _,⟨_,rfl⟩,q⟩
theorem HP {f:Value->Value->Sem Value}{g:Int->Int->Int}
  (rule:∀ (i j:Int) (t u:Tok) (s:Shared) (Q:Value->Shared->Prop) (E:Value->Shared->Prop),Q (.int (g i j) s.toks) { s with toks:=s.toks+1 }->wpAny (model X.prog X.w) X.A (f (.int i t) (.int j u)) Q E s) :
  iN X f (rK λ i j=>.int (g i j)):=by
 intro pins s σ H x y v u Q I rx ry h
 obtain⟨i,j,rfl,rfl,q⟩:=h
 obtain⟨t,rfl⟩:=rx
 obtain⟨t',rfl⟩:=ry
 exact rule i j t t' s _ _ ⟨.int (g i j),H,I.tok _,⟨_,rfl⟩,q⟩
theorem DB {f:Value->Value->Sem Value}{g:Int->Int->Bool}
  (rule:∀ (i j:Int) (t u:Tok) (s:Shared) (Q:Value->Shared->Prop) (E:Value->Shared->Prop),Q (.bool (g i j)) s->wpAny (model X.prog X.w) X.A (f (.int i t) (.int j u)) Q E s) :
  iN X f (rK λ i j=>.bl (g i j)):=by
 intro pins s σ H x y v u Q I rx ry h
 obtain⟨i,j,rfl,rfl,q⟩:=h
 obtain⟨t,rfl⟩:=rx
 obtain⟨t',rfl⟩:=ry
 exact rule i j t t' s _ _ ⟨.bl (g i j),H,I,rfl,q⟩
noncomputable def GK (i j:Int):Prop:=0 < j/\j < 1073741824
noncomputable def IJ (i j:Int):Prop:=0<=j/\j<=1000000/\i.natAbs < 2 ^ 64
noncomputable def uH (i j:Int):Prop:=(-(2 ^ 64) < i/\i < 2 ^ 64)\/(-(2 ^ 64) < j/\j < 2 ^ 64)
theorem uH.ok {i j:Int} (h:uH i j):IntMulOk i j:=by
 rcases h with ⟨h1,h2⟩ | ⟨h1,h2⟩
 ·exact .of_left (intBits_le_64 h1 h2)
 ·exact .of_right (intBits_le_64 h1 h2)
theorem cB:iN X (binaryOp .Add) (rK λ i j=>.int (i+j)):=HP λ _ _ _ _ _ _ _ q=>add_int q
theorem eY:iN X (binaryOp .Sub) (rK λ i j=>.int (i - j)):=HP λ _ _ _ _ _ _ _ q=>sub_int q
theorem iB:iN X (binaryOp .Mult) (rI uH λ i j=>.int (i * j)):=HQ λ _ _ _ _ _ _ _ hc q=>mul_int q hc.ok
theorem gM:iN X (binaryOp .FloorDiv) (rI GK λ i j=>.int (i / j)):=HQ λ i j _ _ _ _ _ hc q=>by
 have h1:(0:Int) < j:=hc.1
 have h2:j < 1073741824:=hc.2
 exact floordiv_int (by omega) (by rw[Int.fdiv_eq_ediv_of_nonneg i (by omega)];exact q) (.inl (PyProof.noPylong_small (by omega)))
theorem iC:iN X (binaryOp .Mod) (rI (λ _ j=>0 < j) λ i j=>.int (i % j)):=HQ λ i j _ _ _ _ _ hc q=>by
 have h1:(0:Int) < j:=hc
 exact mod_int' (by omega) (by rw[Int.fmod_eq_emod_of_nonneg i (by omega)];exact q)
theorem FL:iN X (binaryOp .Pow) (rI IJ λ i j=>.int (i ^ j.toNat)):=HQ λ _ _ _ _ _ _ _ hc q=>pow_int_small hc.1 hc.2.1 hc.2.2 q
theorem unI {f:Value->Sem Value}{g:Int->Int}
  (rule:∀ (i:Int) (t:Tok) (s:Shared) (Q:Value->Shared->Prop) (E:Value->Shared->Prop),Q (.int (g i) s.toks) { s with toks:=s.toks+1 }->wpAny (model X.prog X.w) X.A (f (.int i t)) Q E s) :
  UnR X f (rU λ i=>.int (g i)):=by
 intro pins s σ H x v Q I rx h
 obtain⟨i,rfl,q⟩:=h
 obtain⟨t,rfl⟩:=rx
 exact rule i t s _ _ ⟨.int (g i),H,I.tok _,⟨_,rfl⟩,q⟩
theorem EH:UnR X (unaryOp .USub) (rU λ i=>.int (-i)):=unI λ _ _ _ _ _ q=>neg_int q
end
noncomputable def EV:V->V->Bool
 | .non,.non=>true | .non,.int _=>true | .int _,.non=>true | .non,.bl _=>true | .bl _,.non=>true | .non,.str _=>true | .str _,.non=>true
 | .int _,.int _=>true | .bl _,.bl _=>true | .str _,.str _=>true | .byt _,.byt _=>true
 | .int _,.str _=>true | .str _,.int _=>true | .bl _,.str _=>true | .str _,.bl _=>true
 | _,_=>false
noncomputable def rEq:R2:=λ x y H Q=>EV x y=true/\Q (.bl (decide (x=y))) H
noncomputable def rNe:R2:=λ x y H Q=>EV x y=true/\Q (.bl (!decide (x=y))) H
theorem wR {i j:Int}:decide (V.int i=V.int j)=(i == j):=by
 rw[Bool.eq_iff_iff]
 simp
theorem BK {i j:Bool}:decide (V.bl i=V.bl j)=(i == j):=by
 rw[Bool.eq_iff_iff]
 simp
theorem wQ {i j:Str}:decide (V.str i=V.str j)=(i == j):=by
 rw[Bool.eq_iff_iff]
 simp
theorem wS {i j:Array UInt8}:decide (V.byt i=V.byt j)=(i.toList == j.toList):=by
 rw[Bool.eq_iff_iff]
 cases i
 cases j
 simp
section
variable {X:Cx}{a b c:Expr}{ta tb tc:TE}{pos:Pos}
theorem bX {pins:List (Addr×Obj)}{σ:St}{H:Hp}{s:Shared}{Q:VK}{k k':Bool} (I:Inv X pins σ H s) (q:Q (.bl k) H) (e:k=k'):EP X pins σ Q (.bool k') s:=by
 subst e
 exact⟨.bl k,H,I,rfl,q⟩
theorem g7:iN X (compareOp .Eq) rEq:=by
 intro pins s σ H x y v u Q I rx ry h
 obtain⟨hs,q⟩:=h
 cases x with
 | non=>
  cases rx
  cases y with
  | non=>cases ry;exact PySem.EqNone.eq_none_none (bX I q (by simp))
  | bl j=>cases ry;exact PySem.EqNone.eq_none_bool (bX I q (by simp))
  | int j=>obtain⟨t',rfl⟩:=ry;exact PySem.EqNone.eq_none_int (bX I q (by simp))
  | str j=>obtain⟨t',rfl⟩:=ry;exact PySem.EqNone.eq_none_str (bX I q (by simp))
  | _=>exact absurd (show false=true from hs) aaf
 | bl i=>
  cases rx
  cases y with
  | non=>cases ry;exact PySem.EqNone.eq_bool_none (bX I q (by simp))
  | bl j=>cases ry;exact eq_bool (bX I q BK)
  | str j=>obtain⟨t',rfl⟩:=ry;exact PySem.EqMixed.eq_bool_str (bX I q (by simp))
  | _=>exact absurd (show false=true from hs) aaf
 | int i=>
  obtain⟨t,rfl⟩:=rx
  cases y with
  | non=>cases ry;exact PySem.EqNone.eq_int_none (bX I q (by simp))
  | int j=>obtain⟨t',rfl⟩:=ry;exact eq_int (bX I q wR)
  | str j=>obtain⟨t',rfl⟩:=ry;exact PySem.EqMixed.eq_int_str (bX I q (by simp))
  | _=>exact absurd (show false=true from hs) aaf
 | str i=>
  obtain⟨t,rfl⟩:=rx
  cases y with
  | non=>cases ry;exact PySem.EqNone.eq_str_none (bX I q (by simp))
  | bl j=>cases ry;exact PySem.EqMixed.eq_str_bool (bX I q (by simp))
  | int j=>obtain⟨t',rfl⟩:=ry;exact PySem.EqMixed.eq_str_int (bX I q (by simp))
  | str j=>obtain⟨t',rfl⟩:=ry;exact eq_str (bX I q wQ)
  | _=>exact absurd (show false=true from hs) aaf
 | byt i=>
  obtain⟨t,rfl⟩:=rx
  cases y with
  | byt j=>obtain⟨t',rfl⟩:=ry;exact PySem.W.eq_bytes (bX I q wS)
  | _=>exact absurd (show false=true from hs) aaf
 | _=>cases y <;> exact absurd (show false=true from hs) aaf
theorem jX:iN X (compareOp .NotEq) rNe:=by
 intro pins s σ H x y v u Q I rx ry h
 obtain⟨hs,q⟩:=h
 cases x with
 | non=>
  cases rx
  cases y with
  | non=>cases ry;exact PySem.EqNone.ne_none_none (bX I q (by simp))
  | bl j=>cases ry;exact PySem.EqNone.ne_none_bool (bX I q (by simp))
  | int j=>obtain⟨t',rfl⟩:=ry;exact PySem.EqNone.ne_none_int (bX I q (by simp))
  | str j=>obtain⟨t',rfl⟩:=ry;exact PySem.EqNone.ne_none_str (bX I q (by simp))
  | _=>exact absurd (show false=true from hs) aaf
 | bl i=>
  cases rx
  cases y with
  | non=>cases ry;exact PySem.EqNone.ne_bool_none (bX I q (by simp))
  | bl j=>cases ry;exact ne_bool (bX I q (congrArg not BK))
  | str j=>obtain⟨t',rfl⟩:=ry;exact PySem.EqMixed.ne_bool_str (bX I q (by simp))
  | _=>exact absurd (show false=true from hs) aaf
 | int i=>
  obtain⟨t,rfl⟩:=rx
  cases y with
  | non=>cases ry;exact PySem.EqNone.ne_int_none (bX I q (by simp))
  | int j=>obtain⟨t',rfl⟩:=ry;exact ne_int (bX I q (congrArg not wR))
  | str j=>obtain⟨t',rfl⟩:=ry;exact PySem.EqMixed.ne_int_str (bX I q (by simp))
  | _=>exact absurd (show false=true from hs) aaf
 | str i=>
  obtain⟨t,rfl⟩:=rx
  cases y with
  | non=>cases ry;exact PySem.EqNone.ne_str_none (bX I q (by simp))
  | bl j=>cases ry;exact PySem.EqMixed.ne_str_bool (bX I q (by simp))
  | int j=>obtain⟨t',rfl⟩:=ry;exact PySem.EqMixed.ne_str_int (bX I q (by simp))
  | str j=>obtain⟨t',rfl⟩:=ry;exact ne_str (bX I q (congrArg not wQ))
  | _=>exact absurd (show false=true from hs) aaf
 | byt i=>
  obtain⟨t,rfl⟩:=rx
  cases y with
  | byt j=>obtain⟨t',rfl⟩:=ry;exact PySem.W.ne_bytes (bX I q (congrArg not wS))
  | _=>exact absurd (show false=true from hs) aaf
 | _=>cases y <;> exact absurd (show false=true from hs) aaf
theorem oH:iN X (compareOp .Lt) (rK λ i j=>.bl (decide (i < j))):=DB λ _ _ _ _ _ _ _ q=>lt_int q
theorem E5:iN X (compareOp .LtE) (rK λ i j=>.bl (decide (i<=j))):=DB λ _ _ _ _ _ _ _ q=>le_int q
theorem tO:iN X (compareOp .Gt) (rK λ i j=>.bl (decide (j < i))):=DB λ _ _ _ _ _ _ _ q=>gt_int q
theorem A9:iN X (compareOp .GtE) (rK λ i j=>.bl (decide (j<=i))):=DB λ _ _ _ _ _ _ _ q=>ge_int q
theorem rP:iN X (compareOp .Is) (λ x y H Q=>y=.non/\Q (.bl (decide (x=.non))) H):=by
 intro pins s σ H x y v u Q I rx ry h
 obtain⟨rfl,q⟩:=h
 cases ry
 refine is_none_gen (bX I q ?_)
 cases x <;> first
  | (cases rx;rfl)
  | (obtain⟨t,rfl⟩:=rx;rfl)
theorem bH (b:Expr) {op:CmpOp} (h:op≠.In:=by decide) (h2:op≠.NotIn:=by decide):behindInMarks op b=false:=by
 have e1:(op == CmpOp.In)=false:=by cases op <;> first | rfl | exact absurd rfl h
 have e2:(op == CmpOp.NotIn)=false:=by cases op <;> first | rfl | exact absurd rfl h2
 cases b <;> simp [behindInMarks,e1,e2]
theorem eD {op:CmpOp}{r:R2} (ho:iN X (compareOp op) r) (ha:PE X a ta) (hb:PE X b tb) (hm:behindInMarks op b=false):PE X (.Compare a [op] [b] pos) (hU r ta tb):=by
 intro pins s σ H Q I h
 exact wpAny_Compare1 (GA ha hb I h λ v u s2 x y H2 I2 rx ry q=>ho pins s2 σ H2 x y v u Q I2 rx ry q) hm
noncomputable def vX (t:TE):TT:=λ σ H Q=>t σ H λ x H'=>∃ k,x=.bl k/\Q k H'
theorem bB {op:CmpOp}{r:R2} (ho:iN X (compareOp op) r) (ha:PE X a ta) (hb:PE X b tb) (hm:behindInMarks op b=false):PT X (.Compare a [op] [b] pos) (vX (hU r ta tb)):=by
 intro pins s σ H Q I h
 refine wpAny_isTrue_Compare1 (cQ (ha pins s σ H _ I h) λ v s1 ⟨x,H1,I1,r1,q1⟩=>cQ (hb pins s1 σ H1 _ I1 q1) λ u s2 ⟨y,H2,I2,r2,q2⟩=>
  cQ (ho pins s2 σ H2 x y v u _ I2 r1 r2 q2) λ c s3 ⟨z,H3,I3,r3,k,e,q3⟩=>?_) hm
 subst e
 cases r3
 exact wpAny_truthy_bool ⟨H3,I3,q3⟩
theorem oQ:(sizeLine:Nat) < 2 ^ 63:=by rw[sizeLine_eq];decide
theorem nU {x:V}{us:List Value} (r:bP [x] us):∃ u,us=[u]/\bN x u:=by
 cases r with
 | cons r1 r2=>cases r2;exact⟨_,rfl,r1⟩
theorem yV {x y:V}{us:List Value} (r:bP [x,y] us):∃ u w',us=[u,w']/\bN x u/\bN y w':=by
 cases r with
 | cons r1 r2=>
  cases r2 with
  | cons r3 r4=>cases r4;exact⟨_,_,rfl,r1,r3⟩
theorem qK (hc:X.calm=true):eN X (.builtin "max") (λ xs H Q=>∃ i j,xs=[.int i,.int j]/\Q (.int (if j > i then j else i)) H):=by
 intro pins s σ H xs us Q I r h
 obtain⟨i,j,rfl,q⟩:=h
 obtain⟨u,w',rfl,⟨t,rfl⟩,⟨t',rfl⟩⟩:=yV r
 refine max_two_ints (I.ok.hd hc) λ h' tk k=>⟨_,H,I.kept k,?_,q⟩
 by_cases hj:j > i
 ·rw[if_pos hj,if_pos hj];exact⟨_,rfl⟩
 ·rw[if_neg hj,if_neg hj];exact⟨_,rfl⟩
theorem mT (hc:X.calm=true):eN X (.builtin "min") (λ xs H Q=>∃ i j,xs=[.int i,.int j]/\Q (.int (if j < i then j else i)) H):=by
 intro pins s σ H xs us Q I r h
 obtain⟨i,j,rfl,q⟩:=h
 obtain⟨u,w',rfl,⟨t,rfl⟩,⟨t',rfl⟩⟩:=yV r
 refine min_two_ints (I.ok.hd hc) λ h' tk k=>⟨_,H,I.kept k,?_,q⟩
 by_cases hj:j < i
 ·rw[if_pos hj,if_pos hj];exact⟨_,rfl⟩
 ·rw[if_neg hj,if_neg hj];exact⟨_,rfl⟩
theorem fW:eN X (.type "int") (λ xs H Q=>(∃ i,xs=[.int i]/\Q (.int i) H)\/∃ k,xs=[.bl k]/\Q (.int (if k then 1 else 0)) H):=by
 intro pins s σ H xs us Q I r h
 rcases h with ⟨i,rfl,q⟩ | ⟨k,rfl,q⟩
 ·obtain⟨u,rfl,t,rfl⟩:=nU r
  exact call_int_int ⟨.int i,H,I,⟨_,rfl⟩,q⟩
 ·obtain⟨u,rfl,r1⟩:=nU r
  cases r1
  exact call_int_bool ⟨.int (if k then 1 else 0),H,I.tok _,⟨_,rfl⟩,q⟩
end
end L2
namespace L2
open PySem PySem.Spec PyProof.Rows
structure ObjM (h:Heap) (x dx C:Addr) (mA:Str->Option Value):Prop where
 obj:h.get? x=some (PySem.W.instObj C dx)
 ns:h.Ns1 dx mA
 ne:dx≠x
theorem xP {h:Heap}{dx:Addr}{mA:Str->Option Value} (n:h.Ns1 dx mA):∃ od,h.get? dx=some od/\∀ name,PySem.W.lookIn name od=some (mA name):=by
 obtain⟨o,es,ep,ho,hd,hk,_,hm⟩:=n
 refine⟨o,ho,λ name=>?_⟩
 have e:=hm name
 unfold nsFind findBy at e
 rw[<- Array.find?_toList] at e
 unfold PySem.W.lookIn
 rw[hd]
 dsimp only
 split
 ·rename_i y q
  rw[q] at e
  exact congrArg some e
 ·rename_i q
  rw[q] at e
  have a:es.toList.any (·.refKey)=false:=by
   rw[List.any_eq_false]
   intro y hy
   obtain⟨z,t,hkey⟩:=hk y (Array.mem_toList_iff.mp hy)
   simp [DictEntry.refKey,hkey]
  have a':¬ es.toList.any (·.refKey)=true:=by rw[a];exact aaf
  rw[if_neg a']
  exact congrArg some e
theorem ObjM.look {h:Heap}{x dx C:Addr}{mA:Str->Option Value} (I:ObjM h x dx C mA):∃ od,PySem.W.InstAt h x (PySem.W.instObj C dx) C (some od)/\∀ name,PySem.W.lookIn name od=some (mA name):=
 let ⟨od,ho,hl⟩:=xP I.ns
 ⟨od,⟨I.obj,rfl,rfl,ho⟩,hl⟩
section
variable {prog:Program}{w:World}{A:Around}{E:Value->Shared->Prop}{s:Shared}{K:aaa}{x dx C f:Addr}{mA:Str->Option Value}{name:Str}{v:Value}
end
theorem mV.some_of {v:V}{o:Option Value} (r:mV (some v) o):∃ u,o=some u/\bN v u:=by
 cases o with
 | none=>exact (show False from r).elim
 | some u=>exact⟨u,rfl,r⟩
section
variable {P:Program}{w:World}{H H':Hp}{h h':Heap}{a C dx:Addr}{fs fs':List (Str×V)}
theorem DI (hok:kA P w H h) (e:H a=some (.ins C dx fs)):∃ mA,ObjM h a dx C mA/\(∀ f,mV (fs.lookup f) (mA f))/\PySem.Within mA (fs.map (·.1))/\fs.length<=1000/\H dx=some (.own a):=by
 obtain⟨d,z,ne,ob,mA,n,r,q⟩:=(show cC P w H h a (.ins C dx fs) from hok a _ e)
 exact⟨mA,⟨ob,n,ne⟩,r,q,z,d⟩
end
structure Cls (K:aaa) (C:Addr):Prop where
 pg:PySem.W.plainGet K C Str.empty=true
 hd:PySem.W.hasDictIn K C=true
 po:PySem.W.plainOver K C=true
 sa:PySem.W.findIn K (.ref C) "__setattr__" = some (some (.builtin "object.__setattr__"))
theorem Cls.get {K:aaa}{C:Addr} (c:Cls K C) (f:Str):PySem.W.plainGet K C f=true:=c.pg
section
variable {X:Cx}{pins:List (Addr×Obj)}{σ:St}{H:Hp}{s:Shared}{a C dx:Addr}{fs:List (Str×V)}{f:Str}{v:V}{A:Around}{E:Value->Shared->Prop}
end
section
variable {X:Cx}{o e value:Expr}{f:Str}{pos pos' tpos:Pos}{ta tv:TE}
end
section
variable {X:Cx}{pins:List (Addr×Obj)}{σ:St}{H:Hp}{s:Shared}{A:Around}{E:Value->Shared->Prop}{Q:Value->Shared->Prop}{c:Value}{b:Bool}
inductive TyOf (K:aaa) (H:Hp):V->Value->Prop where
 | non:TyOf K H .non (.type "NoneType")
 | bl (x:Bool):TyOf K H (.bl x) (.type "bool")
 | int (i:Int):TyOf K H (.int i) (.type "int")
 | str (x:Str):TyOf K H (.str x) (.type "str")
 | flt (x:UInt64):TyOf K H (.flt x) (.type "float")
 | lst {a:Addr}{xs:List V} (e:H a=some (.lst xs)):TyOf K H (.ref a) (.type "list")
 | frz {a:Addr}{o:Obj}{xs:List V} (e:H a=some (.frz o (.lst xs))):TyOf K H (.ref a) (.type "list")
 | tup {a:Addr}{xs:List V} (e:H a=some (.tup xs)):TyOf K H (.ref a) (.type "tuple")
 | dK {a:Addr}{kvs:List (fN×V)} (e:H a=some (.dK kvs)):TyOf K H (.ref a) (.type "dict")
 | dT {a:Addr}{kvs:List (List fN×V)} (e:H a=some (.dT kvs)):TyOf K H (.ref a) (.type "dict")
 | ins {a C dx:Addr}{fs:List (Str×V)} (e:H a=some (.ins C dx fs)) (cl:Cls K C) (ha:PySem.W.findIn K (.ref C) "__class__" = some (some (.builtin "object.__class__")))
   (hn:PySem.W.specialIn K (.builtin "object.__class__") "__get__" = some (some (.builtin "getset_descriptor.__get__"))) (htk:PySem.W.takesIn K (.builtin "object.__class__")=some true)
   (hm:PySem.W.mroIn K C (.type "object")=some true):TyOf K H (.ref a) (.ref C)
theorem xU {x:V}{u t:Value} (I:Inv X pins σ H s) (rx:bN x u) (ty:TyOf X.K H x t) (e:PySem.W.kitOne X.K t c=some b) (h:∀ tk,Q (.bool b) { s with toks:=tk }) :
  wpAny (model X.prog X.w) A (call (.builtin "isinstance") [u,c]) Q E s:=by
 cases ty with
 | non=>cases (show u=Value.none from rx);exact PySem.W.kia_one PySem.W.kitx_none I.kIn True.intro e (λ z=>nomatch z) h
 | bl y=>cases (show u=Value.bool y from rx);exact PySem.W.kia_one PySem.W.kitx_bool I.kIn True.intro e (λ z=>nomatch z) h
 | int i=>obtain⟨t,q⟩:=(show ∃ t,u=Value.int i t from rx);cases q;exact PySem.W.kia_one PySem.W.kitx_int I.kIn True.intro e (λ z=>nomatch z) h
 | str y=>obtain⟨t,q⟩:=(show ∃ t,u=Value.str y t from rx);cases q;exact PySem.W.kia_one PySem.W.kitx_str I.kIn True.intro e (λ z=>nomatch z) h
 | flt y=>obtain⟨t,q⟩:=(show ∃ t,u=Value.float y t from rx);cases q;exact PySem.W.kia_one PySem.W.kitx_float I.kIn True.intro e (λ z=>nomatch z) h
 | @lst a xs ea=>
  cases (show u=Value.ref a from rx)
  obtain⟨_,_,n,_,h1⟩:=(show cC X.prog X.w H s.heap a (.lst xs) from I.hok a _ ea)
  exact PySem.W.kia_one PySem.W.kitx_list I.kIn ⟨_,h1,rfl⟩ e (λ z=>nomatch z) h
 | @frz a ob xs ea=>
  cases (show u=Value.ref a from rx)
  obtain⟨_,_,_,n,_,h1⟩:=(show cC X.prog X.w H s.heap a (.frz ob (.lst xs)) from I.hok a _ ea)
  exact PySem.W.kia_one PySem.W.kitx_list I.kIn ⟨_,h1,rfl⟩ e (λ z=>nomatch z) h
 | @tup a xs ea=>
  cases (show u=Value.ref a from rx)
  obtain⟨_,_,_,p⟩:=(show cC X.prog X.w H s.heap a (.tup xs) from I.hok a _ ea)
  obtain⟨o,h1,h2,_⟩:=p
  exact PySem.W.kia_one PySem.W.kitx_tuple I.kIn ⟨o,h1,h2⟩ e (λ z=>nomatch z) h
 | @dK a kvs ea=>
  cases (show u=Value.ref a from rx)
  obtain⟨_,_,vs,_,p⟩:=(show cC X.prog X.w H s.heap a (.dK kvs) from I.hok a _ ea)
  obtain⟨o,es,ep,h1,h2,_⟩:=p
  exact PySem.W.kia_one PySem.W.kitx_dict I.kIn ⟨o,h1,h2.1⟩ e (λ z=>nomatch z) h
 | @dT a kvs ea=>
  cases (show u=Value.ref a from rx)
  obtain⟨_,_,xs,_,o,es,ep,h1,h2,_⟩:=(show cC X.prog X.w H s.heap a (.dT kvs) from I.hok a _ ea)
  exact PySem.W.kia_one PySem.W.kitx_dict I.kIn ⟨o,h1,h2.1⟩ e (λ z=>nomatch z) h
 | @ins a C dx fs ea cl ha hn htk hm=>
  cases (show u=Value.ref a from rx)
  obtain⟨mA,O,_⟩:=DI I.hok ea
  obtain⟨od,J,_⟩:=O.look
  exact PySem.W.kia_one (PySem.W.kitx_own (cl.get _) cl.hd ha hn htk hm) I.kIn J e (λ z=>nomatch z) h
end
end L2
namespace L2
open PySem PySem.Spec PyProof.Rows
structure Room (k:Nat) (A:Around):Prop where
 hd:A.handled=none
 dp:A.depth+3 * k+5 < recursionLimit
 un:A.units+16 * k+200 < cLine
theorem Room.mono {j k:Nat}{A:Around} (r:Room k A) (h:j<=k):Room j A:=⟨r.hd,by have:=r.dp;omega,by have:=r.un;omega⟩
theorem Room.deeper {k:Nat}{A:Around} (r:Room (k+1) A) (env:Env):Room k (A.deeper env):=
 ⟨r.hd,by have:=r.dp;show A.depth+1+3 * k+5 < _;omega,by have:=r.un;show A.units+3+16 * k+200 < _;omega⟩
theorem Room.depth {k:Nat}{A:Around} (r:Room k A):A.depth < recursionLimit:=by have:=r.dp;omega
theorem Room.units {k:Nat}{A:Around} (r:Room k A):A.units+64 < cLine:=by have:=r.un;omega
noncomputable def mD:TA:=λ _ H Q=>Q [] H
noncomputable def d0 (ta:TE) (tr:TA):TA:=λ σ H Q=>ta σ H λ x H1=>tr σ H1 λ xs H2=>Q (x::xs) H2
section
variable {X:Cx}{e:Expr}{es:List Expr}{te:TE}{t:TA}{pos:Pos}
theorem aC:PA X [] mD:=λ _ _ _ _ H Q I h=>Calls.spliced_nil ⟨[],H,I,.nil,h⟩
theorem aA (ha:PE X e te) (hr:PA X es t) (hs:starEach (e::es) X.env=(false,eval e X.env)::starEach es X.env:=by rfl):PA X (e::es) (d0 te t):=by
 intro pos pins s σ H Q I h
 rw[hs]
 show wpAny _ _ (spliced ((false,eval e X.env)::backTo pos (starEach es X.env))) _ _ s
 refine Calls.spliced_cons (cQ (ha pins s σ H _ I h) λ u s1 ⟨x,H1,I1,r1,q1⟩=>?_)
 exact cQ (hr pos pins s1 σ H1 _ I1 q1) λ us s2 ⟨xs,H2,I2,r2,q2⟩=>⟨x::xs,H2,I2,.cons r1 r2,q2⟩
noncomputable def tTup (t:TA):TE:=λ σ H Q=>t σ H λ xs H1=>xs.length<=sizeLine/\∀ p,H1 p=none->Q (.ref p) (upd H1 p (.tup xs))
noncomputable def CJ (t:TA):TE:=λ σ H Q=>t σ H λ xs H1=>xs.length<=sizeLine/\∀ p,H1 p=none->Q (.ref p) (upd H1 p (.lst xs))
theorem aV {x1} (h:PA X es t):PE X (.Tuple es x1 pos) (tTup t):=by
 intro pins s σ H Q I hq
 refine wpAny_Tuple_spliced (cQ (h pos pins s σ H _ I hq) λ us s1 ⟨xs,H1,I1,r,z,q⟩=>⟨by rw[<- r.length];exact z,?_⟩)
 have hf:H1 s1.heap.objs.size=none:=I1.hok.fresh (Nat.le_refl _)
 refine⟨.ref s1.heap.objs.size,upd H1 s1.heap.objs.size (.tup xs),I1.laid (t':=s1.toks) (λ b u e=>aab _ e) (Nat.le_refl _) ?_,rfl,q _ hf⟩
 exact⟨z,us,r,⟨_,aag _ rfl,rfl,_,rfl⟩⟩
theorem bG (h:PA X es t):PE X (.List es pos) (CJ t):=by
 intro pins s σ H Q I hq
 refine wpAny_List_spliced (cQ (h pos pins s σ H _ I hq) λ us s1 ⟨xs,H1,I1,r,z,q⟩=>⟨by rw[<- r.length];exact z,?_⟩)
 have hf:H1 s1.heap.objs.size=none:=I1.hok.fresh (Nat.le_refl _)
 refine⟨.ref s1.heap.objs.size,upd H1 s1.heap.objs.size (.lst xs),I1.laid (t':=s1.toks) (λ b u e=>aab _ e) (Nat.le_refl _) ?_,rfl,q _ hf⟩
 exact⟨z,us,0,r,aag _ rfl⟩
end
noncomputable abbrev Sp:=List V->Hp->VK->XK->Prop
noncomputable abbrev vW:=List Env->Hp->Shared->XK->Value->Shared->Prop
structure Env0 (P:Program) (w:World) (K:aaa) (mg:Str->Option Value) (base:Heap) (A:Around) (outer:List Env) (s:Shared) (H:Hp):Prop where
 frames:A.frames=some outer
 mod:Mod K mg base
 bs:∀ b o,base.get? b=some o->s.heap.get? b=some o/\H b=none
 bsz:base.objs.size<=s.heap.objs.size
 funs:s.heap.FunFrames base outer
 frf:∀ b∈hJ outer,H b=none
 hok:kA P w H s.heap
 bare:AllBare s.gens
noncomputable def CE (outer:List Env) (P:Program) (w:World) (H:Hp) (s:Shared) (Q:VK) (u:Value) (s':Shared):Prop:=
 ∃ v H',s'.os=s.os/\AllBare s'.gens/\Un (hJ outer) [] H H' s.heap s'.heap/\kA P w H' s'.heap/\bN v u/\Q v H'
noncomputable def CR (CX:vW) (outer:List Env) (P:Program) (w:World) (H:Hp) (s:Shared) (Q:VK) (E:XK) (r:Result) (s':Shared):Prop:=
 match r with
 | .ok (.ret u)=>CE outer P w H s Q u s'
 | .ok _=>False
 | .error e=>CX outer H s E e s'
structure FnOk (P:Program) (w:World) (K:aaa) (mg:Str->Option Value) (base:Heap) (CX:vW) (k:Nat) (f:Addr) (fd:FuncData) (ps:List Str) (sp:Sp):Prop where
 len:∀ vs H Q E,sp vs H Q E->vs.length=ps.length
 run:∀ (A:Around) (outer:List Env) (s:Shared) (H:Hp) (args:Args) (us:List Value) (vs:List V) (Q:VK) (E:XK),Room k A->Env0 P w K mg base A outer s H->BindsTo s fd args (ps.zip us)->bP vs us->sp vs H Q E->
  codeAny (model P w) A (.call (.ref f) args) (CR CX outer P w H s Q E) s
theorem FnOk.imp {P:Program}{w:World}{K:aaa}{mg:Str->Option Value}{base:Heap}{CX:vW}{k:Nat}{f:Addr}{fd:FuncData}{ps:List Str}{sp sp':Sp} (F:FnOk P w K mg base CX k f fd ps sp)
  (h:∀ vs H Q E,sp' vs H Q E->sp vs H Q E):FnOk P w K mg base CX k f fd ps sp':=
 ⟨λ vs H Q E q=>F.len vs H Q E (h _ _ _ _ q),λ A outer s H args us vs Q E hr he hb hv hs=>F.run A outer s H args us vs Q E hr he hb hv (h _ _ _ _ hs)⟩
section
variable {X:Cx}{pins:List (Addr×Obj)}{σ:St}{H:Hp}{s s':Shared}
theorem Inv.env0 (I:Inv X pins σ H s):Env0 X.prog X.w X.K X.mg X.base X.A X.stack s H:=
 ⟨I.ok.frames,I.ok.mod,I.bs,abp I.ok.bsz I.sz,I.stack,I.stkFree,I.hok,I.bare⟩
theorem Inv.after {Q:VK}{u:Value} (I:Inv X pins σ H s) (h:CE X.stack X.prog X.w H s Q u s'):EP X pins σ Q u s':=by
 obtain⟨v,H',os,bare,un,hok,r,q⟩:=h
 obtain⟨hh,g,d,t,os'⟩:=s'
 obtain rfl:os'=s.os:=os
 exact⟨v,H',I.call (h':=hh) (g':=g) (d':=d) (t':=t) (ch:=[]) un hok bare (λ b z=>absurd z (by simp)),r,q⟩
end
noncomputable def pX (sp:Sp) (dvs:List V) (E:XK) (t:TA):TE:=λ σ H Q=>t σ H λ vs H1=>sp (vs++dvs) H1 Q E
noncomputable def mC (K:aaa) (fd:FuncData) (ps:List Str) (ds:List Value):Prop:=
 ∀ (s:Shared) (us:List Value),K.In s.heap->(us++ds).length=ps.length->BindsTo s fd ⟨us,[]⟩ (ps.zip (us++ds))
theorem mC.all {K:aaa}{fd:FuncData}{ps:List Str} (h:∀ us:List Value,us.length=ps.length->bindArgs fd ⟨us,[]⟩=pure (ps.zip us)):mC K fd ps []:=λ s us _ hl=>by
 rw[abt] at hl ⊢
 exact .of_eq (h us hl)
noncomputable def kQ (CX:vW) (X:Cx) (E:XK):Prop:=∀ (pins:List (Addr×Obj)) (σ:St) (H:Hp) (s:Shared) (e:Value) (s':Shared),Inv X pins σ H s->CX X.stack H s E e s'->X.xe e s'
section
variable {X:Cx}{CX:vW}{k:Nat}{f C:Addr}{fd:FuncData}{ps:List Str}{sp:Sp}{dvs:List V}{ds:List Value}{E:XK}{x m:Str}{p pos apos:Pos}{e o:Expr}{es:List Expr}{ta:TE}{t:TA}
theorem EY {pins:List (Addr×Obj)}{σ:St}{H:Hp}{s:Shared}{Q:VK}{us:List Value}{vs:List V} (F:FnOk X.prog X.w X.K X.mg X.base CX k f fd ps sp) (hr:Room k X.A) (hb:mC X.K fd ps ds) (hd:bP dvs ds) (hx:kQ CX X E)
  (I:Inv X pins σ H s) (r:bP vs us) (h:sp (vs++dvs) H Q E):wpAny (model X.prog X.w) X.A (call (.ref f) us) (EP X pins σ Q) X.xe s:=by
 have r2:bP (vs++dvs) (us++ds):=r.append hd
 have hl:(us++ds).length=ps.length:=by rw[<- r2.length];exact F.len _ _ _ _ h
 refine wpAny_call (codeAny_mono (F.run X.A X.stack s H ⟨us,[]⟩ (us++ds) (vs++dvs) Q E hr I.env0 (hb s us I.kIn hl) r2 h) λ r s' hq=>?_)
 cases r with
 | error e=>exact hx pins σ H s e s' I hq
 | ok fl=>
  cases fl with
  | ret u=>exact I.after hq
  | next=>exact False.elim hq
  | brk=>exact False.elim hq
  | cont=>exact False.elim hq
theorem wG (F:FnOk X.prog X.w X.K X.mg X.base CX k f fd ps sp) (hr:Room k X.A) (hg:Gl X x) (hm:X.mg x=some (.ref f)) (hk:PySem.W.keepIn X.K (.ref f)=true) (hb:mC X.K fd ps ds) (hd:bP dvs ds) (hx:kQ CX X E)
  (ha:PA X (e::es) t) (hdb:(x == ("__debug__" : Str))=false:=by decide) (he:starEach (e::es) X.env=(false,eval e X.env)::starEach es X.env:=by rfl) (hpl:(backTo pos (starEach es X.env)).any (·.1)=false:=by rfl) :
  PE X (.Call (.Name x p) (e::es) [] pos) (pX sp dvs E t):=by
 intro pins s σ H Q I h
 refine wpAny_Call_Name_kw (lM I hg hm ?_ hdb)
 refine PySem.W.callWith_K (h₀:=X.base) I.ok.mod.kin hk (cQ (ha pos pins s σ H _ I h) λ us s1 ⟨vs,H1,I1,r,q⟩=>⟨I1.kIn,?_⟩) he hpl
 exact EY F hr hb hd hx I1 r q
end
section
variable {X:Cx}{CX:vW}{k:Nat}{f C:Addr}{fd:FuncData}{ps ks:List Str}{sp:Sp}{E:XK}{x m:Str}{p pos apos kpos:Pos}{e o:Expr}{es:List Expr}{kws:List Keyword}{te ta:TE}{t tk:TA}{nm:Option Str}
variable {g:List Value->List Value->List Value}{gV:List V->List V->List V}
end
structure FnScope (N P:List Str) (sc:Scope):Prop where
 kind:sc.kind=.function
 co:sc.isCoroutine=false
 gen:sc.isGenerator=false
 nd:N.Nodup
 pre:N.take P.length=P
 par:∀ x∈P,sc.names.lookup x=some .local\/sc.names.lookup x=some .cell
 nofree:∀ y∈sc.names,y.2≠.free
theorem qL {kindOf:Str->Option NameKind}{x:Str}:∀ {binds:List (Str×Value)}{m:Str->Option Value},(∀ v,(x,v)∉binds)->bindL kindOf binds m x=m x
 | [],_,_=>rfl
 | (n,v)::r,m,h=>by
  unfold bindL
  rw[qL λ w hw=>h w (aay _ hw)]
  split
  ·have:x≠n:=by rintro rfl;exact h v abk
   simp [this]
  ·rfl
theorem qN {kindOf:Str->Option NameKind}{x:Str}:∀ {binds:List (Str×Value)}{m:Str->Option Value},(∀ v,(x,v)∉binds)->bindC kindOf binds m x=m x
 | [],_,_=>rfl
 | (n,v)::r,m,h=>by
  unfold bindC
  rw[qN λ w hw=>h w (aay _ hw)]
  split
  ·rfl
  ·have:x≠n:=by rintro rfl;exact h v abk
   simp [this]
theorem qM {kindOf:Str->Option NameKind}{x:Str}{v:Value}:∀ {P:List Str}{vs:List Value}{i:Nat}{m:Str->Option Value},P.Nodup->P[i]? = some x->vs[i]? = some v->kindOf x=some .local->
  bindL kindOf (P.zip vs) m x=some v
 | [],_,_,_,_,h,_,_=>by simp at h
 | _::_,[],_,_,_,_,h,_=>by simp at h
 | p::P,w::vs,0,m,nd,h1,h2,hk=>by
  simp at h1 h2;subst h1;subst h2
  show bindL kindOf ((p,w)::P.zip vs) m p=_
  unfold bindL
  rw[qL λ v hv=>(acf.mp nd).1 (List.of_mem_zip hv).1,if_pos hk]
  simp
 | p::P,w::vs,i+1,m,nd,h1,h2,hk=>by
  show bindL kindOf ((p,w)::P.zip vs) m x=_
  unfold bindL
  exact qM (i:=i) (acf.mp nd).2 (by simpa using h1) (by simpa using h2) hk
theorem qO {kindOf:Str->Option NameKind}{x:Str}{v:Value}:∀ {P:List Str}{vs:List Value}{i:Nat}{m:Str->Option Value},P.Nodup->P[i]? = some x->vs[i]? = some v->kindOf x≠some .local->
  bindC kindOf (P.zip vs) m x=some v
 | [],_,_,_,_,h,_,_=>by simp at h
 | _::_,[],_,_,_,_,h,_=>by simp at h
 | p::P,w::vs,0,m,nd,h1,h2,hk=>by
  simp at h1 h2;subst h1;subst h2
  show bindC kindOf ((p,w)::P.zip vs) m p=_
  unfold bindC
  rw[qN λ v hv=>(acf.mp nd).1 (List.of_mem_zip hv).1,if_neg hk]
  simp
 | p::P,w::vs,i+1,m,nd,h1,h2,hk=>by
  show bindC kindOf ((p,w)::P.zip vs) m x=_
  unfold bindC
  exact qO (i:=i) (acf.mp nd).2 (by simpa using h1) (by simpa using h2) hk
noncomputable def start (N:List Str) (vs:List V):St:=vs.map some++List.replicate (N.length - vs.length) none
noncomputable def lU (CX:vW) (P:Program) (w:World) (K:aaa) (mg:Str->Option Value) (base:Heap) (N:List Str) (qual:Str) (scope:Scope) (f:Addr) (cd:Value) (A:Around) (outer:List Env) (s:Shared) (H:Hp) (E:XK):Cx where
 prog:=P
 w:=w
 K:=K
 mg:=mg
 base:=base
 A:=A.deeper (envOfC qual scope s.heap.objs.size f cd)
 N:=N
 s₀:=s
 H₀:=H
 env:=envOfC qual scope s.heap.objs.size f cd
 outer:=outer
 stack:=envOfC qual scope s.heap.objs.size f cd::outer
 ex:=[]
 calm:=true
 fn:=λ _=>true
 pn:=[]
 xe:=λ e s'=>wpAny (model P w) (A.deeper (envOfC qual scope s.heap.objs.size f cd)) (leaving (envOfC qual scope s.heap.objs.size f cd) e) (λ _ s''=>CX outer H s E e s'') (λ e' s''=>CX outer H s E e' s'') s'
theorem uE {sc:Scope}{n:Nat}{x:Str} (h:sc.names.lookup x=some .cell):∃ c,(cellsFrom n sc.names []).lookup x=some c:=by
 have q:=PySem.W.cellsFrom_some sc.names n [] (.inl h)
 exact Option.isSome_iff_exists.mp q
theorem qH {CX:vW}{P:Program}{w:World}{K:aaa}{mg:Str->Option Value}{base:Heap}{N ps:List Str}{qual:Str}{scope:Scope}{f:Addr}{cd:Value}{A:Around}{outer:List Env}{s s1:Shared}{H:Hp}{E:XK}{us:List Value}{vs:List V}
  (S:FnScope N ps scope) (hd:A.handled=none) (e0:Env0 P w K mg base A outer s H) (hl:vs.length=ps.length) (r:bP vs us)
  (x:InCallC s s.heap.objs.size (bindL (envOfC qual scope s.heap.objs.size f cd).kindOf (ps.zip us) λ _=>none) (cellsFrom (s.heap.objs.size+1) scope.names []) (bindC (envOfC qual scope s.heap.objs.size f cd).kindOf (ps.zip us) λ _=>none) s1) :
  Inv (lU CX P w K mg base N qual scope f cd A outer s H E) [] (start N vs) H s1:=by
 have hpl:ps.length<=N.length:=by have:=congrArg List.length S.pre;rw[aaj] at this;omega
 obtain⟨h1,tk,rfl,hk⟩:=x.done
 have noA:∀ b:Addr,b∉(lU CX P w K mg base N qual scope f cd A outer s H E).ex:=λ b z=>absurd (show b∈([]:List Addr) from z) (by simp)
 refine⟨⟨e0.mod,S.kind,rfl,rfl,Nat.le_refl _,λ y z c h1 h2=>?_,λ y hy=>?_,λ y c _ h=>?_,λ _=>hd,Around.frames_deeper e0.frames,.inr ⟨rfl,rfl⟩,λ b z=>absurd z (noA b),e0.bs,e0.bsz,λ b _ _=>noA b,λ b z=>absurd z (noA b),e0.funs,e0.frf⟩,
  rfl,e0.bare,Un.kept hk,⟨_,x.toInCall.ns,λ i y v h1 h2 h3=>?_⟩,λ y c h=>⟨_,x.cell y c h⟩,e0.hok.fresh (Nat.le_refl _),λ y c h=>?_,λ p hp=>absurd (show p∈([]:List (Addr×Obj)) from hp) (by simp),e0.hok.kept hk,?_⟩
 ·exact name_of_addr x.apart (PySem.mem_of_lookup h1) (PySem.mem_of_lookup h2)
 ·have hy:scope.names.lookup y=some .cell\/scope.names.lookup y=some .free:=hy
  rcases hy with hy | hy
  ·exact uE hy
  ·exact absurd rfl (S.nofree _ (PySem.mem_of_lookup hy))
 ·exact aca (x.above y c (PySem.mem_of_lookup h))
 ·have hi:i < vs.length:=by
   unfold start at h2
   by_cases hi:i < vs.length
   ·exact hi
   ·rw[abq (by simpa using hi)] at h2
    rw[List.getElem?_replicate] at h2
    split at h2 <;> cases h2
  have ha:vs[i]? = some v:=by
   unfold start at h2
   rw[aba (by simpa using hi),aah] at h2
   cases e:vs[i]? with
   | none=>rw[e] at h2;cases h2
   | some a=>rw[e] at h2;cases h2;rfl
  obtain⟨u,hu,rv⟩:=r.get ha
  have hp:ps[i]? = some y:=by
   rw[<- S.pre,List.getElem?_take_of_lt (by omega)];exact h1
  have ndP:ps.Nodup:=by rw[<- S.pre];exact S.nd.sublist (List.take_sublist _ _)
  refine⟨u,rv,?_⟩
  rcases S.par y (aan hp) with k | k
  ·exact .inl ⟨k,qM ndP hp hu k⟩
  ·obtain⟨c,e⟩:=uE (n:=s.heap.objs.size+1) k
   refine .inr ⟨.inl k,c,e,?_⟩
   have q:=x.cell y c e
   rw[qO ndP hp hu (by show scope.names.lookup y≠_;rw[k];decide)] at q
   exact q
 ·exact e0.hok.fresh (aca (x.above y c (PySem.mem_of_lookup h)))
 ·unfold start
  show _=N.length
  rw[aak,aac,abc]
  omega
theorem EC {CX:vW}{P:Program}{w:World}{K:aaa}{mg:Str->Option Value}{base:Heap}{k:Nat}{f:Addr}{name qual:Str}{params:Arguments}{body:List Stmt}{scope:Scope}{dV kV doc pm cdv ct oc:Value}{an od:Option Addr}
  {osl:Array (Option Value)}{N ps:List Str}{sp:Sp} (lk:K.lookup f=some ⟨oc,od,.func (PySem.W.fnOf name qual params body scope dV kV doc pm an cdv ct),osl⟩) (hcd:PySem.W.codeIn K cdv qual=true) (S:FnScope N ps scope)
  (len:∀ vs H Q E,sp vs H Q E->vs.length=ps.length)
  (hbody:∀ (A:Around) (outer:List Env) (s:Shared) (H:Hp) (vs:List V) (Q:VK) (E:XK),Room k (A.deeper (envOfC qual scope s.heap.objs.size f cdv))->sp vs H Q E->
   ∃ t,sR (lU CX P w K mg base N qual scope f cdv A outer s H E) body t/\t { nx:=λ _ H'=>Q .non H',rt:=Q } (start N vs) H) :
  FnOk P w K mg base CX (k+1) f (PySem.W.fnOf name qual params body scope dV kV doc pm an cdv ct) ps sp:=by
 refine⟨len,λ A outer s H args us vs Q E hr e0 hb r hsp=>?_⟩
 have hl:=len _ _ _ _ hsp
 have KX:K.In s.heap:=e0.mod.kin.keeps λ b o e=>(e0.bs b o e).1
 have lim:s.heap.NoLimit:=e0.mod.nolimit.keeps λ b o e=>(e0.bs b o e).1
 have hkind:∀ y∈ps.zip us,scope.names.lookup y.1=some .local\/(scope.names.lookup y.1=some .cell/\((cellsFrom (s.heap.objs.size+1) scope.names []).lookup y.1).isSome=true):=λ ⟨n,v⟩ hy=>by
  rcases S.par n (List.of_mem_zip hy).1 with q | q
  ·exact .inl q
  ·exact .inr ⟨q,PySem.W.cellsFrom_some _ _ _ (.inl q)⟩
 refine codeAny_call_function hr.depth (KX _ _ lk) rfl S.co S.gen rfl (PySem.W.codeRec_of KX hcd) (hb _ _ _ _ ?_)
 refine wpAny_newFunctionEnv_cells S.kind hkind λ env he s1 x=>?_
 subst he
 refine⟨lim.keeps x.toInCall.keep,codeAny_func ?_⟩
 obtain⟨t,ht,hq⟩:=hbody A outer s H vs Q E (hr.deeper _) hsp
 have I:Inv (lU CX P w K mg base N qual scope f cdv A outer s H E) [] (start N vs) H s1:=qH S hr.hd e0 hl r x
 refine wpAny_mono (ht [] s1 (start N vs) H _ I hq) (λ fl s' hs=>?_) λ e s' hs=>hs
 have fin:∀ {ac:St}{H':Hp}{v:V}{u:Value},Inv (lU CX P w K mg base N qual scope f cdv A outer s H E) [] ac H' s'->bN v u->Q v H'->CE outer P w H s Q u s':=
  λ {ac H' v u} J rv q=>⟨v,H',J.os,J.bare,J.base,J.hok,rv,q⟩
 cases fl with
 | ret u=>
  obtain⟨v,ac,H',J,rv,q⟩:=hs
  exact fin J rv q
 | next=>
  obtain⟨ac,H',J,q⟩:=hs
  exact fin (v:=V.non) (u:=Value.none) J rfl q
 | brk=>
  obtain⟨_,_,_,q⟩:=hs
  exact False.elim q
 | cont=>
  obtain⟨_,_,_,q⟩:=hs
  exact False.elim q
end L2
namespace L2
open PySem PySem.Spec PyProof.Rows
section
variable {X:Cx}{x:Str}{p pos:Pos}{e:Expr}{es:List Expr}{t:TA}{id T:String}{r:List V->Hp->VK->Prop}
noncomputable def GM (r:List V->Hp->VK->Prop) (t:TA):TE:=λ σ H Q=>t σ H λ vs H1=>r vs H1 Q
theorem aR (hc:eN X (.builtin id) r) (hg:Gl X x) (hm:X.mg x=none) (hv:bootBuiltins x=some (.builtin id)) (ha:PA X (e::es) t) (hn:x ≠ "__name__" := by decide) (hdb:(x == ("__debug__" : Str))=false:=by decide)
  (he:starEach (e::es) X.env=(false,eval e X.env)::starEach es X.env:=by rfl) (hpl:(backTo pos (starEach es X.env)).any (·.1)=false:=by rfl):PE X (.Call (.Name x p) (e::es) [] pos) (GM r t):=by
 intro pins s σ H Q I h
 refine wpAny_Call_Name_kw (kH I hg hm hv ?_ hn hdb)
 exact PyProof.Rows.callWith_builtin1 (cQ (ha pos pins s σ H _ I h) λ us s1 ⟨vs,H1,I1,r1,q1⟩=>hc pins s1 σ H1 vs us Q I1 r1 q1) he hpl
theorem aZ (hc:eN X (.type T) r) (hg:Gl X x) (hm:X.mg x=none) (hv:bootBuiltins x=some (.type T)) (ha:PA X (e::es) t) (hn:x ≠ "__name__" := by decide) (hdb:(x == ("__debug__" : Str))=false:=by decide)
  (he:starEach (e::es) X.env=(false,eval e X.env)::starEach es X.env:=by rfl) (hpl:(backTo pos (starEach es X.env)).any (·.1)=false:=by rfl):PE X (.Call (.Name x p) (e::es) [] pos) (GM r t):=by
 intro pins s σ H Q I h
 refine wpAny_Call_Name_kw (kH I hg hm hv ?_ hn hdb)
 exact PyProof.Rows.callWith_type1 (cQ (ha pos pins s σ H _ I h) λ us s1 ⟨vs,H1,I1,r1,q1⟩=>hc pins s1 σ H1 vs us Q I1 r1 q1) he hpl
end
end L2
namespace HT
open PySem PyProof.Rows
section
open PySem.SeqAt
open PySem.AutoSeq1 (wpAny_loadPart')
open PySem.MeetsSeq PySem.MeetsSeq2 PySem.MeetsSeq3
end
section
variable {prog:Program}{w:World}{A:Around}{E:Value->Shared->Prop}{s:Shared}
theorem cat_tup {t b:Addr}{vs ws:List Value}{Q:Value->Shared->Prop} (ht:IsTup s.heap t vs.toArray) (hb:IsTup s.heap b ws.toArray) (hv:vs≠[])
  (h1:ws=[]->Q (.ref t) s) (h2:ws≠[]->Q (.ref s.heap.objs.size) { s with heap:=s.heap.push { cls:=.type "tuple",data:=.seq (vs++ws).toArray } })
  (hsz:vs.length+ws.length<=sizeLine):wpAny (model prog w) A (binaryOp .Add (.ref t) (.ref b)) Q E s:=by
 obtain⟨⟨cls,dd,data,sl⟩,ho,hc,n,hd⟩:=id ht
 obtain⟨⟨cls2,dd2,data2,sl2⟩,ho2,hc2,n2,hd2⟩:=id hb
 simp only at hc hd hc2 hd2
 subst hc hd hc2 hd2
 have e:vs.toArray++ws.toArray=(vs++ws).toArray:=by simp
 by_cases hw:ws=[]
 ·exact concat_meets ⟨_,ho,rfl⟩ ⟨_,ho2,rfl⟩ noFill_tuple_add seq_tuple_add PySem.F.slot_tuple_add PySem.F.entry_tuple_add (PySem.F.args_tuple_add_2 _ _)
   (tuple_addW1 t b vs.toArray ws.toArray n n2 dd dd2 sl sl2 (by simpa using hv) (by simp [hw])) ⟨ho,ho2,h1 hw⟩
 ·refine concat_meets ⟨_,ho,rfl⟩ ⟨_,ho2,rfl⟩ noFill_tuple_add seq_tuple_add PySem.F.slot_tuple_add PySem.F.entry_tuple_add (PySem.F.args_tuple_add_2 _ _)
   (tuple_addW2 t b vs.toArray ws.toArray n n2 dd dd2 sl sl2 (by simpa using hv) (by simpa using hw) (by rw[aam,aam];exact hsz)) ⟨ho,ho2,?_⟩
  rw[e]
  exact h2 hw
noncomputable def sIx (n d:Nat):Option Int->Nat
 | none=>d
 | some v=>if v < 0 then (v+(n:Int)).toNat else min v.toNat n
theorem sIx_none (n d:Nat):sIx n d none=d:=rfl
theorem sIx_nat (n d k:Nat):sIx n d (some (k:Int))=min k n:=by
 show (if (k:Int) < 0 then ((k:Int)+(n:Int)).toNat else min (k:Int).toNat n)=min k n
 rw[if_neg (by omega),acd]
theorem EW (n d:Nat) (hd:d<=n) (o:Option Int):sIx n d o<=n:=by
 cases o with
 | none=>exact hd
 | some v=>
  show (if v < 0 then (v+(n:Int)).toNat else min v.toNat n)<=n
  by_cases hv:v < 0
  ·rw[if_pos hv];omega
  ·rw[if_neg hv];exact Nat.min_le_right _ _
theorem wT (v:Int) (n d:Nat):(if v < 0 then max (v+(n:Int)) 0 else min v (n:Int))=((sIx n d (some v):Nat):Int):=by
 show (if v < 0 then max (v+(n:Int)) 0 else min v (n:Int))=(((if v < 0 then (v+(n:Int)).toNat else min v.toNat n):Nat):Int)
 by_cases hv:v < 0
 ·simp only [if_pos hv];omega
 ·simp only [if_neg hv];omega
theorem vT (lo hi:Option Int) (n:Nat):Builtin.Slice.sliceAdjust lo hi 1 (n:Int)=(((sIx n 0 lo:Nat):Int),((sIx n n hi:Nat):Int)):=by
 have h1:¬ ((1:Int) < 0):=by omega
 unfold Builtin.Slice.sliceAdjust
 simp only [h1,if_false]
 refine Prod.ext ?_ ?_
 ·cases lo with
  | none=>rfl
  | some v=>exact wT v n 0
 ·cases hi with
  | none=>rfl
  | some v=>exact wT v n n
theorem vB (i j:Nat):Builtin.Slice.slicePlaces (i:Int) (j:Int) 1=j - i:=by
 unfold Builtin.Slice.slicePlaces
 have h1:(1:Int) > 0:=by omega
 simp only [h1,if_true,Int.ediv_one]
 split <;> omega
theorem o6 {v:Value}{o:Option Int}{Q:Option Int->Shared->Prop} (p:IsPart v o) (h:Q o s):wpAny (model prog w) A (Builtin.Slice.slicePartIndex v) Q E s:=by
 cases p with
 | none=>exact slicePart_none h
 | int i t=>exact slicePart_int h
theorem gS {sl:Addr}{vl vu:Value}{lo hi:Option Int}{n:Nat}{Q:Int×Int×Nat->Shared->Prop} (hs:s.heap.IsSliceOf sl vl vu .none) (pl:IsPart vl lo) (pu:IsPart vu hi)
  (h:Q (((sIx n 0 lo:Nat):Int),1,sIx n n hi - sIx n 0 lo) s):wpAny (model prog w) A (Builtin.Slice.sliceApplied (.ref sl) (pure (n:Int))) Q E s:=by
 obtain⟨os,hos,hcs,hds⟩:=id hs
 unfold Builtin.Slice.sliceApplied Builtin.Slice.sliceFields
 refine wpAny_bind (wpAny_bind (wpAny_field hos hds (x:=vl) rfl (wpAny_bind (wpAny_field hos hds (x:=vu) rfl (wpAny_bind (wpAny_field hos hds (x:=.none) rfl (wpAny_pure ?_)))))))
 refine wpAny_bind (slicePart_none ?_)
 show wpAny _ _ (if ((1:Int) == 0)=true then _ else _) _ _ s
 rw[if_neg (by decide)]
 refine wpAny_bind (o6 pl (wpAny_bind (o6 pu (wpAny_bind (wpAny_pure ?_)))))
 show wpAny _ _ (match Builtin.Slice.sliceAdjust lo hi 1 (n:Int) with | (lo,hi)=>pure (lo,(1:Int),Builtin.Slice.slicePlaces lo hi 1)) _ _ s
 rw[vT lo hi n]
 show wpAny _ _ (pure (((sIx n 0 lo:Nat):Int),(1:Int),Builtin.Slice.slicePlaces ((sIx n 0 lo:Nat):Int) ((sIx n n hi:Nat):Int) 1)) _ _ s
 rw[vB]
 exact wpAny_pure h
theorem A0 (xs:Array Value) (i k:Nat):((List.range k).filterMap λ (m:Nat)=>xs[((i:Int)+(m:Int) * 1).toNat]?).toArray=((xs.toList.drop i).take k).toArray:=by
 have e:(λ (m:Nat)=>xs[((i:Int)+(m:Int) * 1).toNat]?)=λ m=>xs[i+m]?:=by
  funext m
  have:((i:Int)+(m:Int) * 1).toNat=i+m:=by omega
  rw[this]
 rw[e]
 have:=pick_run xs i k
 rw[List.filterMap_map] at this
 have e2:((λ x=>xs[x]?) ∘ λ x=>i+x)=λ m=>xs[i+m]?:=rfl
 rw[e2] at this
 rw[this]
theorem getItem_tuple_cut {t sl:Addr}{items:Array Value}{vl vu:Value}{lo hi:Option Int}{Q:Value->Shared->Prop} (ht:IsTup s.heap t items) (hs:s.heap.IsSliceOf sl vl vu .none) (pl:IsPart vl lo) (pu:IsPart vu hi)
  (hw:¬ (sIx items.size 0 lo=0/\sIx items.size items.size hi=items.size))
  (h:Q (.ref s.heap.objs.size) { s with heap:=s.heap.push { cls:=.type "tuple",data:=.seq ((items.toList.drop (sIx items.size 0 lo)).take (sIx items.size items.size hi - sIx items.size 0 lo)).toArray } })
  (hsz:items.size<=sizeLine):wpAny (model prog w) A (getItem (.ref t) (.ref sl)) Q E s:=by
 have htake:sizeOk (.seq ((items.toList.drop (sIx items.size 0 lo)).take (sIx items.size items.size hi - sIx items.size 0 lo)).toArray):=by
  show ((items.toList.drop (sIx items.size 0 lo)).take (sIx items.size items.size hi - sIx items.size 0 lo)).toArray.size<=sizeLine
  rw[aam,aaj,List.length_drop,aby]
  omega
 have hj:sIx items.size items.size hi<=items.size:=EW _ _ (Nat.le_refl _) hi
 obtain⟨os,hos,hcs,hds⟩:=id hs
 have hTs:s.TypeIs (.ref sl) "slice" := ⟨os,hos,hcs⟩
 unfold getItem
 try with_reducible refine wpAny_holding ?_
 first | refine wpAny_bind (wpAny_pure ?_) | skip
 refine wpAny_bind (wpAny_sequenceKey ht.typeIs (by decide) ?_)
 refine wpAny_bind (wpAny_callSpecial?_slot (name:=Str.ofString "__getitem__") ht.typeIs PyProof.Rows.slot_tuple_getitem
  (wpAny_call_entry PyProof.Rows.slot_tuple_getitem ht.typeIs entry_tuple_getitem ?_ (args_tuple_getitem _ _)))
 show wpAny _ _ (Builtin.Tuple.tupleItemsOf (.ref t) >>= _) _ _ s
 refine wpAny_bind (tupleItemsOf_ ht ?_)
 refine wpAny_bind (wpAny_typeOf hTs ?_)
 rw[if_pos (by decide)]
 refine wpAny_bind (gS hs pl pu ?_)
 have hno:¬ ((((sIx items.size 0 lo:Nat):Int) == 0 && (1:Int) == 1 && (sIx items.size items.size hi - sIx items.size 0 lo) == items.size)=true):=by
  intro q
  rw[Bool.and_eq_true,Bool.and_eq_true] at q
  have q1:((sIx items.size 0 lo:Nat):Int)=0:=eq_of_beq q.1.1
  have q2:sIx items.size items.size hi - sIx items.size 0 lo=items.size:=eq_of_beq q.2
  exact hw ⟨by omega,by omega⟩
 show wpAny _ _ (if (((sIx items.size 0 lo:Nat):Int) == 0 && (1:Int) == 1 && (sIx items.size items.size hi - sIx items.size 0 lo) == items.size)=true then _ else _) _ _ s
 rw[if_neg hno,A0]
 first
  | exact wpAny_bind (m:=Builtin.Tuple.tupleExact _) (wpAny_newObj_type (wpAny_pure ⟨_,rfl,wpAny_pure h⟩) htake)
  | exact wpAny_bind (m:=Builtin.Tuple.tupleExact _) (wpAny_newObj_type (wpAny_bind (wpAny_pure (wpAny_pure ⟨_,rfl,wpAny_pure h⟩))) htake)
  | exact wpAny_bind (wpAny_bind (m:=Builtin.Tuple.tupleExact _) (wpAny_newObj_type (wpAny_pure (wpAny_pure ⟨_,rfl,wpAny_pure h⟩)) htake))
  | exact wpAny_bind (wpAny_bind (m:=Builtin.Tuple.tupleExact _) (wpAny_newObj_type (wpAny_pure ⟨_,rfl,wpAny_pure h⟩) htake))
end
end HT
namespace L2
open PySem PySem.Spec PyProof.Rows
noncomputable abbrev TO:=St->Hp->(Option Int->Hp->Prop)->Prop
noncomputable def PO (X:Cx) (e:Option Expr) (t:TO):Prop:=
 ∀ (pins:List (Addr×Obj)) (s:Shared) (σ:St) (H:Hp) (Q:Option Int->Hp->Prop),Inv X pins σ H s->t σ H Q->
  wpAny (model X.prog X.w) X.A (evalPart e X.env) (λ u s'=>∃ o H',Inv X pins σ H' s'/\IsPart u o/\Q o H') X.xe s
noncomputable def qT:TO:=λ _ H Q=>Q none H
noncomputable def GU (t:TE):TO:=λ σ H Q=>t σ H λ x H1=>∃ i,x=.int i/\Q (some i) H1
theorem vL {ns:List Int}:∀ {us:List Value},bP (ns.map V.int) us->IntsAre us ns:=by
 induction ns with
 | nil=>intro us r;rw[List.map_nil] at r;cases r;exact .nil
 | cons n ns ih=>
  intro us r
  rw[abb] at r
  cases r with
  | cons r1 r2=>
   obtain⟨t,e⟩:=r1
   subst e
   exact .cons n t (ih r2)
section
variable {X:Cx}{e:Expr}{te:TE}{lo hi:Option Expr}{tl th:TO}{pos p2:Pos}
theorem fH:PO X none qT:=by
 intro pins s σ H Q I h
 rw[evalPart_none]
 exact wpAny_pure ⟨none,H,I,.none,h⟩
theorem fG (h:PE X e te):PO X (some e) (GU te):=by
 intro pins s σ H Q I hw
 rw[evalPart_some]
 refine cQ (h pins s σ H _ I hw) λ u s1 ⟨x,H1,I1,r1,q1⟩=>?_
 obtain⟨i,rfl,q⟩:=q1
 obtain⟨t,rfl⟩:=r1
 exact⟨some i,H1,I1,.int i t,q⟩
noncomputable def IE (X:Cx) (r:V->Option Int->Option Int->Hp->VK->Prop):Prop:=
 ∀ (pins:List (Addr×Obj)) (s:Shared) (σ:St) (H:Hp) (x:V) (v vl vu:Value) (lo hi:Option Int) (sl:Addr) (Q:VK),Inv X pins σ H s->bN x v->s.heap.IsSliceOf sl vl vu .none->IsPart vl lo->IsPart vu hi->r x lo hi H Q->
  ∃ T id,typeLookup (.type T) "__getitem__" = pure (some (.builtin id))/\s.TypeIs v T/\wpAny (model X.prog X.w) X.A (getItem v (.ref sl)) (EP X pins σ Q) X.xe s
noncomputable def tSl (r:V->Option Int->Option Int->Hp->VK->Prop) (te:TE) (tl th:TO):TE:=λ σ H Q=>te σ H λ x H1=>tl σ H1 λ l H2=>th σ H2 λ u H3=>r x l u H3 Q
theorem eK {r:V->Option Int->Option Int->Hp->VK->Prop} (hr:IE X r) (he:PE X e te) (hl:PO X lo tl) (hu:PO X hi th):PE X (.Subscript e (.Slice lo hi none p2) pos) (tSl r te tl th):=by
 intro pins s σ H Q I h
 refine Subscript_ (cQ (he pins s σ H _ I h) λ v s1 ⟨x,H1,I1,r1,q1⟩=>?_)
 refine wpAny_Slice (cQ (hl pins s1 σ H1 _ I1 q1) λ vl s2 ⟨l,H2,I2,pl,q2⟩=>cQ (hu pins s2 σ H2 _ I2 q2) λ vu s3 ⟨u,H3,I3,pu,q3⟩=>?_)
 rw[evalPart_none]
 refine wpAny_pure ?_
 have I4:Inv X pins σ H3 { s3 with heap:=s3.heap.push { cls:=.type "slice",data:=.fields #[vl,vu,.none] } }:=I3.kept (t':=s3.toks) λ b ob q=>aab _ q
 obtain⟨T,id,hT,ht,hg⟩:=hr pins { s3 with heap:=s3.heap.push { cls:=.type "slice",data:=.fields #[vl,vu,.none] } } σ H3 x v vl vu l u s3.heap.objs.size Q I4 r1 (Heap.IsSliceOf.new ..) pl pu q3
 show wpAny (model X.prog X.w) X.A (subscriptTail e (.Slice lo hi none p2) v (.ref s3.heap.objs.size)) (EP X pins σ Q) X.xe { s3 with heap:=s3.heap.push { cls:=.type "slice",data:=.fields #[vl,vu,.none] } }
 exact tail_any (ops:=[.ref s3.heap.objs.size,v]) ht hT hg (by with_unfolding_all rfl)
noncomputable def kL (xs:List V) (lo hi:Option Int):List V:=(xs.drop (HT.sIx xs.length 0 lo)).take (HT.sIx xs.length xs.length hi - HT.sIx xs.length 0 lo)
theorem n8 (xs:List V) (lo hi:Option Int):(kL xs lo hi).length<=xs.length:=by
 unfold kL
 rw[aaj,List.length_drop]
 omega
noncomputable def rSlT (K:aaa):V->Option Int->Option Int->Hp->VK->Prop:=λ x lo hi H Q=>∃ a xs,x=.ref a/\bD K H a xs/\
 ¬ (HT.sIx xs.length 0 lo=0/\HT.sIx xs.length xs.length hi=xs.length)/\∀ p,H p=none->Q (.ref p) (upd H p (.tup (kL xs lo hi)))
theorem EU:IE X (rSlT X.K):=by
 intro pins s σ H x v vl vu lo hi sl Q I rx hs pl pu h
 obtain⟨a,xs,rfl,hx,hw,q⟩:=h
 cases rx
 obtain⟨its,r,ht,hz⟩:=I.tuple hx
 have hlen:its.toArray.size=xs.length:=by rw[aam];exact r.length.symm
 refine⟨"tuple",_,PyProof.Rows.slot_tuple_getitem.lookup,ht.typeIs,?_⟩
 refine HT.getItem_tuple_cut ht hs pl pu (by rw[hlen];exact hw) ?_ (by rw[hlen];exact hz)
 rw[hlen]
 refine⟨.ref s.heap.objs.size,_,I.laid (t':=s.toks) (o:=.tup (kL xs lo hi)) (λ b ob q=>aab _ q) (Nat.le_refl _) ?_,rfl,q _ (I.hok.fresh (Nat.le_refl _))⟩
 exact⟨abp (n8 xs lo hi) hz,_,(r.drop (HT.sIx xs.length 0 lo)).take (HT.sIx xs.length xs.length hi - HT.sIx xs.length 0 lo),IsTup.new _ _⟩
noncomputable def E4 (K:aaa):R2:=λ x y H Q=>∃ a b xs ys,x=.ref a/\y=.ref b/\bD K H a xs/\bD K H b ys/\xs≠[]/\xs.length+ys.length<=sizeLine/\
 (ys=[]->Q (.ref a) H)/\(ys≠[]->∀ p,H p=none->Q (.ref p) (upd H p (.tup (xs++ys))))
theorem bP.nil_iff {xs:List V}{us:List Value} (r:bP xs us):us=[]↔xs=[]:=by
 cases r with
 | nil=>simp
 | cons _ _=>simp
theorem wI:iN X (binaryOp .Add) (E4 X.K):=by
 intro pins s σ H x y v u Q I rx ry h
 obtain⟨a,b,xs,ys,rfl,rfl,ha,hb,hx,hz,q1,q2⟩:=h
 cases rx
 cases ry
 obtain⟨its,r1,p1,_⟩:=I.tuple ha
 obtain⟨its2,r2,p2,_⟩:=I.tuple hb
 refine HT.cat_tup p1 p2 (λ z=>hx (r1.nil_iff.mp z)) (λ z=>⟨.ref a,H,I,rfl,q1 (r2.nil_iff.mp z)⟩) (λ z=>?_) (by rw[<- r1.length,<- r2.length];exact hz)
 refine⟨.ref s.heap.objs.size,_,I.laid (t':=s.toks) (o:=.tup (xs++ys)) (λ b ob q=>aab _ q) (Nat.le_refl _) ?_,rfl,q2 (λ w=>z (r2.nil_iff.mpr w)) _ (I.hok.fresh (Nat.le_refl _))⟩
 exact⟨by rw[aak];exact hz,_,r1.append r2,IsTup.new _ _⟩
end
end L2
namespace L2
open PySem PySem.Spec PyProof.Rows
noncomputable def DH (n:Nat) (i:Int):Option Nat:=if 0<=i then (if i < n then some i.toNat else none) else if -(n:Int)<=i then some (i+n).toNat else none
noncomputable def BS {af:Type} (xs:List af) (i:Int):Option af:=(DH xs.length i).bind λ j=>xs[j]?
theorem wJ {n:Nat}{i:Int}{j:Nat} (h:DH n i=some j):seqIndex? i n=some j/\j < n/\-(n:Int)<=i/\i < n:=by
 unfold DH at h
 by_cases h0:0<=i
 ·rw[if_pos h0] at h
  by_cases h1:i < n
  ·rw[if_pos h1] at h
   have e:i.toNat=j:=abe h
   exact⟨by rw[seqIndex_of h0 h1,e],by omega,by omega,h1⟩
  ·rw[if_neg h1] at h;cases h
 ·rw[if_neg h0] at h
  by_cases h1 : -(n:Int)<=i
  ·rw[if_pos h1] at h
   have e:(i+n).toNat=j:=abe h
   exact⟨by rw[seqIndex_neg (by omega) h1,e],by omega,h1,by omega⟩
  ·rw[if_neg h1] at h;cases h
theorem sP {af:Type}{xs:List af}{i:Int}{v:af} (h:BS xs i=some v):∃ j,seqIndex? i xs.length=some j/\xs[j]? = some v/\j < xs.length/\-(xs.length:Int)<=i/\i < xs.length:=by
 unfold BS at h
 cases e:DH xs.length i with
 | none=>rw[e] at h;cases h
 | some j=>
  rw[e] at h
  obtain⟨h1,h2,h3,h4⟩:=wJ e
  exact⟨j,h1,h,h2,h3,h4⟩
theorem bZ {af:Type}{xs:List af}{j:Nat}{v:af} (h:xs[j]? = some v):BS xs (j:Int)=some v:=by
 have hj:j < xs.length:=(aad.mp h).1
 have e:DH xs.length (j:Int)=some j:=by
  unfold DH
  rw[if_pos (by omega),if_pos (by omega)];simp
 unfold BS;rw[e];exact h
noncomputable def DO (b:Expr):Prop:=∀ o i,subscripted b false o i=operate [o,i] (getItem o i)
noncomputable def yQ (X:Cx) (r:R2):Prop:=
 ∀ (value slice:Expr) (pins:List (Addr×Obj)) (s:Shared) (σ:St) (H:Hp) (x y:V) (v u:Value) (Q:VK),Inv X pins σ H s->bN x v->bN y u->r x y H Q->
  subscripted slice false v u=operate [v,u] (getItem v u)->wpAny (model X.prog X.w) X.A (subscriptTail value slice v u) (EP X pins σ Q) X.xe s
noncomputable def MtR (X:Cx) (id:String) (r:V->List V->Hp->VK->Prop):Prop:=
 ∀ (pins:List (Addr×Obj)) (s:Shared) (σ:St) (H:Hp) (x:V) (xs:List V) (v:Value) (us:List Value) (Q:VK),Inv X pins σ H s->bN x v->bP xs us->r x xs H Q->
  wpAny (model X.prog X.w) X.A (call (.builtin id) (v::us)) (EP X pins σ Q) X.xe s
section
variable {X:Cx}{a b:Expr}{ta tb:TE}{pos:Pos}
theorem yQ.or {r r':R2} (h:yQ X r) (h':yQ X r'):yQ X (λ x y H Q=>r x y H Q\/r' x y H Q):=by
 intro value slice pins s σ H x y v u Q I rx ry q hs
 rcases q with q | q
 ·exact h value slice pins s σ H x y v u Q I rx ry q hs
 ·exact h' value slice pins s σ H x y v u Q I rx ry q hs
theorem aQ {r:R2} (hr:yQ X r) (ha:PE X a ta) (hb:PE X b tb) (hs:DO b):PE X (.Subscript a b pos) (hU r ta tb):=by
 intro pins s σ H Q I h
 exact Subscript_ (GA ha hb I h λ v u s2 x y H2 I2 rx ry q=>hr a b pins s2 σ H2 x y v u Q I2 rx ry q (hs _ _))
noncomputable def HG (K:aaa):R2:=λ x y H Q=>∃ p xs i v,x=.ref p/\y=.int i/\bT K H p xs/\BS xs i=some v/\Q v H
noncomputable def HE (K:aaa):R2:=λ x y H Q=>∃ p xs i v,x=.ref p/\y=.int i/\bD K H p xs/\BS xs i=some v/\Q v H
noncomputable def HF:R2:=λ x y H Q=>∃ z i c,x=.str z/\y=.int i/\z.length<=sizeLine/\BS z.cps.toList i=some c/\Q (.str ⟨#[c]⟩) H
theorem DG:yQ X (HG X.K):=by
 intro value slice pins s σ H x y v u Q I rx ry h hs
 obtain⟨p,xs,i,z,rfl,rfl,hq,he,q⟩:=h
 cases rx
 obtain⟨t,rfl⟩:=ry
 obtain⟨its,r,pl,hz⟩:=I.list hq
 obtain⟨j,h1,h2,h3,h4,h5⟩:=sP he
 obtain⟨w,ew,rw'⟩:=r.get h2
 have hl:=r.length
 have hn:=oQ
 have fin:EP X pins σ Q w s:=⟨z,H,I,rw',q⟩
 by_cases h0:0<=i
 ·have hj:i.toNat=j:=by
   rw[seqIndex_of h0 h5] at h1
   exact abe h1
  exact item_listR pl.isList h0 (by omega) (by rw[hj];simpa using ew) fin hs
 ·have hj:(i+(its.toArray.size:Int)).toNat=j:=by
   rw[seqIndex_neg (by omega) h4] at h1
   rw[aam,<- hl]
   exact abe h1
  exact subscriptTail_builtinR (x:=w) pl.isList.typeIs slot_list_getitem.lookup
   (wpAny_getItem_list_neg (Q:=λ r s'=>r=w/\EP X pins σ Q r s') pl.isList (by omega) (by rw[aam] <;> omega) (by omega) (by rw[hj];simpa using ew) ⟨rfl,fin⟩) hs
theorem FT:yQ X (HE X.K):=by
 intro value slice pins s σ H x y v u Q I rx ry h hs
 obtain⟨p,xs,i,z,rfl,rfl,hq,he,q⟩:=h
 cases rx
 obtain⟨t,rfl⟩:=ry
 obtain⟨its,r,pl,hz⟩:=I.tuple hq
 obtain⟨j,h1,h2,h3,h4,h5⟩:=sP he
 obtain⟨w,ew,rw'⟩:=r.get h2
 have hl:=r.length
 have hn:=oQ
 have fin:EP X pins σ Q w s:=⟨z,H,I,rw',q⟩
 exact subscriptTail_builtinR (x:=w) pl.typeIs slot_tuple_getitem.lookup
  (getItem_tuple (j:=j) (Q:=λ r s'=>r=w/\EP X pins σ Q r s') pl (by omega) (by omega) (by rw[aam,<- hl];exact h1) (by simpa using ew) ⟨rfl,fin⟩) hs
theorem FU:yQ X HF:=by
 intro value slice pins s σ H x y v u Q I rx ry h hs
 obtain⟨z,i,c,rfl,rfl,hz,he,q⟩:=h
 obtain⟨t,rfl⟩:=rx
 obtain⟨t',rfl⟩:=ry
 obtain⟨j,h1,h2,h3,h4,h5⟩:=sP he
 have hl:z.cps.toList.length=z.length:=by simp [Str.length]
 rw[hl] at h1 h4 h5
 have hn:=oQ
 exact tail_any (typeIs_str s z t) slot_str_getitem.lookup (getItem_str (c:=c) (by
  have e1:decide (i < -(2 ^ 63:Int))=false:=decide_eq_false (by omega)
  have e2:decide (i ≥ 2 ^ 63)=false:=decide_eq_false (by omega)
  rw[e1,e2,Bool.or_false]) (by rw[h1];simpa using h2) ⟨.str ⟨#[c]⟩,H,I.tok _,⟨_,rfl⟩,q⟩) hs
noncomputable def uX (K:aaa):R2:=λ x y H Q=>HG K x y H Q\/HE K x y H Q\/HF x y H Q
theorem FV:yQ X (uX X.K):=DG.or (FT.or FU)
theorem vI (its:List Value) (n j:Nat) (u:Value):Obj.mapSeq (·.setIfInBounds j u) { cls:=.type "list",data:=.seq its.toArray n }={ cls:=.type "list",data:=.seq (its.set j u).toArray n }:=by
 simp [Obj.mapSeq]
theorem Inv.lst {pins:List (Addr×Obj)}{σ:St}{H:Hp}{s:Shared}{p:Addr}{xs:List V} (I:Inv X pins σ H s) (h:H p=some (.lst xs)) :
  ∃ (its:List Value) (n:Nat),bP xs its/\s.heap.get? p=some { cls:=.type "list",data:=.seq its.toArray n }/\xs.length<=sizeLine:=by
 obtain⟨z,its,n,r,e⟩:=I.hok p _ h
 exact⟨its,n,r,e,z⟩
theorem Inv.lstUpd {pins:List (Addr×Obj)}{σ:St}{H:Hp}{s:Shared}{p:Addr}{xs ys:List V}{its its':List Value}{n n':Nat}{f:Obj->Obj} (I:Inv X pins σ H s) (h:H p=some (.lst xs))
  (ho:s.heap.get? p=some { cls:=.type "list",data:=.seq its.toArray n }) (hf:f { cls:=.type "list",data:=.seq its.toArray n }={ cls:=.type "list",data:=.seq its'.toArray n' }) (r:bP ys its') (hz:ys.length<=sizeLine) (t:Nat) :
  Inv X pins σ (upd H p (.lst ys)) { s with heap:=s.heap.update p f,toks:=t }:=by
 have e:(s.heap.update p f).get? p=some { cls:=.type "list",data:=.seq its'.toArray n' }:=by
  rw[Heap.get?_update_self f ho (by rw[hf] <;> rfl),hf]
 refine I.write (x:=p) (e:=p) (by rw[h];trivial) (.inl rfl) (λ b u hb q=>(Heap.get?_update_other _ _ (Ne.symm hb)).trans q) ⟨_,e⟩ ?_
 exact⟨hz,its',n',r,e⟩
noncomputable def tI:V->V->V->Hp->(Hp->Prop)->Prop:=λ o i v H Q=>∃ p xs k j,o=.ref p/\i=.int k/\H p=some (.lst xs)/\DH xs.length k=some j/\Q (upd H p (.lst (xs.set j v)))
theorem fZ:GD X tI:=by
 intro pins s σ H o i v ov iv u Q I ro ri rv h
 obtain⟨p,xs,k,j,rfl,rfl,hp,hj,q⟩:=h
 cases ro
 obtain⟨t,rfl⟩:=ri
 obtain⟨its,n,r,ho,hz⟩:=I.lst hp
 obtain⟨h1,h2,h3,h4⟩:=wJ hj
 have hl:=r.length
 have hn:=oQ
 have I':Inv X pins σ (upd H p (.lst (xs.set j v))) { s with heap:=s.heap.update p (Obj.mapSeq (·.setIfInBounds j u)) }:=
  I.lstUpd hp ho (vI its n j u) (r.set rv j) (by rw[List.length_set];exact hz) s.toks
 by_cases h0:0<=k
 ·have hk:k.toNat=j:=by
   rw[seqIndex_of h0 h4] at h1
   exact abe h1
  exact PySem.W.ki_setAt ho h0 (by omega) (by rw[aam,<- hl];exact h4) (by rw[hk];exact⟨_,I',q⟩)
 ·have hk:(k+(its.toArray.size:Int)).toNat=j:=by
   rw[seqIndex_neg (by omega) h3] at h1
   rw[aam,<- hl]
   exact abe h1
  exact PySem.W.ki_setBack ho (by omega) (by rw[aam,<- hl];exact h3) (by omega) (by rw[hk];exact⟨_,I',q⟩)
theorem rF (lo hi:Option Int) (n:Nat):(sliceBounds lo hi none n).1=((HT.sIx n 0 lo:Nat):Int)/\(sliceBounds lo hi none n).2.1=((HT.sIx n n hi:Nat):Int)/\(sliceBounds lo hi none n).2.2=1:=by
 refine⟨?_,?_,rfl⟩
 ·cases lo with
  | none=>simp [sliceBounds,HT.sIx]
  | some i=>
   simp only [sliceBounds,HT.sIx,Option.getD_none,show (1:Int) > 0 by decide,if_true]
   by_cases h:i < 0
   ·simp only [h,if_true] <;> omega
   ·simp only [h,if_false] <;> omega
 ·cases hi with
  | none=>simp [sliceBounds,HT.sIx]
  | some i=>
   simp only [sliceBounds,HT.sIx,Option.getD_none,show (1:Int) > 0 by decide,if_true]
   by_cases h:i < 0
   ·simp only [h,if_true] <;> omega
   ·simp only [h,if_false] <;> omega
theorem pG (its:List Value) (lo hi:Option Int):slicePick its.toArray lo hi none=((its.drop (HT.sIx its.length 0 lo)).take (HT.sIx its.length its.length hi - HT.sIx its.length 0 lo)).toArray:=by
 obtain⟨h1,h2,h3⟩:=rF lo hi its.toArray.size
 unfold slicePick
 rw[h1,h2,h3]
 simp only [sliceRange_one,pick_run,aam] <;> rfl
noncomputable def HC (K:aaa):V->Option Int->Option Int->Hp->VK->Prop:=λ x lo hi H Q=>∃ a xs,x=.ref a/\bT K H a xs/\∀ p,H p=none->Q (.ref p) (upd H p (.lst (kL xs lo hi)))
theorem CM:IE X (HC X.K):=by
 intro pins s σ H x v vl vu lo hi sl Q I rx hs pl pu h
 obtain⟨a,xs,rfl,hx,q⟩:=h
 cases rx
 obtain⟨its,r,ht,hz⟩:=I.list hx
 have hlen:=r.length
 refine⟨"list",_,slot_list_getitem.lookup,ht.isList.typeIs,?_⟩
 refine wpAny_getItem_list_slice ht.isList hs pl pu .none (by simp) ?_ (by rw[aam] <;> omega)
 rw[pG,<- hlen]
 refine⟨.ref s.heap.objs.size,_,I.laid (t':=s.toks) (o:=.lst (kL xs lo hi)) (λ b ob q=>aab _ q) (Nat.le_refl _) ?_,rfl,q _ (I.hok.fresh (Nat.le_refl _))⟩
 exact⟨abp (n8 xs lo hi) hz,_,0,(r.drop (HT.sIx xs.length 0 lo)).take (HT.sIx xs.length xs.length hi - HT.sIx xs.length 0 lo),aag _ rfl⟩
noncomputable def iH:V->Bool
 | .non=>true
 | .bl _=>true
 | .int _=>true
 | .str _=>true
 | _=>false
noncomputable def yN:V->V->Bool
 | .non,.non=>true
 | .bl a,.bl b=>a == b
 | .bl a,.int b=>(if a then 1 else 0) == b
 | .int a,.bl b=>a == (if b then 1 else 0)
 | .int a,.int b=>a == b
 | .str a,.str b=>a == b
 | _,_=>false
theorem G7 {A:Around}{s:Shared}{y x:V}{u v:Value} (ry:bN y u) (rx:bN x v) (fy:iH y=true) (fx:iH x=true):SeqAt.EqAt A s u v (yN y x):=by
 cases y with
 | non=>
  cases ry
  cases x with
  | non=>cases rx;exact SeqAt.EqAt.same _
  | bl b=>cases rx;exact SeqAt.EqAt.none_bool b
  | int b=>obtain⟨t,rfl⟩:=rx;exact SeqAt.EqAt.none_int b t
  | str b=>obtain⟨t,rfl⟩:=rx;exact SeqAt.EqAt.none_str b t
  | _=>exact absurd (show false=true from fx) aaf
 | bl a=>
  cases ry
  cases x with
  | non=>cases rx;exact SeqAt.EqAt.bool_none a
  | bl b=>cases rx;exact SeqAt.EqAt.bool_bool a b
  | int b=>obtain⟨t,rfl⟩:=rx;exact SeqAt.EqAt.bool_int a b t
  | str b=>obtain⟨t,rfl⟩:=rx;exact SeqAt.EqAt.bool_str a b t
  | _=>exact absurd (show false=true from fx) aaf
 | int a=>
  obtain⟨t',rfl⟩:=ry
  cases x with
  | non=>cases rx;exact SeqAt.EqAt.int_none a t'
  | bl b=>cases rx;exact SeqAt.EqAt.int_bool a t' b
  | int b=>obtain⟨t,rfl⟩:=rx;exact SeqAt.EqAt.int_int a t' b t
  | str b=>obtain⟨t,rfl⟩:=rx;exact SeqAt.EqAt.int_str a t' b t
  | _=>exact absurd (show false=true from fx) aaf
 | str a=>
  obtain⟨t',rfl⟩:=ry
  cases x with
  | non=>cases rx;exact SeqAt.EqAt.str_none a t'
  | bl b=>cases rx;exact SeqAt.EqAt.str_bool a t' b
  | int b=>obtain⟨t,rfl⟩:=rx;exact SeqAt.EqAt.str_int a t' b t
  | str b=>obtain⟨t,rfl⟩:=rx;exact SeqAt.EqAt.str_str a t' b t
  | _=>exact absurd (show false=true from fx) aaf
 | _=>exact absurd (show false=true from fy) aaf
noncomputable def yO (x:V) (u:Value):Bool:=match u with
 | .none=>yN .non x
 | .bool b=>yN (.bl b) x
 | .int i _=>yN (.int i) x
 | .str z _=>yN (.str z) x
 | _=>false
theorem sJ {x y:V}{u:Value} (r:bN y u) (f:iH y=true):yO x u=yN y x:=by
 cases y with
 | non=>cases r;rfl
 | bl b=>cases r;rfl
 | int i=>obtain⟨t,rfl⟩:=r;rfl
 | str z=>obtain⟨t,rfl⟩:=r;rfl
 | _=>exact absurd (show false=true from f) aaf
theorem sQ {x:V}:∀ {xs:List V}{us:List Value},bP xs us->xs.all iH=true->us.any (yO x)=xs.any λ y=>yN y x
 | _,_,.nil,_=>rfl
 | y::xs,u::us,.cons r t,f=>by
  rw[List.all_cons,Bool.and_eq_true] at f
  rw[List.any_cons,List.any_cons,sJ r f.1,sQ t f.2]
theorem lL {A:Around}{s:Shared}{x:V}{v:Value} (rx:bN x v) (fx:iH x=true):∀ {xs:List V}{us:List Value},bP xs us->xs.all iH=true->∀ u∈us,SeqAt.EqAt A s u v (yO x u)
 | _,_,.nil,_=>λ u hu=>by cases hu
 | y::xs,u::us,.cons r t,f=>λ u' hu=>by
  rw[List.all_cons,Bool.and_eq_true] at f
  rcases List.mem_cons.mp hu with rfl | hu
  ·rw[sJ r f.1];exact G7 r rx f.1 fx
  ·exact lL rx fx t f.2 u' hu
noncomputable def inV (x:V) (xs:List V):Bool:=xs.any λ y=>yN y x
noncomputable def rIn (K:aaa) (neg:Bool):R2:=λ x y H Q=>∃ p xs,y=.ref p/\(bT K H p xs\/bD K H p xs)/\iH x=true/\xs.all iH=true/\Q (.bl (if neg then !inV x xs else inV x xs)) H
theorem xK:iN X (compareOp .In) (rIn X.K false):=by
 intro pins s σ H x y v u Q I rx ry h
 obtain⟨p,xs,rfl,hq,fx,fs,q⟩:=h
 cases ry
 rcases hq with hq | hq
 ·obtain⟨its,r,pl,hz⟩:=I.list hq
  refine SeqAt.in_listAt (yO x) pl.isList (λ w hw=>lL rx fx r fs w (by simpa using hw)) ⟨.bl _,H,I,rfl,?_⟩
  rw[show its.toArray.any (yO x)=its.any (yO x) by simp,sQ r fs]
  exact q
 ·obtain⟨its,r,pl,hz⟩:=I.tuple hq
  refine SeqAt.in_tupleAt (yO x) pl (λ w hw=>lL rx fx r fs w (by simpa using hw)) ⟨.bl _,H,I,rfl,?_⟩
  rw[show its.toArray.any (yO x)=its.any (yO x) by simp,sQ r fs]
  exact q
theorem sO:eN X (.builtin "len") (λ xs H Q=>∃ p ys,xs=[.ref p]/\(bT X.K H p ys\/bD X.K H p ys)/\Q (.int ys.length) H):=by
 intro pins s σ H xs us Q I r h
 obtain⟨p,ys,rfl,hq,q⟩:=h
 obtain⟨u,rfl,rx⟩:=nU r
 cases rx
 have hn:=oQ
 rcases hq with hq | hq
 ·obtain⟨its,r',pl,hz⟩:=I.list hq
  have hlen:=r'.length
  exact Calls.call_len_list pl.isList (by simp only [aam] <;> omega) ⟨.int ys.length,H,I.tok _,⟨s.toks+1,by rw[aam,hlen]⟩,q⟩
 ·obtain⟨its,r',pl,hz⟩:=I.tuple hq
  have hlen:=r'.length
  exact len_tuple pl (by simp only [aam] <;> omega) ⟨.int ys.length,H,I.tok _,⟨s.toks+1,by rw[aam,hlen]⟩,q⟩
theorem sN:eN X (.type "list") (λ xs H Q=>∃ p ys,xs=[.ref p]/\(bT X.K H p ys\/bD X.K H p ys)/\∀ l,H l=none->Q (.ref l) (upd H l (.lst ys))):=by
 intro pins s σ H xs us Q I r h
 obtain⟨p,ys,rfl,hq,q⟩:=h
 obtain⟨u,rfl,rx⟩:=nU r
 cases rx
 have fin:∀ (its:List Value),bP ys its->ys.length<=sizeLine->∀ (h':Heap) (c':Nat),(∀ b o',s.heap.get? b=some o'->h'.get? b=some o')->
   h'.get? s.heap.objs.size=some { cls:=.type "list",dict:=none,data:=.seq its.toArray c',slots:=#[] }->EP X pins σ Q (.ref s.heap.objs.size) { s with heap:=h' }:=λ its r' hz h' c' kp e=>
  ⟨.ref s.heap.objs.size,_,I.laid (t':=s.toks) kp (Nat.le_refl _) (show cC X.prog X.w _ h' _ (.lst ys) from ⟨hz,its,c',r',e⟩),rfl,q _ (I.hok.fresh (Nat.le_refl _))⟩
 rcases hq with hq | hq
 ·obtain⟨its,r',pl,hz⟩:=I.list hq
  have hlen:=r'.length
  obtain⟨o,ho,hc,n,hd⟩:=pl.isList
  exact call_list_seq p (.inl rfl) ho hc hd (λ h' c' kp e=>fin its r' hz h' c' kp e) (by simp only [aam] <;> omega)
 ·obtain⟨its,r',pl,hz⟩:=I.tuple hq
  have hlen:=r'.length
  obtain⟨o,ho,hc,n,hd⟩:=pl
  exact call_list_seq p (.inr rfl) ho hc hd (λ h' c' kp e=>fin its r' hz h' c' kp e) (by simp only [aam] <;> omega)
theorem pR:eN X (.type "tuple") (λ xs H Q=>∃ p ys,xs=[.ref p]/\((bT X.K H p ys/\∀ l,H l=none->Q (.ref l) (upd H l (.tup ys)))\/(bD X.K H p ys/\Q (.ref p) H))):=by
 intro pins s σ H xs us Q I r h
 obtain⟨p,ys,rfl,h⟩:=h
 obtain⟨u,rfl,rx⟩:=nU r
 cases rx
 rcases h with ⟨hq,q⟩ | ⟨hq,q⟩
 ·obtain⟨its,r',pl,hz⟩:=I.list hq
  have hlen:=r'.length
  refine call_tuple_list pl.isList (λ h' kp=>?_) (by simp only [aam] <;> omega)
  have I1:Inv X pins σ H { s with heap:=h' }:=I.kept (t':=s.toks) kp
  have I2:Inv X pins σ (upd H h'.objs.size (.tup ys)) { s with heap:=h'.push { cls:=.type "tuple",data:=.seq its.toArray } }:=
   I1.laid (t':=s.toks) (λ b o e=>aab _ e) (Nat.le_refl _) (show cC X.prog X.w _ _ _ (.tup ys) from ⟨hz,its,r',IsTup.new _ _⟩)
  exact⟨.ref h'.objs.size,_,I2,rfl,q _ (I1.hok.fresh (Nat.le_refl _))⟩
 ·obtain⟨its,r',pl,hz⟩:=I.tuple hq
  exact call_tuple_same pl ⟨.ref p,H,I,rfl,q⟩
noncomputable def tyV (K:aaa) (T:String) (x:V) (H:Hp):Prop:=match x with
 | .str _=>T = "str"
 | .int _=>T = "int"
 | .ref p=>(T = "list" /\ ∃ xs,bT K H p xs)\/(T = "tuple" /\ ∃ o,K.lookup p=some o/\o.cls=.type "tuple" /\ o.dict=none)\/
   (T = "dict" /\ ((∃ kvs,H p=some (.dK kvs))\/∃ kvs,H p=some (.dT kvs)))\/(T = "set" /\ ∃ S n,H p=some (.set S n))
 | _=>False
theorem EI {pins:List (Addr×Obj)}{σ:St}{H:Hp}{s:Shared}{T:String}{x:V}{v:Value} (I:Inv X pins σ H s) (r:bN x v) (ty:tyV X.K T x H) :
  s.TypeIs v T/\∀ a,v=.ref a->∃ ob,s.heap.get? a=some ob/\ob.dict=none:=by
 cases x with
 | str z=>
  obtain⟨t,rfl⟩:=r
  cases (show T = "str" from ty)
  exact⟨typeIs_str s z t,λ _ e=>nomatch e⟩
 | int i=>
  obtain⟨t,rfl⟩:=r
  cases (show T = "int" from ty)
  exact⟨typeIs_int s i t,λ _ e=>nomatch e⟩
 | ref p=>
  cases r
  rcases ty with ⟨rfl,xs,hq⟩ | ⟨rfl,o,hk,hc,hd⟩ | ⟨rfl,hk⟩ | ⟨rfl,S,n,hk⟩
  ·obtain⟨its,_,pl,_⟩:=I.list hq
   refine⟨pl.isList.typeIs,λ a e=>?_⟩
   cases e
   obtain⟨o,n,e,c,hd,_⟩:=pl
   exact⟨o,e,hd⟩
  ·refine⟨⟨o,I.kIn p o hk,hc⟩,λ a e=>?_⟩
   cases e
   exact⟨o,I.kIn _ o hk,hd⟩
  ·have z:∃ o,s.heap.get? p=some o/\o.ExactDict:=by
    rcases hk with ⟨kvs,hk⟩ | ⟨kvs,hk⟩
    ·obtain⟨_,_,_,_,o,_,_,e,ex,_⟩:=I.hok p _ hk
     exact⟨o,e,ex⟩
    ·obtain⟨_,_,_,_,o,_,_,e,ex,_⟩:=I.hok p _ hk
     exact⟨o,e,ex⟩
   obtain⟨o,e,ex⟩:=z
   refine⟨⟨o,e,ex.1⟩,λ a e2=>?_⟩
   cases e2
   exact⟨o,e,ex.2.1⟩
  ·obtain⟨o,_,_,_,e,ex,_⟩:=I.hok p _ hk
   refine⟨⟨o,e,ex.1⟩,λ a e2=>?_⟩
   cases e2
   exact⟨o,e,ex.2.1⟩
 | _=>exact False.elim ty
noncomputable def tBM (K:aaa) (T:String) (r:V->List V->Hp->VK->Prop) (to:TE) (t:TA):TE:=λ σ H Q=>to σ H λ x H1=>tyV K T x H1/\t σ H1 λ xs H2=>r x xs H2 Q
variable {o e:Expr}{es:List Expr}{to:TE}{t:TA}{name:Str}{apos cpos:Pos}{T id:String}{r:V->List V->Hp->VK->Prop}
theorem HM (pa:PlainAttrs T) (slot:Slot T name id) (hty:typeOf (.builtin id)=pure (.type "method_descriptor")) (hm:MtR X id r) (ho:PE X o to) (ha:PA X (e::es) t)
  (hbase:attributeBase o name X.env (eval o X.env)=eval o X.env:=by rfl)
  (hfew:((backTo cpos (starEach (e::es) X.env)).all (λ x=>!x.1) && (backToKw cpos (keywordEach [] X.env)).all (λ x=>x.1.isSome)
   && decide ((e::es).length+([]:List Keyword).length+(if ([]:List Keyword).isEmpty then 0 else 1) < 30))=true:=by rfl)
  (hline:(apos.endLine == cpos.line)=true:=by rfl) (hs:starEach (e::es) X.env=(false,eval e X.env)::starEach es X.env:=by rfl) (hplain:(backTo cpos (starEach es X.env)).any (·.1)=false:=by rfl) :
  PE X (.Call (.Attribute o name apos) (e::es) [] cpos) (tBM X.K T r to t):=by
 intro pins s σ H Q I h
 refine wpAny_Call_method_late hbase hfew hline rfl (cQ (ho pins s σ H _ I h) λ v s1 ⟨x,H1,I1,r1,ty,q1⟩=>?_)
 obtain⟨h1,h2⟩:=EI I1 r1 ty
 refine⟨T,id,pa,slot,hty,h1,h2,?_⟩
 have hA:=ha cpos pins s1 σ H1 _ I1 q1
 rw[hs] at hA ⊢
 refine Calls.callWith_builtin (by show (false || (backTo cpos (starEach es X.env)).any (·.1))=false;rw[hplain] <;> rfl) (Calls.evalArgs_plain ?_)
 exact cQ hA λ us s2 ⟨vs,H2,I2,r2,q2⟩=>hm pins s2 σ H2 x vs v us Q I2 r1 r2 q2
end
end L2
namespace L2
open PySem PySem.Spec PyProof.Rows
noncomputable def MtM (X:Cx) (id:String) (r:V->List V->Hp->VK->Prop):Prop:=
 ∀ (pins:List (Addr×Obj)) (s:Shared) (σ:St) (H:Hp) (x:V) (xs:List V) (v:Value) (us:List Value) (Q:VK),Inv X pins σ H s->bN x v->bP xs us->r x xs H Q->
  wpAny (model X.prog X.w) X.A (call (.builtin id) (v::us)) (EP X pins σ Q) X.xe s
theorem bP.one {x:V}{us:List Value} (h:bP [x] us):∃ u,us=[u]/\bN x u:=nU h
theorem bP.two {x y:V}{us:List Value} (h:bP [x,y] us):∃ u v,us=[u,v]/\bN x u/\bN y v:=yV h
theorem bP.rep {xs:List V}{us:List Value} (h:bP xs us):∀ k:Nat,bP (List.replicate k xs).flatten (List.replicate k us).flatten
 | 0=>.nil
 | k+1=>by
  rw[List.replicate_succ,List.replicate_succ,List.flatten_cons,List.flatten_cons]
  exact bP.append h (bP.rep h k)
theorem mQ (its:List Value):∀ (k:Nat) (acc:List Value),
  List.foldl (λ x1 x2=>x1++x2) acc.toArray (List.replicate k its.toArray)=(acc++(List.replicate k its).flatten).toArray
 | 0,acc=>by simp
 | k+1,acc=>by
  have e:acc.toArray++its.toArray=(acc++its).toArray:=by simp
  have e2:(acc++its)++(List.replicate k its).flatten=acc++(List.replicate (k+1) its).flatten:=by
   rw[List.replicate_succ,List.flatten_cons,abr]
  rw[<- e2,<- mQ its k (acc++its),<- e,List.replicate_succ,List.foldl_cons]
section
variable {X:Cx}{pins:List (Addr×Obj)}{σ:St}{H:Hp}{s:Shared}{l b:Addr}{xs ys zs:List V}
theorem Inv.lset {its its':List Value}{n:Nat}{f:Array Value->Array Value}{t':Nat} (I:Inv X pins σ H s) (hH:H l=some (.lst xs))
  (e:s.heap.get? l=some { cls:=.type "list",data:=.seq its.toArray n }) (hf:f its.toArray=its'.toArray) (hv:bP ys its') (hz:ys.length<=sizeLine) :
  Inv X pins σ (upd H l (.lst ys)) { s with heap:=s.heap.update l (Obj.mapSeq f),toks:=t' }:=by
 have q:=PySem.IsL.update e f
 rw[hf] at q
 refine I.write (x:=l) (e:=l) (by rw[hH];exact trivial) (.inl rfl) (λ b' u hb hu=>(Heap.get?_update_other s.heap (Obj.mapSeq f) (Ne.symm hb)).trans hu) ⟨_,q⟩ ?_
 exact⟨hz,its',_,hv,q⟩
theorem Inv.lnew {its:List Value}{t':Nat} (I:Inv X pins σ H s) (hv:bP ys its) (hz:ys.length<=sizeLine) :
  Inv X pins σ (upd H s.heap.objs.size (.lst ys)) { s with heap:=s.heap.push { cls:=.type "list",data:=.seq its.toArray },toks:=t' }:=
 I.laid (λ _ _ q=>aab _ q) (Nat.le_refl _) ⟨hz,its,0,hv,aag _ rfl⟩
theorem Inv.fresh (I:Inv X pins σ H s):H s.heap.objs.size=none:=I.hok.fresh (Nat.le_refl _)
theorem Inv.lstM (I:Inv X pins σ H s) (hH:H l=some (.lst xs)):xs.length<=sizeLine/\∃ (its:List Value) (n:Nat),bP xs its/\xs.length=its.length/\s.heap.get? l=some { cls:=.type "list",data:=.seq its.toArray n }:=by
 obtain⟨z,its,n,r,e⟩:=I.hok l _ hH
 exact⟨z,its,n,r,r.length,e⟩
theorem AF {n:Nat} (h:n<=sizeLine):Builtin.List.listTooLong n=false:=by
 unfold Builtin.List.listTooLong
 exact decide_eq_false (by omega)
end
section
variable {X:Cx}
noncomputable def CS:V->List V->Hp->VK->Prop:=λ x vs H Q=>∃ l xs y,x=.ref l/\vs=[y]/\H l=some (.lst xs)/\xs.length < sizeLine/\Q .non (upd H l (.lst (xs++[y])))
theorem cD:MtM X "list.append" CS:=by
 intro pins s σ H x vs v us Q I rx rv h
 obtain⟨l,xs,y,rfl,rfl,hH,hz,q⟩:=h
 cases rx
 obtain⟨u,rfl,ru⟩:=rv.one
 obtain⟨z,its,n,r,hl,e⟩:=I.lstM hH
 refine call_meets F.slot_list_append ⟨_,e,rfl⟩ F.entry_list_append (F.args_list_append_2 _ _) (PySem.list_append l its.toArray n u (by rw[aam];omega)) ⟨e,?_⟩
 refine⟨.non,_,I.lset (its':=its++[u]) hH e (by simp) (r.append (.cons ru .nil)) ?_,rfl,q⟩
 rw[aak,List.length_singleton]
 omega
noncomputable def rCat:R2:=λ x y H Q=>∃ l b xs zs,x=.ref l/\y=.ref b/\H l=some (.lst xs)/\H b=some (.lst zs)/\xs.length+zs.length<=sizeLine/\∀ p,H p=none->Q (.ref p) (upd H p (.lst (xs++zs)))
theorem kG:iN X (binaryOp .Add) rCat:=by
 intro pins s σ H x y v u Q I rx ry h
 obtain⟨l,b,xs,zs,rfl,rfl,hH,hB,hz,q⟩:=h
 cases rx
 cases ry
 obtain⟨z,its,n,r,hl,e⟩:=I.lstM hH
 obtain⟨z2,its2,n2,r2,hl2,e2⟩:=I.lstM hB
 refine PySem.P.add_list e e2 ?_ (by rw[aam,aam];omega)
 have ea:its.toArray++its2.toArray=(its++its2).toArray:=by simp
 rw[ea]
 exact⟨.ref _,_,I.lnew (t':=s.toks) (r.append r2) (by rw[aak];omega),rfl,q _ I.fresh⟩
noncomputable def rRep:R2:=λ x y H Q=>∃ l k xs,x=.ref l/\y=.int k/\H l=some (.lst xs)/\-(2 ^ 63)<=k/\k < 2 ^ 63/\xs.length * k.toNat<=sizeLine/\
 ∀ p,H p=none->Q (.ref p) (upd H p (.lst (List.replicate k.toNat xs).flatten))
theorem sB {af:Type} (xs:List af) (k:Nat):(List.replicate k xs).flatten.length=k * xs.length:=by
 induction k with
 | zero=>simp
 | succ k ih=>rw[List.replicate_succ,List.flatten_cons,aak,ih,Nat.succ_mul,Nat.add_comm]
theorem FK:iN X (binaryOp .Mult) rRep:=by
 intro pins s σ H x y v u Q I rx ry h
 obtain⟨l,k,xs,rfl,rfl,hH,h1,h2,hz,q⟩:=h
 cases rx
 obtain⟨t,rfl⟩:=ry
 obtain⟨z,its,n,r,hl,e⟩:=I.lstM hH
 have hlen:its.toArray.size * k.toNat<=sizeLine:=by rw[aam,<- hl];exact hz
 have hcap:¬ its.toArray.size * k.toNat > (2 ^ 63 - 1) / 8:=by
  have:(sizeLine:Nat)<=(2 ^ 63 - 1) / 8:=by decide
  omega
 have hfit:¬ (!Builtin.List.listFitsIndex k)=true:=by
  rw[fitsIndex_both h1 h2]
  exact aaf
 have hlong:¬ Builtin.List.listTooLong (its.toArray.size * k.toNat)=true:=by
  rw[AF hlen]
  exact aaf
 have hnew:List.foldl (λ x1 x2=>x1++x2) #[] (List.replicate (if its.toArray.isEmpty=true then 0 else k.toNat) its.toArray)=(List.replicate k.toNat its).flatten.toArray:=by
  have f0:∀ m:Nat,List.foldl (λ x1 x2=>x1++x2) #[] (List.replicate m its.toArray)=(List.replicate m its).flatten.toArray:=λ m=>by
   have:=mQ its m []
   rw[List.nil_append] at this
   exact this
  rw[f0]
  cases its with
  | nil=>simp
  | cons a r'=>rw[if_neg (by simp)]
 refine wpAny_binaryOp_repeat_ref (T := "list") (U := "int") (by decide) ⟨_,e,rfl⟩ (λ s'=>typeIs_int s' k t) noFill_list_mul F.fills_int_mul F.slot_int_rmul repeat_list F.slot_int_index.lookup
  (call_meets F.slot_int_rmul (typeIs_int s k t) F.entry_int_rmul (F.args_int_rmul_2 _ _) (int___rmul___int_list k t l its.toArray n)
   ⟨e,rfl,⟨_,e,rfl⟩,call_meets F.slot_list_mul ⟨_,e,rfl⟩ F.entry_list_mul (F.args_list_mul_2 _ _) (AutoListH.list___mul___list_int_3 l its.toArray n k t hfit hcap hlong) ⟨e,?_⟩⟩)
 rw[hnew]
 exact⟨.ref _,_,I.lnew (t':=s.toks) (r.rep k.toNat) (by rw[sB,Nat.mul_comm];exact hz),rfl,q _ I.fresh⟩
end
section
variable {prog:Program}{w:World}{A:Around}{E:Value->Shared->Prop}{s:Shared}
end
section
variable {X:Cx}
end
end L2
namespace L2
open PySem PySem.Spec PyProof.Rows
section
variable {au:Type} [DecidableEq au]
noncomputable def dM (kvs:List (au×V)) (k:au):Option V:=(kvs.find? λ kv=>decide (kv.1=k)).map (·.2)
noncomputable def gW (kvs:List (au×V)) (k:au) (v:V):List (au×V):=
 if (kvs.any λ kv=>decide (kv.1=k))=true then kvs.map (λ kv=>if kv.1=k then (kv.1,v) else kv) else kvs++[(k,v)]
theorem dI {p:au×V}{r:List (au×V)}{k:au} (e:p.1=k):dM (p::r) k=some p.2:=by simp [dM,List.find?_cons,e]
theorem dJ {p:au×V}{r:List (au×V)}{k:au} (e:¬ p.1=k):dM (p::r) k=dM r k:=by simp [dM,List.find?_cons,e]
theorem gQ (k:au):∀ kvs:List (au×V),(kvs.any λ kv=>decide (kv.1=k))=(dM kvs k).isSome
 | []=>rfl
 | p::r=>by
  rw[List.any_cons]
  by_cases e:p.1=k
  ·simp only [dI e,decide_eq_true e,Bool.true_or,Option.isSome_some]
  ·rw[dJ e,decide_eq_false e,Bool.false_or];exact gQ k r
theorem sY (k j:au) (y:V):∀ kvs:List (au×V),dM (kvs.map λ kv=>if kv.1=k then (kv.1,y) else kv) j=(dM kvs j).map λ x=>if j=k then y else x
 | []=>rfl
 | p::r=>by
  have ih:=sY k j y r
  rw[abb]
  by_cases h:p.1=k
  ·rw[if_pos h]
   by_cases e:p.1=j
   ·rw[dI (p:=(p.1,y)) e,dI e,Option.map_some,if_pos (e.symm.trans h)]
   ·rw[dJ (p:=(p.1,y)) e,dJ e,ih]
  ·rw[if_neg h]
   by_cases e:p.1=j
   ·rw[dI (p:=p) e,dI e,Option.map_some,if_neg (λ z=>h (e.trans z))]
   ·rw[dJ (p:=p) e,dJ e,ih]
theorem pV (k j:au) (y:V):∀ kvs:List (au×V),dM kvs k=none->dM (kvs++[(k,y)]) j=if j=k then some y else dM kvs j
 | [],_=>by
  by_cases e:k=j
  ·rw[if_pos e.symm];exact dI (p:=(k,y)) e
  ·rw[if_neg (λ z=>e z.symm)];exact dJ (p:=(k,y)) e
 | p::r,hn=>by
  rw[List.cons_append]
  have hk:¬ p.1=k:=λ z=>by rw[dI z] at hn;cases hn
  rw[dJ hk] at hn
  have ih:=pV k j y r hn
  by_cases e:p.1=j
  ·rw[dI e,dI e,if_neg (λ z=>hk (e.trans z))]
  ·rw[dJ e,dJ e,ih]
theorem sX (kvs:List (au×V)) (k j:au) (y:V):dM (gW kvs k y) j=if j=k then some y else dM kvs j:=by
 unfold gW
 by_cases a:(kvs.any λ kv=>decide (kv.1=k))=true
 ·rw[if_pos a,sY]
  rw[gQ] at a
  by_cases e:j=k
  ·obtain⟨x,hx⟩:=Option.isSome_iff_exists.mp a
   rw[if_pos e,e,hx,Option.map_some,if_pos rfl]
  ·rw[if_neg e]
   cases dM kvs j with
   | none=>rfl
   | some x=>rw[Option.map_some,if_neg e]
 ·rw[if_neg a]
  refine pV k j y kvs ?_
  rw[gQ] at a
  cases q:dM kvs k with
  | none=>rfl
  | some x=>rw[q] at a;exact (a rfl).elim
theorem fM (kvs:List (au×V)) (k:au) (v:V):(gW kvs k v).length<=kvs.length+1:=by
 unfold gW
 split
 ·rw[aac];omega
 ·rw[aak,abi,List.length_nil];omega
theorem zU {kvs:List (au×V)}{k:au} (v:V) (h:dM kvs k=none):gW kvs k v=kvs++[(k,v)]:=by
 unfold gW
 rw[gQ,h]
 exact if_neg (by decide)
theorem mV.isSome_eq {o:Option V}{u:Option Value} (r:mV o u):o.isSome=u.isSome:=by
 cases o with
 | none=>cases u with
  | none=>rfl
  | some _=>exact (show False from r).elim
 | some _=>cases u with
  | none=>exact (show False from r).elim
  | some _=>rfl
theorem mV.getD {o:Option V}{u:Option Value}{d:V}{d':Value} (r:mV o u) (rd:bN d d'):bN (o.getD d) (u.getD d'):=by
 cases o with
 | none=>cases u with
  | none=>exact rd
  | some _=>exact (show False from r).elim
 | some _=>cases u with
  | none=>exact (show False from r).elim
  | some _=>exact r
theorem KV.val {kvs:List (au×V)}{vs:List (au×Value)} (r:KV kvs vs) (k:au):mV (dM kvs k) (valueAt vs k):=by
 unfold KV at r
 induction r with
 | nil=>exact True.intro
 | @cons p q ps qs h t ih=>
  obtain⟨h1,h2⟩:=h
  by_cases e:p.1=k
  ·have e':q.1=k:=h1.symm.trans e
   have b:valueAt (q::qs) k=some q.2:=by simp [valueAt,List.find?_cons,e']
   rw[dI e,b];exact h2
  ·have e':¬ q.1=k:=λ z=>e (h1.trans z)
   have b:valueAt (q::qs) k=valueAt qs k:=by simp [valueAt,List.find?_cons,e']
   rw[dJ e,b];exact ih
theorem KV.any {kvs:List (au×V)}{vs:List (au×Value)} (r:KV kvs vs) (k:au):(kvs.any λ kv=>decide (kv.1=k))=vs.any λ kv=>decide (kv.1=k):=by
 unfold KV at r
 induction r with
 | nil=>rfl
 | cons h t ih=>rw[List.any_cons,List.any_cons,ih,h.1]
theorem KV.repl {kvs:List (au×V)}{vs:List (au×Value)} (r:KV kvs vs) (k:au) {y:V}{u:Value} (ry:bN y u) :
  KV (kvs.map λ kv=>if kv.1=k then (kv.1,y) else kv) (vs.map λ kv=>if kv.1=k then (kv.1,u) else kv):=by
 unfold KV at r ⊢
 induction r with
 | nil=>exact .nil
 | @cons p q ps qs h t ih=>
  rw[abb,abb]
  refine .cons ?_ ih
  obtain⟨h1,h2⟩:=h
  by_cases e:p.1=k
  ·rw[if_pos e,if_pos (h1.symm.trans e)];exact⟨h1,ry⟩
  ·rw[if_neg e,if_neg (λ z=>e (h1.trans z))];exact⟨h1,h2⟩
theorem KV.put {kvs:List (au×V)}{vs:List (au×Value)} (r:KV kvs vs) (k:au) {y:V}{u:Value} (ry:bN y u):KV (gW kvs k y) (stored vs k u):=by
 unfold gW stored
 rw[r.any k]
 by_cases e:(vs.any λ kv=>decide (kv.1=k))=true
 ·rw[if_pos e,if_pos e];exact r.repl k ry
 ·rw[if_neg e,if_neg e];exact Paired.snoc r ⟨rfl,ry⟩
theorem KV.length {kvs:List (au×V)}{vs:List (au×Value)} (r:KV kvs vs):kvs.length=vs.length:=Paired.length r
end
theorem AN {P:Program}{w:World}{k:fN}{u:Value} (r:bN (kV k) u):(dG P w).is k u=true:=by
 cases k with
 | inl i=>obtain⟨t,e⟩:=(show ∃ t,u=Value.int i t from r);subst e;exact tR P w i t
 | inr z=>cases z with
  | some x=>obtain⟨t,e⟩:=(show ∃ t,u=Value.str x t from r);subst e;exact tQ P w x t
  | none=>obtain rfl:=(show u=Value.none from r);rfl
theorem qG {P:Program}{w:World}:∀ {ks:List fN}{us:List Value},bP (ks.map kV) us->ItemsAre (dG P w) ks us
 | [],_,r=>by rw[List.map_nil] at r;cases r;exact .nil
 | k::ks,_,r=>by
  rw[abb] at r
  cases r with
  | cons h t=>exact .cons (AN h) (qG t)
noncomputable abbrev KT (H:Hp):List (List fN×V)->List (List fN×Addr×Value)->Prop:=Paired λ p q=>p.1=q.1/\H q.2.1=some (.tup (p.1.map kV))/\bN p.2 q.2.2
theorem KT.val {H:Hp}{kvs:List (List fN×V)}{xs:List (List fN×Addr×Value)} (r:KT H kvs xs) (k:List fN):mV (dM kvs k) ((atKey xs k).map (·.2)):=by
 induction r with
 | nil=>exact True.intro
 | @cons p q ps qs h t ih=>
  obtain⟨h1,_,h2⟩:=h
  by_cases e:p.1=k
  ·have e':q.1=k:=h1.symm.trans e
   have b:atKey (q::qs) k=some q.2:=by simp [atKey,List.find?_cons,e']
   rw[dI e,b];exact h2
  ·have e':¬ q.1=k:=λ z=>e (h1.trans z)
   have b:atKey (q::qs) k=atKey qs k:=by simp [atKey,List.find?_cons,e']
   rw[dJ e,b];exact ih
theorem KT.repl {H:Hp}{kvs:List (List fN×V)}{xs:List (List fN×Addr×Value)} (r:KT H kvs xs) (k:List fN) {y:V}{u:Value} (ry:bN y u) :
  KT H (kvs.map λ kv=>if kv.1=k then (kv.1,y) else kv) (xs.map (putAt k u)):=by
 induction r with
 | nil=>exact .nil
 | @cons p q ps qs h t ih=>
  rw[abb,abb]
  refine .cons ?_ ih
  obtain⟨h1,h2,h3⟩:=h
  unfold putAt
  by_cases e:p.1=k
  ·rw[if_pos e,if_pos (h1.symm.trans e)];exact⟨h1,h2,ry⟩
  ·rw[if_neg e,if_neg (λ z=>e (h1.trans z))];exact⟨h1,h2,h3⟩
theorem KT.put {H:Hp}{kvs:List (List fN×V)}{xs:List (List fN×Addr×Value)} (r:KT H kvs xs) (k:List fN) {b:Addr}{y:V}{u:Value} (hb:H b=some (.tup (k.map kV))) (ry:bN y u) :
  KT H (gW kvs k y) (storedH xs k b u):=by
 have e:(kvs.any λ kv=>decide (kv.1=k))=(atKey xs k).isSome:=by
  rw[gQ,(r.val k).isSome_eq,Option.isSome_map]
 unfold gW storedH
 rw[e]
 by_cases q:(atKey xs k).isSome=true
 ·rw[if_pos q,if_pos q];exact r.repl k ry
 ·rw[if_neg q,if_neg q];exact Paired.snoc r ⟨rfl,hb,ry⟩
theorem KT.keeps {H H':Hp}{kvs:List (List fN×V)}{xs:List (List fN×Addr×Value)} (r:KT H kvs xs) (ht:∀ b ys,H b=some (.tup ys)->H' b=some (.tup ys)):KT H' kvs xs:=
 Paired.mapP r λ _ _ z=>⟨z.1,ht _ _ z.2.1,z.2.2⟩
section
variable {P:Program}{w:World}{H:Hp}{h:Heap}{a:Addr}
theorem DU {u:HO} (ok:kA P w H h) (e:Rd H a u):cC P w H h a u:=e.ok ok
theorem BG {kvs:List (fN×V)} (ok:kA P w H h) (e:Rd H a (.dK kvs)):kvs.length<=sizeLine/\(a == sysModules)=false/\∃ vs,KV kvs vs/\h.DictOf (dG P w) a vs:=
 show cC P w H h a (.dK kvs) from DU ok e
theorem EE {kvs:List (fN×V)} (ok:kA P w H h) (e:H a=some (.dK kvs)):kvs.length<=sizeLine/\(a == sysModules)=false/\∃ vs,KV kvs vs/\h.DictOf (dG P w) a vs:=BG ok (.inl e)
theorem vK {ks:List fN} (ok:kA P w H h) (e:H a=some (.tup (ks.map kV))):(tupleKind (dG P w)).is h ks a:=by
 obtain⟨_,its,r,o,h1,h2,n,h3⟩:=(show cC P w H h a (.tup (ks.map kV)) from ok a _ e)
 exact⟨o,its.toArray,n,h1,h2,h3,by simpa using qG r⟩
theorem BF {kvs:List (List fN×V)} (ok:kA P w H h) (e:Rd H a (.dT kvs)):kvs.length<=sizeLine/\(a == sysModules)=false/\
  ∃ xs,KT H kvs xs/\h.DictOfH (tupleKind (dG P w)) a xs:=by
 obtain⟨z,y,xs,r,o,es,ep,h1,h2,h3,h4,h5⟩:=(show cC P w H h a (.dT kvs) from DU ok e)
 refine⟨z,y,xs,r,o,es,ep,h1,h2,h3,h4,λ x hx=>?_,h5⟩
 have all:∀ {l:List (List fN×V)}{m:List (List fN×Addr×Value)},KT H l m->∀ x∈m,(tupleKind (dG P w)).is h x.1 x.2.1:=by
  intro l m q
  induction q with
  | nil=>intro x hx;exact nomatch hx
  | @cons p q ps qs hq t ih=>
   intro x hx
   rcases List.mem_cons.mp hx with e | hx
   ·subst e
    exact vK ok (by rw[<- hq.1];exact hq.2.1)
   ·exact ih x hx
 exact all r x hx
theorem IA {kvs:List (List fN×V)} (ok:kA P w H h) (e:H a=some (.dT kvs)):kvs.length<=sizeLine/\(a == sysModules)=false/\
  ∃ xs,KT H kvs xs/\h.DictOfH (tupleKind (dG P w)) a xs:=BF ok (.inl e)
end
noncomputable def vV (H:Hp) (a:Addr) (y:V) (r:Option V):Prop:=
 (∃ kvs k,Rd H a (.dK kvs)/\y=kV k/\r=dM kvs k)\/∃ kvs k b,Rd H a (.dT kvs)/\y=.ref b/\H b=some (.tup (k.map kV))/\r=dM kvs k
noncomputable def BZ (H:Hp) (a:Addr) (y v:V) (H':Hp):Prop:=
 (∃ kvs k,H a=some (.dK kvs)/\y=kV k/\kvs.length < sizeLine/\H'=upd H a (.dK (gW kvs k v)))\/
 ∃ kvs k b,H a=some (.dT kvs)/\y=.ref b/\H b=some (.tup (k.map kV))/\kvs.length < sizeLine/\H'=upd H a (.dT (gW kvs k v))
theorem vV.k {H:Hp}{a:Addr}{kvs:List (fN×V)}{k:fN} (e:H a=some (.dK kvs)):vV H a (kV k) (dM kvs k):=.inl ⟨kvs,k,.inl e,rfl,rfl⟩
theorem BZ.k {H:Hp}{a:Addr}{kvs:List (fN×V)}{k:fN}{v:V} (e:H a=some (.dK kvs)) (hl:kvs.length < sizeLine):BZ H a (kV k) v (upd H a (.dK (gW kvs k v))):=.inl ⟨kvs,k,e,rfl,hl,rfl⟩
section
variable {X:Cx}{pins:List (Addr×Obj)}{σ:St}{H:Hp}{s:Shared}{a:Addr}{y v:V}{u r:Value}{o:Option V}{A:Around}{E:Value->Shared->Prop}
theorem Inv.big (I:Inv X pins σ H s):sysModules < s.heap.objs.size:=by
 have h:mainGlobals < s.heap.objs.size:=(I.mod.glob.keeps I.bk).lt
 exact Nat.lt_trans (by decide) h
theorem nK {h':Heap}{t':Nat}{ob:HO} (I:Inv X pins σ H s) (mu:kR (H a)) (hs:Heap.SameBut a s.heap h') (he:∃ q,h'.get? a=some q) (new:cC X.prog X.w (upd H a ob) h' a ob) :
  Inv X pins σ (upd H a ob) { s with heap:=h',toks:=t' }:=
 I.write (x:=a) (e:=a) mu (.inl rfl) (λ b q hb z=>(hs.2 b hb).trans z) he new
theorem G8 {P:Program}{w:World}{H':Hp}{h':Heap}{kvs:List (fN×V)}{vs:List (fN×Value)} (z:kvs.length<=sizeLine) (hd:(a == sysModules)=false) (rel:KV kvs vs) (dd:h'.DictOf (dG P w) a vs) :
  cC P w H' h' a (.dK kvs):=⟨z,hd,vs,rel,dd⟩
theorem yA {H':Hp}{Q:Unit->Shared->Prop} (hu:A.units+1 < cLine) (I:Inv X pins σ H s) (g:BZ H a y v H') (ry:bN y u) (rv:bN v r) (h:∀ s',Inv X pins σ H' s'->Q () s') :
  wpAny (model X.prog X.w) A (setItem (.ref a) u r) Q E s:=by
 rcases g with ⟨kvs,k,e,ey,l,eH⟩ | ⟨kvs,k,b,e,ey,eb,l,eH⟩
 ·subst ey eH
  obtain⟨z,hd,vs,rel,dd⟩:=EE I.hok e
  have hz:vs.length<=sizeLine:=by rw[<- rel.length];exact z
  have hl:(gW kvs k v).length<=sizeLine:=by have:=fM kvs k v;omega
  refine wpAny_setItem_pairs (hsz:=hz) (AN ry) dd λ h' dd' hs=>h _ ?_
  have he:∃ q,h'.get? a=some q:=let ⟨q,_,_,hq,_⟩:=dd';⟨q,hq⟩
  exact nK I (by rw[e];exact True.intro) hs he (G8 hl hd (rel.put k rv) dd')
 ·subst ey eH
  cases (show u=Value.ref b from ry)
  obtain⟨z,hd,xs,rel,dd⟩:=IA I.hok e
  have hz:xs.length<=sizeLine:=by rw[<- Paired.length rel];exact z
  have hl:(gW kvs k v).length<=sizeLine:=by have:=fM kvs k v;omega
  refine wpAny_setItem_heap (hsz:=hz) (tupleKind_room_in1 hu) (vK I.hok eb) dd λ h' dd' hs=>h _ ?_
  obtain⟨q,es,ep,hq,h2,h3,h4,_,h5⟩:=dd'
  refine nK I (by rw[e];exact True.intro) hs ⟨q,hq⟩ ⟨hl,hd,_,(rel.put k eb rv).keeps λ c ys ec=>?_,q,es,ep,hq,h2,h3,h4,h5⟩
  rw[aO (E6 ec e (λ z=>nomatch z))]
  exact ec
end
section
variable {X:Cx}{pins:List (Addr×Obj)}{σ:St}{H:Hp}{s:Shared}{a:Addr}{kvs:List (fN×V)}{k:fN}{u:Value}{A:Around}{E:Value->Shared->Prop}
end
noncomputable def HA (td ty tv:TE):TS:=λ D σ H=>tv σ H λ v H1=>td σ H1 λ x H2=>ty σ H2 λ y H3=>∃ a H4,x=.ref a/\BZ H3 a y v H4/\D.nx σ H4
section
variable {X:Cx}{o i e value:Expr}{pos pos' tpos:Pos}{td ty tv:TE}
theorem CV (hu:X.A.units+1 < cLine) (ho:PE X o td) (hi:PE X i ty) (hv:PE X value tv) (hs:swapsWith value (some (.Subscript o i pos')) pos.line X.env=pure false) :
  PS X (.Assign [.Subscript o i pos'] value pos) (HA td ty tv):=by
 intro pins s σ H D I h
 refine wpAny_Assign_Subscript (cQ (hv pins s σ H _ I h) λ r s1 ⟨v,H1,I1,rv,q1⟩=>cQ (ho pins s1 σ H1 _ I1 q1) λ u s2 ⟨x,H2,I2,rx,q2⟩=>cQ (hi pins s2 σ H2 _ I2 q2) λ iv s3 ⟨y,H3,I3,ry,a,H4,ex,g,q3⟩=>?_) hs
 subst ex
 obtain rfl:u=Value.ref a:=rx
 exact yA hu I3 g ry rv λ s4 I4=>⟨σ,H4,I4,q3⟩
end
theorem uB {P:Program}{w:World}{H:Hp} (h:Heap) (hb:sysModules < h.objs.size):cC P w H (h.push { cls:=.type "dict",data:=.dict #[] }) h.objs.size (.dK []):=
 ⟨Nat.zero_le _,beq_eq_false_iff_ne.mpr (Ne.symm (aat hb)),[],.nil,Heap.DictOf.new h⟩
noncomputable def EO:TE:=λ _ H Q=>∀ p,H p=none->Q (.ref p) (upd H p (.dK []))
section
variable {X:Cx}{pos:Pos}
theorem tL:PE X (.Dict [] [] pos) EO:=λ pins s σ H Q I h=>
 wpAny_Dict_empty ⟨.ref s.heap.objs.size,_,I.laid (a:=s.heap.objs.size) (o:=.dK []) (t':=s.toks) (λ _ _ q=>aab _ q) (Nat.le_refl _) (uB s.heap I.big),rfl,h _ (I.hok.fresh (Nat.le_refl _))⟩
end
noncomputable def yY:List (TE×TE)->St->Hp->(List (V×V)->Hp->Prop)->Prop
 | [],_,H,Q=>Q [] H
 | (tk,tv)::r,σ,H,Q=>tk σ H λ x H1=>tv σ H1 λ y H2=>yY r σ H2 λ ps H3=>Q ((x,y)::ps) H3
noncomputable abbrev VV:List (V×V)->List (Value×Value)->Prop:=Paired λ p q=>bN p.1 q.1/\bN p.2 q.2
noncomputable def PPs (X:Cx) (pos:Pos) (keys:List (Option Expr)) (values:List Expr) (trs:List (TE×TE)):Prop:=
 ∀ (pins:List (Addr×Obj)) (s:Shared) (σ:St) (H:Hp) (Q:List (V×V)->Hp->Prop),Inv X pins σ H s->yY trs σ H Q->
  wpAny (model X.prog X.w) X.A (evalPairs (pairTrees keys values X.env pos)) (λ vs s'=>∃ ps H',Inv X pins σ H' s'/\VV ps vs/\Q ps H') X.xe s
theorem CY {X:Cx}{pos:Pos}:PPs X pos [] [] []:=λ pins s σ H Q I h=>pairTrees_nil_walk ⟨[],H,I,.nil,h⟩
theorem zY {X:Cx}{pos:Pos}{k v:Expr}{ks:List (Option Expr)}{vs:List Expr}{tk tv:TE}{trs:List (TE×TE)} (hk:PE X k tk) (hv:PE X v tv) (hr:PPs X pos ks vs trs) :
  PPs X pos (some k::ks) (v::vs) ((tk,tv)::trs):=λ pins s σ H Q I h=>
 pairTrees_cons_walk (cQ (hk pins s σ H _ I h) λ u s1 ⟨x,H1,I1,rx,q1⟩=>cQ (hv pins s1 σ H1 _ I1 q1) λ w2 s2 ⟨y,H2,I2,ry,q2⟩=>
  cQ (hr pins s2 σ H2 _ I2 q2) λ ws s3 ⟨ps,H3,I3,rel,q3⟩=>⟨(x,y)::ps,H3,I3,.cons ⟨rx,ry⟩ rel,q3⟩)
structure M2 (X:Cx) (o:Expr) (m:Str) (apos:Pos) (e f:Expr) (cpos:Pos):Prop where
 base:attributeBase o m X.env (eval o X.env)=eval o X.env
 few:((backTo cpos (starEach [e,f] X.env)).all (λ x=>!x.1) && (backToKw cpos (keywordEach [] X.env)).all (λ x=>x.1.isSome)
  && decide (([e,f]:List Expr).length+([]:List Keyword).length+(if ([]:List Keyword).isEmpty then 0 else 1) < 30))=true
 line:(apos.endLine == cpos.line)=true
 trees:backTo cpos (starEach [e,f] X.env)=[(false,eval e X.env),(false,eval f X.env)]
noncomputable def IsD (H:Hp) (a:Addr):Prop:=(∃ kvs,Rd H a (.dK kvs))\/∃ kvs,Rd H a (.dT kvs)
theorem FX {X:Cx}{pins:List (Addr×Obj)}{σ:St}{H:Hp}{s:Shared}{a:Addr} (I:Inv X pins σ H s) (d:IsD H a) :
  s.TypeIs (.ref a) "dict" /\ (∀ b,Value.ref a=.ref b->∃ ob,s.heap.get? b=some ob/\ob.dict=none)/\(a == sysModules)=false:=by
 rcases d with ⟨kvs,e⟩ | ⟨kvs,e⟩
 ·obtain⟨_,hd,vs,_,dd⟩:=BG I.hok e
  refine⟨dd.typeIs,λ b q=>?_,hd⟩
  cases q
  obtain⟨ob,_,_,h1,h2,_⟩:=dd
  exact⟨ob,h1,h2.2.1⟩
 ·obtain⟨_,hd,xs,_,dd⟩:=BF I.hok e
  refine⟨dd.typeIs,λ b q=>?_,hd⟩
  cases q
  obtain⟨ob,_,_,h1,h2,_⟩:=dd
  exact⟨ob,h1,h2.2.1⟩
section
variable {X:Cx}{pins:List (Addr×Obj)}{σ:St}{H:Hp}{s:Shared}{a:Addr}{y d:V}{u r:Value}{o:Option V}{A:Around}{E:Value->Shared->Prop}
theorem G9 {Q:Value->Shared->Prop} (hu:A.units+1 < cLine) (I:Inv X pins σ H s) (g:vV H a y o) (ry:bN y u) (rd:bN d r) (h:∀ w' s',Inv X pins σ H s'->bN (o.getD d) w'->Q w' s') :
  wpAny (model X.prog X.w) A (call (.builtin "dict.get") [.ref a,u,r]) Q E s:=by
 rcases g with ⟨kvs,k,e,ey,l⟩ | ⟨kvs,k,b,e,ey,eb,l⟩
 ·subst ey
  obtain⟨z,hd,vs,rel,dd⟩:=BG I.hok e
  refine call_meetsIn PySem.F.slot_dict_get dd.typeIs PySem.F.entry_dict_get (PySem.F.args_dict_get_3 _ _ _) (meets_dict_get_default (dG X.prog X.w) a (AN ry) hd r) ⟨_,dd.mapOf,h _ _ (I.tok _) ?_⟩
  rw[l]
  exact (rel.val k).getD rd
 ·subst ey
  cases (show u=Value.ref b from ry)
  obtain⟨z,hd,xs,rel,dd⟩:=BF I.hok e
  refine call_meetsIn PySem.F.slot_dict_get dd.typeIs PySem.F.entry_dict_get (PySem.F.args_dict_get_3 _ _ _) (meetsH_dict_get_default (tupleKind (dG X.prog X.w)) a b hd r) ⟨tupleKind_room_in1 hu,k,xs,vK I.hok eb,dd,h _ _ (I.tok _) ?_⟩
  rw[l]
  exact (rel.val k).getD rd
end
noncomputable def EQ (td ty tx:TE):TE:=λ σ H Q=>td σ H λ x H1=>∃ a,x=.ref a/\IsD H1 a/\ty σ H1 λ y H2=>tx σ H2 λ z H3=>∃ o,vV H3 a y o/\Q (o.getD z) H3
section
variable {X:Cx}{o e f:Expr}{apos cpos:Pos}{td ty tx:TE}
theorem oF (hu:X.A.units+1 < cLine) (ho:PE X o td) (he:PE X e ty) (hf:PE X f tx) (m:M2 X o "get" apos e f cpos):PE X (.Call (.Attribute o "get" apos) [e,f] [] cpos) (EQ td ty tx):=by
 intro pins s σ H Q I h
 refine wpAny_Call_method m.base m.few m.line PySem.F.plainAttrs_dict PySem.F.slot_dict_get PySem.F.type_dict_get (cQ (ho pins s σ H _ I h) λ u s1 ⟨x,H1,I1,rx,a,ex,d,q1⟩=>?_)
 subst ex
 obtain rfl:u=Value.ref a:=rx
 obtain⟨t1,t2,_⟩:=FX I1 d
 refine⟨t1,t2,?_⟩
 rw[m.trees]
 refine Calls.callWith_builtin rfl (Calls.evalArgs_plain (Calls.spliced_cons (cQ (he pins s1 σ H1 _ I1 q1) λ iv s2 ⟨y,H2,I2,ry,q2⟩=>
  Calls.spliced_cons (cQ (hf pins s2 σ H2 _ I2 q2) λ fv s3 ⟨z,H3,I3,rz,ov,g,q3⟩=>Calls.spliced_nil ?_))))
 exact G9 hu I3 g ry rz λ w' s4 I4 rw'=>⟨_,H3,I4,rw',q3⟩
end
section
variable {X:Cx}{pins:List (Addr×Obj)}{σ:St}{H:Hp}{s:Shared}{a:Addr}{kvs:List (fN×V)}{A:Around}{E:Value->Shared->Prop}
end
section
variable {X:Cx}{pins:List (Addr×Obj)}{σ:St}{H:Hp}{s:Shared}{a:Addr}{y:V}{u:Value}{A:Around}{E:Value->Shared->Prop}
end
end L2
namespace Att
open PySem PySem.W PySem.Calls PyProof.Rows
theorem nF {P:Params}{h:Heap}:∀ (ns:List Int) (vs:List Value),WellAll P h vs (ns.map WData.int)->IntsAre vs ns:=by
 intro ns
 induction ns with
 | nil=>
  intro vs w
  rw[List.map_nil] at w
  cases w
  exact .nil
 | cons n ns ih=>
  intro vs w
  rw[abb] at w
  cases w with
  | cons a b=>
   cases a
   exact .cons _ _ (ih _ b)
theorem xG {l:OpenLaw}{n:Nat} (hn:l.most=some n) {P:Params}{h:Heap}{args:List WData}{vals:List Value}
  (hpre:l.row.toRowW.claim.pre args=true) (hwl:WellAll P h vals args) :
  ∃ a vs ns,vals=[Value.ref a]/\args=[WData.list (ns.map WData.int)]/\h.get? a=some { cls:=.type "list",data:=.seq vs.toArray }/\IntsAre vs ns/\ns.length<=n:=by
 have hsh:WShape.hasAll [] args [.list .int]=true:=(pre_splitW hpre).1
 have hc:l.pre.holds [] { args:=args }=true:=(pre_splitW hpre).2
 obtain⟨d,r,rfl,h1,h2⟩:=hasAllW_cons hsh
 obtain rfl:=hasAllW_nil h2
 obtain⟨xs,rfl,h3⟩:=hasW_list h1
 obtain⟨ns,rfl⟩:=items_int h3
 have hlen:ns.length<=n:=by
  unfold OpenLaw.pre at hc
  have h4:(WTm.not (.lt (.lit (.int (n:Int))) (.len (.arg 0)))).holds [] { args:=[.list (ns.map .int)] }=true:=by
   have h4:=(holds_andW hc).1
   rw[hn] at h4
   exact h4
  have h5:=condW_of h4 (w_not (w_lt w_lit (w_len_list (w_arg rfl))))
  rw[aac] at h5
  refine Nat.le_of_not_lt λ q=>?_
  have q':(n:Int) < ((ns.length:Nat):Int):=by omega
  first
   | (rw[decide_eq_true q'] at h5;exact absurd h5 (by decide))
   | (simp at h5;omega)
 cases hwl with
 | cons w1 w2=>
  cases w2
  cases w1 with
  | list ho hall=>exact⟨_,_,ns,rfl,rfl,ho,nF ns _ hall,hlen⟩
theorem xI (l:OpenLaw) (args:List WData):l.row.toRowW.claim.post args (.bool true) args=true:=
 postW_of (r:=l.row.toRowW) (X:=(true == true))
  (show WShape.has [] (.bool true) .bool=true by first | rfl | decide | simp [WShape.has,WShape.arms,WShape.armsAll])
  (show (WTm.eq .res (.lit (.bool true))).value [] { args:=args,res:=some (.bool true),after:=args }=some (.bool (true == true)) from w_eq_bool (w_res rfl) w_lit) rfl
theorem attach_call {l:OpenLaw}{n:Nat}{q:Program}{loose:List Str}{XP:(Str->Option Value)->Heap->Prop}{YP:World->Heap->Prop}{d:DefRec}
  (hn:l.most=some n) (hdf:d.params.defaults=[])
  (call:∀ (w:World) (s₀ ai:Shared) (mg mb:Str->Option Value) (fa:Addr) (o:Obj) (pm cd doc:Value) (a:Addr) (vs:List Value) (ns:List Int),
   Ground q loose [] XP w s₀ mg mb ai.heap->YP w ai.heap->
   ai.heap.get? fa=some o->o.data=.func (docDef d.name d.params d.body d.scope pm cd doc)->ai.heap.CodeRec cd d.name->mg d.name=some (.ref fa)->
   ai.heap.get? a=some { cls:=.type "list",data:=.seq vs.toArray }->IntsAre vs ns->ns.length<=n->ai.gens = #[]->
   codeAny (model l.prog w) callerA (.call (.ref fa) ⟨[.ref a],[]⟩) (λ r s'=>r=.ok (.ret (.bool true))/\OldK ai.heap s'.heap/\s'.os=ai.os/\AllBare s'.gens) ai) :
  WalkO q loose XP YP l.row.toRowW d [] (λ f vs=>PySem.call f vs):=by
 intro w s₀ ai mg mb G Y fa o pm cd doc dV kV ho hd hcd hD hmg hg args vals as hpre hlay hrd hwl hlo
 obtain rfl:dV=.none:=Dflts.none hD hdf
 obtain rfl:kV=.none:=Dflts.noKw hD
 obtain⟨a,vs,ns,rfl,rfl,hobj,hints,hlen⟩:=xG hn hpre hwl
 refine enter_call (codeAny_mono (call w s₀ ai mg mb fa o pm cd doc a vs ns G Y ho (fd_plain hd) hcd hmg hobj hints hlen hg) λ r s' hq=>?_)
 obtain⟨rfl,h2,h3,h4⟩:=hq
 exact⟨.inl ⟨.bool true,.bool true,[],rfl,λ _=>rfl,.bool true,xI l _,λ _=>⟨List.Pairwise.nil,λ _ hm=>(nomatch hm)⟩⟩,h2,h3,h4⟩
section
variable {prog:Program}{w:World}{A:Around}{E:Value->Shared->Prop}{s:Shared}{K:Frag}
end
end Att
namespace L2
open PySem PySem.Spec PyProof.Rows
theorem pU:∀ {vs:List Value}{ns:List Int},IntsAre vs ns->bP (ns.map V.int) vs
 | _,_,.nil=>.nil
 | _,_,.cons n t h=>.cons ⟨t,rfl⟩ (pU h)
end L2
namespace L2
open PySem PySem.Spec PyProof.Rows
end L2
namespace L2
open PySem PySem.Spec PyProof.Rows
noncomputable def bM (s:Stmt):Arguments:=match s with
 | .FunctionDef _ a _ _ _ _ _ _ _ _=>a
 | _=>{ posonlyargs:=[],args:=[],vararg:=none,kwonlyargs:=[],kw_defaults:=[],kwarg:=none,defaults:=[] }
noncomputable def bE (s:Stmt):List Stmt:=match s with
 | .FunctionDef _ _ b _ _ _ _ _ _ _=>b
 | _=>[]
noncomputable def aM (s:Stmt):Scope:=match s with
 | .FunctionDef _ _ _ _ _ _ sc _ _ _=>sc
 | _=>{ kind:=.function,names:=[],isGenerator:=false,isCoroutine:=false }
noncomputable abbrev iM:vW:=λ _ _ _ _ _ _=>False
noncomputable abbrev E0:XK:=λ _ _ _=>False
theorem HN {X:Cx}:kQ iM X E0:=λ _ _ _ _ _ _ _ h=>h.elim
structure Fun (K:aaa) (x qual:Str) (st:Stmt) (f:Addr) (fd:FuncData):Prop where
 ex:∃ (oc:Value) (od:Option Addr) (kV doc pm:Value) (an:Option Addr) (cdv ct:Value) (osl:Array (Option Value)),
  fd=PySem.W.fnOf x qual (bM st) (bE st) (aM st) .none kV doc pm an cdv ct/\K.lookup f=some ⟨oc,od,.func fd,osl⟩/\PySem.W.codeIn K cdv qual=true
 kp:PySem.W.keepIn K (.ref f)=true
section
variable {P:Program}{w:World}{K:aaa}{mg:Str->Option Value}{base:Heap}
theorem Fun.ok {x qual:Str}{st:Stmt}{f:Addr}{fd:FuncData}{N ps:List Str}{k:Nat}{sp:Sp} (F:Fun K x qual st f fd) (S:FnScope N ps (aM st)) (len:∀ vs H Q E,sp vs H Q E->vs.length=ps.length)
  (hbody:∀ (cdv:Value) (A:Around) (outer:List Env) (s:Shared) (H:Hp) (vs:List V) (Q:VK) (E:XK),Room k (A.deeper (envOfC qual (aM st) s.heap.objs.size f cdv))->sp vs H Q E->
   ∃ t,sR (lU iM P w K mg base N qual (aM st) f cdv A outer s H E).nox (bE st) t/\t { nx:=λ _ H'=>Q .non H',rt:=Q } (start N vs) H):FnOk P w K mg base iM (k+1) f fd ps sp:=by
 obtain⟨oc,od,kV,doc,pm,an,cdv,ct,osl,rfl,lk,hcd⟩:=F.ex
 refine EC lk hcd S len λ A outer s H vs Q E hr hsp=>?_
 obtain⟨t,h,q⟩:=hbody cdv A outer s H vs Q E hr hsp
 exact⟨t,h.nox,q⟩
theorem Fun.binds {x qual:Str}{st:Stmt}{f:Addr}{fd:FuncData}{ps:List Str} (F:Fun K x qual st f fd)
  (h:∀ (kV doc pm:Value) (an:Option Addr) (cdv ct:Value) (us:List Value),us.length=ps.length->bindArgs (PySem.W.fnOf x qual (bM st) (bE st) (aM st) .none kV doc pm an cdv ct) ⟨us,[]⟩=pure (ps.zip us)):mC K fd ps []:=by
 obtain⟨oc,od,kV,doc,pm,an,cdv,ct,osl,rfl,lk,hcd⟩:=F.ex
 exact .all (h kV doc pm an cdv ct)
theorem cA {x qual:Str}{st:Stmt}{f:Addr}{oc:Value}{od an:Option Addr}{osl:Array (Option Value)}{kV doc pm cdv ct:Value} (l:K.lookup f=some ⟨oc,od,.func (PySem.W.fnOf x qual (bM st) (bE st) (aM st) .none kV doc pm an cdv ct),osl⟩)
  (c:PySem.W.codeIn K cdv qual=true) (k:PySem.W.keepIn K (.ref f)=true):Fun K x qual st f (PySem.W.fnOf x qual (bM st) (bE st) (aM st) .none kV doc pm an cdv ct):=⟨⟨oc,od,kV,doc,pm,an,cdv,ct,osl,rfl,l,c⟩,k⟩
end
theorem EB {A:Around}{k:Nat} (hr:Room k A):A.units+1 < cLine:=Nat.lt_of_le_of_lt (Nat.add_le_add_left (by decide:1<=64) _) hr.units
theorem aY {n:Nat} (h:n<=1000):n < sizeLine:=Nat.lt_of_le_of_lt h (by decide)
section
variable {X:Cx}
theorem pv (i:Nat) {x:Str}{pos:Pos} (hN:X.N[i]? = some x:=by rfl) (hv:IC X.env.scope x:=by first | exact Or.inl rfl | exact Or.inr (Or.inl rfl) | exact Or.inr (Or.inr rfl)) (hd:(x == ("__debug__" : Str))=false:=by decide)
  (hcd:(x == ("__classdict__" : Str))=false:=by decide):PE X (.Name x pos) (dN i):=A4 hN hv hd hcd
end
theorem dP {A B:Prop} (h:B):if false=true then A else B:=by
 rw[if_neg aaf]
 exact h
theorem gF {A B:Prop} (h:A):if true=true then A else B:=by
 rw[if_pos rfl]
 exact h
theorem eM {c A B:Prop} [Decidable c] (h1:c->A) (h2:¬ c->B):if c then A else B:=by
 by_cases h:c
 ·rw[if_pos h]
  exact h1 h
 ·rw[if_neg h]
  exact h2 h
theorem HR {c A B:Prop} [Decidable c] (hc:c) (h:B):if (!decide c)=true then A else B:=by
 rw[decide_eq_true hc]
 exact dP h
noncomputable def aF (H H':Hp):Prop:=∀ b o,H b=some o->H' b=some o
theorem aF.refl (H:Hp):aF H H:=λ _ _ h=>h
theorem aF.trans {H H1 H2:Hp} (a:aF H H1) (b:aF H1 H2):aF H H2:=λ c o h=>b c o (a c o h)
theorem aF.free {H H':Hp} (e:aF H H') {l:Addr} (h:H' l=Option.none):H l=Option.none:=by
 cases q:H l with
 | none=>rfl
 | some o=>
  rw[e l o q] at h
  cases h
theorem aF.seq {K:aaa}{H H':Hp}{a:Addr}{xs:List V} (e:aF H H') (h:bT K H a xs):bT K H' a xs:=by
 rcases h with (h | ⟨o,h⟩) | h
 ·exact .inl (.inl (e _ _ h))
 ·exact .inl (.inr ⟨o,e _ _ h⟩)
 ·exact .inr h
end L2
set_option maxHeartbeats 4000000
namespace L2
open PySem PySem.Spec PyProof.Rows
theorem eI {env:Env} (hk:env.scope.kind=.function):∀ {names:List (Str×NameKind)}{x:Str},names.lookup x=some .free->env.kindOf x=some .cell->
  (names.map λ (n,k)=>if (k == NameKind.free && env.scope.kind == .function && env.kindOf n == some .cell) then (n,NameKind.cell) else (n,k)).lookup x=some .cell
 | [],_,h,_=>by simp at h
 | (n,k)::r,x,h,hc=>by
  have ih:=@eI env hk r x
  show List.lookup x ((if (k == NameKind.free && env.scope.kind == .function && env.kindOf n == some .cell)=true then (n,NameKind.cell) else (n,k))::_)=_
  cases hx:x == n with
  | true=>
   simp only [List.lookup_cons,hx] at h
   cases h
   have e:x=n:=by simpa using hx
   subst e
   rw[if_pos (by rw[hk,hc];decide)]
   simp [List.lookup_cons]
  | false=>
   simp only [List.lookup_cons,hx] at h
   by_cases hq:(k == NameKind.free && env.scope.kind == .function && env.kindOf n == some .cell)=true
   ·rw[if_pos hq];simp only [List.lookup_cons,hx];exact ih h hc
   ·rw[if_neg hq];simp only [List.lookup_cons,hx];exact ih h hc
noncomputable def yM (env:Env):List (Str×Addr)->Prop
 | []=>True
 | p::r=>env.cells.lookup p.1=some p.2/\yM env r
theorem yM.get {env:Env}:∀ {cl:List (Str×Addr)},yM env cl->∀ x c,cl.lookup x=some c->env.cells.lookup x=some c
 | [],_,_,_,e=>by simp at e
 | (n,a)::r,h,x,c,e=>by
  cases hx:x == n with
  | true=>
   simp only [List.lookup_cons,hx] at e
   cases e
   have e':x=n:=by simpa using hx
   subst e'
   exact h.1
  | false=>
   simp only [List.lookup_cons,hx] at e
   exact yM.get h.2 x c e
noncomputable def sS (X:Cx) (scope:Scope) (N':List Str):List (Option Nat)->Nat->Prop
 | [],_=>True
 | none::r,i=>sS X scope N' r (i+1)
 | some j::r,i=>(∃ x,N'[i]? = some x/\X.N[j]? = some x/\scope.names.lookup x=some .free/\X.env.kindOf x=some .cell)/\sS X scope N' r (i+1)
theorem sS.get {X:Cx}{scope:Scope}{N':List Str}:∀ {fr:List (Option Nat)}{k:Nat},sS X scope N' fr k->∀ i j,fr[i]? = some (some j)->
  ∃ x,N'[k+i]? = some x/\X.N[j]? = some x/\scope.names.lookup x=some .free/\X.env.kindOf x=some .cell
 | [],_,_,i,j,e=>by simp at e
 | none::r,k,h,0,j,e=>by simp at e
 | some _::r,k,h,0,j,e=>by simp at e;subst e;exact h.1
 | none::r,k,h,i+1,j,e=>by
  have:=sS.get (k:=k+1) (show sS X scope N' r (k+1) from h) i j (by simpa using e)
  rwa [Nat.add_right_comm] at this
 | some _::r,k,h,i+1,j,e=>by
  have:=sS.get (k:=k+1) h.2 i j (by simpa using e)
  rwa [Nat.add_right_comm] at this
structure LcOk (X:Cx) (scope:Scope) (cl:List (Str×Addr)) (N':List Str) (fr:List (Option Nat)):Prop where
 clos:closureFor scope X.env=pure cl
 cls:yM X.env cl
 kind:scope.kind=.function
 nocell:(scope.names.all λ p=>p.2 != NameKind.cell)=true
 locs:(scope.names.all λ p=>p.2 != NameKind.local || scope.names.lookup p.1 == some NameKind.local)=true
 frees:(scope.names.all λ p=>p.2 != NameKind.free || (cl.lookup p.1).isSome)=true
 len:fr.length=N'.length
 fr:sS X scope N' fr 0
noncomputable def uI (fr:List (Option Nat)) (σ:St):St:=fr.map λ o=>o.bind λ j=>(σ[j]?).join
noncomputable def sU (X:Cx) (N':List Str) (scope:Scope) (cl:List (Str×Addr)) (fp:List Addr) (s:Shared) (H:Hp):Cx:=
 { X with N:=N',s₀:=s,H₀:=H,env:=compEnvC scope cl s.heap.objs.size X.env,outer:=X.stack,ex:=fp,fn:=λ _=>false,pn:=[] }
noncomputable def GE (X:Cx) (ifs:List Expr) (t:TT):Prop:=
 ∀ (pins:List (Addr×Obj)) (s:Shared) (σ:St) (H:Hp) (Q:Bool->Hp->Prop),Inv X pins σ H s->t σ H Q->
  wpAny (model X.prog X.w) X.A (forIn ifs true λ c r=>if r=true then do let ok <- isTrue c X.env (eval c X.env);pure (ForInStep.yield ok) else pure (ForInStep.yield r)) (TP X pins σ Q) X.xe s
noncomputable def EL:TT:=λ _ H Q=>Q true H
theorem d6 {X:Cx}:GE X [] EL:=λ _ _ _ H _ I h=>wpAny_tests_nil ⟨H,I,h⟩
theorem rN {X:Cx}{c:Expr}{t:TT} (h:PT X c t):GE X [c] t:=λ pins s σ H Q I hw=>wpAny_tests_one (h pins s σ H Q I hw)
noncomputable def j3 (J:It) (g:TG) (tc:TT) (te:TE) (fr:List (Option Nat)) (σ:St) (H1:Hp) (Q:Addr->Hp->Prop):Prop:=
 ∀ D,H1 D=none->∃ W:Nat->Nat->List V->St->Hp->Prop,(∃ m,W 0 m [] (uI fr σ) (upd H1 D (.lst [])))/\
  ∀ i m ys ac H',W i m ys ac H'->(J.stop i H'/\Q D H')\/
   (J.go i H'/\∃ N:List V->St->Hp->Prop,(∀ ys' ed H'',N ys' ed H''->∃ m',m' < m/\W (i+1) m' ys' ed H'')/\
    ∀ x H2,J.yld i H' x H2->g x ac H2 λ ao H3=>tc ao H3 λ b H4=>
    if b=true then te ao H4 λ y H5=>H5 D=some (.lst ys)/\ys.length < sizeLine/\N (ys++[y]) ao (upd H5 D (.lst (ys++[y])))
    else N ys ao H4)
theorem sD {J:It}{n:Nat}{g:TG}{tc:TT}{te:TE}{fr:List (Option Nat)}{σ:St}{H1:Hp}{Q:Addr->Hp->Prop} (Pv:Addr->Nat->List V->St->Hp->Prop)
  (h0:∀ D,H1 D=none->Pv D 0 [] (uI fr σ) (upd H1 D (.lst [])))
  (hstop:∀ D ys ac H',Pv D n ys ac H'->J.stop n H'/\Q D H')
  (hgo:∀ D i ys ac H',i < n->Pv D i ys ac H'->J.go i H'/\∀ x H2,J.yld i H' x H2->g x ac H2 λ ao H3=>tc ao H3 λ b H4=>
    if b=true then te ao H4 λ y H5=>H5 D=some (.lst ys)/\ys.length < sizeLine/\Pv D (i+1) (ys++[y]) ao (upd H5 D (.lst (ys++[y])))
    else Pv D (i+1) ys ao H4):j3 J g tc te fr σ H1 Q:=by
 intro D hD
 refine⟨λ i m ys σ H=>m=n - i/\i<=n/\Pv D i ys σ H,⟨n,by simp,Nat.zero_le _,h0 D hD⟩,?_⟩
 rintro i m ys ac H' ⟨rfl,hi,p⟩
 by_cases hlt:i < n
 ·obtain⟨go,step⟩:=hgo D i ys ac H' hlt p
  exact .inr ⟨go,Pv D (i+1),λ ys' ed H'' p'=>⟨n - (i+1),by omega,rfl,hlt,p'⟩,step⟩
 ·have e:i=n:=by omega
  subst e
  exact .inl (hstop D ys ac H' p)
theorem wP {J:It}{n:Nat}{g:TG}{tb:TS}{D:Ends}{σ:St}{H:Hp} (Pv:Nat->St->Hp->Prop) (h0:Pv 0 σ H) (hstop:∀ σ H,Pv n σ H->J.stop n H/\D.nx σ H)
  (hgo:∀ i σ H,i < n->Pv i σ H->J.go i H/\∀ x H',J.yld i H x H'->g x σ H' λ ba H2=>tb { D with nx:=Pv (i+1),ct:=Pv (i+1),bk:=D.nx } ba H2) :
  ∃ W:Nat->Nat->St->Hp->Prop,(∃ m,W 0 m σ H)/\∀ i m σ H,W i m σ H->
   (J.stop i H/\D.nx σ H)\/(J.go i H/\∃ N:St->Hp->Prop,(∀ ac H',N ac H'->∃ m',m' < m/\W (i+1) m' ac H')/\∀ x H',J.yld i H x H'->g x σ H' λ ba H2=>tb { D with nx:=N,ct:=N,bk:=D.nx } ba H2):=by
 refine⟨λ i m σ H=>m=n - i/\i<=n/\Pv i σ H,⟨n,by simp,Nat.zero_le _,h0⟩,?_⟩
 rintro i m σ H ⟨rfl,hi,p⟩
 by_cases hlt:i < n
 ·obtain⟨go,step⟩:=hgo i σ H hlt p
  exact .inr ⟨go,Pv (i+1),λ ac H' p'=>⟨n - (i+1),by omega,rfl,hlt,p'⟩,step⟩
 ·have e:i=n:=by omega
  subst e
  exact .inl (hstop σ H p)
noncomputable def tLC (wi:TI) (fr:List (Option Nat)) (g:TG) (tc:TT) (te:TE):TE:=λ σ H Q=>wi σ H λ J H1=>j3 J g tc te fr σ H1 λ D H'=>Q (.ref D) H'
section
variable {prog:Program}{w:World}{A:Around}{R:Result->Shared->Prop}{s:Shared}
theorem lW {elt target iter:Expr}{ifs:List Expr}{scope:Scope}{pos:Pos}{it acc:Value}{env:Env} (I:Nat->Shared->Prop)
  (turn:∀ n s,I n s->wpAny (model prog w) A (pyNext it) (λ r ai=>match r with
   | none=>R (.ok .next) ai
   | some v=>wpAny (model prog w) A (letOwnedTupleGo target it v) (λ _ ej=>wpAny (model prog w) A (assign target env v) (λ _ cj=>
     wpAny (model prog w) A (forIn ifs true λ c r=>if r=true then do let ok <- isTrue c env (eval c env);pure (ForInStep.yield ok) else pure (ForInStep.yield r)) (λ ok bv=>
      if ok=true then wpAny (model prog w) A (eval elt env) (λ x cr=>
       wpAny (model prog w) A (call (.builtin "list.append") [acc,x]) (λ _ fj=>∃ m,m < n/\I m fj) (notedBy (model prog w) A env λ e s'=>R (.error e) s') cr) (notedBy (model prog w) A env λ e s'=>R (.error e) s') bv
      else ∃ m,m < n/\I m bv) (notedBy (model prog w) A env λ e s'=>R (.error e) s') cj) (notedBy (model prog w) A env λ e s'=>R (.error e) s') ej) (notedBy (model prog w) A env λ e s'=>R (.error e) s') ai)
    (notedBy (model prog w) A env λ e s'=>R (.error e) s') s)
  (n:Nat) (h:I n s) :
  codeAny (model prog w) A (.compLoop (.ListComp elt [⟨target,iter,ifs,0⟩] scope pos) 0 it acc env) R s:=by
 refine codeAny_loop rfl I (λ n s hI=>?_) n h
 show wpAny _ A ((compTurn (.ListComp elt [⟨target,iter,ifs,0⟩] scope pos) 0 it acc env).onRaise (λ x=>do noteFrame x env;theTreesLotGoes x)) _ _ s
 refine wpAny_noted ?_
 rw[compTurn_list]
 refine wpAny_bind (wpAny_standAt (wpAny_bind (wpAny_mono (turn n s hI) (λ r ai h₁=>?_) λ _ _ h'=>h')))
 cases r with
 | none=>exact wpAny_pure h₁
 | some v=>
  refine wpAny_bind (wpAny_mono h₁ (λ _ ej h₁'=>?_) λ _ _ h'=>h')
  refine wpAny_bind (wpAny_mono h₁' (λ _ cj am=>wpAny_bind (wpAny_mono am (λ ok bv aj=>?_) λ _ _ h'=>h')) λ _ _ h'=>h')
  cases ok with
  | false=>exact wpAny_pure ⟨rfl,aj⟩
  | true=>
   exact wpAny_bind (wpAny_bind (wpAny_mono aj (λ x cr ap=>wpAny_bind (wpAny_mono ap (λ _ fj be=>wpAny_pure (wpAny_pure ⟨rfl,be⟩)) λ _ _ h'=>h')) λ _ _ h'=>h'))
end
section
variable {X:Cx}
theorem LcOk.invC {scope:Scope}{cl:List (Str×Addr)}{N':List Str}{fr:List (Option Nat)}{pins:List (Addr×Obj)}{σ:St}{H:Hp}{s:Shared}{h1:Heap}{fp:List Addr}{m1:Str->Option Value}{tk:Nat}
  (S:LcOk X scope cl N' fr) (I:Inv X pins σ H s) (hf:∀ b∈fp,gP X pins H b) (hfo:∀ b∈fp,b < s.heap.objs.size)
  (k:∀ b o,s.heap.get? b=some o->h1.get? b=some o) (hn:h1.Ns s.heap.objs.size m1):Inv (sU X N' scope cl fp s H) [] (uI fr σ) H { s with heap:=h1,toks:=tk }:=by
 have hfree:=S.frees
 have hcell:=S.nocell
 rw[abl] at hfree hcell
 have fresh:H s.heap.objs.size=none:=I.hok.fresh (Nat.le_refl _)
 have clg:=S.cls.get
 refine⟨⟨I.ok.mod,S.kind,I.ok.glob,I.ok.blt,Nat.le_refl _,λ x y c e1 e2=>I.ok.inj x y c (clg x c e1) (clg y c e2),λ x hx=>?_,(λ x c e=>nomatch e),I.ok.hd,I.ok.frames,.inl rfl,λ b hb=>⟨aat (hfo b hb),λ x c e=>(hf b hb).2.2.2.2.1 x c (clg x c e)⟩,
  I.bs,abp I.ok.bsz I.sz,λ b o e hb=>?_,λ b hb hz=>?_,I.stack,I.stkFree⟩,rfl,I.bare,Un.kept k,⟨m1,hn,λ i x v e1 e2 e3=>?_⟩,λ x c e=>?_,fresh,λ x c e=>I.freeC x c (clg x c e),λ p hp=>absurd (show p∈([]:List (Addr×Obj)) from hp) (by simp),I.hok.kept k,?_⟩
 ·
  have hm:∃ k',(x,k')∈scope.names/\k'=NameKind.free:=by
   have hx':(relabel scope X.env).names.lookup x=some .cell\/(relabel scope X.env).names.lookup x=some .free:=hx
   obtain⟨k',e,hk'⟩:∃ k',(relabel scope X.env).names.lookup x=some k'/\(k'=.cell\/k'=.free):=by
    rcases hx' with e | e
    ·exact⟨_,e,.inl rfl⟩
    ·exact⟨_,e,.inr rfl⟩
   have hmem:=PySem.mem_of_lookup e
   obtain⟨⟨n,kn⟩,hp,he⟩:=abf.mp hmem
   dsimp only at he
   split at he
   ·rename_i hc
    cases he
    have:kn=.free:=by
     simp only [Bool.and_eq_true,beq_iff_eq] at hc
     exact hc.1.1
    exact⟨kn,hp,this⟩
   ·cases he
    rcases hk' with e' | e'
    ·subst e'
     have:=hcell _ hp
     simp at this
    ·exact⟨_,hp,e'⟩
  obtain⟨k',hp,rfl⟩:=hm
  have:=hfree _ hp
  simp only [bne_self_eq_false,Bool.false_or] at this
  exact Option.isSome_iff_exists.mp this
 ·rcases (hf b hb).2.2.2.1 with z | z
  ·exact I.ok.noex b o e z
  ·have:=aai e
   exact absurd (aal this (abp I.ok.bsz z)) (abj _)
 ·obtain⟨_,f1,f2,_⟩:=hf b hb
  rcases List.mem_cons.mp (I.stkSub b hz) with e | e
  ·exact f1 e
  ·exact f2 e
 ·
  unfold uI at e2
  rw[aah] at e2
  cases ef:fr[i]? with
  | none=>rw[ef] at e2;cases e2
  | some o=>
   rw[ef] at e2
   cases o with
   | none=>simp at e2
   | some j=>
    have e2':(σ[j]?).join=some v:=by simpa using e2
    obtain⟨x',h1',h2',h3',h4'⟩:=S.fr.get i j ef
    rw[Nat.zero_add] at h1'
    have ex:x'=x:=by
     have:N'[i]? = some x:=e1
     rw[h1'] at this
     exact abe this
    subst ex
    have e2'':σ[j]? = some (some v):=by
     cases q:σ[j]? with
     | none=>rw[q] at e2';cases e2'
     | some z=>rw[q] at e2';simp at e2';rw[e2']
    obtain⟨m,hm,hl⟩:=I.loc
    obtain⟨u,r,lk⟩:=hl j x' v h2' e2'' (.inr (.inl h4'))
    refine⟨u,r,?_⟩
    rcases lk with ⟨q,_⟩ | ⟨_,c,hc,z⟩
    ·rw[h4'] at q;cases q
    ·have hcl:∃ c',cl.lookup x'=some c':=by
      have:=hfree _ (PySem.mem_of_lookup h3')
      simp only [bne_self_eq_false,Bool.false_or] at this
      exact Option.isSome_iff_exists.mp this
     obtain⟨c',hc'⟩:=hcl
     have e':=clg x' c' hc'
     rw[hc] at e'
     cases e'
     obtain⟨oc,hoc,hd⟩:=z
     refine .inr ⟨.inl ?_,c,hc',oc,k c oc hoc,hd⟩
     exact eI I.ok.kind h3' h4'
 ·obtain⟨v,oc,hoc,hd⟩:=I.cell x c (clg x c e)
  exact⟨v,oc,k c oc hoc,hd⟩
 ·show (uI fr σ).length=N'.length
  unfold uI
  rw[aac,S.len]
theorem Inv.outC {scope:Scope}{cl:List (Str×Addr)}{N':List Str}{pins pins':List (Addr×Obj)}{σ ac:St}{H H':Hp}{s s':Shared}{fp:List Addr} (I:Inv X pins σ H s) (J:Inv (sU X N' scope cl fp s H) pins' ac H' s')
  (hf:∀ b∈fp,gP X pins H b):Inv X pins σ H' s':=
 I.call' (ch:=fp) J.os J.base J.hok J.bare λ b hb=>by
  obtain⟨_,f1,_,f3,f4,f5⟩:=hf b hb
  exact⟨f3,f1,f4,f5⟩
theorem Inv.letgo {pins:List (Addr×Obj)}{σ:St}{H:Hp}{s:Shared}{C:Addr}{h':Heap} (I:Inv X pins σ H s) (f:gP X pins H C) (hsb:Heap.SameBut C s.heap h'):Inv X pins σ H { s with heap:=h' }:=by
 obtain⟨f0,f1,f2,f3,f4,f5⟩:=f
 exact I.turned (t':=s.toks) (it:=C) (h':=h') (λ b o hb e=>(hsb.2 b hb).trans e) f0 f1 f3 f4 f5
theorem tW {elt tg iter:Expr}{ifs:List Expr}{scope:Scope}{pos:Pos}{N':List Str}{fr:List (Option Nat)}{cl:List (Str×Addr)}{g:TG}{tc:TT}{te:TE}
  {pins:List (Addr×Obj)}{σ:St}{H:Hp}{s:Shared}{J:It}{fp:List Addr}{it:Addr}{tn:Nat->Heap->Prop}{Q:Addr->Hp->Prop}{RR:Value->Addr->Result->Shared->Prop}{E:Value->Shared->Prop}
  (hx:∀ e s,¬ X.xe e s) (hc:X.calm=true) (S:LcOk X scope cl N' fr)
  (hg:∀ fp s H,PG (sU X N' scope cl fp s H) tg g) (ht:∀ fp s H,GE (sU X N' scope cl fp s H) ifs tc) (he:∀ fp s H,PE (sU X N' scope cl fp s H) elt te)
  (I:Inv X pins σ H s) (T:Turn X.prog X.w X.K tg J fp it tn) (st:tn 0 s.heap) (hf:∀ b∈fp,gP X pins H b) (h:j3 J g tc te fr σ H Q)
  (hRR:∀ D C H' s' m',Inv X pins σ H' s'->Q D H'->s'.heap.Ns C m'->gP X pins H' C->RR (.ref D) C (.ok .next) s') :
  wpAny (model X.prog X.w) X.A (newList []) (λ acc bv=>wpAny (model X.prog X.w) X.A (newFunctionEnv scope X.env.globals cl [] X.env.qual none .none (some X.env)) (λ cenv cr=>
   codeAny (model X.prog X.w) X.A (.compStart (.ListComp elt [⟨tg,iter,ifs,0⟩] scope pos) 0 (.ref it) acc { cenv with scope:=relabel scope X.env }) (RR acc cenv.locals) cr) E bv) E s:=by
 have hcell:=S.nocell
 rw[abl] at hcell
 refine wpAny_newObj_type (wpAny_newFunctionEnv (λ x hx'=>by simpa using hcell x hx') (by intro y hy;simp at hy) (λ h₁ bz cx=>?_) S.kind)
 dsimp only at bz cx ⊢
 have fresh:H s.heap.objs.size=none:=I.hok.fresh (Nat.le_refl _)
 have I3:Inv X pins σ (upd H s.heap.objs.size (.lst [])) { s with heap:=s.heap.push { cls:=.type "list",data:=.seq ([]:List Value).toArray },toks:=s.toks }:=I.lnew (ys:=[]) (its:=[]) .nil (Nat.zero_le _)
 have hf3:∀ b∈fp,gP X pins (upd H s.heap.objs.size (.lst [])) b:=λ b hb=>by
  obtain⟨o,ho,_⟩:=T.obj _ _ st b hb
  exact⟨by rw[aO (aat (aai ho))];exact (hf b hb).1,(hf b hb).2⟩
 generalize hs3:({ s with heap:=s.heap.push { cls:=.type "list",data:=.seq ([]:List Value).toArray },toks:=s.toks }:Shared)=s3 at I3
 have e3:s3.heap=s.heap.push { cls:=.type "list",dict:=none,data:=.seq ([]:List Value).toArray }:=by rw[<- hs3]
 have e3s:({ s with heap:=s.heap.push { cls:=.type "list",dict:=none,data:=.seq ([]:List Value).toArray } }:Shared)=s3:=hs3
 have hsz3:s3.heap.objs.size=s.heap.objs.size+1:=by rw[e3,abg]
 have hfo:∀ b∈fp,b < s3.heap.objs.size:=λ b hb=>by
  obtain⟨o,ho,_⟩:=T.obj _ _ st b hb
  rw[hsz3]
  exact Nat.lt_succ_of_lt (aai ho)
 rw[<- e3] at bz cx ⊢
 have old3:∀ b o,s3.heap.get? b=some o->h₁.get? b=some o:=λ b o e=>cx.extBut b o (aat (aai e)) (aab _ e)
 have old:∀ b o,s.heap.get? b=some o->s3.heap.get? b=some o:=λ b o e=>by rw[e3];exact aab _ e
 have I4:=S.invC (tk:=s3.toks) I3 hf3 hfo old3 bz
 obtain⟨W,⟨m0,w0⟩,turn⟩:=h s.heap.objs.size fresh
 have stat:∀ {H':Hp},(∀ b∈fp,H' b=none)->∀ b∈fp,gP (sU X N' scope cl fp s3 (upd H s.heap.objs.size (.lst []))) [] H' b:=λ hn b hb=>by
  refine⟨hn b hb,aat (hfo b hb),?_,.inl hb,λ x c e=>(hf b hb).2.2.2.2.1 x c (S.cls.get x c e),λ p hp=>absurd (show p∈([]:List (Addr×Obj)) from hp) (by simp)⟩
  intro hz
  obtain⟨_,f1,f2,_⟩:=hf b hb
  rcases List.mem_cons.mp (I.stkSub b hz) with e | e
  ·exact f1 e
  ·exact f2 e
 have loop:∀ s4:Shared,s4={ s3 with heap:=h₁,toks:=s3.toks }->
   codeAny (model X.prog X.w) X.A (.compLoop (.ListComp elt [⟨tg,iter,ifs,0⟩] scope pos) 0 (.ref it) (.ref s.heap.objs.size) (compEnvC scope cl s3.heap.objs.size X.env)) (RR (.ref s.heap.objs.size) s3.heap.objs.size) s4:=by
  intro s4 hs4
  refine lW (λ n s'=>∃ i ys ac H',Inv (sU X N' scope cl fp s3 (upd H s.heap.objs.size (.lst []))) [] ac H' s'/\tn i s'.heap/\(∀ b∈fp,H' b=none)/\W i n ys ac H') ?_ m0
   ⟨0,[],uI fr σ,_,by rw[hs4];exact I4,by rw[hs4];exact T.keep _ _ _ st λ b _ o e=>old3 b o (old b o e),λ b hb=>(hf3 b hb).1,w0⟩
  rintro n s5 ⟨i,ys,ci,H5,I5,st5,fr5,w5⟩
  rcases turn i n ys ci H5 w5 with ⟨stop,qn⟩ | ⟨go,N,hN,step⟩
  ·refine cQ (T.done (sU X N' scope cl fp s3 (upd H s.heap.objs.size (.lst []))) rfl rfl rfl hc i [] s5 ci H5 _ I5 (stat fr5) st5 stop) λ r s6 ⟨hr,I6⟩=>?_
   subst hr
   obtain⟨m',hm',_⟩:=I6.loc
   exact hRR _ _ H5 s6 m' (I3.outC I6 hf3) qn hm' (I3.fpOk (Nat.le_refl _) I6.free)
  ·refine cQ (T.item (sU X N' scope cl fp s3 (upd H s.heap.objs.size (.lst []))) rfl rfl rfl hc i [] s5 ci H5 _ I5 (stat fr5) st5 go) λ r s6 ⟨u,hr,h6⟩=>?_
   subst hr
   refine cQ h6 λ _ s7 ⟨x,H7,I7,r7,y7,st7,fr7⟩=>?_
   have I7':=I7.pinned (stat fr7) (T.obj _ _ st7)
   refine wpAny_mono (hg fp s3 _ _ s7 ci H7 x u _ I7' r7 (step x H7 y7)) (λ _ s8 ⟨bu,H8,I8,q8⟩=>?_) λ e s' z=>(hx e s' z).elim
   refine wpAny_mono (ht fp s3 _ _ s8 bu H8 _ I8 q8) (λ ok s9 ⟨H9,I9,q9⟩=>?_) λ e s' z=>(hx e s' z).elim
   have again:∀ {s10:Shared}{H10:Hp}{ys':List V},Inv (sU X N' scope cl fp s3 (upd H s.heap.objs.size (.lst []))) ([]++mM fp s7.heap) bu H10 s10->N ys' bu H10->
     ∃ m,m < n/\∃ i ys ac H',Inv (sU X N' scope cl fp s3 (upd H s.heap.objs.size (.lst []))) [] ac H' s10/\tn i s10.heap/\(∀ b∈fp,H' b=none)/\W i m ys ac H':=λ {s10 H10 ys'} I10 n10=>by
    obtain⟨m',hm,w10⟩:=hN ys' bu H10 n10
    refine⟨m',hm,i+1,ys',bu,H10,I10.unpinned,T.keep _ _ _ st7 λ b hb o e=>(I10.pin (b,o) (aax _ (aax _ (fB hb e)))).1,λ b hb=>?_,w10⟩
    obtain⟨o,e,d⟩:=T.obj _ _ st7 b hb
    exact (I10.pin (b,o) (aax _ (aax _ (fB hb e)))).2.1
   cases ok with
   | false=>
    rw[if_neg aaf] at q9 ⊢
    exact again I9 q9
   | true=>
    rw[if_pos rfl] at q9 ⊢
    refine wpAny_mono (he fp s3 _ _ s9 bu H9 _ I9 q9) (λ y s10 ⟨yv,H10,I10,r10,hD,hlen,q10⟩=>?_) λ e s' z=>(hx e s' z).elim
    refine wpAny_mono (cD (X:=sU X N' scope cl fp s3 (upd H s.heap.objs.size (.lst []))) _ s10 bu H10 (.ref s.heap.objs.size) [yv] (.ref s.heap.objs.size) [y] (λ _ H11=>H11=upd H10 s.heap.objs.size (.lst (ys++[yv]))) I10 rfl (.cons r10 .nil)
     ⟨_,ys,yv,rfl,rfl,hD,hlen,rfl⟩) (λ _ s11 ⟨_,H11,I11,_,e11⟩=>?_) λ e s' z=>(hx e s' z).elim
    subst e11
    exact again I11 q10
 exact codeAny_compStart_list (loop _ (by rw[<- e3s];rfl)) (T.self X.A 0 _ _ _ (T.keep _ _ _ st λ b _ o e=>old3 b o (old b o e)) (loop _ (by rw[<- e3s];rfl)))
theorem gL {elt tg iter:Expr}{ifs:List Expr}{scope:Scope}{pos:Pos}{N':List Str}{fr:List (Option Nat)}{cl:List (Str×Addr)}{wi:TI}{g:TG}{tc:TT}{te:TE}
  (hx:∀ e s,¬ X.xe e s) (hc:X.calm=true) (S:LcOk X scope cl N' fr) (hi:PI X tg iter wi)
  (hg:∀ fp s H,PG (sU X N' scope cl fp s H) tg g) (ht:∀ fp s H,GE (sU X N' scope cl fp s H) ifs tc) (he:∀ fp s H,PE (sU X N' scope cl fp s H) elt te)
  (hs:∀ x,foldedSetIterable iter X.env x=pure x:=by intro _;rfl):PE X (.ListComp elt [⟨tg,iter,ifs,0⟩] scope pos) (tLC wi fr g tc te):=by
 intro pins s σ H Q I h
 have hloc:=S.locs
 rw[abl] at hloc
 rw[eval_ListComp]
 refine wpAny_comprehension_free (use:=none) rfl hs S.clos S.kind (λ x hx' hl=>by have:=hloc x hx';rw[hl] at this;simpa using this) (cQ (hi pins s σ H _ I h) λ v s1 h1=>cQ h1 λ itv s2 h2=>?_)
 obtain⟨it,fp,tn,J,H2,e,I2,T,st2,f2,rest⟩:=h2
 subst e
 refine tW (RR:=λ acc C=>compPost (model X.prog X.w) X.A X.xe none (EP X pins σ Q) acc C) hx hc S hg ht he I2 T st2 f2 rest ?_
 intro D C H' s' m' I' q hn f
 exact⟨m',hn,λ h' hsb=>⟨.ref D,H',I'.letgo f hsb,rfl,q⟩⟩
theorem jG {i:Nat}{y:Str}{py:Pos}{spos:Pos}{elt tg iter:Expr}{ifs:List Expr}{scope:Scope}{pos:Pos}{N':List Str}{fr:List (Option Nat)}{cl:List (Str×Addr)}{wi:TI}{g:TG}{tc:TT}{te:TE}
  (hN:X.N.Nodup) (hy:X.N[i]? = some y) (hk:X.env.scope.names.lookup y=some .local)
  (hx:∀ e s,¬ X.xe e s) (hc:X.calm=true) (S:LcOk X scope cl N' fr) (hi:PI X tg iter wi)
  (hg:∀ fp s H,PG (sU X N' scope cl fp s H) tg g) (ht:∀ fp s H,GE (sU X N' scope cl fp s H) ifs tc) (he:∀ fp s H,PE (sU X N' scope cl fp s H) elt te)
  (hsw:swapsWith (.ListComp elt [⟨tg,iter,ifs,0⟩] scope pos) (some (.Name y py)) spos.line X.env=pure true:=by rfl)
  (hs:∀ x,foldedSetIterable iter X.env x=pure x:=by intro _;rfl):PS X (.Assign [.Name y py] (.ListComp elt [⟨tg,iter,ifs,0⟩] scope pos) spos) (jN (tLC wi fr g tc te) (gE i)):=by
 intro pins s σ H D I h
 have hloc:=S.locs
 rw[abl] at hloc
 rw[exec_Assign_Name_used _ _ _ _ hsw]
 refine wpAny_bind (wpAny_standAt (wpAny_bind ?_))
 show wpAny _ X.A (do let _ <- comprehension (.ListComp elt [⟨tg,iter,ifs,0⟩] scope pos) scope X.env _ (newList []) false (eval iter X.env) (some (assign (.Name y py) X.env))) _ _ s
 refine wpAny_bind (wpAny_mono (wpAny_comprehension_free (use:=some (assign (.Name y py) X.env)) (Q:=λ _ s'=>SP X pins D .next s') rfl hs S.clos S.kind (λ x hx' hl=>by have:=hloc x hx';rw[hl] at this;simpa using this)
  (cQ (hi pins s σ H _ I h) λ v s1 h1=>cQ h1 λ itv s2 h2=>?_)) (λ _ s' hq=>wpAny_pure (wpAny_pure hq)) λ _ _ e=>e)
 obtain⟨it,fp,tn,J,H2,e,I2,T,st2,f2,rest⟩:=h2
 subst e
 refine tW (RR:=λ acc C=>compPost (model X.prog X.w) X.A X.xe (some (assign (.Name y py) X.env)) (λ _ s'=>SP X pins D .next s') acc C) hx hc S hg ht he I2 T st2 f2 rest ?_
 intro Da C H' s' m' I' q hn f
 show wpAny _ X.A (assign (.Name y py) X.env (.ref Da)) _ _ _
 refine wpAny_assign_Name (mE I' hN hy (.inl hk) (v:=.ref Da) rfl (λ s'' I'' hch=>?_) (.inr hk))
 obtain⟨a,hsb,ha⟩:=hch
 have haC:a≠C:=by
  rcases ha with e | e
  ·rw[e];exact Ne.symm f.2.1
  ·exact f.2.2.2.2.1 _ _ e
 exact⟨m',hn.sameBut hsb (Ne.symm haC),λ h' hs'=>⟨_,H',I''.letgo f hs',q⟩⟩
end
end L2
namespace TwZ
open PySem
open Sem (wp)
noncomputable def cZ (h:Heap) (t:Bool) (it a:Addr) (i:Nat):Prop:=if t=true then h.IsTupleIter it a i else h.IsListIter it a i
noncomputable def bW (h:Heap) (t:Bool) (a:Addr) (items:Array Value):Prop:=if t=true then h.IsTuple a items else h.IsList a items
theorem cZ.at {h h':Heap}{t:Bool}{it a:Addr}{i:Nat} (x:cZ h t it a i) (k:∀ o,h.get? it=some o->h'.get? it=some o):cZ h' t it a i:=by
 cases t <;> (obtain⟨o,ho,r⟩:=x;exact⟨o,k o ho,r⟩)
theorem ex {h h':Heap}{b c:Addr}{o:Obj} (hs:Heap.SameBut b h h') (hc:@Ne Nat c b) (e:h.get? c=some o):h'.get? c=some o:=hs.extBut _ _ hc e
theorem cZ.ext {h h':Heap}{t:Bool}{it a b:Addr}{i:Nat} (x:cZ h t it a i) (hs:Heap.SameBut b h h') (hab:@Ne Nat it b):cZ h' t it a i:=x.at λ o e=>hs.extBut _ _ hab e
theorem bW.at {h h':Heap}{t:Bool}{a:Addr}{xs:Array Value} (x:bW h t a xs) (k:∀ o,h.get? a=some o->h'.get? a=some o):bW h' t a xs:=by
 cases t <;> (obtain⟨o,ho,r⟩:=x;exact⟨o,k o ho,r⟩)
theorem bW.ext {h h':Heap}{t:Bool}{a b:Addr}{xs:Array Value} (x:bW h t a xs) (hs:Heap.SameBut b h h') (hab:@Ne Nat a b):bW h' t a xs:=x.at λ o e=>hs.extBut _ _ hab e
theorem bW.lt {h:Heap}{t:Bool}{a:Addr}{xs:Array Value} (x:bW h t a xs):a < h.objs.size:=by
 cases t <;> (obtain⟨o,ho,r⟩:=x;exact aai ho)
theorem cZ.obj {h:Heap}{t:Bool}{it a:Addr}{i:Nat} (x:cZ h t it a i):∃ o,h.get? it=some o/\∀ v,o.data≠.cell v:=by
 cases t <;> (obtain⟨o,ho,_,d⟩:=x;exact⟨o,ho,λ v z=>by rw[d] at z;cases z⟩)
section
variable {prog:Program}{w:World}{M:Model}{A:Around}{E:Value->Shared->Prop}{s:Shared}
theorem mW {a:Addr}{Q:Option Obj->Shared->Prop} (h:Q (s.heap.get? a) s):wpAny M A (loadIfAlive a) Q E s:=λ Γ p _=>by
 unfold loadIfAlive
 rw[Sem.wp_loadIfAlive]
 exact h
theorem lJ {it l:Addr}{i:Nat}{items}{x:Value}{Q:Value->Shared->Prop} (hit:s.heap.IsTupleIter it l i)
  (hl:s.heap.IsTuple l items) (hx:items[i]? = some x)
  (hQ:∀ h',h'.IsTupleIter it l (i+1)->Heap.SameBut it s.heap h'->Q x { s with heap:=h' }) :
  wpAny (model prog w) A (Builtin.SmallTypes.nextOf (.ref it)) Q E s:=by
 obtain⟨o,ho,hc,hd⟩:=id hit
 obtain⟨ol,hol,_,nl,hdl⟩:=hl
 unfold Builtin.SmallTypes.nextOf
 refine wpAny_bind (wpAny_callSpecial?_slot (name:=Str.ofString "__next__") hit.typeIs F.slot_tuple_iterator_next
  (wpAny_call_entry F.slot_tuple_iterator_next hit.typeIs F.entry_tuple_iterator_next ?_ (F.args_tuple_iterator_next_1 _)))
 show wpAny _ _ (field (.ref it) 0 >>= _) _ _ s
 refine wpAny_bind (wpAny_field ho hd (x:=.ref l) rfl ?_)
 show wpAny _ _ (if (Value.ref l == Value.none)=true then _ else _) _ _ s
 rw[if_neg (show ¬ ((Value.ref l == Value.none)=true) from aaf)]
 show wpAny _ _ (field (.ref it) 1 >>= _) _ _ s
 refine wpAny_bind (wpAny_field ho hd (x:=.int i 0) rfl ?_)
 show wpAny _ _ (seqItems? (.ref l) >>= _) _ _ s
 refine wpAny_bind (wpAny_seqItems hol hdl ?_)
 simp only [acd,hx]
 refine wpAny_bind (wpAny_setField ho hd (by simp) (wpAny_pure ⟨x,rfl,wpAny_pure (hQ _ ?_ (Heap.SameBut.update ..))⟩))
 exact⟨_,Heap.get?_update_self _ ho (Obj.isFreed_of_fields (Obj.data_mapFields hd _)),(Obj.cls_mapFields ..).trans hc,by
  rw[Obj.data_mapFields hd];simp [rawInt]⟩
theorem mP {it l:Addr}{i:Nat}{items}{Q:Value->Shared->Prop} (hh:A.handled=none)
  (hit:s.heap.IsTupleIter it l i) (hl:s.heap.IsTuple l items) (hx:items[i]? = none)
  (hE:∀ h' e,Heap.ExtBut it s.heap h'->(∃ o,h'.get? e=some o/\o.cls=.type "StopIteration")->E (.ref e) { s with heap:=h' }) :
  wpAny (model prog w) A (Builtin.SmallTypes.nextOf (.ref it)) Q E s:=by
 obtain⟨o,ho,hc,hd⟩:=id hit
 obtain⟨ol,hol,_,nl,hdl⟩:=hl
 unfold Builtin.SmallTypes.nextOf
 refine wpAny_bind (wpAny_callSpecial?_slot (name:=Str.ofString "__next__") hit.typeIs F.slot_tuple_iterator_next
  (wpAny_call_entry F.slot_tuple_iterator_next hit.typeIs F.entry_tuple_iterator_next ?_ (F.args_tuple_iterator_next_1 _)))
 show wpAny _ _ (field (.ref it) 0 >>= _) _ _ s
 refine wpAny_bind (wpAny_field ho hd (x:=.ref l) rfl ?_)
 show wpAny _ _ (if (Value.ref l == Value.none)=true then _ else _) _ _ s
 rw[if_neg (show ¬ ((Value.ref l == Value.none)=true) from aaf)]
 show wpAny _ _ (field (.ref it) 1 >>= _) _ _ s
 refine wpAny_bind (wpAny_field ho hd (x:=.int i 0) rfl ?_)
 show wpAny _ _ (seqItems? (.ref l) >>= _) _ _ s
 refine wpAny_bind (wpAny_seqItems hol hdl ?_)
 simp only [acd,hx]
 refine wpAny_bind (wpAny_rule (wpAny_bind (wpAny_setField ho hd (by simp) ?_)))
 show wpAny _ _ (newExc (.type "StopIteration") [] >>= _) _ _ _
 refine wpAny_bind ?_
 simp only [newExc,newTuple]
 refine wpAny_bind (wpAny_newObj_type ?_ (by size_fits))
 refine wpAny_bind (m:=firstArgMember _ _) (wpAny_of_eq (a:=Value.none) (by first | rfl | (simp only [firstArgMember];rfl)) ?_)
 refine wpAny_newObj_type ?_ (by size_fits)
 simp only [raiseNew]
 refine wpAny_bind (wpAny_handled ?_)
 first | rw[show A.in1.handled=none from hh] | rw[hh]
 refine wpAny_bind (wpAny_pure (wpAny_throw ?_))
 exact hE _ _ (((Heap.SameBut.update ..).extBut.push _).push _) ⟨_,aag _ rfl,rfl⟩
theorem bQ {t:Bool}{it l:Addr}{i:Nat}{items}{x:Value}{Q:Value->Shared->Prop} (hit:cZ s.heap t it l i)
  (hl:bW s.heap t l items) (hx:items[i]? = some x)
  (hQ:∀ h',cZ h' t it l (i+1)->Heap.SameBut it s.heap h'->Q x { s with heap:=h' }) :
  wpAny (model prog w) A (Builtin.SmallTypes.nextOf (.ref it)) Q E s:=by
 cases t with
 | true=>exact lJ hit hl hx hQ
 | false=>exact wpAny_nextOf_list_item hit hl hx hQ
theorem cO {t:Bool}{it l:Addr}{i:Nat}{items}{Q:Value->Shared->Prop} (hh:A.handled=none)
  (hit:cZ s.heap t it l i) (hl:bW s.heap t l items) (hx:items[i]? = none)
  (hE:∀ h' e,Heap.ExtBut it s.heap h'->(∃ o,h'.get? e=some o/\o.cls=.type "StopIteration")->E (.ref e) { s with heap:=h' }) :
  wpAny (model prog w) A (Builtin.SmallTypes.nextOf (.ref it)) Q E s:=by
 cases t with
 | true=>exact mP hh hit hl hx hE
 | false=>exact wpAny_nextOf_list_end hh hit hl hx hE
noncomputable abbrev kS (h:Heap) (z TI TO:Addr) (f0:Value) (f1:Bool):Prop:=
 h.get? z=some { cls:=.type "zip",dict:=none,data:=.fields #[f0,.bool f1,.bool false,.ref TI,.ref TO],slots:=#[] }
noncomputable abbrev cU (h:Heap) (T:Addr) (vs:Array Value):Prop:=h.get? T=some { cls:=.type "tuple",data:=.seq vs }
noncomputable def fP (f0:Value):Prop:=f0=.none\/∃ a:Int,f0=.int a 0
theorem i7 {z TI TO:Addr}{f0:Value}{f1:Bool}{Q:Bool->Shared->Prop} (hz:kS s.heap z TI TO f0 f1) (hf:fP f0) (yes:Q true s)
  (no:∀ h',kS h' z TI TO f0 true->Heap.SameBut z s.heap h'->Q false { s with heap:=h' }):wpAny (model prog w) A (Builtin.SmallTypes.ownedTupleIsFree (.ref z)) Q E s:=by
 unfold Builtin.SmallTypes.ownedTupleIsFree
 refine wpAny_bind (wpAny_field hz rfl (x:=f0) rfl ?_)
 rcases hf with rfl | ⟨a,rfl⟩
 ·exact wpAny_pure yes
 ·refine wpAny_bind (mW ?_)
  cases h:s.heap.get? a.toNat with
  | none=>exact wpAny_pure yes
  | some o=>
   show wpAny _ _ (field (.ref z) 1 >>= _) _ _ _
   refine wpAny_bind (wpAny_field hz rfl (x:=.bool f1) rfl ?_)
   cases f1 with
   | true=>exact wpAny_pure (no s.heap hz (Heap.SameBut.refl ..))
   | false=>
    show wpAny _ _ (setField (.ref z) 1 (.bool true) >>= _) _ _ _
    refine wpAny_bind (wpAny_setField_rec hz (by simp) λ h₁ ak ad=>wpAny_pure (no h₁ ak ad))
theorem wN {z TI TO:Addr}{f0:Value}{f1:Bool}{T:Addr}{Q:Unit->Shared->Prop} (hz:kS s.heap z TI TO f0 f1)
  (h:∀ h',kS h' z TI TO (rawInt T) false->Heap.SameBut z s.heap h'->Q () { s with heap:=h' }):wpAny (model prog w) A (Builtin.SmallTypes.ownedTupleHandOut (.ref z) (.ref T)) Q E s:=by
 unfold Builtin.SmallTypes.ownedTupleHandOut
 refine wpAny_bind (wpAny_setField_rec hz (by simp) λ h₁ ak ad=>?_)
 replace ak:kS h₁ z TI TO (rawInt T) f1:=ak
 refine wpAny_setField_rec ak (by simp) λ am bw ae=>?_
 exact h am bw (Heap.SameBut.trans ad ae)
theorem gK {T:Addr}{vs:Array Value}{x:Value}{k:Nat}{Q:Unit->Shared->Prop} (hT:cU s.heap T vs) (h3:vs.size<=3)
  (h:∀ h',cU h' T (vs.setIfInBounds k x)->Heap.SameBut T s.heap h'->Q () { s with heap:=h' }):wpAny (model prog w) A (updateSeq T (·.setIfInBounds k x)) Q E s:=by
 have hl:vs.size<=sizeLine:=abp h3 (by decide)
 refine wpAny_updateSeq (hz:=hl) (_hz':=by rw[Array.size_setIfInBounds];omega) hT rfl (h _ ?_ (Heap.SameBut.update ..))
 show Heap.get? _ _=_
 rw[Heap.get?_update_self _ hT rfl]
 simp [Obj.mapSeq]
theorem nn {n i j:Nat} (h:i≠j):n+i≠n+j:=λ e=>h (Nat.add_left_cancel e)
theorem n0 {n j:Nat} (h:0 < j):n≠n+j:=λ e=>absurd e (aat (Nat.lt_add_of_pos_right h))
theorem aW {n j:Nat} (h:0 < j):n+j≠n:=Ne.symm (n0 h)
theorem al {a n:Nat} (h:a < n) (j:Nat):a≠n+j:=aat (aal h (Nat.le_add_right n j))
theorem aI {a n:Nat} (h:a < n):a≠n:=aat h
theorem co {c n m k:Nat} (h:c < n\/n+m < c) (hk:k<=m):c≠n+k:=λ e=>h.elim (λ h=>absurd e (al h k)) λ h=>absurd (Nat.lt_of_le_of_lt (Nat.add_le_add_left hk n) h) (by rw[e];exact abj _)
theorem aX {c n m:Nat} (h:c < n\/n+m < c):c≠n:=co (k:=0) h (Nat.zero_le m)
theorem wY {n a1 a2 a3:Nat}{t1 t2 t3:Bool}{k:Nat}{xs ys zs:Array Value}{x y z c1 c2 c3 f0:Value}{f1:Bool}{Q:Value->Shared->Prop} (hf:fP f0)
  (hz:kS s.heap (n+5) (n+3) (n+4) f0 f1) (hTI:cU s.heap (n+3) #[.ref n,.ref (n+1),.ref (n+2)]) (hTO:cU s.heap (n+4) #[c1,c2,c3])
  (i1:cZ s.heap t1 n a1 k) (i2:cZ s.heap t2 (n+1) a2 k) (i3:cZ s.heap t3 (n+2) a3 k) (s1:bW s.heap t1 a1 xs) (s2:bW s.heap t2 a2 ys) (s3:bW s.heap t3 a3 zs)
  (l1:a1 < n) (l2:a2 < n) (l3:a3 < n) (hx:xs[k]? = some x) (hy:ys[k]? = some y) (hw:zs[k]? = some z)
  (hQ:∀ (T:Nat) h' f0' f1' d1 d2 d3,s.heap.objs.size<=T->fP f0'->kS h' (n+5) (n+3) (n+4) f0' f1'->cU h' (n+3) #[.ref n,.ref (n+1),.ref (n+2)]->cU h' (n+4) #[d1,d2,d3]->
   cZ h' t1 n a1 (k+1)->cZ h' t2 (n+1) a2 (k+1)->cZ h' t3 (n+2) a3 (k+1)->cU h' T #[x,y,z]->
   (∀ (c:Nat) o,(c < n\/n+5 < c)->s.heap.get? c=some o->h'.get? c=some o)->Q (.ref T) { s with heap:=h' }) :
  wpAny (model prog w) A (Builtin.«zip.__next__» ⟨[.ref (n+5)],[]⟩) (λ fin s'=>∃ v,fin=.done (.ret v)/\Q v s') E s:=by
 have hzlt:n+5 < s.heap.objs.size:=aai hz
 show wpAny _ _ (field (.ref (n+5)) 2 >>= _) _ _ _
 refine wpAny_bind (wpAny_field hz rfl (x:=.bool false) rfl ?_)
 show wpAny _ _ (field (.ref (n+5)) 3 >>= _) _ _ _
 refine wpAny_bind (wpAny_field hz rfl (x:=.ref (n+3)) rfl ?_)
 refine wpAny_bind (wpAny_seqItems hTI rfl ?_)
 show wpAny _ _ (Builtin.SmallTypes.ownedTupleIsFree (.ref (n+5)) >>= _) _ _ _
 refine wpAny_bind (i7 hz hf ?_ ?_)
 ·simp only [if_true]
  refine wpAny_bind (wpAny_rule ?_)
  refine wpAny_bind (wpAny_field hz rfl (x:=.ref (n+4)) rfl ?_)
  refine wpAny_bind (wpAny_setField_rec hz (by simp) λ h₁ ak ad=>?_)
  replace ak:kS h₁ (n+5) (n+3) (n+4) .ellipsis f1:=ak
  refine wpAny_bind ?_
  simp only [List.zipIdx_cons,List.zipIdx_nil,List.forIn_cons,List.forIn_nil]
  refine wpAny_bind (wpAny_bind (wpAny_onRaise ?_))
  show wpAny _ _ (Builtin.SmallTypes.nextOf (.ref n) >>= _) _ _ _
  refine wpAny_bind (bQ (i1.ext ad (by first | exact nn (by decide) | exact n0 (by decide) | exact aW (by decide) | exact al l1 _ | exact al l2 _ | exact al l3 _ | exact aI l1 | exact aI l2 | exact aI l3 | exact co hc (by decide) | exact aX hc | omega)) (s1.ext ad (by first | exact nn (by decide) | exact n0 (by decide) | exact aW (by decide) | exact al l1 _ | exact al l2 _ | exact al l3 _ | exact aI l1 | exact aI l2 | exact aI l3 | exact co hc (by decide) | exact aX hc | omega)) hx λ am bg ae=>wpAny_pure ?_)
  have bf:cU am (n+4) #[c1,c2,c3]:=ex ae (by first | exact nn (by decide) | exact n0 (by decide) | exact aW (by decide) | exact al l1 _ | exact al l2 _ | exact al l3 _ | exact aI l1 | exact aI l2 | exact aI l3 | exact co hc (by decide) | exact aX hc | omega) (ex ad (by first | exact nn (by decide) | exact n0 (by decide) | exact aW (by decide) | exact al l1 _ | exact al l2 _ | exact al l3 _ | exact aI l1 | exact aI l2 | exact aI l3 | exact co hc (by decide) | exact aX hc | omega) hTO)
  refine wpAny_bind (wpAny_seqItems bf rfl ?_)
  refine wpAny_bind (gK bf (by simp) λ aj bb ag=>?_)
  replace bb:cU aj (n+4) #[x,c2,c3]:=bb
  refine wpAny_bind (wpAny_letGo (wpAny_pure ?_))
  refine wpAny_bind (wpAny_bind (wpAny_onRaise ?_))
  show wpAny _ _ (Builtin.SmallTypes.nextOf (.ref (n+1)) >>= _) _ _ _
  refine wpAny_bind (bQ (((i2.ext ad (by first | exact nn (by decide) | exact n0 (by decide) | exact aW (by decide) | exact al l1 _ | exact al l2 _ | exact al l3 _ | exact aI l1 | exact aI l2 | exact aI l3 | exact co hc (by decide) | exact aX hc | omega)).ext ae (by first | exact nn (by decide) | exact n0 (by decide) | exact aW (by decide) | exact al l1 _ | exact al l2 _ | exact al l3 _ | exact aI l1 | exact aI l2 | exact aI l3 | exact co hc (by decide) | exact aX hc | omega)).ext ag (by first | exact nn (by decide) | exact n0 (by decide) | exact aW (by decide) | exact al l1 _ | exact al l2 _ | exact al l3 _ | exact aI l1 | exact aI l2 | exact aI l3 | exact co hc (by decide) | exact aX hc | omega)) (((s2.ext ad (by first | exact nn (by decide) | exact n0 (by decide) | exact aW (by decide) | exact al l1 _ | exact al l2 _ | exact al l3 _ | exact aI l1 | exact aI l2 | exact aI l3 | exact co hc (by decide) | exact aX hc | omega)).ext ae (by first | exact nn (by decide) | exact n0 (by decide) | exact aW (by decide) | exact al l1 _ | exact al l2 _ | exact al l3 _ | exact aI l1 | exact aI l2 | exact aI l3 | exact co hc (by decide) | exact aX hc | omega)).ext ag (by first | exact nn (by decide) | exact n0 (by decide) | exact aW (by decide) | exact al l1 _ | exact al l2 _ | exact al l3 _ | exact aI l1 | exact aI l2 | exact aI l3 | exact co hc (by decide) | exact aX hc | omega)) hy λ ap ce ah=>wpAny_pure ?_)
  have bp:cU ap (n+4) #[x,c2,c3]:=ex ah (by first | exact nn (by decide) | exact n0 (by decide) | exact aW (by decide) | exact al l1 _ | exact al l2 _ | exact al l3 _ | exact aI l1 | exact aI l2 | exact aI l3 | exact co hc (by decide) | exact aX hc | omega) bb
  refine wpAny_bind (wpAny_seqItems bp rfl ?_)
  refine wpAny_bind (gK bp (by simp) λ be cm aq=>?_)
  replace cm:cU be (n+4) #[x,y,c3]:=cm
  refine wpAny_bind (wpAny_letGo (wpAny_pure ?_))
  refine wpAny_bind (wpAny_bind (wpAny_onRaise ?_))
  show wpAny _ _ (Builtin.SmallTypes.nextOf (.ref (n+2)) >>= _) _ _ _
  refine wpAny_bind (bQ (((((i3.ext ad (by first | exact nn (by decide) | exact n0 (by decide) | exact aW (by decide) | exact al l1 _ | exact al l2 _ | exact al l3 _ | exact aI l1 | exact aI l2 | exact aI l3 | exact co hc (by decide) | exact aX hc | omega)).ext ae (by first | exact nn (by decide) | exact n0 (by decide) | exact aW (by decide) | exact al l1 _ | exact al l2 _ | exact al l3 _ | exact aI l1 | exact aI l2 | exact aI l3 | exact co hc (by decide) | exact aX hc | omega)).ext ag (by first | exact nn (by decide) | exact n0 (by decide) | exact aW (by decide) | exact al l1 _ | exact al l2 _ | exact al l3 _ | exact aI l1 | exact aI l2 | exact aI l3 | exact co hc (by decide) | exact aX hc | omega)).ext ah (by first | exact nn (by decide) | exact n0 (by decide) | exact aW (by decide) | exact al l1 _ | exact al l2 _ | exact al l3 _ | exact aI l1 | exact aI l2 | exact aI l3 | exact co hc (by decide) | exact aX hc | omega)).ext aq (by first | exact nn (by decide) | exact n0 (by decide) | exact aW (by decide) | exact al l1 _ | exact al l2 _ | exact al l3 _ | exact aI l1 | exact aI l2 | exact aI l3 | exact co hc (by decide) | exact aX hc | omega))
   (((((s3.ext ad (by first | exact nn (by decide) | exact n0 (by decide) | exact aW (by decide) | exact al l1 _ | exact al l2 _ | exact al l3 _ | exact aI l1 | exact aI l2 | exact aI l3 | exact co hc (by decide) | exact aX hc | omega)).ext ae (by first | exact nn (by decide) | exact n0 (by decide) | exact aW (by decide) | exact al l1 _ | exact al l2 _ | exact al l3 _ | exact aI l1 | exact aI l2 | exact aI l3 | exact co hc (by decide) | exact aX hc | omega)).ext ag (by first | exact nn (by decide) | exact n0 (by decide) | exact aW (by decide) | exact al l1 _ | exact al l2 _ | exact al l3 _ | exact aI l1 | exact aI l2 | exact aI l3 | exact co hc (by decide) | exact aX hc | omega)).ext ah (by first | exact nn (by decide) | exact n0 (by decide) | exact aW (by decide) | exact al l1 _ | exact al l2 _ | exact al l3 _ | exact aI l1 | exact aI l2 | exact aI l3 | exact co hc (by decide) | exact aX hc | omega)).ext aq (by first | exact nn (by decide) | exact n0 (by decide) | exact aW (by decide) | exact al l1 _ | exact al l2 _ | exact al l3 _ | exact aI l1 | exact aI l2 | exact aI l3 | exact co hc (by decide) | exact aX hc | omega)) hw λ cb i3₆ az=>wpAny_pure ?_)
  have dy:cU cb (n+4) #[x,y,c3]:=ex az (by first | exact nn (by decide) | exact n0 (by decide) | exact aW (by decide) | exact al l1 _ | exact al l2 _ | exact al l3 _ | exact aI l1 | exact aI l2 | exact aI l3 | exact co hc (by decide) | exact aX hc | omega) cm
  refine wpAny_bind (wpAny_seqItems dy rfl ?_)
  refine wpAny_bind (gK dy (by simp) λ ar bi bc=>?_)
  replace bi:cU ar (n+4) #[x,y,z]:=bi
  refine wpAny_bind (wpAny_letGo (wpAny_pure (wpAny_pure ?_)))
  refine wpAny_bind (wpAny_seqItems bi rfl ?_)
  refine wpAny_bind (wpAny_newTuple ?_)
  have hsz:ar.objs.size=s.heap.objs.size:=by rw[bc.1,az.1,aq.1,ah.1,ag.1,ae.1,ad.1]
  have keep:∀ (c:Nat) o,(c < n\/n+5 < c)->s.heap.get? c=some o->ar.get? c=some o:=λ c o hc e=>
   ex bc (by first | exact nn (by decide) | exact n0 (by decide) | exact aW (by decide) | exact al l1 _ | exact al l2 _ | exact al l3 _ | exact aI l1 | exact aI l2 | exact aI l3 | exact co hc (by decide) | exact aX hc | omega) (ex az (by first | exact nn (by decide) | exact n0 (by decide) | exact aW (by decide) | exact al l1 _ | exact al l2 _ | exact al l3 _ | exact aI l1 | exact aI l2 | exact aI l3 | exact co hc (by decide) | exact aX hc | omega) (ex aq (by first | exact nn (by decide) | exact n0 (by decide) | exact aW (by decide) | exact al l1 _ | exact al l2 _ | exact al l3 _ | exact aI l1 | exact aI l2 | exact aI l3 | exact co hc (by decide) | exact aX hc | omega) (ex ah (by first | exact nn (by decide) | exact n0 (by decide) | exact aW (by decide) | exact al l1 _ | exact al l2 _ | exact al l3 _ | exact aI l1 | exact aI l2 | exact aI l3 | exact co hc (by decide) | exact aX hc | omega) (ex ag (by first | exact nn (by decide) | exact n0 (by decide) | exact aW (by decide) | exact al l1 _ | exact al l2 _ | exact al l3 _ | exact aI l1 | exact aI l2 | exact aI l3 | exact co hc (by decide) | exact aX hc | omega) (ex ae (by first | exact nn (by decide) | exact n0 (by decide) | exact aW (by decide) | exact al l1 _ | exact al l2 _ | exact al l3 _ | exact aI l1 | exact aI l2 | exact aI l3 | exact co hc (by decide) | exact aX hc | omega) (ex ad (by first | exact nn (by decide) | exact n0 (by decide) | exact aW (by decide) | exact al l1 _ | exact al l2 _ | exact al l3 _ | exact aI l1 | exact aI l2 | exact aI l3 | exact co hc (by decide) | exact aX hc | omega) e))))))
  have de:kS ar (n+5) (n+3) (n+4) .ellipsis f1:=ex bc (by first | exact nn (by decide) | exact n0 (by decide) | exact aW (by decide) | exact al l1 _ | exact al l2 _ | exact al l3 _ | exact aI l1 | exact aI l2 | exact aI l3 | exact co hc (by decide) | exact aX hc | omega) (ex az (by first | exact nn (by decide) | exact n0 (by decide) | exact aW (by decide) | exact al l1 _ | exact al l2 _ | exact al l3 _ | exact aI l1 | exact aI l2 | exact aI l3 | exact co hc (by decide) | exact aX hc | omega) (ex aq (by first | exact nn (by decide) | exact n0 (by decide) | exact aW (by decide) | exact al l1 _ | exact al l2 _ | exact al l3 _ | exact aI l1 | exact aI l2 | exact aI l3 | exact co hc (by decide) | exact aX hc | omega) (ex ah (by first | exact nn (by decide) | exact n0 (by decide) | exact aW (by decide) | exact al l1 _ | exact al l2 _ | exact al l3 _ | exact aI l1 | exact aI l2 | exact aI l3 | exact co hc (by decide) | exact aX hc | omega) (ex ag (by first | exact nn (by decide) | exact n0 (by decide) | exact aW (by decide) | exact al l1 _ | exact al l2 _ | exact al l3 _ | exact aI l1 | exact aI l2 | exact aI l3 | exact co hc (by decide) | exact aX hc | omega) (ex ae (by first | exact nn (by decide) | exact n0 (by decide) | exact aW (by decide) | exact al l1 _ | exact al l2 _ | exact al l3 _ | exact aI l1 | exact aI l2 | exact aI l3 | exact co hc (by decide) | exact aX hc | omega) ak)))))
  have cy:cU ar (n+3) #[.ref n,.ref (n+1),.ref (n+2)]:=ex bc (by first | exact nn (by decide) | exact n0 (by decide) | exact aW (by decide) | exact al l1 _ | exact al l2 _ | exact al l3 _ | exact aI l1 | exact aI l2 | exact aI l3 | exact co hc (by decide) | exact aX hc | omega) (ex az (by first | exact nn (by decide) | exact n0 (by decide) | exact aW (by decide) | exact al l1 _ | exact al l2 _ | exact al l3 _ | exact aI l1 | exact aI l2 | exact aI l3 | exact co hc (by decide) | exact aX hc | omega) (ex aq (by first | exact nn (by decide) | exact n0 (by decide) | exact aW (by decide) | exact al l1 _ | exact al l2 _ | exact al l3 _ | exact aI l1 | exact aI l2 | exact aI l3 | exact co hc (by decide) | exact aX hc | omega) (ex ah (by first | exact nn (by decide) | exact n0 (by decide) | exact aW (by decide) | exact al l1 _ | exact al l2 _ | exact al l3 _ | exact aI l1 | exact aI l2 | exact aI l3 | exact co hc (by decide) | exact aX hc | omega) (ex ag (by first | exact nn (by decide) | exact n0 (by decide) | exact aW (by decide) | exact al l1 _ | exact al l2 _ | exact al l3 _ | exact aI l1 | exact aI l2 | exact aI l3 | exact co hc (by decide) | exact aX hc | omega) (ex ae (by first | exact nn (by decide) | exact n0 (by decide) | exact aW (by decide) | exact al l1 _ | exact al l2 _ | exact al l3 _ | exact aI l1 | exact aI l2 | exact aI l3 | exact co hc (by decide) | exact aX hc | omega) (ex ad (by first | exact nn (by decide) | exact n0 (by decide) | exact aW (by decide) | exact al l1 _ | exact al l2 _ | exact al l3 _ | exact aI l1 | exact aI l2 | exact aI l3 | exact co hc (by decide) | exact aX hc | omega) hTI))))))
  have df:=((((bg.ext ag (by first | exact nn (by decide) | exact n0 (by decide) | exact aW (by decide) | exact al l1 _ | exact al l2 _ | exact al l3 _ | exact aI l1 | exact aI l2 | exact aI l3 | exact co hc (by decide) | exact aX hc | omega)).ext ah (by first | exact nn (by decide) | exact n0 (by decide) | exact aW (by decide) | exact al l1 _ | exact al l2 _ | exact al l3 _ | exact aI l1 | exact aI l2 | exact aI l3 | exact co hc (by decide) | exact aX hc | omega)).ext aq (by first | exact nn (by decide) | exact n0 (by decide) | exact aW (by decide) | exact al l1 _ | exact al l2 _ | exact al l3 _ | exact aI l1 | exact aI l2 | exact aI l3 | exact co hc (by decide) | exact aX hc | omega)).ext az (by first | exact nn (by decide) | exact n0 (by decide) | exact aW (by decide) | exact al l1 _ | exact al l2 _ | exact al l3 _ | exact aI l1 | exact aI l2 | exact aI l3 | exact co hc (by decide) | exact aX hc | omega)).ext bc (by first | exact nn (by decide) | exact n0 (by decide) | exact aW (by decide) | exact al l1 _ | exact al l2 _ | exact al l3 _ | exact aI l1 | exact aI l2 | exact aI l3 | exact co hc (by decide) | exact aX hc | omega)
  have dh:=((ce.ext aq (by first | exact nn (by decide) | exact n0 (by decide) | exact aW (by decide) | exact al l1 _ | exact al l2 _ | exact al l3 _ | exact aI l1 | exact aI l2 | exact aI l3 | exact co hc (by decide) | exact aX hc | omega)).ext az (by first | exact nn (by decide) | exact n0 (by decide) | exact aW (by decide) | exact al l1 _ | exact al l2 _ | exact al l3 _ | exact aI l1 | exact aI l2 | exact aI l3 | exact co hc (by decide) | exact aX hc | omega)).ext bc (by first | exact nn (by decide) | exact n0 (by decide) | exact aW (by decide) | exact al l1 _ | exact al l2 _ | exact al l3 _ | exact aI l1 | exact aI l2 | exact aI l3 | exact co hc (by decide) | exact aX hc | omega)
  have i3₇:=i3₆.ext bc (by first | exact nn (by decide) | exact n0 (by decide) | exact aW (by decide) | exact al l1 _ | exact al l2 _ | exact al l3 _ | exact aI l1 | exact aI l2 | exact aI l3 | exact co hc (by decide) | exact aX hc | omega)
  have fe:n+5 < ar.objs.size:=by rw[hsz];exact hzlt
  have up:∀ {c o},ar.get? c=some o->(ar.push { cls:=.type "tuple",data:=.seq #[x,y,z] }).get? c=some o:=λ e=>aab _ e
  refine wpAny_bind (wN (z:=n+5) (TI:=n+3) (TO:=n+4) (f0:=.ellipsis) (f1:=f1) (up de) λ cz di cn=>?_)
  have up8:∀ {c:Nat}{o},c≠n+5->ar.get? c=some o->cz.get? c=some o:=λ hc e=>ex cn hc (up e)
  refine wpAny_pure ⟨_,rfl,hQ ar.objs.size cz (rawInt ar.objs.size) false x y z (by rw[hsz];exact Nat.le_refl _) (.inr ⟨_,rfl⟩) di (up8 (by first | exact nn (by decide) | exact n0 (by decide) | exact aW (by decide) | exact al l1 _ | exact al l2 _ | exact al l3 _ | exact aI l1 | exact aI l2 | exact aI l3 | exact co hc (by decide) | exact aX hc | omega) cy) (up8 (by first | exact nn (by decide) | exact n0 (by decide) | exact aW (by decide) | exact al l1 _ | exact al l2 _ | exact al l3 _ | exact aI l1 | exact aI l2 | exact aI l3 | exact co hc (by decide) | exact aX hc | omega) bi) (df.at λ o e=>up8 (by first | exact nn (by decide) | exact n0 (by decide) | exact aW (by decide) | exact al l1 _ | exact al l2 _ | exact al l3 _ | exact aI l1 | exact aI l2 | exact aI l3 | exact co hc (by decide) | exact aX hc | omega) e) (dh.at λ o e=>up8 (by first | exact nn (by decide) | exact n0 (by decide) | exact aW (by decide) | exact al l1 _ | exact al l2 _ | exact al l3 _ | exact aI l1 | exact aI l2 | exact aI l3 | exact co hc (by decide) | exact aX hc | omega) e) (i3₇.at λ o e=>up8 (by first | exact nn (by decide) | exact n0 (by decide) | exact aW (by decide) | exact al l1 _ | exact al l2 _ | exact al l3 _ | exact aI l1 | exact aI l2 | exact aI l3 | exact co hc (by decide) | exact aX hc | omega) e)
   (ex cn (by first | exact nn (by decide) | exact n0 (by decide) | exact aW (by decide) | exact al l1 _ | exact al l2 _ | exact al l3 _ | exact aI l1 | exact aI l2 | exact aI l3 | exact co hc (by decide) | exact aX hc | omega) (aag _ rfl)) λ c o hc e=>up8 (by first | exact nn (by decide) | exact n0 (by decide) | exact aW (by decide) | exact al l1 _ | exact al l2 _ | exact al l3 _ | exact aI l1 | exact aI l2 | exact aI l3 | exact co hc (by decide) | exact aX hc | omega) (keep c o hc e)⟩
 ·intro h₁ ak ad
  simp only [Bool.false_eq_true,if_false]
  refine wpAny_bind ?_
  rw[<- Array.forIn_toList]
  simp only [List.forIn_cons,List.forIn_nil]
  refine wpAny_bind (wpAny_bind (wpAny_holding ?_))
  show wpAny _ _ (Builtin.SmallTypes.nextOf (.ref n) >>= _) _ _ _
  refine wpAny_bind (bQ (i1.ext ad (by first | exact nn (by decide) | exact n0 (by decide) | exact aW (by decide) | exact al l1 _ | exact al l2 _ | exact al l3 _ | exact aI l1 | exact aI l2 | exact aI l3 | exact co hc (by decide) | exact aX hc | omega)) (s1.ext ad (by first | exact nn (by decide) | exact n0 (by decide) | exact aW (by decide) | exact al l1 _ | exact al l2 _ | exact al l3 _ | exact aI l1 | exact aI l2 | exact aI l3 | exact co hc (by decide) | exact aX hc | omega)) hx λ am bg ae=>wpAny_pure (wpAny_pure ?_))
  refine wpAny_bind (wpAny_bind (wpAny_holding ?_))
  show wpAny _ _ (Builtin.SmallTypes.nextOf (.ref (n+1)) >>= _) _ _ _
  refine wpAny_bind (bQ ((i2.ext ad (by first | exact nn (by decide) | exact n0 (by decide) | exact aW (by decide) | exact al l1 _ | exact al l2 _ | exact al l3 _ | exact aI l1 | exact aI l2 | exact aI l3 | exact co hc (by decide) | exact aX hc | omega)).ext ae (by first | exact nn (by decide) | exact n0 (by decide) | exact aW (by decide) | exact al l1 _ | exact al l2 _ | exact al l3 _ | exact aI l1 | exact aI l2 | exact aI l3 | exact co hc (by decide) | exact aX hc | omega)) ((s2.ext ad (by first | exact nn (by decide) | exact n0 (by decide) | exact aW (by decide) | exact al l1 _ | exact al l2 _ | exact al l3 _ | exact aI l1 | exact aI l2 | exact aI l3 | exact co hc (by decide) | exact aX hc | omega)).ext ae (by first | exact nn (by decide) | exact n0 (by decide) | exact aW (by decide) | exact al l1 _ | exact al l2 _ | exact al l3 _ | exact aI l1 | exact aI l2 | exact aI l3 | exact co hc (by decide) | exact aX hc | omega)) hy λ aj em ag=>wpAny_pure (wpAny_pure ?_))
  refine wpAny_bind (wpAny_bind (wpAny_holding ?_))
  show wpAny _ _ (Builtin.SmallTypes.nextOf (.ref (n+2)) >>= _) _ _ _
  refine wpAny_bind (bQ (((i3.ext ad (by first | exact nn (by decide) | exact n0 (by decide) | exact aW (by decide) | exact al l1 _ | exact al l2 _ | exact al l3 _ | exact aI l1 | exact aI l2 | exact aI l3 | exact co hc (by decide) | exact aX hc | omega)).ext ae (by first | exact nn (by decide) | exact n0 (by decide) | exact aW (by decide) | exact al l1 _ | exact al l2 _ | exact al l3 _ | exact aI l1 | exact aI l2 | exact aI l3 | exact co hc (by decide) | exact aX hc | omega)).ext ag (by first | exact nn (by decide) | exact n0 (by decide) | exact aW (by decide) | exact al l1 _ | exact al l2 _ | exact al l3 _ | exact aI l1 | exact aI l2 | exact aI l3 | exact co hc (by decide) | exact aX hc | omega)) (((s3.ext ad (by first | exact nn (by decide) | exact n0 (by decide) | exact aW (by decide) | exact al l1 _ | exact al l2 _ | exact al l3 _ | exact aI l1 | exact aI l2 | exact aI l3 | exact co hc (by decide) | exact aX hc | omega)).ext ae (by first | exact nn (by decide) | exact n0 (by decide) | exact aW (by decide) | exact al l1 _ | exact al l2 _ | exact al l3 _ | exact aI l1 | exact aI l2 | exact aI l3 | exact co hc (by decide) | exact aX hc | omega)).ext ag (by first | exact nn (by decide) | exact n0 (by decide) | exact aW (by decide) | exact al l1 _ | exact al l2 _ | exact al l3 _ | exact aI l1 | exact aI l2 | exact aI l3 | exact co hc (by decide) | exact aX hc | omega)) hw λ ap i3₄ ah=>wpAny_pure (wpAny_pure (wpAny_pure ?_)))
  refine wpAny_bind (wpAny_newTuple (hsz:=by show 3<=sizeLine;decide) (wpAny_pure ⟨_,rfl,?_⟩))
  have hsz:ap.objs.size=s.heap.objs.size:=by rw[ah.1,ag.1,ae.1,ad.1]
  have up:∀ {c o},ap.get? c=some o->(ap.push { cls:=.type "tuple",data:=.seq #[x,y,z] }).get? c=some o:=λ e=>aab _ e
  have keep:∀ (c:Nat) o,(c < n\/n+5 < c)->s.heap.get? c=some o->ap.get? c=some o:=λ c o hc e=>ex ah (by first | exact nn (by decide) | exact n0 (by decide) | exact aW (by decide) | exact al l1 _ | exact al l2 _ | exact al l3 _ | exact aI l1 | exact aI l2 | exact aI l3 | exact co hc (by decide) | exact aX hc | omega) (ex ag (by first | exact nn (by decide) | exact n0 (by decide) | exact aW (by decide) | exact al l1 _ | exact al l2 _ | exact al l3 _ | exact aI l1 | exact aI l2 | exact aI l3 | exact co hc (by decide) | exact aX hc | omega) (ex ae (by first | exact nn (by decide) | exact n0 (by decide) | exact aW (by decide) | exact al l1 _ | exact al l2 _ | exact al l3 _ | exact aI l1 | exact aI l2 | exact aI l3 | exact co hc (by decide) | exact aX hc | omega) (ex ad (by first | exact nn (by decide) | exact n0 (by decide) | exact aW (by decide) | exact al l1 _ | exact al l2 _ | exact al l3 _ | exact aI l1 | exact aI l2 | exact aI l3 | exact co hc (by decide) | exact aX hc | omega) e)))
  refine hQ ap.objs.size (ap.push { cls:=.type "tuple",data:=.seq #[x,y,z] }) f0 true c1 c2 c3 (by rw[hsz];exact Nat.le_refl _) hf (up (ex ah (by first | exact nn (by decide) | exact n0 (by decide) | exact aW (by decide) | exact al l1 _ | exact al l2 _ | exact al l3 _ | exact aI l1 | exact aI l2 | exact aI l3 | exact co hc (by decide) | exact aX hc | omega) (ex ag (by first | exact nn (by decide) | exact n0 (by decide) | exact aW (by decide) | exact al l1 _ | exact al l2 _ | exact al l3 _ | exact aI l1 | exact aI l2 | exact aI l3 | exact co hc (by decide) | exact aX hc | omega) (ex ae (by first | exact nn (by decide) | exact n0 (by decide) | exact aW (by decide) | exact al l1 _ | exact al l2 _ | exact al l3 _ | exact aI l1 | exact aI l2 | exact aI l3 | exact co hc (by decide) | exact aX hc | omega) ak))))
   (up (ex ah (by first | exact nn (by decide) | exact n0 (by decide) | exact aW (by decide) | exact al l1 _ | exact al l2 _ | exact al l3 _ | exact aI l1 | exact aI l2 | exact aI l3 | exact co hc (by decide) | exact aX hc | omega) (ex ag (by first | exact nn (by decide) | exact n0 (by decide) | exact aW (by decide) | exact al l1 _ | exact al l2 _ | exact al l3 _ | exact aI l1 | exact aI l2 | exact aI l3 | exact co hc (by decide) | exact aX hc | omega) (ex ae (by first | exact nn (by decide) | exact n0 (by decide) | exact aW (by decide) | exact al l1 _ | exact al l2 _ | exact al l3 _ | exact aI l1 | exact aI l2 | exact aI l3 | exact co hc (by decide) | exact aX hc | omega) (ex ad (by first | exact nn (by decide) | exact n0 (by decide) | exact aW (by decide) | exact al l1 _ | exact al l2 _ | exact al l3 _ | exact aI l1 | exact aI l2 | exact aI l3 | exact co hc (by decide) | exact aX hc | omega) hTI))))) (up (ex ah (by first | exact nn (by decide) | exact n0 (by decide) | exact aW (by decide) | exact al l1 _ | exact al l2 _ | exact al l3 _ | exact aI l1 | exact aI l2 | exact aI l3 | exact co hc (by decide) | exact aX hc | omega) (ex ag (by first | exact nn (by decide) | exact n0 (by decide) | exact aW (by decide) | exact al l1 _ | exact al l2 _ | exact al l3 _ | exact aI l1 | exact aI l2 | exact aI l3 | exact co hc (by decide) | exact aX hc | omega) (ex ae (by first | exact nn (by decide) | exact n0 (by decide) | exact aW (by decide) | exact al l1 _ | exact al l2 _ | exact al l3 _ | exact aI l1 | exact aI l2 | exact aI l3 | exact co hc (by decide) | exact aX hc | omega) (ex ad (by first | exact nn (by decide) | exact n0 (by decide) | exact aW (by decide) | exact al l1 _ | exact al l2 _ | exact al l3 _ | exact aI l1 | exact aI l2 | exact aI l3 | exact co hc (by decide) | exact aX hc | omega) hTO)))))
   (((bg.ext ag (by first | exact nn (by decide) | exact n0 (by decide) | exact aW (by decide) | exact al l1 _ | exact al l2 _ | exact al l3 _ | exact aI l1 | exact aI l2 | exact aI l3 | exact co hc (by decide) | exact aX hc | omega)).ext ah (by first | exact nn (by decide) | exact n0 (by decide) | exact aW (by decide) | exact al l1 _ | exact al l2 _ | exact al l3 _ | exact aI l1 | exact aI l2 | exact aI l3 | exact co hc (by decide) | exact aX hc | omega)).at λ o e=>up e) ((em.ext ah (by first | exact nn (by decide) | exact n0 (by decide) | exact aW (by decide) | exact al l1 _ | exact al l2 _ | exact al l3 _ | exact aI l1 | exact aI l2 | exact aI l3 | exact co hc (by decide) | exact aX hc | omega)).at λ o e=>up e) (i3₄.at λ o e=>up e) (aag _ rfl) λ c o hc e=>up (keep c o hc e)
theorem yR {n a1 a2 a3:Nat}{t1 t2 t3:Bool}{k:Nat}{xs ys zs:Array Value}{c1 c2 c3 f0:Value}{f1:Bool}{Q:Fin->Shared->Prop} (hh:A.handled=none) (hf:fP f0)
  (hz:kS s.heap (n+5) (n+3) (n+4) f0 f1) (hTI:cU s.heap (n+3) #[.ref n,.ref (n+1),.ref (n+2)]) (hTO:cU s.heap (n+4) #[c1,c2,c3])
  (i1:cZ s.heap t1 n a1 k) (i2:cZ s.heap t2 (n+1) a2 k) (i3:cZ s.heap t3 (n+2) a3 k) (s1:bW s.heap t1 a1 xs) (s2:bW s.heap t2 a2 ys) (s3:bW s.heap t3 a3 zs)
  (l1:a1 < n) (l2:a2 < n) (l3:a3 < n) (hend:xs[k]? = none\/ys[k]? = none\/zs[k]? = none)
  (hE:∀ h' e,(∀ (c:Nat) o,(c < n\/n+5 < c)->s.heap.get? c=some o->h'.get? c=some o)->(∃ o,h'.get? e=some o/\o.cls=.type "StopIteration")->E (.ref e) { s with heap:=h' }) :
  wpAny (model prog w) A (Builtin.«zip.__next__» ⟨[.ref (n+5)],[]⟩) Q E s:=by
 show wpAny _ _ (field (.ref (n+5)) 2 >>= _) _ _ _
 refine wpAny_bind (wpAny_field hz rfl (x:=.bool false) rfl ?_)
 show wpAny _ _ (field (.ref (n+5)) 3 >>= _) _ _ _
 refine wpAny_bind (wpAny_field hz rfl (x:=.ref (n+3)) rfl ?_)
 refine wpAny_bind (wpAny_seqItems hTI rfl ?_)
 show wpAny _ _ (Builtin.SmallTypes.ownedTupleIsFree (.ref (n+5)) >>= _) _ _ _
 refine wpAny_bind (i7 hz hf ?_ ?_)
 ·simp only [if_true]
  refine wpAny_bind (wpAny_rule ?_)
  refine wpAny_bind (wpAny_field hz rfl (x:=.ref (n+4)) rfl ?_)
  refine wpAny_bind (wpAny_setField_rec hz (by simp) λ h₁ ak ad=>?_)
  replace ak:kS h₁ (n+5) (n+3) (n+4) .ellipsis f1:=ak
  refine wpAny_bind ?_
  simp only [List.zipIdx_cons,List.zipIdx_nil,List.forIn_cons,List.forIn_nil]
  have fin:∀ {am aj:Heap}{e j:Nat}{oe:Obj},kS am (n+5) (n+3) (n+4) .ellipsis f1->Heap.ExtBut j am aj->@Ne Nat (n+5) j->(n<=j/\j<=n+5)->(∀ (c:Nat) o,(c < n\/n+5 < c)->s.heap.get? c=some o->am.get? c=some o)->aj.get? e=some oe->oe.cls=.type "StopIteration" ->
    wpAny (model prog w) A (setField (.ref (n+5)) 0 .none) (λ _ s'=>E (.ref e) s') E { s with heap:=aj }:=λ {am aj e j oe} bw hx hj hr hk hoe hce=>by
   have bo:kS aj (n+5) (n+3) (n+4) .ellipsis f1:=hx _ _ hj bw
   have hez:e≠n+5:=λ q=>by subst q;rw[bo] at hoe;cases hoe;simp at hce
   refine wpAny_setField_rec bo (by simp) λ ap _ ah=>hE ap e (λ c o hc q=>ex ah (by first | exact nn (by decide) | exact n0 (by decide) | exact aW (by decide) | exact al l1 _ | exact al l2 _ | exact al l3 _ | exact aI l1 | exact aI l2 | exact aI l3 | exact co hc (by decide) | exact aX hc | omega) (hx c o (show @Ne Nat c j by omega) (hk c o hc q))) ⟨oe,ah.extBut _ _ hez hoe,hce⟩
  refine wpAny_bind (wpAny_bind (wpAny_onRaise ?_))
  show wpAny _ _ (Builtin.SmallTypes.nextOf (.ref n) >>= _) _ _ _
  cases hx:xs[k]? with
  | none=>
   refine wpAny_bind (cO hh (i1.ext ad (by first | exact nn (by decide) | exact n0 (by decide) | exact aW (by decide) | exact al l1 _ | exact al l2 _ | exact al l3 _ | exact aI l1 | exact aI l2 | exact aI l3 | exact co hc (by decide) | exact aX hc | omega)) (s1.ext ad (by first | exact nn (by decide) | exact n0 (by decide) | exact aW (by decide) | exact al l1 _ | exact al l2 _ | exact al l3 _ | exact aI l1 | exact aI l2 | exact aI l3 | exact co hc (by decide) | exact aX hc | omega)) hx λ am e ae he=>?_)
   obtain⟨oe,hoe,hce⟩:=he
   exact fin ak ae (by first | exact nn (by decide) | exact n0 (by decide) | exact aW (by decide) | exact al l1 _ | exact al l2 _ | exact al l3 _ | exact aI l1 | exact aI l2 | exact aI l3 | exact co hc (by decide) | exact aX hc | omega) (by first | exact nn (by decide) | exact n0 (by decide) | exact aW (by decide) | exact al l1 _ | exact al l2 _ | exact al l3 _ | exact aI l1 | exact aI l2 | exact aI l3 | exact co hc (by decide) | exact aX hc | omega) (λ c o hc q=>ex ad (by first | exact nn (by decide) | exact n0 (by decide) | exact aW (by decide) | exact al l1 _ | exact al l2 _ | exact al l3 _ | exact aI l1 | exact aI l2 | exact aI l3 | exact co hc (by decide) | exact aX hc | omega) q) hoe hce
  | some x=>
   refine wpAny_bind (bQ (i1.ext ad (by first | exact nn (by decide) | exact n0 (by decide) | exact aW (by decide) | exact al l1 _ | exact al l2 _ | exact al l3 _ | exact aI l1 | exact aI l2 | exact aI l3 | exact co hc (by decide) | exact aX hc | omega)) (s1.ext ad (by first | exact nn (by decide) | exact n0 (by decide) | exact aW (by decide) | exact al l1 _ | exact al l2 _ | exact al l3 _ | exact aI l1 | exact aI l2 | exact aI l3 | exact co hc (by decide) | exact aX hc | omega)) hx λ am bg ae=>wpAny_pure ?_)
   have bf:cU am (n+4) #[c1,c2,c3]:=ex ae (by first | exact nn (by decide) | exact n0 (by decide) | exact aW (by decide) | exact al l1 _ | exact al l2 _ | exact al l3 _ | exact aI l1 | exact aI l2 | exact aI l3 | exact co hc (by decide) | exact aX hc | omega) (ex ad (by first | exact nn (by decide) | exact n0 (by decide) | exact aW (by decide) | exact al l1 _ | exact al l2 _ | exact al l3 _ | exact aI l1 | exact aI l2 | exact aI l3 | exact co hc (by decide) | exact aX hc | omega) hTO)
   refine wpAny_bind (wpAny_seqItems bf rfl ?_)
   refine wpAny_bind (gK bf (by simp) λ aj bb ag=>?_)
   replace bb:cU aj (n+4) #[x,c2,c3]:=bb
   refine wpAny_bind (wpAny_letGo (wpAny_pure ?_))
   have bo:kS aj (n+5) (n+3) (n+4) .ellipsis f1:=ex ag (by first | exact nn (by decide) | exact n0 (by decide) | exact aW (by decide) | exact al l1 _ | exact al l2 _ | exact al l3 _ | exact aI l1 | exact aI l2 | exact aI l3 | exact co hc (by decide) | exact aX hc | omega) (ex ae (by first | exact nn (by decide) | exact n0 (by decide) | exact aW (by decide) | exact al l1 _ | exact al l2 _ | exact al l3 _ | exact aI l1 | exact aI l2 | exact aI l3 | exact co hc (by decide) | exact aX hc | omega) ak)
   have dj:∀ (c:Nat) o,(c < n\/n+5 < c)->s.heap.get? c=some o->aj.get? c=some o:=λ c o hc e=>ex ag (by first | exact nn (by decide) | exact n0 (by decide) | exact aW (by decide) | exact al l1 _ | exact al l2 _ | exact al l3 _ | exact aI l1 | exact aI l2 | exact aI l3 | exact co hc (by decide) | exact aX hc | omega) (ex ae (by first | exact nn (by decide) | exact n0 (by decide) | exact aW (by decide) | exact al l1 _ | exact al l2 _ | exact al l3 _ | exact aI l1 | exact aI l2 | exact aI l3 | exact co hc (by decide) | exact aX hc | omega) (ex ad (by first | exact nn (by decide) | exact n0 (by decide) | exact aW (by decide) | exact al l1 _ | exact al l2 _ | exact al l3 _ | exact aI l1 | exact aI l2 | exact aI l3 | exact co hc (by decide) | exact aX hc | omega) e))
   refine wpAny_bind (wpAny_bind (wpAny_onRaise ?_))
   show wpAny _ _ (Builtin.SmallTypes.nextOf (.ref (n+1)) >>= _) _ _ _
   cases hy:ys[k]? with
   | none=>
    refine wpAny_bind (cO hh (((i2.ext ad (by first | exact nn (by decide) | exact n0 (by decide) | exact aW (by decide) | exact al l1 _ | exact al l2 _ | exact al l3 _ | exact aI l1 | exact aI l2 | exact aI l3 | exact co hc (by decide) | exact aX hc | omega)).ext ae (by first | exact nn (by decide) | exact n0 (by decide) | exact aW (by decide) | exact al l1 _ | exact al l2 _ | exact al l3 _ | exact aI l1 | exact aI l2 | exact aI l3 | exact co hc (by decide) | exact aX hc | omega)).ext ag (by first | exact nn (by decide) | exact n0 (by decide) | exact aW (by decide) | exact al l1 _ | exact al l2 _ | exact al l3 _ | exact aI l1 | exact aI l2 | exact aI l3 | exact co hc (by decide) | exact aX hc | omega)) (((s2.ext ad (by first | exact nn (by decide) | exact n0 (by decide) | exact aW (by decide) | exact al l1 _ | exact al l2 _ | exact al l3 _ | exact aI l1 | exact aI l2 | exact aI l3 | exact co hc (by decide) | exact aX hc | omega)).ext ae (by first | exact nn (by decide) | exact n0 (by decide) | exact aW (by decide) | exact al l1 _ | exact al l2 _ | exact al l3 _ | exact aI l1 | exact aI l2 | exact aI l3 | exact co hc (by decide) | exact aX hc | omega)).ext ag (by first | exact nn (by decide) | exact n0 (by decide) | exact aW (by decide) | exact al l1 _ | exact al l2 _ | exact al l3 _ | exact aI l1 | exact aI l2 | exact aI l3 | exact co hc (by decide) | exact aX hc | omega)) hy λ ap e ah he=>?_)
    obtain⟨oe,hoe,hce⟩:=he
    exact fin bo ah (by first | exact nn (by decide) | exact n0 (by decide) | exact aW (by decide) | exact al l1 _ | exact al l2 _ | exact al l3 _ | exact aI l1 | exact aI l2 | exact aI l3 | exact co hc (by decide) | exact aX hc | omega) (by first | exact nn (by decide) | exact n0 (by decide) | exact aW (by decide) | exact al l1 _ | exact al l2 _ | exact al l3 _ | exact aI l1 | exact aI l2 | exact aI l3 | exact co hc (by decide) | exact aX hc | omega) dj hoe hce
   | some y=>
    have hw:zs[k]? = none:=by rcases hend with h | h | h;rw[hx] at h;cases h;rw[hy] at h;cases h;exact h
    refine wpAny_bind (bQ (((i2.ext ad (by first | exact nn (by decide) | exact n0 (by decide) | exact aW (by decide) | exact al l1 _ | exact al l2 _ | exact al l3 _ | exact aI l1 | exact aI l2 | exact aI l3 | exact co hc (by decide) | exact aX hc | omega)).ext ae (by first | exact nn (by decide) | exact n0 (by decide) | exact aW (by decide) | exact al l1 _ | exact al l2 _ | exact al l3 _ | exact aI l1 | exact aI l2 | exact aI l3 | exact co hc (by decide) | exact aX hc | omega)).ext ag (by first | exact nn (by decide) | exact n0 (by decide) | exact aW (by decide) | exact al l1 _ | exact al l2 _ | exact al l3 _ | exact aI l1 | exact aI l2 | exact aI l3 | exact co hc (by decide) | exact aX hc | omega)) (((s2.ext ad (by first | exact nn (by decide) | exact n0 (by decide) | exact aW (by decide) | exact al l1 _ | exact al l2 _ | exact al l3 _ | exact aI l1 | exact aI l2 | exact aI l3 | exact co hc (by decide) | exact aX hc | omega)).ext ae (by first | exact nn (by decide) | exact n0 (by decide) | exact aW (by decide) | exact al l1 _ | exact al l2 _ | exact al l3 _ | exact aI l1 | exact aI l2 | exact aI l3 | exact co hc (by decide) | exact aX hc | omega)).ext ag (by first | exact nn (by decide) | exact n0 (by decide) | exact aW (by decide) | exact al l1 _ | exact al l2 _ | exact al l3 _ | exact aI l1 | exact aI l2 | exact aI l3 | exact co hc (by decide) | exact aX hc | omega)) hy λ ap ce ah=>wpAny_pure ?_)
    have bp:cU ap (n+4) #[x,c2,c3]:=ex ah (by first | exact nn (by decide) | exact n0 (by decide) | exact aW (by decide) | exact al l1 _ | exact al l2 _ | exact al l3 _ | exact aI l1 | exact aI l2 | exact aI l3 | exact co hc (by decide) | exact aX hc | omega) bb
    refine wpAny_bind (wpAny_seqItems bp rfl ?_)
    refine wpAny_bind (gK bp (by simp) λ be cm aq=>?_)
    refine wpAny_bind (wpAny_letGo (wpAny_pure ?_))
    refine wpAny_bind (wpAny_bind (wpAny_onRaise ?_))
    show wpAny _ _ (Builtin.SmallTypes.nextOf (.ref (n+2)) >>= _) _ _ _
    refine wpAny_bind (cO hh (((((i3.ext ad (by first | exact nn (by decide) | exact n0 (by decide) | exact aW (by decide) | exact al l1 _ | exact al l2 _ | exact al l3 _ | exact aI l1 | exact aI l2 | exact aI l3 | exact co hc (by decide) | exact aX hc | omega)).ext ae (by first | exact nn (by decide) | exact n0 (by decide) | exact aW (by decide) | exact al l1 _ | exact al l2 _ | exact al l3 _ | exact aI l1 | exact aI l2 | exact aI l3 | exact co hc (by decide) | exact aX hc | omega)).ext ag (by first | exact nn (by decide) | exact n0 (by decide) | exact aW (by decide) | exact al l1 _ | exact al l2 _ | exact al l3 _ | exact aI l1 | exact aI l2 | exact aI l3 | exact co hc (by decide) | exact aX hc | omega)).ext ah (by first | exact nn (by decide) | exact n0 (by decide) | exact aW (by decide) | exact al l1 _ | exact al l2 _ | exact al l3 _ | exact aI l1 | exact aI l2 | exact aI l3 | exact co hc (by decide) | exact aX hc | omega)).ext aq (by first | exact nn (by decide) | exact n0 (by decide) | exact aW (by decide) | exact al l1 _ | exact al l2 _ | exact al l3 _ | exact aI l1 | exact aI l2 | exact aI l3 | exact co hc (by decide) | exact aX hc | omega))
     (((((s3.ext ad (by first | exact nn (by decide) | exact n0 (by decide) | exact aW (by decide) | exact al l1 _ | exact al l2 _ | exact al l3 _ | exact aI l1 | exact aI l2 | exact aI l3 | exact co hc (by decide) | exact aX hc | omega)).ext ae (by first | exact nn (by decide) | exact n0 (by decide) | exact aW (by decide) | exact al l1 _ | exact al l2 _ | exact al l3 _ | exact aI l1 | exact aI l2 | exact aI l3 | exact co hc (by decide) | exact aX hc | omega)).ext ag (by first | exact nn (by decide) | exact n0 (by decide) | exact aW (by decide) | exact al l1 _ | exact al l2 _ | exact al l3 _ | exact aI l1 | exact aI l2 | exact aI l3 | exact co hc (by decide) | exact aX hc | omega)).ext ah (by first | exact nn (by decide) | exact n0 (by decide) | exact aW (by decide) | exact al l1 _ | exact al l2 _ | exact al l3 _ | exact aI l1 | exact aI l2 | exact aI l3 | exact co hc (by decide) | exact aX hc | omega)).ext aq (by first | exact nn (by decide) | exact n0 (by decide) | exact aW (by decide) | exact al l1 _ | exact al l2 _ | exact al l3 _ | exact aI l1 | exact aI l2 | exact aI l3 | exact co hc (by decide) | exact aX hc | omega)) hw λ cb e az he=>?_)
    obtain⟨oe,hoe,hce⟩:=he
    exact fin (ex aq (by first | exact nn (by decide) | exact n0 (by decide) | exact aW (by decide) | exact al l1 _ | exact al l2 _ | exact al l3 _ | exact aI l1 | exact aI l2 | exact aI l3 | exact co hc (by decide) | exact aX hc | omega) (ex ah (by first | exact nn (by decide) | exact n0 (by decide) | exact aW (by decide) | exact al l1 _ | exact al l2 _ | exact al l3 _ | exact aI l1 | exact aI l2 | exact aI l3 | exact co hc (by decide) | exact aX hc | omega) bo)) az (by first | exact nn (by decide) | exact n0 (by decide) | exact aW (by decide) | exact al l1 _ | exact al l2 _ | exact al l3 _ | exact aI l1 | exact aI l2 | exact aI l3 | exact co hc (by decide) | exact aX hc | omega) (by first | exact nn (by decide) | exact n0 (by decide) | exact aW (by decide) | exact al l1 _ | exact al l2 _ | exact al l3 _ | exact aI l1 | exact aI l2 | exact aI l3 | exact co hc (by decide) | exact aX hc | omega) (λ c o hc q=>ex aq (by first | exact nn (by decide) | exact n0 (by decide) | exact aW (by decide) | exact al l1 _ | exact al l2 _ | exact al l3 _ | exact aI l1 | exact aI l2 | exact aI l3 | exact co hc (by decide) | exact aX hc | omega) (ex ah (by first | exact nn (by decide) | exact n0 (by decide) | exact aW (by decide) | exact al l1 _ | exact al l2 _ | exact al l3 _ | exact aI l1 | exact aI l2 | exact aI l3 | exact co hc (by decide) | exact aX hc | omega) (dj c o hc q))) hoe hce
 ·intro h₁ ak ad
  simp only [Bool.false_eq_true,if_false]
  refine wpAny_bind ?_
  rw[<- Array.forIn_toList]
  simp only [List.forIn_cons,List.forIn_nil]
  refine wpAny_bind (wpAny_bind (wpAny_holding ?_))
  show wpAny _ _ (Builtin.SmallTypes.nextOf (.ref n) >>= _) _ _ _
  cases hx:xs[k]? with
  | none=>
   refine wpAny_bind (cO hh (i1.ext ad (by first | exact nn (by decide) | exact n0 (by decide) | exact aW (by decide) | exact al l1 _ | exact al l2 _ | exact al l3 _ | exact aI l1 | exact aI l2 | exact aI l3 | exact co hc (by decide) | exact aX hc | omega)) (s1.ext ad (by first | exact nn (by decide) | exact n0 (by decide) | exact aW (by decide) | exact al l1 _ | exact al l2 _ | exact al l3 _ | exact aI l1 | exact aI l2 | exact aI l3 | exact co hc (by decide) | exact aX hc | omega)) hx λ am e ae he=>?_)
   exact hE am e (λ c o hc q=>ae c o (show @Ne Nat c n by omega) (ex ad (by first | exact nn (by decide) | exact n0 (by decide) | exact aW (by decide) | exact al l1 _ | exact al l2 _ | exact al l3 _ | exact aI l1 | exact aI l2 | exact aI l3 | exact co hc (by decide) | exact aX hc | omega) q)) he
  | some x=>
   refine wpAny_bind (bQ (i1.ext ad (by first | exact nn (by decide) | exact n0 (by decide) | exact aW (by decide) | exact al l1 _ | exact al l2 _ | exact al l3 _ | exact aI l1 | exact aI l2 | exact aI l3 | exact co hc (by decide) | exact aX hc | omega)) (s1.ext ad (by first | exact nn (by decide) | exact n0 (by decide) | exact aW (by decide) | exact al l1 _ | exact al l2 _ | exact al l3 _ | exact aI l1 | exact aI l2 | exact aI l3 | exact co hc (by decide) | exact aX hc | omega)) hx λ am bg ae=>wpAny_pure (wpAny_pure ?_))
   refine wpAny_bind (wpAny_bind (wpAny_holding ?_))
   show wpAny _ _ (Builtin.SmallTypes.nextOf (.ref (n+1)) >>= _) _ _ _
   cases hy:ys[k]? with
   | none=>
    refine wpAny_bind (cO hh ((i2.ext ad (by first | exact nn (by decide) | exact n0 (by decide) | exact aW (by decide) | exact al l1 _ | exact al l2 _ | exact al l3 _ | exact aI l1 | exact aI l2 | exact aI l3 | exact co hc (by decide) | exact aX hc | omega)).ext ae (by first | exact nn (by decide) | exact n0 (by decide) | exact aW (by decide) | exact al l1 _ | exact al l2 _ | exact al l3 _ | exact aI l1 | exact aI l2 | exact aI l3 | exact co hc (by decide) | exact aX hc | omega)) ((s2.ext ad (by first | exact nn (by decide) | exact n0 (by decide) | exact aW (by decide) | exact al l1 _ | exact al l2 _ | exact al l3 _ | exact aI l1 | exact aI l2 | exact aI l3 | exact co hc (by decide) | exact aX hc | omega)).ext ae (by first | exact nn (by decide) | exact n0 (by decide) | exact aW (by decide) | exact al l1 _ | exact al l2 _ | exact al l3 _ | exact aI l1 | exact aI l2 | exact aI l3 | exact co hc (by decide) | exact aX hc | omega)) hy λ aj e ag he=>?_)
    exact hE aj e (λ c o hc q=>ag c o (show @Ne Nat c (n+1) by omega) (ex ae (by first | exact nn (by decide) | exact n0 (by decide) | exact aW (by decide) | exact al l1 _ | exact al l2 _ | exact al l3 _ | exact aI l1 | exact aI l2 | exact aI l3 | exact co hc (by decide) | exact aX hc | omega) (ex ad (by first | exact nn (by decide) | exact n0 (by decide) | exact aW (by decide) | exact al l1 _ | exact al l2 _ | exact al l3 _ | exact aI l1 | exact aI l2 | exact aI l3 | exact co hc (by decide) | exact aX hc | omega) q))) he
   | some y=>
    have hw:zs[k]? = none:=by rcases hend with h | h | h;rw[hx] at h;cases h;rw[hy] at h;cases h;exact h
    refine wpAny_bind (bQ ((i2.ext ad (by first | exact nn (by decide) | exact n0 (by decide) | exact aW (by decide) | exact al l1 _ | exact al l2 _ | exact al l3 _ | exact aI l1 | exact aI l2 | exact aI l3 | exact co hc (by decide) | exact aX hc | omega)).ext ae (by first | exact nn (by decide) | exact n0 (by decide) | exact aW (by decide) | exact al l1 _ | exact al l2 _ | exact al l3 _ | exact aI l1 | exact aI l2 | exact aI l3 | exact co hc (by decide) | exact aX hc | omega)) ((s2.ext ad (by first | exact nn (by decide) | exact n0 (by decide) | exact aW (by decide) | exact al l1 _ | exact al l2 _ | exact al l3 _ | exact aI l1 | exact aI l2 | exact aI l3 | exact co hc (by decide) | exact aX hc | omega)).ext ae (by first | exact nn (by decide) | exact n0 (by decide) | exact aW (by decide) | exact al l1 _ | exact al l2 _ | exact al l3 _ | exact aI l1 | exact aI l2 | exact aI l3 | exact co hc (by decide) | exact aX hc | omega)) hy λ aj em ag=>wpAny_pure (wpAny_pure ?_))
    refine wpAny_bind (wpAny_bind (wpAny_holding ?_))
    show wpAny _ _ (Builtin.SmallTypes.nextOf (.ref (n+2)) >>= _) _ _ _
    refine wpAny_bind (cO hh (((i3.ext ad (by first | exact nn (by decide) | exact n0 (by decide) | exact aW (by decide) | exact al l1 _ | exact al l2 _ | exact al l3 _ | exact aI l1 | exact aI l2 | exact aI l3 | exact co hc (by decide) | exact aX hc | omega)).ext ae (by first | exact nn (by decide) | exact n0 (by decide) | exact aW (by decide) | exact al l1 _ | exact al l2 _ | exact al l3 _ | exact aI l1 | exact aI l2 | exact aI l3 | exact co hc (by decide) | exact aX hc | omega)).ext ag (by first | exact nn (by decide) | exact n0 (by decide) | exact aW (by decide) | exact al l1 _ | exact al l2 _ | exact al l3 _ | exact aI l1 | exact aI l2 | exact aI l3 | exact co hc (by decide) | exact aX hc | omega)) (((s3.ext ad (by first | exact nn (by decide) | exact n0 (by decide) | exact aW (by decide) | exact al l1 _ | exact al l2 _ | exact al l3 _ | exact aI l1 | exact aI l2 | exact aI l3 | exact co hc (by decide) | exact aX hc | omega)).ext ae (by first | exact nn (by decide) | exact n0 (by decide) | exact aW (by decide) | exact al l1 _ | exact al l2 _ | exact al l3 _ | exact aI l1 | exact aI l2 | exact aI l3 | exact co hc (by decide) | exact aX hc | omega)).ext ag (by first | exact nn (by decide) | exact n0 (by decide) | exact aW (by decide) | exact al l1 _ | exact al l2 _ | exact al l3 _ | exact aI l1 | exact aI l2 | exact aI l3 | exact co hc (by decide) | exact aX hc | omega)) hw λ ap e ah he=>?_)
    exact hE ap e (λ c o hc q=>ah c o (show @Ne Nat c (n+2) by omega) (ex ag (by first | exact nn (by decide) | exact n0 (by decide) | exact aW (by decide) | exact al l1 _ | exact al l2 _ | exact al l3 _ | exact aI l1 | exact aI l2 | exact aI l3 | exact co hc (by decide) | exact aX hc | omega) (ex ae (by first | exact nn (by decide) | exact n0 (by decide) | exact aW (by decide) | exact al l1 _ | exact al l2 _ | exact al l3 _ | exact aI l1 | exact aI l2 | exact aI l3 | exact co hc (by decide) | exact aX hc | omega) (ex ad (by first | exact nn (by decide) | exact n0 (by decide) | exact aW (by decide) | exact al l1 _ | exact al l2 _ | exact al l3 _ | exact aI l1 | exact aI l2 | exact aI l3 | exact co hc (by decide) | exact aX hc | omega) q)))) he
theorem wZ {n a1 a2:Nat}{t1 t2:Bool}{k:Nat}{xs ys:Array Value}{x y c1 c2 f0:Value}{f1:Bool}{Q:Value->Shared->Prop} (hf:fP f0)
  (hz:kS s.heap (n+4) (n+2) (n+3) f0 f1) (hTI:cU s.heap (n+2) #[.ref n,.ref (n+1)]) (hTO:cU s.heap (n+3) #[c1,c2])
  (i1:cZ s.heap t1 n a1 k) (i2:cZ s.heap t2 (n+1) a2 k) (s1:bW s.heap t1 a1 xs) (s2:bW s.heap t2 a2 ys)
  (l1:a1 < n) (l2:a2 < n) (hx:xs[k]? = some x) (hy:ys[k]? = some y)
  (hQ:∀ (T:Nat) h' f0' f1' d1 d2,s.heap.objs.size<=T->fP f0'->kS h' (n+4) (n+2) (n+3) f0' f1'->cU h' (n+2) #[.ref n,.ref (n+1)]->cU h' (n+3) #[d1,d2]->
   cZ h' t1 n a1 (k+1)->cZ h' t2 (n+1) a2 (k+1)->cU h' T #[x,y]->
   (∀ (c:Nat) o,(c < n\/n+4 < c)->s.heap.get? c=some o->h'.get? c=some o)->Q (.ref T) { s with heap:=h' }) :
  wpAny (model prog w) A (Builtin.«zip.__next__» ⟨[.ref (n+4)],[]⟩) (λ fin s'=>∃ v,fin=.done (.ret v)/\Q v s') E s:=by
 have hzlt:n+4 < s.heap.objs.size:=aai hz
 show wpAny _ _ (field (.ref (n+4)) 2 >>= _) _ _ _
 refine wpAny_bind (wpAny_field hz rfl (x:=.bool false) rfl ?_)
 show wpAny _ _ (field (.ref (n+4)) 3 >>= _) _ _ _
 refine wpAny_bind (wpAny_field hz rfl (x:=.ref (n+2)) rfl ?_)
 refine wpAny_bind (wpAny_seqItems hTI rfl ?_)
 show wpAny _ _ (Builtin.SmallTypes.ownedTupleIsFree (.ref (n+4)) >>= _) _ _ _
 refine wpAny_bind (i7 hz hf ?_ ?_)
 ·simp only [if_true]
  refine wpAny_bind (wpAny_rule ?_)
  refine wpAny_bind (wpAny_field hz rfl (x:=.ref (n+3)) rfl ?_)
  refine wpAny_bind (wpAny_setField_rec hz (by simp) λ h₁ ak ad=>?_)
  replace ak:kS h₁ (n+4) (n+2) (n+3) .ellipsis f1:=ak
  refine wpAny_bind ?_
  simp only [List.zipIdx_cons,List.zipIdx_nil,List.forIn_cons,List.forIn_nil]
  refine wpAny_bind (wpAny_bind (wpAny_onRaise ?_))
  show wpAny _ _ (Builtin.SmallTypes.nextOf (.ref n) >>= _) _ _ _
  refine wpAny_bind (bQ (i1.ext ad (by first | exact nn (by decide) | exact n0 (by decide) | exact aW (by decide) | exact al l1 _ | exact al l2 _ | exact aI l1 | exact aI l2 | exact co hc (by decide) | exact aX hc | omega)) (s1.ext ad (by first | exact nn (by decide) | exact n0 (by decide) | exact aW (by decide) | exact al l1 _ | exact al l2 _ | exact aI l1 | exact aI l2 | exact co hc (by decide) | exact aX hc | omega)) hx λ am bg ae=>wpAny_pure ?_)
  have bf:cU am (n+3) #[c1,c2]:=ex ae (by first | exact nn (by decide) | exact n0 (by decide) | exact aW (by decide) | exact al l1 _ | exact al l2 _ | exact aI l1 | exact aI l2 | exact co hc (by decide) | exact aX hc | omega) (ex ad (by first | exact nn (by decide) | exact n0 (by decide) | exact aW (by decide) | exact al l1 _ | exact al l2 _ | exact aI l1 | exact aI l2 | exact co hc (by decide) | exact aX hc | omega) hTO)
  refine wpAny_bind (wpAny_seqItems bf rfl ?_)
  refine wpAny_bind (gK bf (by simp) λ aj bb ag=>?_)
  replace bb:cU aj (n+3) #[x,c2]:=bb
  refine wpAny_bind (wpAny_letGo (wpAny_pure ?_))
  refine wpAny_bind (wpAny_bind (wpAny_onRaise ?_))
  show wpAny _ _ (Builtin.SmallTypes.nextOf (.ref (n+1)) >>= _) _ _ _
  refine wpAny_bind (bQ (((i2.ext ad (by first | exact nn (by decide) | exact n0 (by decide) | exact aW (by decide) | exact al l1 _ | exact al l2 _ | exact aI l1 | exact aI l2 | exact co hc (by decide) | exact aX hc | omega)).ext ae (by first | exact nn (by decide) | exact n0 (by decide) | exact aW (by decide) | exact al l1 _ | exact al l2 _ | exact aI l1 | exact aI l2 | exact co hc (by decide) | exact aX hc | omega)).ext ag (by first | exact nn (by decide) | exact n0 (by decide) | exact aW (by decide) | exact al l1 _ | exact al l2 _ | exact aI l1 | exact aI l2 | exact co hc (by decide) | exact aX hc | omega)) (((s2.ext ad (by first | exact nn (by decide) | exact n0 (by decide) | exact aW (by decide) | exact al l1 _ | exact al l2 _ | exact aI l1 | exact aI l2 | exact co hc (by decide) | exact aX hc | omega)).ext ae (by first | exact nn (by decide) | exact n0 (by decide) | exact aW (by decide) | exact al l1 _ | exact al l2 _ | exact aI l1 | exact aI l2 | exact co hc (by decide) | exact aX hc | omega)).ext ag (by first | exact nn (by decide) | exact n0 (by decide) | exact aW (by decide) | exact al l1 _ | exact al l2 _ | exact aI l1 | exact aI l2 | exact co hc (by decide) | exact aX hc | omega)) hy λ ap ce ah=>wpAny_pure ?_)
  have bp:cU ap (n+3) #[x,c2]:=ex ah (by first | exact nn (by decide) | exact n0 (by decide) | exact aW (by decide) | exact al l1 _ | exact al l2 _ | exact aI l1 | exact aI l2 | exact co hc (by decide) | exact aX hc | omega) bb
  refine wpAny_bind (wpAny_seqItems bp rfl ?_)
  refine wpAny_bind (gK bp (by simp) λ ar bi bc=>?_)
  replace bi:cU ar (n+3) #[x,y]:=bi
  refine wpAny_bind (wpAny_letGo (wpAny_pure (wpAny_pure ?_)))
  refine wpAny_bind (wpAny_seqItems bi rfl ?_)
  refine wpAny_bind (wpAny_newTuple ?_)
  have hsz:ar.objs.size=s.heap.objs.size:=by rw[bc.1,ah.1,ag.1,ae.1,ad.1]
  have keep:∀ (c:Nat) o,(c < n\/n+4 < c)->s.heap.get? c=some o->ar.get? c=some o:=λ c o hc e=>
   ex bc (by first | exact nn (by decide) | exact n0 (by decide) | exact aW (by decide) | exact al l1 _ | exact al l2 _ | exact aI l1 | exact aI l2 | exact co hc (by decide) | exact aX hc | omega) (ex ah (by first | exact nn (by decide) | exact n0 (by decide) | exact aW (by decide) | exact al l1 _ | exact al l2 _ | exact aI l1 | exact aI l2 | exact co hc (by decide) | exact aX hc | omega) (ex ag (by first | exact nn (by decide) | exact n0 (by decide) | exact aW (by decide) | exact al l1 _ | exact al l2 _ | exact aI l1 | exact aI l2 | exact co hc (by decide) | exact aX hc | omega) (ex ae (by first | exact nn (by decide) | exact n0 (by decide) | exact aW (by decide) | exact al l1 _ | exact al l2 _ | exact aI l1 | exact aI l2 | exact co hc (by decide) | exact aX hc | omega) (ex ad (by first | exact nn (by decide) | exact n0 (by decide) | exact aW (by decide) | exact al l1 _ | exact al l2 _ | exact aI l1 | exact aI l2 | exact co hc (by decide) | exact aX hc | omega) e))))
  have de:kS ar (n+4) (n+2) (n+3) .ellipsis f1:=ex bc (by first | exact nn (by decide) | exact n0 (by decide) | exact aW (by decide) | exact al l1 _ | exact al l2 _ | exact aI l1 | exact aI l2 | exact co hc (by decide) | exact aX hc | omega) (ex ah (by first | exact nn (by decide) | exact n0 (by decide) | exact aW (by decide) | exact al l1 _ | exact al l2 _ | exact aI l1 | exact aI l2 | exact co hc (by decide) | exact aX hc | omega) (ex ag (by first | exact nn (by decide) | exact n0 (by decide) | exact aW (by decide) | exact al l1 _ | exact al l2 _ | exact aI l1 | exact aI l2 | exact co hc (by decide) | exact aX hc | omega) (ex ae (by first | exact nn (by decide) | exact n0 (by decide) | exact aW (by decide) | exact al l1 _ | exact al l2 _ | exact aI l1 | exact aI l2 | exact co hc (by decide) | exact aX hc | omega) ak)))
  have cy:cU ar (n+2) #[.ref n,.ref (n+1)]:=ex bc (by first | exact nn (by decide) | exact n0 (by decide) | exact aW (by decide) | exact al l1 _ | exact al l2 _ | exact aI l1 | exact aI l2 | exact co hc (by decide) | exact aX hc | omega) (ex ah (by first | exact nn (by decide) | exact n0 (by decide) | exact aW (by decide) | exact al l1 _ | exact al l2 _ | exact aI l1 | exact aI l2 | exact co hc (by decide) | exact aX hc | omega) (ex ag (by first | exact nn (by decide) | exact n0 (by decide) | exact aW (by decide) | exact al l1 _ | exact al l2 _ | exact aI l1 | exact aI l2 | exact co hc (by decide) | exact aX hc | omega) (ex ae (by first | exact nn (by decide) | exact n0 (by decide) | exact aW (by decide) | exact al l1 _ | exact al l2 _ | exact aI l1 | exact aI l2 | exact co hc (by decide) | exact aX hc | omega) (ex ad (by first | exact nn (by decide) | exact n0 (by decide) | exact aW (by decide) | exact al l1 _ | exact al l2 _ | exact aI l1 | exact aI l2 | exact co hc (by decide) | exact aX hc | omega) hTI))))
  have df:=((bg.ext ag (by first | exact nn (by decide) | exact n0 (by decide) | exact aW (by decide) | exact al l1 _ | exact al l2 _ | exact aI l1 | exact aI l2 | exact co hc (by decide) | exact aX hc | omega)).ext ah (by first | exact nn (by decide) | exact n0 (by decide) | exact aW (by decide) | exact al l1 _ | exact al l2 _ | exact aI l1 | exact aI l2 | exact co hc (by decide) | exact aX hc | omega)).ext bc (by first | exact nn (by decide) | exact n0 (by decide) | exact aW (by decide) | exact al l1 _ | exact al l2 _ | exact aI l1 | exact aI l2 | exact co hc (by decide) | exact aX hc | omega)
  have dh:=ce.ext bc (by first | exact nn (by decide) | exact n0 (by decide) | exact aW (by decide) | exact al l1 _ | exact al l2 _ | exact aI l1 | exact aI l2 | exact co hc (by decide) | exact aX hc | omega)
  have fe:n+4 < ar.objs.size:=by rw[hsz];exact hzlt
  have up:∀ {c o},ar.get? c=some o->(ar.push { cls:=.type "tuple",data:=.seq #[x,y] }).get? c=some o:=λ e=>aab _ e
  refine wpAny_bind (wN (z:=n+4) (TI:=n+2) (TO:=n+3) (f0:=.ellipsis) (f1:=f1) (up de) λ cz di cn=>?_)
  have up8:∀ {c:Nat}{o},c≠n+4->ar.get? c=some o->cz.get? c=some o:=λ hc e=>ex cn hc (up e)
  refine wpAny_pure ⟨_,rfl,hQ ar.objs.size cz (rawInt ar.objs.size) false x y (by rw[hsz];exact Nat.le_refl _) (.inr ⟨_,rfl⟩) di (up8 (by first | exact nn (by decide) | exact n0 (by decide) | exact aW (by decide) | exact al l1 _ | exact al l2 _ | exact aI l1 | exact aI l2 | exact co hc (by decide) | exact aX hc | omega) cy) (up8 (by first | exact nn (by decide) | exact n0 (by decide) | exact aW (by decide) | exact al l1 _ | exact al l2 _ | exact aI l1 | exact aI l2 | exact co hc (by decide) | exact aX hc | omega) bi) (df.at λ o e=>up8 (by first | exact nn (by decide) | exact n0 (by decide) | exact aW (by decide) | exact al l1 _ | exact al l2 _ | exact aI l1 | exact aI l2 | exact co hc (by decide) | exact aX hc | omega) e) (dh.at λ o e=>up8 (by first | exact nn (by decide) | exact n0 (by decide) | exact aW (by decide) | exact al l1 _ | exact al l2 _ | exact aI l1 | exact aI l2 | exact co hc (by decide) | exact aX hc | omega) e)
   (ex cn (by first | exact nn (by decide) | exact n0 (by decide) | exact aW (by decide) | exact al l1 _ | exact al l2 _ | exact aI l1 | exact aI l2 | exact co hc (by decide) | exact aX hc | omega) (aag _ rfl)) λ c o hc e=>up8 (by first | exact nn (by decide) | exact n0 (by decide) | exact aW (by decide) | exact al l1 _ | exact al l2 _ | exact aI l1 | exact aI l2 | exact co hc (by decide) | exact aX hc | omega) (keep c o hc e)⟩
 ·intro h₁ ak ad
  simp only [Bool.false_eq_true,if_false]
  refine wpAny_bind ?_
  rw[<- Array.forIn_toList]
  simp only [List.forIn_cons,List.forIn_nil]
  refine wpAny_bind (wpAny_bind (wpAny_holding ?_))
  show wpAny _ _ (Builtin.SmallTypes.nextOf (.ref n) >>= _) _ _ _
  refine wpAny_bind (bQ (i1.ext ad (by first | exact nn (by decide) | exact n0 (by decide) | exact aW (by decide) | exact al l1 _ | exact al l2 _ | exact aI l1 | exact aI l2 | exact co hc (by decide) | exact aX hc | omega)) (s1.ext ad (by first | exact nn (by decide) | exact n0 (by decide) | exact aW (by decide) | exact al l1 _ | exact al l2 _ | exact aI l1 | exact aI l2 | exact co hc (by decide) | exact aX hc | omega)) hx λ am bg ae=>wpAny_pure (wpAny_pure ?_))
  refine wpAny_bind (wpAny_bind (wpAny_holding ?_))
  show wpAny _ _ (Builtin.SmallTypes.nextOf (.ref (n+1)) >>= _) _ _ _
  refine wpAny_bind (bQ ((i2.ext ad (by first | exact nn (by decide) | exact n0 (by decide) | exact aW (by decide) | exact al l1 _ | exact al l2 _ | exact aI l1 | exact aI l2 | exact co hc (by decide) | exact aX hc | omega)).ext ae (by first | exact nn (by decide) | exact n0 (by decide) | exact aW (by decide) | exact al l1 _ | exact al l2 _ | exact aI l1 | exact aI l2 | exact co hc (by decide) | exact aX hc | omega)) ((s2.ext ad (by first | exact nn (by decide) | exact n0 (by decide) | exact aW (by decide) | exact al l1 _ | exact al l2 _ | exact aI l1 | exact aI l2 | exact co hc (by decide) | exact aX hc | omega)).ext ae (by first | exact nn (by decide) | exact n0 (by decide) | exact aW (by decide) | exact al l1 _ | exact al l2 _ | exact aI l1 | exact aI l2 | exact co hc (by decide) | exact aX hc | omega)) hy λ ap ce ah=>wpAny_pure (wpAny_pure (wpAny_pure ?_)))
  refine wpAny_bind (wpAny_newTuple (hsz:=by show 2<=sizeLine;decide) (wpAny_pure ⟨_,rfl,?_⟩))
  have hsz:ap.objs.size=s.heap.objs.size:=by rw[ah.1,ae.1,ad.1]
  have up:∀ {c o},ap.get? c=some o->(ap.push { cls:=.type "tuple",data:=.seq #[x,y] }).get? c=some o:=λ e=>aab _ e
  have keep:∀ (c:Nat) o,(c < n\/n+4 < c)->s.heap.get? c=some o->ap.get? c=some o:=λ c o hc e=>ex ah (by first | exact nn (by decide) | exact n0 (by decide) | exact aW (by decide) | exact al l1 _ | exact al l2 _ | exact aI l1 | exact aI l2 | exact co hc (by decide) | exact aX hc | omega) (ex ae (by first | exact nn (by decide) | exact n0 (by decide) | exact aW (by decide) | exact al l1 _ | exact al l2 _ | exact aI l1 | exact aI l2 | exact co hc (by decide) | exact aX hc | omega) (ex ad (by first | exact nn (by decide) | exact n0 (by decide) | exact aW (by decide) | exact al l1 _ | exact al l2 _ | exact aI l1 | exact aI l2 | exact co hc (by decide) | exact aX hc | omega) e))
  refine hQ ap.objs.size (ap.push { cls:=.type "tuple",data:=.seq #[x,y] }) f0 true c1 c2 (by rw[hsz];exact Nat.le_refl _) hf (up (ex ah (by first | exact nn (by decide) | exact n0 (by decide) | exact aW (by decide) | exact al l1 _ | exact al l2 _ | exact aI l1 | exact aI l2 | exact co hc (by decide) | exact aX hc | omega) (ex ae (by first | exact nn (by decide) | exact n0 (by decide) | exact aW (by decide) | exact al l1 _ | exact al l2 _ | exact aI l1 | exact aI l2 | exact co hc (by decide) | exact aX hc | omega) ak)))
   (up (ex ah (by first | exact nn (by decide) | exact n0 (by decide) | exact aW (by decide) | exact al l1 _ | exact al l2 _ | exact aI l1 | exact aI l2 | exact co hc (by decide) | exact aX hc | omega) (ex ae (by first | exact nn (by decide) | exact n0 (by decide) | exact aW (by decide) | exact al l1 _ | exact al l2 _ | exact aI l1 | exact aI l2 | exact co hc (by decide) | exact aX hc | omega) (ex ad (by first | exact nn (by decide) | exact n0 (by decide) | exact aW (by decide) | exact al l1 _ | exact al l2 _ | exact aI l1 | exact aI l2 | exact co hc (by decide) | exact aX hc | omega) hTI)))) (up (ex ah (by first | exact nn (by decide) | exact n0 (by decide) | exact aW (by decide) | exact al l1 _ | exact al l2 _ | exact aI l1 | exact aI l2 | exact co hc (by decide) | exact aX hc | omega) (ex ae (by first | exact nn (by decide) | exact n0 (by decide) | exact aW (by decide) | exact al l1 _ | exact al l2 _ | exact aI l1 | exact aI l2 | exact co hc (by decide) | exact aX hc | omega) (ex ad (by first | exact nn (by decide) | exact n0 (by decide) | exact aW (by decide) | exact al l1 _ | exact al l2 _ | exact aI l1 | exact aI l2 | exact co hc (by decide) | exact aX hc | omega) hTO))))
   ((bg.ext ah (by first | exact nn (by decide) | exact n0 (by decide) | exact aW (by decide) | exact al l1 _ | exact al l2 _ | exact aI l1 | exact aI l2 | exact co hc (by decide) | exact aX hc | omega)).at λ o e=>up e) (ce.at λ o e=>up e) (aag _ rfl) λ c o hc e=>up (keep c o hc e)
theorem yS {n a1 a2:Nat}{t1 t2:Bool}{k:Nat}{xs ys:Array Value}{c1 c2 f0:Value}{f1:Bool}{Q:Fin->Shared->Prop} (hh:A.handled=none) (hf:fP f0)
  (hz:kS s.heap (n+4) (n+2) (n+3) f0 f1) (hTI:cU s.heap (n+2) #[.ref n,.ref (n+1)]) (hTO:cU s.heap (n+3) #[c1,c2])
  (i1:cZ s.heap t1 n a1 k) (i2:cZ s.heap t2 (n+1) a2 k) (s1:bW s.heap t1 a1 xs) (s2:bW s.heap t2 a2 ys)
  (l1:a1 < n) (l2:a2 < n) (hend:xs[k]? = none\/ys[k]? = none)
  (hE:∀ h' e,(∀ (c:Nat) o,(c < n\/n+4 < c)->s.heap.get? c=some o->h'.get? c=some o)->(∃ o,h'.get? e=some o/\o.cls=.type "StopIteration")->E (.ref e) { s with heap:=h' }) :
  wpAny (model prog w) A (Builtin.«zip.__next__» ⟨[.ref (n+4)],[]⟩) Q E s:=by
 show wpAny _ _ (field (.ref (n+4)) 2 >>= _) _ _ _
 refine wpAny_bind (wpAny_field hz rfl (x:=.bool false) rfl ?_)
 show wpAny _ _ (field (.ref (n+4)) 3 >>= _) _ _ _
 refine wpAny_bind (wpAny_field hz rfl (x:=.ref (n+2)) rfl ?_)
 refine wpAny_bind (wpAny_seqItems hTI rfl ?_)
 show wpAny _ _ (Builtin.SmallTypes.ownedTupleIsFree (.ref (n+4)) >>= _) _ _ _
 refine wpAny_bind (i7 hz hf ?_ ?_)
 ·simp only [if_true]
  refine wpAny_bind (wpAny_rule ?_)
  refine wpAny_bind (wpAny_field hz rfl (x:=.ref (n+3)) rfl ?_)
  refine wpAny_bind (wpAny_setField_rec hz (by simp) λ h₁ ak ad=>?_)
  replace ak:kS h₁ (n+4) (n+2) (n+3) .ellipsis f1:=ak
  refine wpAny_bind ?_
  simp only [List.zipIdx_cons,List.zipIdx_nil,List.forIn_cons,List.forIn_nil]
  have fin:∀ {am aj:Heap}{e j:Nat}{oe:Obj},kS am (n+4) (n+2) (n+3) .ellipsis f1->Heap.ExtBut j am aj->@Ne Nat (n+4) j->(n<=j/\j<=n+4)->(∀ (c:Nat) o,(c < n\/n+4 < c)->s.heap.get? c=some o->am.get? c=some o)->aj.get? e=some oe->oe.cls=.type "StopIteration" ->
    wpAny (model prog w) A (setField (.ref (n+4)) 0 .none) (λ _ s'=>E (.ref e) s') E { s with heap:=aj }:=λ {am aj e j oe} bw hx hj hr hk hoe hce=>by
   have bo:kS aj (n+4) (n+2) (n+3) .ellipsis f1:=hx _ _ hj bw
   have hez:e≠n+4:=λ q=>by subst q;rw[bo] at hoe;cases hoe;simp at hce
   refine wpAny_setField_rec bo (by simp) λ ap _ ah=>hE ap e (λ c o hc q=>ex ah (by first | exact nn (by decide) | exact n0 (by decide) | exact aW (by decide) | exact al l1 _ | exact al l2 _ | exact aI l1 | exact aI l2 | exact co hc (by decide) | exact aX hc | omega) (hx c o (show @Ne Nat c j by omega) (hk c o hc q))) ⟨oe,ah.extBut _ _ hez hoe,hce⟩
  refine wpAny_bind (wpAny_bind (wpAny_onRaise ?_))
  show wpAny _ _ (Builtin.SmallTypes.nextOf (.ref n) >>= _) _ _ _
  cases hx:xs[k]? with
  | none=>
   refine wpAny_bind (cO hh (i1.ext ad (by first | exact nn (by decide) | exact n0 (by decide) | exact aW (by decide) | exact al l1 _ | exact al l2 _ | exact aI l1 | exact aI l2 | exact co hc (by decide) | exact aX hc | omega)) (s1.ext ad (by first | exact nn (by decide) | exact n0 (by decide) | exact aW (by decide) | exact al l1 _ | exact al l2 _ | exact aI l1 | exact aI l2 | exact co hc (by decide) | exact aX hc | omega)) hx λ am e ae he=>?_)
   obtain⟨oe,hoe,hce⟩:=he
   exact fin ak ae (by first | exact nn (by decide) | exact n0 (by decide) | exact aW (by decide) | exact al l1 _ | exact al l2 _ | exact aI l1 | exact aI l2 | exact co hc (by decide) | exact aX hc | omega) (by first | exact nn (by decide) | exact n0 (by decide) | exact aW (by decide) | exact al l1 _ | exact al l2 _ | exact aI l1 | exact aI l2 | exact co hc (by decide) | exact aX hc | omega) (λ c o hc q=>ex ad (by first | exact nn (by decide) | exact n0 (by decide) | exact aW (by decide) | exact al l1 _ | exact al l2 _ | exact aI l1 | exact aI l2 | exact co hc (by decide) | exact aX hc | omega) q) hoe hce
  | some x=>
   have hy:ys[k]? = none:=by rcases hend with h | h;rw[hx] at h;cases h;exact h
   refine wpAny_bind (bQ (i1.ext ad (by first | exact nn (by decide) | exact n0 (by decide) | exact aW (by decide) | exact al l1 _ | exact al l2 _ | exact aI l1 | exact aI l2 | exact co hc (by decide) | exact aX hc | omega)) (s1.ext ad (by first | exact nn (by decide) | exact n0 (by decide) | exact aW (by decide) | exact al l1 _ | exact al l2 _ | exact aI l1 | exact aI l2 | exact co hc (by decide) | exact aX hc | omega)) hx λ am bg ae=>wpAny_pure ?_)
   have bf:cU am (n+3) #[c1,c2]:=ex ae (by first | exact nn (by decide) | exact n0 (by decide) | exact aW (by decide) | exact al l1 _ | exact al l2 _ | exact aI l1 | exact aI l2 | exact co hc (by decide) | exact aX hc | omega) (ex ad (by first | exact nn (by decide) | exact n0 (by decide) | exact aW (by decide) | exact al l1 _ | exact al l2 _ | exact aI l1 | exact aI l2 | exact co hc (by decide) | exact aX hc | omega) hTO)
   refine wpAny_bind (wpAny_seqItems bf rfl ?_)
   refine wpAny_bind (gK bf (by simp) λ aj bb ag=>?_)
   refine wpAny_bind (wpAny_letGo (wpAny_pure ?_))
   have bo:kS aj (n+4) (n+2) (n+3) .ellipsis f1:=ex ag (by first | exact nn (by decide) | exact n0 (by decide) | exact aW (by decide) | exact al l1 _ | exact al l2 _ | exact aI l1 | exact aI l2 | exact co hc (by decide) | exact aX hc | omega) (ex ae (by first | exact nn (by decide) | exact n0 (by decide) | exact aW (by decide) | exact al l1 _ | exact al l2 _ | exact aI l1 | exact aI l2 | exact co hc (by decide) | exact aX hc | omega) ak)
   have dj:∀ (c:Nat) o,(c < n\/n+4 < c)->s.heap.get? c=some o->aj.get? c=some o:=λ c o hc e=>ex ag (by first | exact nn (by decide) | exact n0 (by decide) | exact aW (by decide) | exact al l1 _ | exact al l2 _ | exact aI l1 | exact aI l2 | exact co hc (by decide) | exact aX hc | omega) (ex ae (by first | exact nn (by decide) | exact n0 (by decide) | exact aW (by decide) | exact al l1 _ | exact al l2 _ | exact aI l1 | exact aI l2 | exact co hc (by decide) | exact aX hc | omega) (ex ad (by first | exact nn (by decide) | exact n0 (by decide) | exact aW (by decide) | exact al l1 _ | exact al l2 _ | exact aI l1 | exact aI l2 | exact co hc (by decide) | exact aX hc | omega) e))
   refine wpAny_bind (wpAny_bind (wpAny_onRaise ?_))
   show wpAny _ _ (Builtin.SmallTypes.nextOf (.ref (n+1)) >>= _) _ _ _
   refine wpAny_bind (cO hh (((i2.ext ad (by first | exact nn (by decide) | exact n0 (by decide) | exact aW (by decide) | exact al l1 _ | exact al l2 _ | exact aI l1 | exact aI l2 | exact co hc (by decide) | exact aX hc | omega)).ext ae (by first | exact nn (by decide) | exact n0 (by decide) | exact aW (by decide) | exact al l1 _ | exact al l2 _ | exact aI l1 | exact aI l2 | exact co hc (by decide) | exact aX hc | omega)).ext ag (by first | exact nn (by decide) | exact n0 (by decide) | exact aW (by decide) | exact al l1 _ | exact al l2 _ | exact aI l1 | exact aI l2 | exact co hc (by decide) | exact aX hc | omega)) (((s2.ext ad (by first | exact nn (by decide) | exact n0 (by decide) | exact aW (by decide) | exact al l1 _ | exact al l2 _ | exact aI l1 | exact aI l2 | exact co hc (by decide) | exact aX hc | omega)).ext ae (by first | exact nn (by decide) | exact n0 (by decide) | exact aW (by decide) | exact al l1 _ | exact al l2 _ | exact aI l1 | exact aI l2 | exact co hc (by decide) | exact aX hc | omega)).ext ag (by first | exact nn (by decide) | exact n0 (by decide) | exact aW (by decide) | exact al l1 _ | exact al l2 _ | exact aI l1 | exact aI l2 | exact co hc (by decide) | exact aX hc | omega)) hy λ ap e ah he=>?_)
   obtain⟨oe,hoe,hce⟩:=he
   exact fin bo ah (by first | exact nn (by decide) | exact n0 (by decide) | exact aW (by decide) | exact al l1 _ | exact al l2 _ | exact aI l1 | exact aI l2 | exact co hc (by decide) | exact aX hc | omega) (by first | exact nn (by decide) | exact n0 (by decide) | exact aW (by decide) | exact al l1 _ | exact al l2 _ | exact aI l1 | exact aI l2 | exact co hc (by decide) | exact aX hc | omega) dj hoe hce
 ·intro h₁ ak ad
  simp only [Bool.false_eq_true,if_false]
  refine wpAny_bind ?_
  rw[<- Array.forIn_toList]
  simp only [List.forIn_cons,List.forIn_nil]
  refine wpAny_bind (wpAny_bind (wpAny_holding ?_))
  show wpAny _ _ (Builtin.SmallTypes.nextOf (.ref n) >>= _) _ _ _
  cases hx:xs[k]? with
  | none=>
   refine wpAny_bind (cO hh (i1.ext ad (by first | exact nn (by decide) | exact n0 (by decide) | exact aW (by decide) | exact al l1 _ | exact al l2 _ | exact aI l1 | exact aI l2 | exact co hc (by decide) | exact aX hc | omega)) (s1.ext ad (by first | exact nn (by decide) | exact n0 (by decide) | exact aW (by decide) | exact al l1 _ | exact al l2 _ | exact aI l1 | exact aI l2 | exact co hc (by decide) | exact aX hc | omega)) hx λ am e ae he=>?_)
   exact hE am e (λ c o hc q=>ae c o (show @Ne Nat c n by omega) (ex ad (by first | exact nn (by decide) | exact n0 (by decide) | exact aW (by decide) | exact al l1 _ | exact al l2 _ | exact aI l1 | exact aI l2 | exact co hc (by decide) | exact aX hc | omega) q)) he
  | some x=>
   have hy:ys[k]? = none:=by rcases hend with h | h;rw[hx] at h;cases h;exact h
   refine wpAny_bind (bQ (i1.ext ad (by first | exact nn (by decide) | exact n0 (by decide) | exact aW (by decide) | exact al l1 _ | exact al l2 _ | exact aI l1 | exact aI l2 | exact co hc (by decide) | exact aX hc | omega)) (s1.ext ad (by first | exact nn (by decide) | exact n0 (by decide) | exact aW (by decide) | exact al l1 _ | exact al l2 _ | exact aI l1 | exact aI l2 | exact co hc (by decide) | exact aX hc | omega)) hx λ am bg ae=>wpAny_pure (wpAny_pure ?_))
   refine wpAny_bind (wpAny_bind (wpAny_holding ?_))
   show wpAny _ _ (Builtin.SmallTypes.nextOf (.ref (n+1)) >>= _) _ _ _
   refine wpAny_bind (cO hh ((i2.ext ad (by first | exact nn (by decide) | exact n0 (by decide) | exact aW (by decide) | exact al l1 _ | exact al l2 _ | exact aI l1 | exact aI l2 | exact co hc (by decide) | exact aX hc | omega)).ext ae (by first | exact nn (by decide) | exact n0 (by decide) | exact aW (by decide) | exact al l1 _ | exact al l2 _ | exact aI l1 | exact aI l2 | exact co hc (by decide) | exact aX hc | omega)) ((s2.ext ad (by first | exact nn (by decide) | exact n0 (by decide) | exact aW (by decide) | exact al l1 _ | exact al l2 _ | exact aI l1 | exact aI l2 | exact co hc (by decide) | exact aX hc | omega)).ext ae (by first | exact nn (by decide) | exact n0 (by decide) | exact aW (by decide) | exact al l1 _ | exact al l2 _ | exact aI l1 | exact aI l2 | exact co hc (by decide) | exact aX hc | omega)) hy λ aj e ag he=>?_)
   exact hE aj e (λ c o hc q=>ag c o (show @Ne Nat c (n+1) by omega) (ex ae (by first | exact nn (by decide) | exact n0 (by decide) | exact aW (by decide) | exact al l1 _ | exact al l2 _ | exact aI l1 | exact aI l2 | exact co hc (by decide) | exact aX hc | omega) (ex ad (by first | exact nn (by decide) | exact n0 (by decide) | exact aW (by decide) | exact al l1 _ | exact al l2 _ | exact aI l1 | exact aI l2 | exact co hc (by decide) | exact aX hc | omega) q))) he
theorem hW {z TI TO:Addr}{f0:Value}{f1:Bool}{Q:Option Value->Shared->Prop} (hz:kS s.heap z TI TO f0 f1)
  (h:wpAny (model prog w) A.in1 (Builtin.«zip.__next__» ⟨[.ref z],[]⟩) (λ fin s'=>∃ v,fin=.done (.ret v)/\Q (some v) s') (λ e s'=>(∃ a o,e=.ref a/\s'.heap.get? a=some o/\o.cls=.type "StopIteration")/\Q none s') s) :
  wpAny (model prog w) A (pyNext (.ref z)) Q E s:=by
 have hT:s.TypeIs (.ref z) "zip" := ⟨_,hz,rfl⟩
 unfold pyNext
 refine wpAny_bind (wpAny_attempt (wpAny_callSpecial?_slot (name:=Str.ofString "__next__") hT F.slot_zip_next
  (wpAny_call_entry F.slot_zip_next hT F.entry_zip_next (wpAny_mono h (λ fin s' h'=>?_) λ e s' h'=>?_) (F.args_zip_next_1 _))))
 ·obtain⟨v,rfl,q⟩:=h'
  exact⟨v,rfl,wpAny_pure q⟩
 ·obtain⟨⟨a,o,rfl,ho,hc⟩,q⟩:=h'
  exact wpAny_bind (wpAny_isInstance (T := "StopIteration") (b:=true) ⟨o,ho,hc⟩ isSubtype_stop (wpAny_pure q))
theorem qE {tg:Expr}{z TI TO T:Addr}{f0:Value}{f1:Bool}{Q:Unit->Shared->Prop} (hf:fP f0) (hz:kS s.heap z TI TO f0 f1)
  (hQ:∀ h' f0',fP f0'->kS h' z TI TO f0' f1->Heap.SameBut z s.heap h'->Q () { s with heap:=h' }):wpAny (model prog w) A (letOwnedTupleGo tg (.ref z) (.ref T)) Q E s:=by
 have same:Q () s:=hQ s.heap f0 hf hz (Heap.SameBut.refl ..)
 have core:wpAny (model prog w) A (do
   let o <- load z
   match o.cls,o.data with
   | .type n,.fields vs=>
    if ["enumerate","zip","dict_itemiterator","dict_reverseitemiterator","odict_iterator","itertools.zip_longest","itertools.pairwise"].contains n && vs[0]? == some (rawInt T) then
     rule "for.unpacks-the-owned-tuple"
     updateField z 0 .none
   | _,_=>pure ()) Q E s:=by
  refine wpAny_bind (wpAny_load hz ?_)
  show wpAny _ _ (if (["enumerate","zip","dict_itemiterator","dict_reverseitemiterator","odict_iterator","itertools.zip_longest","itertools.pairwise"].contains "zip" &&
   (#[f0,.bool f1,.bool false,.ref TI,.ref TO]:Array Value)[0]? == some (rawInt T))=true then _ else _) Q E s
  split
  ·refine wpAny_bind (wpAny_rule ?_)
   show wpAny _ _ (setField (.ref z) 0 .none) Q E s
   exact wpAny_setField_rec hz (by simp) λ h' hz' hs'=>hQ h' .none (.inl rfl) hz' hs'
  ·exact wpAny_pure same
 unfold letOwnedTupleGo
 cases tg <;> first
  | exact wpAny_pure same
  | exact core
theorem i4 {z TI TO:Addr}{f0:Value}{f1:Bool}{Q:Value->Shared->Prop} (hz:kS s.heap z TI TO f0 f1) (h:Q (.ref z) s):wpAny (model prog w) A (pyIter (.ref z)) Q E s:=by
 have hT:s.TypeIs (.ref z) "zip" := ⟨_,hz,rfl⟩
 refine wpAny_pyIter_slot hT F.slot_zip_iter (wpAny_call_entry F.slot_zip_iter hT F.entry_zip_iter ?_ (F.args_zip_iter_1 _))
 show wpAny _ _ (ret (.ref z)) _ _ s
 exact wpAny_pure ⟨_,rfl,"zip",_,hT,F.slot_zip_next.lookup,h⟩
noncomputable def oS (t:Bool) (a:Addr):Obj:={ cls:=.type (if t=true then "tuple_iterator" else "list_iterator"),data:=.fields #[.ref a,.int 0 0] }
theorem dZ {t:Bool}{a:Addr}{items:Array Value}{Q:Value->Shared->Prop} (hs:bW s.heap t a items) (hQ:Q (.ref s.heap.objs.size) { s with heap:=s.heap.push (oS t a) }) :
  wpAny (model prog w) A (pyIter (.ref a)) Q E s:=by
 cases t with
 | true=>exact wpAny_pyIter_tuple hs hQ
 | false=>exact wpAny_pyIter_list hs hQ
theorem gY {h:Heap}{t:Bool}{a it:Addr} (e:h.get? it=some (oS t a)):cZ h t it a 0:=by
 cases t <;> exact⟨_,e,rfl,rfl⟩
noncomputable abbrev zA (h:Heap) (t:Bool) (a:Addr):Heap:=h.push (oS t a)
noncomputable abbrev CC (h:Heap) (vs:List Value):Heap:=h.push { cls:=.type "tuple",data:=.seq vs.toArray }
noncomputable abbrev z2B (h:Heap) (t1 t2:Bool) (l1 l2:Addr):Heap:=CC (zA (zA h t1 l1) t2 l2) [.ref h.objs.size,.ref (zA h t1 l1).objs.size]
noncomputable abbrev z2H (h:Heap) (t1 t2:Bool) (l1 l2:Addr):Heap:=CC (z2B h t1 t2 l1 l2) [.none,.none]
noncomputable abbrev GL (h:Heap) (t1 t2:Bool) (l1 l2:Addr):Heap:=(z2H h t1 t2 l1 l2).push { cls:=.type "zip",data:=.fields #[.none,.bool false,.bool false,.ref (zA (zA h t1 l1) t2 l2).objs.size,.ref (z2B h t1 t2 l1 l2).objs.size] }
noncomputable abbrev z3B (h:Heap) (t1 t2 t3:Bool) (l1 l2 l3:Addr):Heap:=CC (zA (zA (zA h t1 l1) t2 l2) t3 l3) [.ref h.objs.size,.ref (zA h t1 l1).objs.size,.ref (zA (zA h t1 l1) t2 l2).objs.size]
noncomputable abbrev z3H (h:Heap) (t1 t2 t3:Bool) (l1 l2 l3:Addr):Heap:=CC (z3B h t1 t2 t3 l1 l2 l3) [.none,.none,.none]
noncomputable abbrev EG (h:Heap) (t1 t2 t3:Bool) (l1 l2 l3:Addr):Heap:=(z3H h t1 t2 t3 l1 l2 l3).push { cls:=.type "zip",data:=.fields #[.none,.bool false,.bool false,.ref (zA (zA (zA h t1 l1) t2 l2) t3 l3).objs.size,.ref (z3B h t1 t2 t3 l1 l2 l3).objs.size] }
theorem vG (t1 t2:Bool) (l1 l2:Addr) (xs ys:Array Value) :
  Meets (Builtin.«zip.__new__» ⟨[.type "zip",.ref l1,.ref l2],[]⟩) (λ _ R s=>bW s.heap t1 l1 xs/\bW s.heap t2 l2 ys/\
   R (.ok (.ret (.ref (z2H s.heap t1 t2 l1 l2).objs.size))) { s with heap:=GL s.heap t1 t2 l1 l2 }):=
 .of_wp λ prog w A R s h=>by
  obtain⟨hp,g,d,tk,os⟩:=s;obtain⟨hl1,hl2,h⟩:=h
  have hsub:=sub_zip
  have hL1:bW (Shared.heap ⟨hp,g,d,tk,os⟩) t1 l1 xs:=hl1
  have hL2:bW (Shared.heap ⟨hp.push (oS t1 l1),g,d,tk,os⟩) t2 l2 ys:=hl2.at λ o e=>aab _ e
  wp_walk using dZ hL1,dZ hL2
  exact⟨_,rfl,h⟩
theorem vF (t1 t2 t3:Bool) (l1 l2 l3:Addr) (xs ys zs:Array Value) :
  Meets (Builtin.«zip.__new__» ⟨[.type "zip",.ref l1,.ref l2,.ref l3],[]⟩) (λ _ R s=>bW s.heap t1 l1 xs/\bW s.heap t2 l2 ys/\bW s.heap t3 l3 zs/\
   R (.ok (.ret (.ref (z3H s.heap t1 t2 t3 l1 l2 l3).objs.size))) { s with heap:=EG s.heap t1 t2 t3 l1 l2 l3 }):=
 .of_wp λ prog w A R s h=>by
  obtain⟨hp,g,d,tk,os⟩:=s;obtain⟨hl1,hl2,hl3,h⟩:=h
  have hsub:=sub_zip
  have hL1:bW (Shared.heap ⟨hp,g,d,tk,os⟩) t1 l1 xs:=hl1
  have hL2:bW (Shared.heap ⟨hp.push (oS t1 l1),g,d,tk,os⟩) t2 l2 ys:=hl2.at λ o e=>aab _ e
  have hL3:bW (Shared.heap ⟨(hp.push (oS t1 l1)).push (oS t2 l2),g,d,tk,os⟩) t3 l3 zs:=hl3.at λ o e=>aab _ (aab _ e)
  wp_walk using dZ hL1,dZ hL2,dZ hL3
  exact⟨_,rfl,h⟩
theorem nV (a b c:Value):checkTypeCall "zip" ⟨[a,b,c],[]⟩=pure ():=by kernel_rfl
theorem pO (a b c:Value):checkBuiltinCall "zip.__new__" ⟨[.type "zip",a,b,c],[]⟩=pure ():=by kernel_rfl
theorem kP (a b c d:Value):argsOk "object.__init__" ⟨[a,b,c,d],[]⟩:=by
 unfold argsOk;rw[signature?_of (id := "object.__init__") (n:=['_','_','t','i','n','i','_','_']) (o:=['t','c','e','j','b','o']) (by kernel_rfl) F.owner_object];kernel_rfl
theorem yC {t1 t2:Bool}{l1 l2:Addr}{xs ys:Array Value}{Q:Value->Shared->Prop} (hl1:bW s.heap t1 l1 xs) (hl2:bW s.heap t2 l2 ys)
  (h:∀ h',kS h' (s.heap.objs.size+4) (s.heap.objs.size+2) (s.heap.objs.size+3) .none false->cU h' (s.heap.objs.size+2) #[.ref s.heap.objs.size,.ref (s.heap.objs.size+1)]->
   cU h' (s.heap.objs.size+3) #[.none,.none]->cZ h' t1 s.heap.objs.size l1 0->cZ h' t2 (s.heap.objs.size+1) l2 0->
   (∀ c o,s.heap.get? c=some o->h'.get? c=some o)->Q (.ref (s.heap.objs.size+4)) { s with heap:=h' }):wpAny (model prog w) A (call (.type "zip") [.ref l1,.ref l2]) Q E s:=by
 refine callType_new F.called_zip (by decide) (F.typeCall_zip_2 _ _) (F.newCall_zip_2 _ _) (λ obj=>F.args_object_init_3 obj _ _) F.entry_zip_new (vG t1 t2 l1 l2 xs ys) ⟨hl1,hl2,?_⟩
 generalize s.heap=h0 at *
 have z1:(zA h0 t1 l1).objs.size=h0.objs.size+1:=abg ..
 have z2:(zA (zA h0 t1 l1) t2 l2).objs.size=h0.objs.size+2:=by rw[abg,z1]
 have z3:(z2B h0 t1 t2 l1 l2).objs.size=h0.objs.size+3:=by rw[abg,z2]
 have z4:(z2H h0 t1 t2 l1 l2).objs.size=h0.objs.size+4:=by rw[abg,z3]
 have g5:(GL h0 t1 t2 l1 l2).get? (z2H h0 t1 t2 l1 l2).objs.size=some _:=aag _ rfl
 have g4:(GL h0 t1 t2 l1 l2).get? (z2B h0 t1 t2 l1 l2).objs.size=some _:=aab _ (aag _ rfl)
 have g3:(GL h0 t1 t2 l1 l2).get? (zA (zA h0 t1 l1) t2 l2).objs.size=some _:=aab _ (aab _ (aag _ rfl))
 have g2:(GL h0 t1 t2 l1 l2).get? (zA h0 t1 l1).objs.size=some _:=aab _ (aab _ (aab _ (aag _ rfl)))
 have g1:(GL h0 t1 t2 l1 l2).get? h0.objs.size=some _:=aab _ (aab _ (aab _ (aab _ (aag _ rfl))))
 show _/\_
 rw[z2,z3,z4] at g5
 rw[z1,z2] at g3
 rw[z3] at g4
 rw[z1] at g2
 rw[z4]
 exact⟨⟨_,g5,rfl⟩,h _ g5 g3 g4 (gY g1) (gY g2) λ c o x=>aab _ (aab _ (aab _ (aab _ (aab _ x))))⟩
theorem yB {t1 t2 t3:Bool}{l1 l2 l3:Addr}{xs ys zs:Array Value}{Q:Value->Shared->Prop} (hl1:bW s.heap t1 l1 xs) (hl2:bW s.heap t2 l2 ys) (hl3:bW s.heap t3 l3 zs)
  (h:∀ h',kS h' (s.heap.objs.size+5) (s.heap.objs.size+3) (s.heap.objs.size+4) .none false->cU h' (s.heap.objs.size+3) #[.ref s.heap.objs.size,.ref (s.heap.objs.size+1),.ref (s.heap.objs.size+2)]->
   cU h' (s.heap.objs.size+4) #[.none,.none,.none]->cZ h' t1 s.heap.objs.size l1 0->cZ h' t2 (s.heap.objs.size+1) l2 0->cZ h' t3 (s.heap.objs.size+2) l3 0->
   (∀ c o,s.heap.get? c=some o->h'.get? c=some o)->Q (.ref (s.heap.objs.size+5)) { s with heap:=h' }):wpAny (model prog w) A (call (.type "zip") [.ref l1,.ref l2,.ref l3]) Q E s:=by
 refine callType_new F.called_zip (by decide) (nV _ _ _) (pO _ _ _) (λ obj=>kP obj _ _ _) F.entry_zip_new (vF t1 t2 t3 l1 l2 l3 xs ys zs) ⟨hl1,hl2,hl3,?_⟩
 generalize s.heap=h0 at *
 have z1:(zA h0 t1 l1).objs.size=h0.objs.size+1:=abg ..
 have z2:(zA (zA h0 t1 l1) t2 l2).objs.size=h0.objs.size+2:=by rw[abg,z1]
 have z2':(zA (zA (zA h0 t1 l1) t2 l2) t3 l3).objs.size=h0.objs.size+3:=by rw[abg,z2]
 have z3:(z3B h0 t1 t2 t3 l1 l2 l3).objs.size=h0.objs.size+4:=by rw[abg,z2']
 have z4:(z3H h0 t1 t2 t3 l1 l2 l3).objs.size=h0.objs.size+5:=by rw[abg,z3]
 have g5:(EG h0 t1 t2 t3 l1 l2 l3).get? (z3H h0 t1 t2 t3 l1 l2 l3).objs.size=some _:=aag _ rfl
 have g4:(EG h0 t1 t2 t3 l1 l2 l3).get? (z3B h0 t1 t2 t3 l1 l2 l3).objs.size=some _:=aab _ (aag _ rfl)
 have g3:(EG h0 t1 t2 t3 l1 l2 l3).get? (zA (zA (zA h0 t1 l1) t2 l2) t3 l3).objs.size=some _:=aab _ (aab _ (aag _ rfl))
 have g2':(EG h0 t1 t2 t3 l1 l2 l3).get? (zA (zA h0 t1 l1) t2 l2).objs.size=some _:=aab _ (aab _ (aab _ (aag _ rfl)))
 have g2:(EG h0 t1 t2 t3 l1 l2 l3).get? (zA h0 t1 l1).objs.size=some _:=aab _ (aab _ (aab _ (aab _ (aag _ rfl))))
 have g1:(EG h0 t1 t2 t3 l1 l2 l3).get? h0.objs.size=some _:=aab _ (aab _ (aab _ (aab _ (aab _ (aag _ rfl)))))
 show _/\_
 rw[z2',z3,z4] at g5
 rw[z1,z2,z2'] at g3
 rw[z3] at g4
 rw[z2] at g2'
 rw[z1] at g2
 rw[z4]
 exact⟨⟨_,g5,rfl⟩,h _ g5 g3 g4 (gY g1) (gY g2) (gY g2') λ c o x=>aab _ (aab _ (aab _ (aab _ (aab _ (aab _ x)))))⟩
end
end TwZ
namespace TwZ
open PySem
open Sem (wp)
open AutoSeq1 (wpAny_loadPart')
section
variable {prog:Program}{w:World}{M:Model}{A:Around}{E:Value->Shared->Prop}{s:Shared}
noncomputable abbrev gO (h:Heap) (e it:Addr) (f0:Value) (f1:Bool) (i:Int) (old:Value):Prop:=
 h.get? e=some { cls:=.type "enumerate",dict:=none,data:=.fields #[f0,.bool f1,.ref it,rawInt i,.none,old],slots:=#[] }
theorem tM {e it:Addr}{f0:Value}{f1:Bool}{i:Int}{old:Value}{Q:Bool->Shared->Prop} (hz:gO s.heap e it f0 f1 i old) (hf:fP f0) (yes:Q true s)
  (no:∀ h',gO h' e it f0 true i old->Heap.SameBut e s.heap h'->Q false { s with heap:=h' }):wpAny (model prog w) A (Builtin.SmallTypes.ownedTupleIsFree (.ref e)) Q E s:=by
 unfold Builtin.SmallTypes.ownedTupleIsFree
 refine wpAny_bind (wpAny_field hz rfl (x:=f0) rfl ?_)
 rcases hf with rfl | ⟨a,rfl⟩
 ·exact wpAny_pure yes
 ·refine wpAny_bind (mW ?_)
  cases h:s.heap.get? a.toNat with
  | none=>exact wpAny_pure yes
  | some o=>
   show wpAny _ _ (field (.ref e) 1 >>= _) _ _ _
   refine wpAny_bind (wpAny_field hz rfl (x:=.bool f1) rfl ?_)
   cases f1 with
   | true=>exact wpAny_pure (no s.heap hz (Heap.SameBut.refl ..))
   | false=>
    show wpAny _ _ (setField (.ref e) 1 (.bool true) >>= _) _ _ _
    refine wpAny_bind (wpAny_setField_rec hz (by simp) λ h₁ ak ad=>wpAny_pure (no h₁ ak ad))
theorem AW {e it:Addr}{f0:Value}{f1:Bool}{i:Int}{old:Value}{T:Addr}{Q:Unit->Shared->Prop} (hz:gO s.heap e it f0 f1 i old)
  (h:∀ h',gO h' e it (rawInt T) false i old->Heap.SameBut e s.heap h'->Q () { s with heap:=h' }):wpAny (model prog w) A (Builtin.SmallTypes.ownedTupleHandOut (.ref e) (.ref T)) Q E s:=by
 unfold Builtin.SmallTypes.ownedTupleHandOut
 refine wpAny_bind (wpAny_setField_rec hz (by simp) λ h₁ ak ad=>?_)
 replace ak:gO h₁ e it (rawInt T) f1 i old:=ak
 refine wpAny_setField_rec ak (by simp) λ am bw ae=>?_
 exact h am bw (Heap.SameBut.trans ad ae)
theorem y6 {n a:Nat}{t:Bool}{k:Nat}{xs:Array Value}{x old f0:Value}{f1:Bool}{Q:Value->Shared->Prop} (hf:fP f0)
  (he:gO s.heap (n+1) n f0 f1 k old) (i1:cZ s.heap t n a k) (s1:bW s.heap t a xs) (l1:a < n) (hx:xs[k]? = some x)
  (hQ:∀ (T:Nat) h' f0' f1' old',s.heap.objs.size<=T->fP f0'->gO h' (n+1) n f0' f1' ((k:Int)+1) old'->cZ h' t n a (k+1)->cU h' T #[.int k s.toks,x]->
   (∀ (c:Nat) o,(c < n\/n+1 < c)->s.heap.get? c=some o->h'.get? c=some o)->Q (.ref T) { s with heap:=h',toks:=s.toks+1 }) :
  wpAny (model prog w) A (Builtin.«enumerate.__next__» ⟨[.ref (n+1)],[]⟩) (λ fin s'=>∃ v,fin=.done (.ret v)/\Q v s') E s:=by
 obtain⟨hp,g,d,tk,os⟩:=s
 have helt:n+1 < hp.objs.size:=aai he
 show wpAny _ _ (field (.ref (n+1)) 2 >>= _) _ _ _
 refine wpAny_bind (wpAny_field he rfl (x:=.ref n) rfl ?_)
 refine wpAny_bind (bQ i1 s1 hx λ h₁ i1₁ ad=>?_)
 replace ad:Heap.SameBut n hp h₁:=ad
 have dk:gO h₁ (n+1) n f0 f1 k old:=ex ad (by omega) he
 show wpAny _ _ (field (.ref (n+1)) 3 >>= _) _ _ ⟨h₁,g,d,tk,os⟩
 refine wpAny_bind (wpAny_field dk rfl (x:=rawInt k) rfl ?_)
 show wpAny _ _ (field (.ref (n+1)) 4 >>= _) _ _ ⟨h₁,g,d,tk,os⟩
 refine wpAny_bind (wpAny_field dk rfl (x:=.none) rfl ?_)
 show wpAny _ _ (mkInt k >>= _) _ _ ⟨h₁,g,d,tk,os⟩
 refine wpAny_bind (wpAny_mkInt ?_)
 show wpAny _ _ (setField (.ref (n+1)) 3 (rawInt ((k:Int)+1)) >>= _) _ _ ⟨h₁,g,d,tk+1,os⟩
 refine wpAny_bind (wpAny_setField_rec dk (by simp) λ am dm ae=>?_)
 replace ae:Heap.SameBut (n+1) h₁ am:=ae
 replace dm:gO am (n+1) n f0 f1 ((k:Int)+1) old:=dm
 show wpAny _ _ (setField (.ref (n+1)) 4 .none >>= _) _ _ ⟨am,g,d,tk+1,os⟩
 refine wpAny_bind (wpAny_setField_rec dm (by simp) λ aj dn ag=>?_)
 replace ag:Heap.SameBut (n+1) am aj:=ag
 replace dn:gO aj (n+1) n f0 f1 ((k:Int)+1) old:=dn
 show wpAny _ _ (newTuple [.int k tk,x] >>= _) _ _ ⟨aj,g,d,tk+1,os⟩
 refine wpAny_bind (wpAny_newTuple ?_)
 have cu:gO (aj.push { cls:=.type "tuple",data:=.seq #[.int k tk,x] }) (n+1) n f0 f1 ((k:Int)+1) old:=aab _ dn
 have hsz:aj.objs.size=hp.objs.size:=by rw[ag.1,ae.1,ad.1]
 have dq:cU (aj.push { cls:=.type "tuple",data:=.seq #[.int k tk,x] }) aj.objs.size #[.int k tk,x]:=aag _ rfl
 have ei:∀ (c:Nat) o,(c < n\/n+1 < c)->hp.get? c=some o->(aj.push { cls:=.type "tuple",data:=.seq #[.int k tk,x] }).get? c=some o:=λ c o hc e=>
  aab _ (ex ag (by omega) (ex ae (by omega) (ex ad (by omega) e)))
 have dt:cZ (aj.push { cls:=.type "tuple",data:=.seq #[.int k tk,x] }) t n a (k+1):=((i1₁.ext ae (by omega)).ext ag (by omega)).at λ o e=>aab _ e
 have hlt₃:n+1 < aj.objs.size:=by rw[hsz];exact helt
 generalize hh₄:aj.push { cls:=.type "tuple",data:=.seq #[.int k tk,x] }=ap at cu dq ei dt
 have hTle:hp.objs.size<=aj.objs.size:=Nat.le_of_eq hsz.symm
 show wpAny _ _ (Builtin.SmallTypes.ownedTupleIsFree (.ref (n+1)) >>= _) _ _ ⟨ap,g,d,tk+1,os⟩
 refine wpAny_bind (tM cu hf ?_ ?_)
 ·simp only [if_true]
  refine wpAny_bind (wpAny_rule ?_)
  refine wpAny_bind (wpAny_field cu rfl (x:=old) rfl ?_)
  refine wpAny_bind (wpAny_setField_rec cu (by simp) λ be cp aq=>?_)
  replace aq:Heap.SameBut (n+1) ap be:=aq
  replace cp:gO be (n+1) n f0 f1 ((k:Int)+1) x:=cp
  refine wpAny_bind (AW (s:=⟨be,g,d,tk+1,os⟩) cp λ cb he₆ az=>?_)
  replace az:Heap.SameBut (n+1) be cb:=az
  refine wpAny_bind (wpAny_letGo (wpAny_pure ⟨_,rfl,?_⟩))
  exact hQ aj.objs.size cb _ _ _ hTle (.inr ⟨_,rfl⟩) he₆ ((dt.ext aq (by omega)).ext az (by omega)) (ex az (by omega) (ex aq (by omega) dq)) λ c o hc e=>ex az (by omega) (ex aq (by omega) (ei c o hc e))
 ·intro be cp aq
  replace aq:Heap.SameBut (n+1) ap be:=aq
  simp only [Bool.false_eq_true,if_false]
  refine wpAny_pure ⟨_,rfl,?_⟩
  exact hQ aj.objs.size be _ _ _ hTle hf cp (dt.ext aq (by omega)) (ex aq (by omega) dq) λ c o hc e=>ex aq (by omega) (ei c o hc e)
theorem BE {n a:Nat}{t:Bool}{k:Nat}{xs:Array Value}{old f0:Value}{f1:Bool}{Q:Fin->Shared->Prop} (hh:A.handled=none)
  (he:gO s.heap (n+1) n f0 f1 k old) (i1:cZ s.heap t n a k) (s1:bW s.heap t a xs) (hx:xs[k]? = none)
  (hE:∀ h' e,(∀ (c:Nat) o,(c < n\/n+1 < c)->s.heap.get? c=some o->h'.get? c=some o)->(∃ o,h'.get? e=some o/\o.cls=.type "StopIteration")->E (.ref e) { s with heap:=h' }) :
  wpAny (model prog w) A (Builtin.«enumerate.__next__» ⟨[.ref (n+1)],[]⟩) Q E s:=by
 show wpAny _ _ (field (.ref (n+1)) 2 >>= _) _ _ _
 refine wpAny_bind (wpAny_field he rfl (x:=.ref n) rfl ?_)
 refine wpAny_bind (cO hh i1 s1 hx λ h' e hk he'=>hE h' e (λ c o hc q=>hk c o (show @Ne Nat c n by omega) q) he')
theorem mY {e it:Addr}{f0:Value}{f1:Bool}{i:Int}{old:Value}{Q:Option Value->Shared->Prop} (he:gO s.heap e it f0 f1 i old)
  (h:wpAny (model prog w) A.in1 (Builtin.«enumerate.__next__» ⟨[.ref e],[]⟩) (λ fin s'=>∃ v,fin=.done (.ret v)/\Q (some v) s') (λ e s'=>(∃ a o,e=.ref a/\s'.heap.get? a=some o/\o.cls=.type "StopIteration")/\Q none s') s) :
  wpAny (model prog w) A (pyNext (.ref e)) Q E s:=by
 have hT:s.TypeIs (.ref e) "enumerate" := ⟨_,he,rfl⟩
 unfold pyNext
 refine wpAny_bind (wpAny_attempt (wpAny_callSpecial?_slot (name:=Str.ofString "__next__") hT F.slot_enumerate_next
  (wpAny_call_entry F.slot_enumerate_next hT F.entry_enumerate_next (wpAny_mono h (λ fin s' h'=>?_) λ e s' h'=>?_) (F.args_enumerate_next_1 _))))
 ·obtain⟨v,rfl,q⟩:=h'
  exact⟨v,rfl,wpAny_pure q⟩
 ·obtain⟨⟨a,o,rfl,ho,hc⟩,q⟩:=h'
  exact wpAny_bind (wpAny_isInstance (T := "StopIteration") (b:=true) ⟨o,ho,hc⟩ isSubtype_stop (wpAny_pure q))
theorem vJ {tg:Expr}{e it T:Addr}{f0:Value}{f1:Bool}{i:Int}{old:Value}{Q:Unit->Shared->Prop} (hf:fP f0) (hz:gO s.heap e it f0 f1 i old)
  (hQ:∀ h' f0',fP f0'->gO h' e it f0' f1 i old->Heap.SameBut e s.heap h'->Q () { s with heap:=h' }):wpAny (model prog w) A (letOwnedTupleGo tg (.ref e) (.ref T)) Q E s:=by
 have same:Q () s:=hQ s.heap f0 hf hz (Heap.SameBut.refl ..)
 have core:wpAny (model prog w) A (do
   let o <- load e
   match o.cls,o.data with
   | .type n,.fields vs=>
    if ["enumerate","zip","dict_itemiterator","dict_reverseitemiterator","odict_iterator","itertools.zip_longest","itertools.pairwise"].contains n && vs[0]? == some (rawInt T) then
     rule "for.unpacks-the-owned-tuple"
     updateField e 0 .none
   | _,_=>pure ()) Q E s:=by
  refine wpAny_bind (wpAny_load hz ?_)
  show wpAny _ _ (if (["enumerate","zip","dict_itemiterator","dict_reverseitemiterator","odict_iterator","itertools.zip_longest","itertools.pairwise"].contains "enumerate" &&
   (#[f0,.bool f1,.ref it,rawInt i,.none,old]:Array Value)[0]? == some (rawInt T))=true then _ else _) Q E s
  split
  ·refine wpAny_bind (wpAny_rule ?_)
   show wpAny _ _ (setField (.ref e) 0 .none) Q E s
   exact wpAny_setField_rec hz (by simp) λ h' hz' hs'=>hQ h' .none (.inl rfl) hz' hs'
  ·exact wpAny_pure same
 unfold letOwnedTupleGo
 cases tg <;> first
  | exact wpAny_pure same
  | exact core
theorem mZ {e it:Addr}{f0:Value}{f1:Bool}{i:Int}{old:Value}{Q:Value->Shared->Prop} (he:gO s.heap e it f0 f1 i old) (h:Q (.ref e) s):wpAny (model prog w) A (pyIter (.ref e)) Q E s:=by
 have hT:s.TypeIs (.ref e) "enumerate" := ⟨_,he,rfl⟩
 refine wpAny_pyIter_slot hT F.slot_enumerate_iter (wpAny_call_entry F.slot_enumerate_iter hT F.entry_enumerate_iter ?_ (F.args_enumerate_iter_1 _))
 show wpAny _ _ (ret (.ref e)) _ _ s
 exact wpAny_pure ⟨_,rfl,"enumerate",_,hT,F.slot_enumerate_next.lookup,h⟩
theorem vH (t:Bool) (l:Addr) (xs:Array Value) :
  Meets (Builtin.«enumerate.__new__» ⟨[.type "enumerate",.ref l],[]⟩) (λ _ R s=>bW s.heap t l xs/\
   R (.ok (.ret (.ref (zA s.heap t l).objs.size))) { s with heap:=(zA s.heap t l).push { cls:=.type "enumerate",data:=.fields #[.none,.bool false,.ref s.heap.objs.size,rawInt 0,.none,.none] } }):=
 .of_wp λ prog w A R s h=>by
  obtain⟨hp,g,d,tk,os⟩:=s;obtain⟨hl,h⟩:=h
  have hsub:=sub_enumerate
  have hL:bW (Shared.heap ⟨hp,g,d,tk,os⟩) t l xs:=hl
  wp_walk
  refine wpAny_stack_any λ st=>wpAny_pure ?_
  split
  ·rename_i c _ _ _ _ _
   cases (c == Value.type "enumerate")
   ·wp_walk using dZ hL
    exact⟨_,rfl,h⟩
   ·wp_walk using dZ hL
    exact⟨_,rfl,h⟩
  ·wp_walk using dZ hL
   exact⟨_,rfl,h⟩
theorem yG {t:Bool}{l:Addr}{xs:Array Value}{Q:Value->Shared->Prop} (hL:bW s.heap t l xs)
  (h:∀ h',gO h' (s.heap.objs.size+1) s.heap.objs.size .none false 0 .none->cZ h' t s.heap.objs.size l 0->(∀ b o,s.heap.get? b=some o->h'.get? b=some o)->Q (.ref (s.heap.objs.size+1)) { s with heap:=h' }) :
  wpAny (model prog w) A (call (.type "enumerate") [.ref l]) Q E s:=by
 refine callType_new F.called_enumerate (by decide) (F.typeCall_enumerate_1 _) (F.newCall_enumerate_1 _) (λ obj=>F.args_object_init_2 obj _) F.entry_enumerate_new (vH t l xs) ⟨hL,?_⟩
 have hz:(zA s.heap t l).objs.size=s.heap.objs.size+1:=abg ..
 show _/\_
 rw[hz]
 have he:gO ((zA s.heap t l).push { cls:=.type "enumerate",data:=.fields #[.none,.bool false,.ref s.heap.objs.size,rawInt 0,.none,.none] }) (s.heap.objs.size+1) s.heap.objs.size .none false 0 .none:=by
  have:=aag (zA s.heap t l) (o:={ cls:=.type "enumerate",data:=.fields #[.none,.bool false,.ref s.heap.objs.size,rawInt 0,.none,.none] }) rfl
  rw[hz] at this;exact this
 exact⟨⟨_,he,rfl⟩,h _ he (gY (aab _ (aag _ rfl))) λ b o x=>aab _ (aab _ x)⟩
end
end TwZ
namespace L2
open PySem PySem.Spec PyProof.Rows TwZ
noncomputable def jC (K:aaa) (H:Hp) (t:Bool) (a:Addr) (xs:List V):Prop:=if t=true then bD K H a xs else bT K H a xs
section
variable {X:Cx}{pins:List (Addr×Obj)}{σ:St}{H:Hp}{s:Shared}
theorem Inv.src {t:Bool}{a:Addr}{xs:List V} (I:Inv X pins σ H s) (h:jC X.K H t a xs):∃ its:List Value,bP xs its/\bW s.heap t a its.toArray/\xs.length<=sizeLine:=by
 cases t with
 | true=>
  obtain⟨its,r,p,z⟩:=I.tuple h
  exact⟨its,r,(show s.heap.IsTuple a its.toArray from p),z⟩
 | false=>
  obtain⟨its,r,p,z⟩:=I.list h
  exact⟨its,r,p.isList,z⟩
theorem Inv.src_inj {t:Bool}{a:Addr}{xs ys:List V} (I:Inv X pins σ H s) (h:jC X.K H t a xs) (h':jC X.K H t a ys):xs=ys:=by
 cases t with
 | true=>exact I.tuple_inj h h'
 | false=>exact I.list_inj h h'
theorem Inv.turnedT {fp:List Addr}{h':Heap}{t':Nat}{T:Addr}{xs:List V}{its:List Value} (I:Inv X pins σ H s) (hf:∀ b∈fp,gP X pins H b) (k:∀ b o,b∉fp->s.heap.get? b=some o->h'.get? b=some o)
  (hT:s.heap.objs.size<=T) (hv:bP xs its) (hz:xs.length<=sizeLine) (ht:IsTup h' T its.toArray):Inv X pins σ (upd H T (.tup xs)) { s with heap:=h',toks:=t' }:=by
 have hn:H T=none:=I.hok.fresh hT
 have nT:∀ b u,H b=some u->b≠T:=λ b u e=>aL e hn
 have nfp:∀ b u,H b=some u->b∉fp:=λ b u e hb=>by rw[(hf b hb).1] at e;cases e
 have nTh:∀ b o,s.heap.get? b=some o->b≠T:=λ b o e z=>by rw[z] at e;exact absurd (aal (aai e) hT) (abj _)
 refine I.step (g':=s.gens) (d':=s.drawn) (ch:=fp) (λ b hb=>?_) (λ b o _ _ hc e _=>k b o hc e) (λ b o _ _ hc e _=>⟨o.slots,k b o hc e⟩) (λ b o hc e n=>by rw[aO (nTh b o e)];exact n)
  (λ b o hc e=>⟨o,k b o hc e⟩) (λ b ys e=>by rw[aO (nT b _ e)];exact e) (λ b o u e=>by rw[aO (nT b _ e)];exact e) (λ b ps e=>⟨#[],by rw[aO (nT b _ e),e];simp⟩) (λ m hm=>?_) (λ b u e=>?_) I.bare
 ·obtain⟨_,f1,_,f3,f4,f5⟩:=hf b hb
  exact⟨f3,f1,f4,f5⟩
 ·obtain⟨o,es,ep,ho,r⟩:=hm
  exact⟨o,es,ep,k _ o (λ hb=>(hf _ hb).2.1 rfl) ho,r⟩
 ·by_cases hb:b=T
  ·subst hb
   rw[aB] at e
   cases e
   exact⟨hz,its,hv,ht⟩
  ·rw[aO hb] at e
   refine (I.hok b u e).stay (λ c v hc q=>k c v ?_ q) (λ c q=>by rw[aO (nT c _ q)];exact q) λ c ys q=>by rw[aO (nT c _ q)];exact q
   rcases hc with z | z
   ·rw[z];exact nfp b u e
   ·exact nfp c _ z
theorem Inv.turnedL {fp:List Addr}{h':Heap}{t':Nat} (I:Inv X pins σ H s) (hf:∀ b∈fp,gP X pins H b) (k:∀ b o,b∉fp->s.heap.get? b=some o->h'.get? b=some o):Inv X pins σ H { s with heap:=h',toks:=t' }:=by
 have nfp:∀ b u,H b=some u->b∉fp:=λ b u e hb=>by rw[(hf b hb).1] at e;cases e
 refine I.step (g':=s.gens) (d':=s.drawn) (ch:=fp) (λ b hb=>?_) (λ b o _ _ hc e _=>k b o hc e) (λ b o _ _ hc e _=>⟨o.slots,k b o hc e⟩) (λ b o hc e n=>n)
  (λ b o hc e=>⟨o,k b o hc e⟩) (λ b ys e=>e) (λ b o u e=>e) (λ b ps e=>⟨#[],by rw[e];simp⟩) (λ m hm=>?_) (λ b u e=>?_) I.bare
 ·obtain⟨_,f1,_,f3,f4,f5⟩:=hf b hb
  exact⟨f3,f1,f4,f5⟩
 ·obtain⟨o,es,ep,ho,r⟩:=hm
  exact⟨o,es,ep,k _ o (λ hb=>(hf _ hb).2.1 rfl) ho,r⟩
 ·refine (I.hok b u e).stay (λ c v hc q=>k c v ?_ q) (λ c q=>q) λ c ys q=>q
  rcases hc with z | z
  ·rw[z];exact nfp b u e
  ·exact nfp c _ z
end
noncomputable def GH (K:aaa) (t1 t2 t3:Bool) (a1 a2 a3:Addr):It:=
 ⟨λ i H=>∃ xs ys zs x y z,jC K H t1 a1 xs/\jC K H t2 a2 ys/\jC K H t3 a3 zs/\xs[i]? = some x/\ys[i]? = some y/\zs[i]? = some z,
  λ i H v H'=>∃ T x y z,H T=none/\v=.ref T/\(∀ xs,jC K H t1 a1 xs->xs[i]? = some x)/\(∀ xs,jC K H t2 a2 xs->xs[i]? = some y)/\(∀ xs,jC K H t3 a3 xs->xs[i]? = some z)/\H'=upd H T (.tup [x,y,z]),
  λ i H=>∃ xs ys zs,jC K H t1 a1 xs/\jC K H t2 a2 ys/\jC K H t3 a3 zs/\(xs.length<=i\/ys.length<=i\/zs.length<=i)⟩
noncomputable def GR (n a1 a2 a3:Nat) (t1 t2 t3:Bool) (i:Nat) (h:Heap):Prop:=
 ∃ f0 f1 c1 c2 c3,fP f0/\kS h (n+5) (n+3) (n+4) f0 f1/\cU h (n+3) #[.ref n,.ref (n+1),.ref (n+2)]/\cU h (n+4) #[c1,c2,c3]/\
  cZ h t1 n a1 i/\cZ h t2 (n+1) a2 i/\cZ h t3 (n+2) a3 i/\a1 < n/\a2 < n/\a3 < n
noncomputable def vN (n:Nat) (m:Nat):List Addr:=(List.range m).map λ k=>(n+k:Nat)
theorem d7 {n m:Nat}{b:Addr}:b∈vN n m↔∃ k,k < m/\b=n+k:=by
 unfold vN
 rw[abf]
 constructor
 ·rintro⟨k,hk,e⟩;exact⟨k,abw.mp hk,e.symm⟩
 ·rintro⟨k,hk,e⟩;exact⟨k,abw.mpr hk,e.symm⟩
theorem fT {n m:Nat}{b:Nat} (h:(b:Addr)∉vN n m) (hm:0 < m):b < n\/n+(m - 1) < b:=by
 by_cases h1:b < n
 ·exact .inl h1
 ·by_cases h2:n+(m - 1) < b
  ·exact .inr h2
  ·exact absurd (d7.mpr ⟨b - n,by omega,by show (b:Nat)=n+(b - n);omega⟩) h
theorem xA {P:Program}{w:World}{K:aaa}{tg:Expr} (n a1 a2 a3:Nat) (t1 t2 t3:Bool):Turn P w K tg (GH K t1 t2 t3 a1 a2 a3) (vN n 6) (n+5) (GR n a1 a2 a3 t1 t2 t3) where
 mem:=d7.mpr ⟨5,by decide,rfl⟩
 obj:=λ i h st b hb=>by
  obtain⟨f0,f1,c1,c2,c3,hf,hz,hTI,hTO,i1,i2,i3,_⟩:=st
  obtain⟨k,hk,rfl⟩:=d7.mp hb
  have hk':k=0\/k=1\/k=2\/k=3\/k=4\/k=5:=by omega
  rcases hk' with rfl | rfl | rfl | rfl | rfl | rfl
  ·exact i1.obj
  ·exact i2.obj
  ·exact i3.obj
  ·exact⟨_,hTI,λ v z=>by cases z⟩
  ·exact⟨_,hTO,λ v z=>by cases z⟩
  ·exact⟨_,hz,λ v z=>by cases z⟩
 keep:=λ i h h' st k=>by
  obtain⟨f0,f1,c1,c2,c3,hf,hz,hTI,hTO,i1,i2,i3,l⟩:=st
  have m:∀ j,j < 6->((n+j:Nat):Addr)∈vN n 6:=λ j hj=>d7.mpr ⟨j,hj,rfl⟩
  exact⟨f0,f1,c1,c2,c3,hf,k _ (m 5 (by decide)) _ hz,k _ (m 3 (by decide)) _ hTI,k _ (m 4 (by decide)) _ hTO,i1.at λ o e=>k _ (m 0 (by decide)) _ e,i2.at λ o e=>k _ (m 1 (by decide)) _ e,i3.at λ o e=>k _ (m 2 (by decide)) _ e,l⟩
 item:=by
  intro X hP hw hK hc i pins s σ H E I hf st hg
  subst hP hw hK
  obtain⟨f0,f1,c1,c2,c3,f,hz,hTI,hTO,i1,i2,i3,l1,l2,l3⟩:=st
  obtain⟨xs,ys,zs,x,y,z,q1,q2,q3,hx,hy,hw⟩:=hg
  obtain⟨us,r1,p1,_⟩:=I.src q1
  obtain⟨vs,r2,p2,_⟩:=I.src q2
  obtain⟨ws,r3,p3,_⟩:=I.src q3
  obtain⟨u,hu,ru⟩:=r1.get hx
  obtain⟨v,hv,rv⟩:=r2.get hy
  obtain⟨w',hw',rw'⟩:=r3.get hw
  refine hW hz (wY f hz hTI hTO i1 i2 i3 p1 p2 p3 l1 l2 l3 (by simpa using hu) (by simpa using hv) (by simpa using hw') λ T h' f0' f1' d1 d2 d3 hT f' hz' hTI' hTO' i1' i2' i3' hTp hk=>?_)
  refine⟨_,rfl,qE (s:={ s with heap:=h' }) f' hz' λ h'' f0'' f'' hz'' hs=>?_⟩
  replace hs:Heap.SameBut (n+5) h' h'':=hs
  have hTn:n+5 < T:=aal (aai hz) hT
  have hTp':cU h'' T #[u,v,w']:=ex hs (by omega) hTp
  have IT:Inv X pins σ (upd H T (.tup [x,y,z])) { s with heap:=h'',toks:=s.toks }:=I.turnedT (fp:=vN n 6) hf (λ b o hb e=>ex (c:=b) hs (by have:=fT (b:=b) hb (by decide);have:n+(6 - 1)=n+5:=rfl;omega) (hk b o (fT (b:=b) hb (by decide)) e)) hT (its:=[u,v,w']) (.cons ru (.cons rv (.cons rw' .nil))) (by show 3<=sizeLine;decide) ⟨_,hTp',rfl,_,rfl⟩
  refine⟨.ref T,upd H T (.tup [x,y,z]),IT,rfl,
   ⟨T,x,y,z,I.hok.fresh hT,rfl,λ as q=>by rw[I.src_inj q q1];exact hx,λ as q=>by rw[I.src_inj q q2];exact hy,λ as q=>by rw[I.src_inj q q3];exact hw,rfl⟩,
   ⟨f0'',f1',d1,d2,d3,f'',hz'',ex hs (by omega) hTI',ex hs (by omega) hTO',i1'.ext hs (by omega),i2'.ext hs (by omega),i3'.ext hs (by omega),l1,l2,l3⟩,λ b hb=>?_⟩
  ·obtain⟨j,hj,rfl⟩:=d7.mp hb
   rw[aO (show ((n+j:Nat):Addr)≠T from (show @Ne Nat (n+j) T by omega))]
   exact (hf _ hb).1
 done:=by
  intro X hP hw hK hc i pins s σ H E I hf st hg
  subst hP hw hK
  obtain⟨f0,f1,c1,c2,c3,f,hz,hTI,hTO,i1,i2,i3,l1,l2,l3⟩:=st
  obtain⟨xs,ys,zs,q1,q2,q3,hend⟩:=hg
  obtain⟨us,r1,p1,_⟩:=I.src q1
  obtain⟨vs,r2,p2,_⟩:=I.src q2
  obtain⟨ws,r3,p3,_⟩:=I.src q3
  have e1:=r1.length
  have e2:=r2.length
  have e3:=r3.length
  refine hW hz (yR (I.ok.hd hc) f hz hTI hTO i1 i2 i3 p1 p2 p3 l1 l2 l3 (by
   rcases hend with h | h | h
   ·exact .inl (by simp;omega)
   ·exact .inr (.inl (by simp;omega))
   ·exact .inr (.inr (by simp;omega))) λ h' e hk he=>?_)
  obtain⟨o,ho,hcl⟩:=he
  exact⟨⟨e,o,rfl,ho,hcl⟩,rfl,I.turnedL (t':=s.toks) hf λ b o hb q=>hk b o (fT (b:=b) hb (by decide)) q⟩
 self:=λ _ _ _ _ _ st h=>by
  obtain⟨f0,f1,c1,c2,c3,f,hz,_⟩:=st
  exact i4 hz h
noncomputable def GI (K:aaa) (t1 t2:Bool) (a1 a2:Addr):It:=
 ⟨λ i H=>∃ xs ys x y,jC K H t1 a1 xs/\jC K H t2 a2 ys/\xs[i]? = some x/\ys[i]? = some y,
  λ i H v H'=>∃ T x y,H T=none/\v=.ref T/\(∀ xs,jC K H t1 a1 xs->xs[i]? = some x)/\(∀ xs,jC K H t2 a2 xs->xs[i]? = some y)/\H'=upd H T (.tup [x,y]),
  λ i H=>∃ xs ys,jC K H t1 a1 xs/\jC K H t2 a2 ys/\(xs.length<=i\/ys.length<=i)⟩
noncomputable def GS (n a1 a2:Nat) (t1 t2:Bool) (i:Nat) (h:Heap):Prop:=
 ∃ f0 f1 c1 c2,fP f0/\kS h (n+4) (n+2) (n+3) f0 f1/\cU h (n+2) #[.ref n,.ref (n+1)]/\cU h (n+3) #[c1,c2]/\cZ h t1 n a1 i/\cZ h t2 (n+1) a2 i/\a1 < n/\a2 < n
theorem xB {P:Program}{w:World}{K:aaa}{tg:Expr} (n a1 a2:Nat) (t1 t2:Bool):Turn P w K tg (GI K t1 t2 a1 a2) (vN n 5) (n+4) (GS n a1 a2 t1 t2) where
 mem:=d7.mpr ⟨4,by decide,rfl⟩
 obj:=λ i h st b hb=>by
  obtain⟨f0,f1,c1,c2,hf,hz,hTI,hTO,i1,i2,_⟩:=st
  obtain⟨k,hk,rfl⟩:=d7.mp hb
  have hk':k=0\/k=1\/k=2\/k=3\/k=4:=by omega
  rcases hk' with rfl | rfl | rfl | rfl | rfl
  ·exact i1.obj
  ·exact i2.obj
  ·exact⟨_,hTI,λ v z=>by cases z⟩
  ·exact⟨_,hTO,λ v z=>by cases z⟩
  ·exact⟨_,hz,λ v z=>by cases z⟩
 keep:=λ i h h' st k=>by
  obtain⟨f0,f1,c1,c2,hf,hz,hTI,hTO,i1,i2,l⟩:=st
  have m:∀ j,j < 5->((n+j:Nat):Addr)∈vN n 5:=λ j hj=>d7.mpr ⟨j,hj,rfl⟩
  exact⟨f0,f1,c1,c2,hf,k _ (m 4 (by decide)) _ hz,k _ (m 2 (by decide)) _ hTI,k _ (m 3 (by decide)) _ hTO,i1.at λ o e=>k _ (m 0 (by decide)) _ e,i2.at λ o e=>k _ (m 1 (by decide)) _ e,l⟩
 item:=by
  intro X hP hw hK hc i pins s σ H E I hf st hg
  subst hP hw hK
  obtain⟨f0,f1,c1,c2,f,hz,hTI,hTO,i1,i2,l1,l2⟩:=st
  obtain⟨xs,ys,x,y,q1,q2,hx,hy⟩:=hg
  obtain⟨us,r1,p1,_⟩:=I.src q1
  obtain⟨vs,r2,p2,_⟩:=I.src q2
  obtain⟨u,hu,ru⟩:=r1.get hx
  obtain⟨v,hv,rv⟩:=r2.get hy
  refine hW hz (wZ f hz hTI hTO i1 i2 p1 p2 l1 l2 (by simpa using hu) (by simpa using hv) λ T h' f0' f1' d1 d2 hT f' hz' hTI' hTO' i1' i2' hTp hk=>?_)
  refine⟨_,rfl,qE (s:={ s with heap:=h' }) f' hz' λ h'' f0'' f'' hz'' hs=>?_⟩
  replace hs:Heap.SameBut (n+4) h' h'':=hs
  have hTn:n+4 < T:=aal (aai hz) hT
  have hTp':cU h'' T #[u,v]:=ex hs (by omega) hTp
  have IT:Inv X pins σ (upd H T (.tup [x,y])) { s with heap:=h'',toks:=s.toks }:=I.turnedT (fp:=vN n 5) hf (λ b o hb e=>ex (c:=b) hs (by have:=fT (b:=b) hb (by decide);have:n+(5 - 1)=n+4:=rfl;omega) (hk b o (fT (b:=b) hb (by decide)) e)) hT (its:=[u,v]) (.cons ru (.cons rv .nil)) (by show 2<=sizeLine;decide) ⟨_,hTp',rfl,_,rfl⟩
  refine⟨.ref T,upd H T (.tup [x,y]),IT,rfl,
   ⟨T,x,y,I.hok.fresh hT,rfl,λ as q=>by rw[I.src_inj q q1];exact hx,λ as q=>by rw[I.src_inj q q2];exact hy,rfl⟩,
   ⟨f0'',f1',d1,d2,f'',hz'',ex hs (by omega) hTI',ex hs (by omega) hTO',i1'.ext hs (by omega),i2'.ext hs (by omega),l1,l2⟩,λ b hb=>?_⟩
  ·obtain⟨j,hj,rfl⟩:=d7.mp hb
   rw[aO (show ((n+j:Nat):Addr)≠T from (show @Ne Nat (n+j) T by omega))]
   exact (hf _ hb).1
 done:=by
  intro X hP hw hK hc i pins s σ H E I hf st hg
  subst hP hw hK
  obtain⟨f0,f1,c1,c2,f,hz,hTI,hTO,i1,i2,l1,l2⟩:=st
  obtain⟨xs,ys,q1,q2,hend⟩:=hg
  obtain⟨us,r1,p1,_⟩:=I.src q1
  obtain⟨vs,r2,p2,_⟩:=I.src q2
  have e1:=r1.length
  have e2:=r2.length
  refine hW hz (yS (I.ok.hd hc) f hz hTI hTO i1 i2 p1 p2 l1 l2 (by
   rcases hend with h | h
   ·exact .inl (by simp;omega)
   ·exact .inr (by simp;omega)) λ h' e hk he=>?_)
  obtain⟨o,ho,hcl⟩:=he
  exact⟨⟨e,o,rfl,ho,hcl⟩,rfl,I.turnedL (t':=s.toks) hf λ b o hb q=>hk b o (fT (b:=b) hb (by decide)) q⟩
 self:=λ _ _ _ _ _ st h=>by
  obtain⟨f0,f1,c1,c2,f,hz,_⟩:=st
  exact i4 hz h
noncomputable def Ite (K:aaa) (t:Bool) (a:Addr):It:=
 ⟨λ i H=>∃ xs x,jC K H t a xs/\xs[i]? = some x,
  λ i H v H'=>∃ T x,H T=none/\v=.ref T/\(∀ xs,jC K H t a xs->xs[i]? = some x)/\H'=upd H T (.tup [.int i,x]),
  λ i H=>∃ xs,jC K H t a xs/\xs.length<=i⟩
noncomputable def tne (n a:Nat) (t:Bool) (i:Nat) (h:Heap):Prop:=∃ f0 f1 old,fP f0/\gO h (n+1) n f0 f1 i old/\cZ h t n a i/\a < n
theorem xD {P:Program}{w:World}{K:aaa}{tg:Expr} (n a:Nat) (t:Bool):Turn P w K tg (Ite K t a) (vN n 2) (n+1) (tne n a t) where
 mem:=d7.mpr ⟨1,by decide,rfl⟩
 obj:=λ i h st b hb=>by
  obtain⟨f0,f1,old,hf,he,i1,_⟩:=st
  obtain⟨k,hk,rfl⟩:=d7.mp hb
  have hk':k=0\/k=1:=by omega
  rcases hk' with rfl | rfl
  ·exact i1.obj
  ·exact⟨_,he,λ v z=>by cases z⟩
 keep:=λ i h h' st k=>by
  obtain⟨f0,f1,old,hf,he,i1,l⟩:=st
  have m:∀ j,j < 2->((n+j:Nat):Addr)∈vN n 2:=λ j hj=>d7.mpr ⟨j,hj,rfl⟩
  exact⟨f0,f1,old,hf,k _ (m 1 (by decide)) _ he,i1.at λ o e=>k _ (m 0 (by decide)) _ e,l⟩
 item:=by
  intro X hP hw hK hc i pins s σ H E I hf st hg
  subst hP hw hK
  obtain⟨f0,f1,old,f,he,i1,l1⟩:=st
  obtain⟨xs,x,q1,hx⟩:=hg
  obtain⟨us,r1,p1,_⟩:=I.src q1
  obtain⟨u,hu,ru⟩:=r1.get hx
  refine mY he (y6 f he i1 p1 l1 (by simpa using hu) λ T h' f0' f1' old' hT f' he' i1' hTp hk=>?_)
  refine⟨_,rfl,vJ (s:={ s with heap:=h',toks:=s.toks+1 }) f' he' λ h'' f0'' f'' he'' hs=>?_⟩
  replace hs:Heap.SameBut (n+1) h' h'':=hs
  have hTn:n+1 < T:=aal (aai he) hT
  have hTp':cU h'' T #[.int i s.toks,u]:=ex hs (by omega) hTp
  have IT:Inv X pins σ (upd H T (.tup [.int i,x])) { s with heap:=h'',toks:=s.toks+1 }:=I.turnedT (fp:=vN n 2) hf (λ b o hb e=>ex (c:=b) hs (by have:=fT (b:=b) hb (by decide);have:n+(2 - 1)=n+1:=rfl;omega) (hk b o (fT (b:=b) hb (by decide)) e)) hT (its:=[.int i s.toks,u]) (.cons ⟨_,rfl⟩ (.cons ru .nil)) (by show 2<=sizeLine;decide) ⟨_,hTp',rfl,_,rfl⟩
  have he2:gO h'' (n+1) n f0'' f1' ((i+1:Nat):Int) old':=by
   have:((i+1:Nat):Int)=(i:Int)+1:=by push_cast;rfl
   rw[this];exact he''
  refine⟨.ref T,upd H T (.tup [.int i,x]),IT,rfl,⟨T,x,I.hok.fresh hT,rfl,λ as q=>by rw[I.src_inj q q1];exact hx,rfl⟩,⟨f0'',f1',old',f'',he2,i1'.ext hs (by omega),l1⟩,λ b hb=>?_⟩
  ·obtain⟨j,hj,rfl⟩:=d7.mp hb
   rw[aO (show ((n+j:Nat):Addr)≠T from (show @Ne Nat (n+j) T by omega))]
   exact (hf _ hb).1
 done:=by
  intro X hP hw hK hc i pins s σ H E I hf st hg
  subst hP hw hK
  obtain⟨f0,f1,old,f,he,i1,l1⟩:=st
  obtain⟨xs,q1,hend⟩:=hg
  obtain⟨us,r1,p1,_⟩:=I.src q1
  have e1:=r1.length
  refine mY he (BE (I.ok.hd hc) he i1 p1 (by simp;omega) λ h' e hk he=>?_)
  obtain⟨o,ho,hcl⟩:=he
  exact⟨⟨e,o,rfl,ho,hcl⟩,rfl,I.turnedL (t':=s.toks) hf λ b o hb q=>hk b o (fT (b:=b) hb (by decide)) q⟩
 self:=λ _ _ _ _ _ st h=>by
  obtain⟨f0,f1,old,f,he,_⟩:=st
  exact mZ he h
section
variable {X:Cx}{tg:Expr}
theorem uF:bootBuiltins "zip" = some (.type "zip"):=by decide +kernel
theorem yJ:bootBuiltins "enumerate" = some (.type "enumerate"):=by decide +kernel
noncomputable def E8 (K:aaa) (ta:TA):TI:=λ σ H R=>ta σ H λ vs H1=>∃ t1 t2 a1 a2,vs=[.ref a1,.ref a2]/\(∃ xs,jC K H1 t1 a1 xs)/\(∃ xs,jC K H1 t2 a2 xs)/\R (GI K t1 t2 a1 a2) H1
noncomputable def E7 (K:aaa) (ta:TA):TI:=λ σ H R=>ta σ H λ vs H1=>∃ t1 t2 t3 a1 a2 a3,vs=[.ref a1,.ref a2,.ref a3]/\(∃ xs,jC K H1 t1 a1 xs)/\(∃ xs,jC K H1 t2 a2 xs)/\(∃ xs,jC K H1 t3 a3 xs)/\R (GH K t1 t2 t3 a1 a2 a3) H1
noncomputable def EA (K:aaa) (ta:TA):TI:=λ σ H R=>ta σ H λ vs H1=>∃ t a,vs=[.ref a]/\(∃ xs,jC K H1 t a xs)/\R (Ite K t a) H1
theorem D4 {a:Expr}{ta:TA}{p pos:Pos} (hg:Gl X "enumerate") (hm:X.mg "enumerate" = none) (ha:PA X [a] ta) (hs:starEach [a] X.env=[(false,eval a X.env)]:=by rfl):PI X tg (.Call (.Name "enumerate" p) [a] [] pos) (EA X.K ta):=by
 intro pins s σ H R I h
 refine Call_ (kH I hg hm yJ (PyProof.Rows.callWith_type1 (cQ (ha pos pins s σ H _ I h) λ us s1 ⟨vs,H1,I1,r1,q1⟩=>?_) hs rfl))
 obtain⟨t,a1,e,⟨xs,hq⟩,q⟩:=q1
 subst e
 cases r1 with
 | cons r rr=>
  cases rr
  cases r
  obtain⟨its,rv,p,hz⟩:=I1.src hq
  refine yG p λ h' he i1 hk=>?_
  refine mZ (s:={ s1 with heap:=h' }) he ?_
  refine⟨_,vN s1.heap.objs.size 2,tne s1.heap.objs.size a1 t,_,H1,rfl,I1.kept (t':=s1.toks) hk,xD _ _ _,⟨.none,false,.none,.inl rfl,he,i1,p.lt⟩,λ b hb=>?_,q⟩
  obtain⟨k,_,rfl⟩:=d7.mp hb
  exact I1.fpOk (Nat.le_add_right _ _) (I1.hok.fresh (Nat.le_add_right _ _))
theorem D0 {a b:Expr}{ta:TA}{p pos:Pos} (hg:Gl X "zip") (hm:X.mg "zip" = none) (ha:PA X [a,b] ta) (hs:starEach [a,b] X.env=[(false,eval a X.env),(false,eval b X.env)]:=by rfl) (hs2:starEach [b] X.env=[(false,eval b X.env)]:=by rfl) :
  PI X tg (.Call (.Name "zip" p) [a,b] [] pos) (E8 X.K ta):=by
 intro pins s σ H R I h
 refine Call_ (kH I hg hm uF (PyProof.Rows.callWith_type1 (cQ (ha pos pins s σ H _ I h) λ us s1 ⟨vs,H1,I1,r1,q1⟩=>?_) (by rw[hs,hs2]) (by rw[hs2];rfl)))
 obtain⟨t1,t2,a1,a2,e,⟨xs,hq1⟩,⟨ys,hq2⟩,q⟩:=q1
 subst e
 cases r1 with
 | cons r rr=>
  cases rr with
  | cons r' rr=>
   cases rr
   cases r
   cases r'
   obtain⟨its,rv,p1,hz⟩:=I1.src hq1
   obtain⟨its2,rv2,p2,hz2⟩:=I1.src hq2
   refine yC p1 p2 λ h' hz' hTI hTO i1 i2 hk=>?_
   refine i4 (s:={ s1 with heap:=h' }) hz' ?_
   refine⟨_,vN s1.heap.objs.size 5,GS s1.heap.objs.size a1 a2 t1 t2,_,H1,rfl,I1.kept (t':=s1.toks) hk,xB _ _ _ _ _,⟨.none,false,_,_,.inl rfl,hz',hTI,hTO,i1,i2,p1.lt,p2.lt⟩,λ b hb=>?_,q⟩
   obtain⟨k,_,rfl⟩:=d7.mp hb
   exact I1.fpOk (Nat.le_add_right _ _) (I1.hok.fresh (Nat.le_add_right _ _))
theorem CZ {a b c:Expr}{ta:TA}{p pos:Pos} (hg:Gl X "zip") (hm:X.mg "zip" = none) (ha:PA X [a,b,c] ta) (hs:starEach [a,b,c] X.env=[(false,eval a X.env),(false,eval b X.env),(false,eval c X.env)]:=by rfl)
  (hs2:starEach [b,c] X.env=[(false,eval b X.env),(false,eval c X.env)]:=by rfl) :
  PI X tg (.Call (.Name "zip" p) [a,b,c] [] pos) (E7 X.K ta):=by
 intro pins s σ H R I h
 refine Call_ (kH I hg hm uF (PyProof.Rows.callWith_type1 (cQ (ha pos pins s σ H _ I h) λ us s1 ⟨vs,H1,I1,r1,q1⟩=>?_) (by rw[hs,hs2]) (by rw[hs2];rfl)))
 obtain⟨t1,t2,t3,a1,a2,a3,e,⟨xs,hq1⟩,⟨ys,hq2⟩,⟨zs,hq3⟩,q⟩:=q1
 subst e
 cases r1 with
 | cons r rr=>
  cases rr with
  | cons r' rr=>
   cases rr with
   | cons r'' rr=>
    cases rr
    cases r
    cases r'
    cases r''
    obtain⟨its,rv,p1,hz⟩:=I1.src hq1
    obtain⟨its2,rv2,p2,hz2⟩:=I1.src hq2
    obtain⟨its3,rv3,p3,hz3⟩:=I1.src hq3
    refine yB p1 p2 p3 λ h' hz' hTI hTO i1 i2 i3 hk=>?_
    refine i4 (s:={ s1 with heap:=h' }) hz' ?_
    refine⟨_,vN s1.heap.objs.size 6,GR s1.heap.objs.size a1 a2 a3 t1 t2 t3,_,H1,rfl,I1.kept (t':=s1.toks) hk,xA _ _ _ _ _ _ _,⟨.none,false,_,_,_,.inl rfl,hz',hTI,hTO,i1,i2,i3,p1.lt,p2.lt,p3.lt⟩,λ b hb=>?_,q⟩
    obtain⟨k,_,rfl⟩:=d7.mp hb
    exact I1.fpOk (Nat.le_add_right _ _) (I1.hok.fresh (Nat.le_add_right _ _))
end
end L2
namespace L2
open PySem PySem.Spec PyProof.Rows TwZ
section
variable {prog:Program}{w:World}{A:Around}{E:Value->Shared->Prop}{s:Shared}{l:Addr}{xs:Array (Int×Tok)}
theorem uO {Q:Value->Shared->Prop} (hh:A.handled=none) (hl:s.heap.IsTuple l (intItems xs))
  (h:∀ h' tk t',(∀ b o,s.heap.get? b=some o->h'.get? b=some o)->Q (.int (preSum (numAt xs) xs.size) t') { s with heap:=h',toks:=tk }) :
  wpAny (model prog w) A (call (.builtin "sum") [.ref l]) Q E s:=by
 have hlt:l < s.heap.objs.size:=by obtain⟨_,e,_⟩:=hl;exact aai e
 refine call_sum_walkG (wpAny_pyIter_tuple hl ?_)
 refine⟨_,_,_,_,_,_,numAt xs,rfl,Walks.tuple (A:=A.in1) hh _ l (aat hlt) (intItems xs),⟨⟨_,aag _ rfl,rfl,rfl⟩,hl.push _⟩,λ b hb=>?_,(λ _ _=>intItems_at),λ h' tk t' hk=>?_⟩
 ·show b < (s.heap.push _).objs.size
  rw[abg]
  rcases List.mem_cons.mp hb with rfl | hb
  ·exact Nat.lt_succ_self _
  ·rcases List.mem_cons.mp hb with rfl | hb
   ·exact Nat.lt_succ_of_lt hlt
   ·cases hb
 ·have:=h h' tk t' (λ b o e=>hk b o (λ hm=>by rw[aaw.mp hm] at e;exact abj _ (aai e)) (aab _ e))
  simpa [intItems] using this
theorem uP {t:Bool}{vs:List Value}{ns:List Int}{Q:Value->Shared->Prop} (hh:A.handled=none) (hl:bW s.heap t l vs.toArray) (hi:IntsAre vs ns)
  (h:∀ h' tk t',(∀ b o,s.heap.get? b=some o->h'.get? b=some o)->Q (.int ns.sum t') { s with heap:=h',toks:=tk }) :
  wpAny (model prog w) A (call (.builtin "sum") [.ref l]) Q E s:=by
 obtain⟨xs,hx⟩:=hi.allInts.items
 have hn:numsOf vs.toArray.toList=ns:=by rw[show vs.toArray.toList=vs from rfl,hi.numsOf]
 rw[hx] at hl hn
 rw[nums_intItems] at hn
 have e:preSum (numAt xs) xs.size=ns.sum:=by rw[preSum_eq,List.take_of_length_le (by simp),hn]
 cases t with
 | true=>exact uO hh hl λ h' tk t' hk=>by rw[e];exact h h' tk t' hk
 | false=>exact sum_intListG hh hl λ h' tk t' hk=>by rw[e];exact h h' tk t' hk
theorem DN {t:Bool}{vs:List Value}{bs:List Bool}{Q:Value->Shared->Prop} (hh:A.handled=none) (hl:bW s.heap t l vs.toArray) (hb:bP (bs.map V.bl) vs)
  (h:∀ h' tk,(∀ b o,s.heap.get? b=some o->h'.get? b=some o)->Q (.bool (bs.all id)) { s with heap:=h',toks:=tk }):wpAny (model prog w) A (call (.builtin "all") [.ref l]) Q E s:=by
 have hlt:l < s.heap.objs.size:=hl.lt
 have hlen:=hb.length
 rw[aac] at hlen
 have key:∀ (P:Nat->Value->Prop),(∀ i v,P i v->vs[i]? = some v)->TruthOf prog w A.in1 P (λ i=>(bs[i]?).getD true):=λ P hP i v s' Q' E' hp hQ=>by
  have hv:=hP i v hp
  have hi:i < vs.length:=(aad.mp hv).1
  have hb':(bs.map V.bl)[i]? = some (V.bl bs[i]):=by simp [show i < bs.length by omega]
  obtain⟨u,hu,ru⟩:=hb.get hb'
  rw[hv] at hu
  cases hu
  cases ru
  have e:(bs[i]?).getD true=bs[i]:=by simp [show i < bs.length by omega]
  have hQ2:Q' ((bs[i]?).getD true) s':=hQ
  rw[e] at hQ2
  exact wpAny_truthy_bool hQ2
 have rng:((List.range vs.toArray.size).all λ i=>(bs[i]?).getD true)=bs.all id:=by
  rw[aam,<- hlen,Bool.eq_iff_iff,abl,abl]
  constructor
  ·intro hq b hb'
   obtain⟨i,hi,rfl⟩:=List.getElem_of_mem hb'
   have:=hq i (abw.mpr hi)
   simpa [hi] using this
  ·intro hq i hi
   have hi':=abw.mp hi
   have:=hq bs[i] (abu hi')
   simpa [hi'] using this
 have kept:∀ {h':Heap}{o:Obj},(∀ b x,b∉[s.heap.objs.size]->(s.heap.push o).get? b=some x->h'.get? b=some x)->∀ b x,s.heap.get? b=some x->h'.get? b=some x:=λ hk b x e=>
  hk b x (λ hm=>by rw[aaw.mp hm] at e;exact abj _ (aai e)) (aab _ e)
 cases t with
 | true=>
  refine call_all_walk (wpAny_pyIter_tuple hl ?_)
  refine⟨s.heap.objs.size,[s.heap.objs.size,l],[s.heap.objs.size],vs.toArray.size,_,_,λ i=>(bs[i]?).getD true,rfl,Walks.tuple (A:=A.in1) hh _ l (aat hlt) vs.toArray,
   ⟨⟨_,aag _ rfl,rfl,rfl⟩,Heap.IsTuple.push hl _⟩,key _ (λ i v hp=>by simpa using hp),λ h' tk hk=>?_⟩
  rw[rng]
  exact h h' tk (kept hk)
 | false=>
  refine call_all_walk (wpAny_pyIter_list hl ?_)
  refine⟨s.heap.objs.size,[s.heap.objs.size,l],[s.heap.objs.size],vs.toArray.size,_,_,λ i=>(bs[i]?).getD true,rfl,Walks.list (A:=A.in1) hh _ l (aat hlt) vs.toArray,
   ⟨⟨_,aag _ rfl,rfl,rfl⟩,Heap.IsList.push hl _⟩,key _ (λ i v hp=>by simpa using hp),λ h' tk hk=>?_⟩
  rw[rng]
  exact h h' tk (kept hk)
end
section
variable {X:Cx}
noncomputable def HB (K:aaa):List V->Hp->VK->Prop:=λ xs H Q=>∃ (t:Bool) (p:Addr) (ns:List Int),xs=[.ref p]/\jC K H t p (ns.map V.int)/\Q (.int ns.sum) H
theorem yE (hc:X.calm=true):eN X (.builtin "sum") (HB X.K):=by
 intro pins s σ H xs us Q I r h
 obtain⟨t,p,ns,rfl,hq,q⟩:=h
 obtain⟨u,rfl,ru⟩:=r.one
 cases ru
 obtain⟨its,rv,p1,hz⟩:=I.src hq
 refine uP (I.ok.hd hc) p1 (vL rv) λ h' tk t' hk=>⟨.int ns.sum,H,I.kept hk,⟨t',rfl⟩,q⟩
noncomputable def HJ (K:aaa):List V->Hp->VK->Prop:=λ xs H Q=>∃ (t:Bool) (p:Addr) (bs:List Bool),xs=[.ref p]/\jC K H t p (bs.map V.bl)/\Q (.bl (bs.all id)) H
theorem yI (hc:X.calm=true):eN X (.builtin "all") (HJ X.K):=by
 intro pins s σ H xs us Q I r h
 obtain⟨t,p,bs,rfl,hq,q⟩:=h
 obtain⟨u,rfl,ru⟩:=r.one
 cases ru
 obtain⟨its,rv,p1,hz⟩:=I.src hq
 refine DN (I.ok.hd hc) p1 rv λ h' tk hk=>⟨.bl (bs.all id),H,I.kept hk,rfl,q⟩
noncomputable def TyS (K:aaa) (H:Hp) (x:V) (t:Value):Prop:=TyOf K H x t\/∃ a ys,x=.ref a/\bD K H a ys/\t=.type "tuple"
noncomputable def HI (K:aaa):List V->Hp->VK->Prop:=λ xs H Q=>∃ x T t b,xs=[x,.ty T]/\TyS K H x t/\PySem.W.kitOne K t (.type T)=some b/\Q (.bl b) H
theorem BP:eN X (.builtin "isinstance") (HI X.K):=by
 intro pins s σ H xs us Q I r h
 obtain⟨x,T,t,b,rfl,ty,e,q⟩:=h
 obtain⟨u,v,rfl,ru,rv⟩:=r.two
 cases rv
 rcases ty with ty | ⟨a,ys,rfl,hq,rfl⟩
 ·exact xU I ru ty e λ tk=>⟨.bl b,H,I.tok tk,rfl,q⟩
 ·cases (show u=Value.ref a from ru)
  obtain⟨its,rv',⟨o,h1,h2,_⟩,_⟩:=I.tuple hq
  exact PySem.W.kia_one PySem.W.kitx_tuple I.kIn ⟨o,h1,h2⟩ e (λ z=>nomatch z) λ tk=>⟨.bl b,H,I.tok tk,rfl,q⟩
end
theorem gX:fillsNumberSlot (.type "tuple") "mul" = pure false:=
 PySem.fillsNumberSlot_seq (id := "tuple.__mul__") (r:=some (.builtin "tuple.__rmul__")) F.slot_tuple_mul.lookup (by decide +kernel) F.slot_tuple_rmul.lookup (by decide +kernel)
theorem lH:seqRepeat? (.type "tuple")=pure (some (.builtin "tuple.__mul__")):=by
 unfold seqRepeat?
 rw[PySem.seqSlot_of (T := "tuple") (name := "__mul__") (id := "tuple.__mul__") F.slot_tuple_mul.lookup (by decide +kernel),PySem.seqSlot_of (T := "tuple") (name := "__rmul__") (id := "tuple.__rmul__") F.slot_tuple_rmul.lookup (by decide +kernel)]
 rfl
theorem j4 (a:Int) (t:Tok) (l:Addr) (items:Array Value) (n:Nat) (dd:Option Addr) (sl:Array (Option Value)) :
  Meets (Builtin.«int.__rmul__» ⟨[.int a t,.ref l],[]⟩) (λ _ R s=>s.heap.get? l=some { cls:=.type "tuple",dict:=dd,data:=.seq items n,slots:=sl }/\R (.ok (.ret Value.notImplemented)) s):=
 .of_wp λ prog w A R s h=>by obtain⟨hp,g,d,tk,os⟩:=s;obtain⟨hl,h⟩:=h;wp_walk;exact⟨_,rfl,h⟩
theorem pF (l:Addr) (items:Array Value) (n:Nat) (u:Tok) (dd:Option Addr) (sl:Array (Option Value)) :
  Meets (Builtin.«tuple.__mul__» ⟨[.ref l,.int 1 u],[]⟩) (λ _ R s=>s.heap.get? l=some { cls:=.type "tuple",dict:=dd,data:=.seq items n,slots:=sl }/\R (.ok (.ret (.ref l))) s):=
 .of_wp λ prog w A R s h=>by
  obtain⟨hp,g,d,tk,os⟩:=s;obtain⟨hl,h⟩:=h
  have c1:(items.isEmpty || (1:Int) == 1)=true:=by simp
  wp_walk
  exact⟨_,rfl,h⟩
theorem nX (l:Addr) (items:Array Value) (n:Nat) (x:Int) (u:Tok) (dd:Option Addr) (sl:Array (Option Value)) (c0:¬ (decide (x < -(2 ^ 63)) || decide (x ≥ 2 ^ 63))=true) (c1:¬ (items.isEmpty || x == 1)=true)
  (c2:¬ (decide (x<=0) || items.isEmpty)=true) (c3:¬ (items.size:Int) * x > (2 ^ 63 - 1) / 8) (c4:¬ Builtin.Tuple.tupleTooMany ((items.size:Int) * x)=true) (hsz:(List.foldl (λ x1 x2=>x1++x2) #[] (List.replicate x.toNat items)).size<=sizeLine) :
  Meets (Builtin.«tuple.__mul__» ⟨[.ref l,.int x u],[]⟩) (λ _ R s=>s.heap.get? l=some { cls:=.type "tuple",dict:=dd,data:=.seq items n,slots:=sl }/\
   R (.ok (.ret (.ref s.heap.objs.size))) { s with heap:=s.heap.push { cls:=.type "tuple",data:=.seq (List.foldl (λ x1 x2=>x1++x2) #[] (List.replicate x.toNat items)) } }):=
 .of_wp λ prog w A R s h=>by
  obtain⟨hp,g,d,tk,os⟩:=s;obtain⟨hl,h⟩:=h
  wp_walk
  rw[if_neg c0]
  wp_walk
  all_goals (try rw[if_neg c1])
  wp_walk
  all_goals (try rw[if_neg c2])
  wp_walk
  all_goals (try rw[if_neg c3])
  wp_walk
  all_goals (try rw[if_neg c4])
  wp_walk
  exact⟨_,rfl,h⟩
theorem aF.tup {K:aaa}{H H':Hp}{a:Addr}{xs:List V} (e:aF H H') (h:bD K H a xs):bD K H' a xs:=by
 rcases h with (h | ⟨o,h⟩) | h
 ·exact .inl (.inl (e _ _ h))
 ·exact .inl (.inr ⟨o,e _ _ h⟩)
 ·exact .inr h
theorem aF.new {H:Hp}{p:Addr}{o:HO} (h:H p=none):aF H (upd H p o):=λ b u e=>by rw[aO (aL e h)];exact e
section
variable {X:Cx}
noncomputable def DX (K:aaa):R2:=λ x y H Q=>∃ (l:Addr) (k:Int) (xs:List V),x=.ref l/\y=.int k/\bD K H l xs/\1<=k/\k < 1000000/\xs≠[]/\xs.length<=10/\
 ∀ p H',aF H H'->bD K H' p (List.replicate k.toNat xs).flatten->Q (.ref p) H'
theorem wH:iN X (binaryOp .Mult) (DX X.K):=by
 intro pins s σ H x y v u Q I rx ry h
 obtain⟨l,k,xs,rfl,rfl,hq,h1,h2,hne,hl10,q⟩:=h
 cases rx
 obtain⟨t,rfl⟩:=ry
 obtain⟨its,r,ht,z⟩:=I.tuple hq
 have hlen:=r.length
 obtain⟨⟨cls,dd,data,sl⟩,e,hc,n,hd⟩:=id ht
 simp only at hc hd
 subst hc hd
 refine wpAny_binaryOp_repeat_ref (T := "tuple") (U := "int") (by decide) ⟨_,e,rfl⟩ (λ s'=>typeIs_int s' k t) gX F.fills_int_mul F.slot_int_rmul lH F.slot_int_index.lookup
  (call_meets F.slot_int_rmul (typeIs_int s k t) F.entry_int_rmul (F.args_int_rmul_2 _ _) (j4 k t l its.toArray n dd sl) ⟨e,rfl,⟨_,e,rfl⟩,?_⟩)
 by_cases hk:k=1
 ·subst hk
  refine call_meets F.slot_tuple_mul ⟨_,e,rfl⟩ F.entry_tuple_mul (F.args_tuple_mul_2 _ _) (pF l its.toArray n t dd sl) ⟨e,?_⟩
  refine⟨.ref l,H,I,rfl,q l H (aF.refl H) ?_⟩
  have e1:(List.replicate (1:Int).toNat xs).flatten=xs:=by simp
  rw[e1];exact hq
 ·have hne':its≠[]:=λ z=>by rw[z] at hlen;exact hne (List.eq_nil_of_length_eq_zero hlen)
  have f0:List.foldl (λ x1 x2=>x1++x2) #[] (List.replicate k.toNat its.toArray)=(List.replicate k.toNat its).flatten.toArray:=by
   have:=mQ its k.toNat []
   rw[List.nil_append] at this
   exact this
  have hemp:its.toArray.isEmpty=false:=by cases its with
   | nil=>exact absurd rfl hne'
   | cons a r=>rfl
  have hszN:k.toNat * its.length<=sizeLine:=by
   have a1:its.length<=10:=by omega
   have a2:k.toNat<=1000000:=by omega
   have:=Nat.mul_le_mul a2 a1
   rw[sizeLine_eq];omega
  have hprod:((its.toArray.size:Nat):Int) * k<=16777216:=by
   have a1:((its.toArray.size:Nat):Int)<=10:=by rw[aam];omega
   have:=Int.mul_le_mul a1 (show k<=1000000 by omega) (by omega) (by omega)
   omega
  refine call_meets F.slot_tuple_mul ⟨_,e,rfl⟩ F.entry_tuple_mul (F.args_tuple_mul_2 _ _) (nX l its.toArray n k t dd sl (by simp;omega) (by rw[hemp];simp;exact hk) (by rw[hemp];simp;omega) (by omega) (by
    unfold Builtin.Tuple.tupleTooMany
    rw[decide_eq_true_iff]
    rw[sizeLine_eq]
    omega) (by rw[f0,aam,sB];exact hszN)) ⟨e,?_⟩
  have I1:=I.laid (a:=s.heap.objs.size) (o:=.tup (List.replicate k.toNat xs).flatten) (h':=s.heap.push { cls:=.type "tuple",data:=.seq (List.foldl (λ x1 x2=>x1++x2) #[] (List.replicate k.toNat its.toArray)) }) (t':=s.toks)
   (λ _ _ q=>aab _ q) (Nat.le_refl _) ⟨by rw[sB,hlen];exact hszN,(List.replicate k.toNat its).flatten,r.rep k.toNat,⟨_,aag _ rfl,rfl,0,by simp only [f0]⟩⟩
  exact⟨.ref _,_,I1,rfl,q _ _ (aF.new I.fresh) (bD.of aB)⟩
end
open MeetsSeq in
theorem uM (l b:Addr) (items items2:Array Value) (n n2:Nat) (dd dd2:Option Addr) (sl sl2:Array (Option Value)) (hsz:items.size=items2.size) :
  Meets (Builtin.«tuple.__ne__» ⟨[.ref l,.ref b],[]⟩)
   (λ A R s=>s.heap.get? l=some { cls:=.type "tuple",dict:=dd,data:=.seq items n,slots:=sl }/\s.heap.get? b=some { cls:=.type "tuple",dict:=dd2,data:=.seq items2 n2,slots:=sl2 }/\
    (∀ j (h1:j < items.size) (h2:j < items2.size),SeqAt.EqAt A.in1 s items[j] items2[j] true)/\
    R (.ok (.ret (.bool false))) s):=
 .of_wp λ prog w A R s h=>by
  obtain⟨hp,g,d,tk,os⟩:=s;obtain⟨hl,hb,he,h⟩:=h
  have f2:=AutoSeq1.sub_tuple_tuple
  have hZ:(items.toList.zip items2.toList).length=min items.size items2.size:=by simp
  wp_walk using AutoSeq1.wpAny_loadPart' hl,AutoSeq1.wpAny_loadPart' hb,wpAny_forIn_list _ (λ rest b s'=>b.1=none/\s'=⟨hp,g,d,tk,os⟩/\∃ i,rest=(items.toList.zip items2.toList).drop i) _
  case turn=>
   rintro⟨y,x⟩ rest b s' ⟨hb',rfl,i,hz⟩
   have hlt:i < (items.toList.zip items2.toList).length:=by
    rcases Nat.lt_or_ge i (items.toList.zip items2.toList).length with h' | h'
    ·exact h'
    ·rw[List.drop_of_length_le h'] at hz;cases hz
   have hm:i < min items.size items2.size:=hZ ▸ hlt
   have h1:i < items.size:=aal hm (Nat.min_le_left _ _)
   have h2:i < items2.size:=aal hm (Nat.min_le_right _ _)
   rw[List.drop_eq_getElem_cons hlt] at hz
   injection hz with hyx hrest
   have hy:y=items[i]:=by have:=congrArg Prod.fst hyx;simpa using this
   have hx:x=items2[i]:=by have:=congrArg Prod.snd hyx;simpa using this
   subst hy hx
   refine wpAny_bind (he i h1 h2 prog w _ _ ?_)
   wp_walk
   exact⟨rfl,rfl,i+1,hrest⟩
  case fin=>
   rintro⟨b1,b2⟩ s' ⟨hb',rfl,i,hz⟩
   simp only at hb'
   subst hb'
   wp_walk
   exact⟨_,rfl,by simpa [Builtin.Tuple.tupleCompareSizes,hsz] using h⟩
  case h=>
   exact⟨rfl,rfl,0,rfl⟩
inductive D where
 | non | bl (b:Bool) | int (i:Int) | str (x:Str) | tup (ds:List D)
mutual
noncomputable def Is (K:aaa) (H:Hp):D->V->Prop
 | .non,v=>v=.non
 | .bl b,v=>v=.bl b
 | .int i,v=>v=.int i
 | .str x,v=>v=.str x
 | .tup ds,v=>∃ a xs,v=.ref a/\bD K H a xs/\IsL K H ds xs
noncomputable def IsL (K:aaa) (H:Hp):List D->List V->Prop
 | [],xs=>xs=[]
 | d::ds,xs=>∃ x r,xs=x::r/\Is K H d x/\IsL K H ds r
end
noncomputable def bV (K:aaa) (H H':Hp):Prop:=∀ a xs,bD K H a xs->bD K H' a xs
theorem bV.refl {K:aaa} (H:Hp):bV K H H:=λ _ _ h=>h
theorem bV.trans {K:aaa}{H H1 H2:Hp} (a:bV K H H1) (b:bV K H1 H2):bV K H H2:=λ c xs h=>b c xs (a c xs h)
theorem aF.ts {K:aaa}{H H':Hp} (e:aF H H'):bV K H H':=λ _ _ h=>e.tup h
mutual
theorem Is.mono {K:aaa}{H H':Hp} (t:bV K H H'):∀ (d:D) (v:V),Is K H d v->Is K H' d v
 | .non,_,h=>h
 | .bl _,_,h=>h
 | .int _,_,h=>h
 | .str _,_,h=>h
 | .tup ds,v,h=>by
  rw[Is] at h ⊢
  obtain⟨a,xs,e,q,l⟩:=h
  exact⟨a,xs,e,t a xs q,IsL.mono t ds xs l⟩
theorem IsL.mono {K:aaa}{H H':Hp} (t:bV K H H'):∀ (ds:List D) (xs:List V),IsL K H ds xs->IsL K H' ds xs
 | [],xs,h=>h
 | d::ds,xs,h=>by
  rw[IsL] at h ⊢
  obtain⟨x,r,e,hx,hr⟩:=h
  exact⟨x,r,e,Is.mono t d x hx,IsL.mono t ds r hr⟩
end
theorem IsL.length {K:aaa}{H:Hp}:∀ {ds:List D}{xs:List V},IsL K H ds xs->xs.length=ds.length
 | [],xs,h=>by rw[IsL] at h;subst h;rfl
 | d::ds,xs,h=>by
  rw[IsL] at h
  obtain⟨x,r,rfl,_,hr⟩:=h
  rw[abi,abi,IsL.length hr]
theorem IsL.get {K:aaa}{H:Hp}:∀ {ds:List D}{xs:List V}{i:Nat}{d:D},IsL K H ds xs->ds[i]? = some d->∃ x,xs[i]? = some x/\Is K H d x
 | [],_,_,_,_,e=>by simp at e
 | d::ds,xs,0,d',h,e=>by
  rw[IsL] at h
  obtain⟨x,r,rfl,hx,hr⟩:=h
  simp at e
  subst e
  exact⟨x,rfl,hx⟩
 | d::ds,xs,i+1,d',h,e=>by
  rw[IsL] at h
  obtain⟨x,r,rfl,hx,hr⟩:=h
  obtain⟨y,h1,h2⟩:=IsL.get hr (i:=i) (by simpa using e)
  exact⟨y,by simpa using h1,h2⟩
theorem IsL.get' {K:aaa}{H:Hp}{ds:List D}{xs:List V}{i:Nat}{x:V} (h:IsL K H ds xs) (e:xs[i]? = some x):∃ d,ds[i]? = some d/\Is K H d x:=by
 have hl:=h.length
 have hi:i < ds.length:=by rw[<- hl];exact (aad.mp e).1
 obtain⟨y,h1,h2⟩:=h.get (i:=i) (d:=ds[i]) (by simp [hi])
 rw[e] at h1
 cases h1
 exact⟨ds[i],by simp [hi],h2⟩
theorem IsL.snoc {K:aaa}{H:Hp}{d:D}{x:V} (hd:Is K H d x):∀ {ds:List D}{xs:List V},IsL K H ds xs->IsL K H (ds++[d]) (xs++[x])
 | [],xs,h=>by
  rw[IsL] at h
  subst h
  show IsL K H [d] [x]
  rw[IsL]
  exact⟨x,[],rfl,hd,by rw[IsL]⟩
 | d'::ds,xs,h=>by
  rw[IsL] at h
  obtain⟨y,r,rfl,hy,hr⟩:=h
  show IsL K H (d'::(ds++[d])) (y::(r++[x]))
  rw[IsL]
  exact⟨y,r++[x],rfl,hy,IsL.snoc hd hr⟩
theorem IsL.ints {K:aaa}{H:Hp}:∀ {ns:List Int}{xs:List V},IsL K H (ns.map D.int) xs->xs=ns.map V.int
 | [],xs,h=>by rw[List.map_nil,IsL] at h;exact h
 | n::ns,xs,h=>by
  rw[abb,IsL] at h
  obtain⟨x,r,rfl,hx,hr⟩:=h
  rw[Is] at hx
  rw[hx,IsL.ints hr,abb]
theorem IsL.of_ints {K:aaa}{H:Hp}:∀ (ns:List Int),IsL K H (ns.map D.int) (ns.map V.int)
 | []=>by rw[List.map_nil,List.map_nil,IsL]
 | n::ns=>by
  rw[abb,abb,IsL]
  exact⟨_,_,rfl,by rw[Is],IsL.of_ints ns⟩
theorem IsL.bools {K:aaa}{H:Hp}:∀ {ns:List Bool}{xs:List V},IsL K H (ns.map D.bl) xs->xs=ns.map V.bl
 | [],xs,h=>by rw[List.map_nil,IsL] at h;exact h
 | n::ns,xs,h=>by
  rw[abb,IsL] at h
  obtain⟨x,r,rfl,hx,hr⟩:=h
  rw[Is] at hx
  rw[hx,IsL.bools hr,abb]
theorem IsL.of_bools {K:aaa}{H:Hp}:∀ (ns:List Bool),IsL K H (ns.map D.bl) (ns.map V.bl)
 | []=>by rw[List.map_nil,List.map_nil,IsL]
 | n::ns=>by
  rw[abb,abb,IsL]
  exact⟨_,_,rfl,by rw[Is],IsL.of_bools ns⟩
mutual
noncomputable def D.depth:D->Nat
 | .tup ds=>cE ds+1
 | _=>0
noncomputable def cE:List D->Nat
 | []=>0
 | d::ds=>max d.depth (cE ds)
end
section
variable {X:Cx}{pins:List (Addr×Obj)}{σ:St}{H:Hp}{s:Shared}
mutual
theorem Is.eqAt (I:Inv X pins σ H s):∀ (d:D) (A:Around) (x y:V) (u v:Value),A.units+d.depth < cLine->Is X.K H d x->Is X.K H d y->bN x u->bN y v->SeqAt.EqAt A s u v true
 | .non,A,x,y,u,v,_,hx,hy,rx,ry=>by
  rw[Is] at hx hy;subst hx hy;cases rx;cases ry;exact SeqAt.EqAt.same _
 | .bl b,A,x,y,u,v,_,hx,hy,rx,ry=>by
  rw[Is] at hx hy;subst hx hy;cases rx;cases ry;exact SeqAt.EqAt.same _
 | .int i,A,x,y,u,v,_,hx,hy,rx,ry=>by
  rw[Is] at hx hy;subst hx hy;obtain⟨t,rfl⟩:=rx;obtain⟨t',rfl⟩:=ry
  have:=SeqAt.EqAt.int_int (A:=A) (s:=s) i t i t'
  simpa using this
 | .str z,A,x,y,u,v,_,hx,hy,rx,ry=>by
  rw[Is] at hx hy;subst hx hy;obtain⟨t,rfl⟩:=rx;obtain⟨t',rfl⟩:=ry
  have:=SeqAt.EqAt.str_str (A:=A) (s:=s) z t z t'
  simpa using this
 | .tup ds,A,x,y,u,v,hu,hx,hy,rx,ry=>by
  rw[Is] at hx hy
  obtain⟨a,xs,rfl,q1,l1⟩:=hx
  obtain⟨b,ys,rfl,q2,l2⟩:=hy
  cases rx
  cases ry
  by_cases hab:a=b
  ·subst hab;exact SeqAt.EqAt.same _
  ·obtain⟨us,r1,p1,_⟩:=I.tuple q1
   obtain⟨vs,r2,p2,_⟩:=I.tuple q2
   have hdep:D.depth (.tup ds)=cE ds+1:=by rw[D.depth]
   rw[hdep] at hu
   have e1:=r1.length
   have e2:=r2.length
   have e3:=l1.length
   have e4:=l2.length
   have hu2:A.in1.units+cE ds < cLine:=by
    have:A.in1.units<=A.units+1:=by show A.units+1<=A.units+1;exact Nat.le_refl _
    omega
   have all:=IsL.eqAt I ds A.in1 xs ys us vs hu2 l1 l2 r1 r2
   have hsz:us.toArray.size=vs.toArray.size:=by simp;omega
   have:=SeqAt.RcAt.tuples (A:=A) (s:=s) (e:=λ _=>true) (show s.heap.IsTuple a us.toArray from p1) (show s.heap.IsTuple b vs.toArray from p2) (by omega) λ j h1 h2=>all j us.toArray[j] vs.toArray[j] (by simp) (by simp)
   have e5:((List.range (min us.toArray.size vs.toArray.size)).all (λ _=>true) && us.toArray.size == vs.toArray.size)=true:=by
    rw[hsz];simp
   rw[e5] at this
   exact SeqAt.EqAt.of_refs hab this
theorem IsL.eqAt (I:Inv X pins σ H s):∀ (ds:List D) (A:Around) (xs ys:List V) (us vs:List Value),A.units+cE ds < cLine->IsL X.K H ds xs->IsL X.K H ds ys->bP xs us->bP ys vs->∀ (j:Nat) (u v:Value),us[j]? = some u->vs[j]? = some v->SeqAt.EqAt A s u v true
 | [],A,xs,ys,us,vs,_,hx,hy,rx,ry,j,u,v,eu,ev=>by
  rw[IsL] at hx
  subst hx
  cases rx
  simp at eu
 | d::ds,A,xs,ys,us,vs,hu,hx,hy,rx,ry,j,u,v,eu,ev=>by
  rw[IsL] at hx hy
  obtain⟨x,xr,rfl,hx,hxr⟩:=hx
  obtain⟨y,yr,rfl,hy,hyr⟩:=hy
  have hd:cE (d::ds)=max d.depth (cE ds):=by rw[cE]
  rw[hd] at hu
  cases rx with
  | cons rx rxr=>
   cases ry with
   | cons ry ryr=>
    cases j with
    | zero=>
     simp at eu ev
     subst eu ev
     exact Is.eqAt I d A x y _ _ (by omega) hx hy rx ry
    | succ j=>exact IsL.eqAt I ds A xr yr _ _ (by omega) hxr hyr rxr ryr j u v (by simpa using eu) (by simpa using ev)
end
end
section
variable {X:Cx}
noncomputable def wE (K:aaa):R2:=λ x y H Q=>∃ ds,ds.length<=1000/\cE ds<=20/\Is K H (.tup ds) x/\Is K H (.tup ds) y/\Q (.bl false) H
theorem xJ (hu:X.A.units+64 < cLine):iN X (compareOp .NotEq) (wE X.K):=by
 intro pins s σ H x y v u Q I rx ry h
 obtain⟨ds,hl,hdep,hx,hy,q⟩:=h
 rw[Is] at hx hy
 obtain⟨a,xs,rfl,q1,l1⟩:=hx
 obtain⟨b,ys,rfl,q2,l2⟩:=hy
 cases rx
 cases ry
 obtain⟨us,r1,p1,_⟩:=I.tuple q1
 obtain⟨vs,r2,p2,_⟩:=I.tuple q2
 have e1:=r1.length
 have e2:=r2.length
 have e3:=l1.length
 have e4:=l2.length
 obtain⟨⟨cls,dd,data,sl⟩,ho,hc,n,hd⟩:=id p1
 obtain⟨⟨cls2,dd2,data2,sl2⟩,ho2,hc2,n2,hd2⟩:=id p2
 simp only at hc hd hc2 hd2
 subst hc hd hc2 hd2
 have hin:∀ A:Around,A.in1.units=A.units+1:=λ A=>rfl
 refine richCompare_meets_room (op:=.NotEq) ⟨_,ho,rfl⟩ ⟨_,ho2,rfl⟩ F.slot_tuple_ne F.entry_tuple_ne (F.args_tuple_ne_2 _ _) (uM a b us.toArray vs.toArray n n2 dd dd2 sl sl2 (by simp;omega))
  ⟨ho,ho2,λ j h1 h2=>IsL.eqAt I ds _ xs ys us vs (by rw[hin];omega) l1 l2 r1 r2 j _ _ (by simp) (by simp),show Value.bool false≠Value.notImplemented/\EP X pins σ Q (.bool false) s from ⟨(λ x=>nomatch x),.bl false,H,I,rfl,q⟩⟩ (by omega)
noncomputable def FD:V->List V->Hp->VK->Prop:=λ x vs H Q=>∃ (l:Addr) (xs:List V) (y:V) (j:Nat),x=.ref l/\vs=[y]/\H l=some (.lst xs)/\iH y=true/\xs.all iH=true/\j < xs.length/\(∀ z,xs[j]? = some z->yN z y=true)/\(∀ i z,i < j->xs[i]? = some z->yN z y=false)/\Q (.int j) H
theorem tP:MtM X "list.index" FD:=by
 intro pins s σ H x vs v us Q I rx rv h
 obtain⟨l,xs,y,j,rfl,rfl,hH,fy,fx,hj,h1,h2,q⟩:=h
 cases rx
 obtain⟨u,rfl,ru⟩:=rv.one
 obtain⟨z,its,n,r,hl,e⟩:=I.lstM hH
 have key:∀ i (hi:i < its.length),∃ x,xs[i]? = some x/\bN x its[i]/\iH x=true:=λ i hi=>by
  have hx:xs[i]? = some xs[i]:=by simp [show i < xs.length by omega]
  obtain⟨w',h1,h2⟩:=r.get hx
  have:its[i]? = some its[i]:=by simp [hi]
  rw[this] at h1
  cases h1
  exact⟨_,hx,h2,(abl.mp fx) _ (abu _)⟩
 refine call_meets F.slot_list_index ⟨_,e,rfl⟩ F.entry_list_index (F.args_list_index_2 _ _)
  (SeqAt.list_indexAt l its.toArray n none #[] u (yO y) j (by rw[aam];omega) (by rw[sizeLine_eq] at z;omega) ?_ ?_) ⟨e,λ w' hw=>?_,⟨.int j,H,I.tok _,⟨_,rfl⟩,q⟩⟩
 ·obtain⟨x,hx,rx,fx'⟩:=key j (by omega)
  have:=sJ (x:=y) rx fx'
  show yO y its[j]=true
  rw[this]
  exact h1 x hx
 ·intro i hi hlt
  have hi':i < its.length:=by simpa using hi
  obtain⟨x,hx,rx,fx'⟩:=key i hi'
  have:=sJ (x:=y) rx fx'
  show yO y its[i]=false
  rw[this]
  exact h2 i x hlt hx
 ·exact lL ru fy r fx w' (by simpa using hw)
end
end L2
namespace L2
open PySem PySem.Spec PyProof.Rows TwZ
structure Callee (P:Program) (w:World) (K:aaa) (mg:Str->Option Value) (base:Heap) (x:Str) (ps:List Str) (k:Nat) (sp:Sp) (f:Addr) (fd:FuncData):Prop where
 ok:FnOk P w K mg base iM k f fd ps sp
 mg:mg x=some (.ref f)
 kp:PySem.W.keepIn K (.ref f)=true
 bd:mC K fd ps []
theorem d5 {X:Cx}{x:Str}{ps:List Str}{k n:Nat}{sp:Sp}{f:Addr}{fd:FuncData}{e:Expr}{es:List Expr}{t:TA}{p pos:Pos} (G:Callee X.prog X.w X.K X.mg X.base x ps k sp f fd) (hr:Room n X.A) (ha:PA X (e::es) t) (hg:Gl X x:=by rfl) (hle:k<=n:=by decide)
  (hdb:(x == ("__debug__" : Str))=false:=by decide) (he:starEach (e::es) X.env=(false,eval e X.env)::starEach es X.env:=by rfl) (hpl:(backTo pos (starEach es X.env)).any (·.1)=false:=by rfl) :
  PE X (.Call (.Name x p) (e::es) [] pos) (pX sp [] E0 t):=wG G.ok (hr.mono hle) hg G.mg G.kp G.bd .nil HN ha hdb he hpl
theorem dB:bootBuiltins "isinstance" = some (.builtin "isinstance"):=by decide +kernel
noncomputable def cP (t:Addr) (H H':Hp):Prop:=∀ b o,b≠t->H b=some o->H' b=some o
theorem cP.refl {t:Addr} (H:Hp):cP t H H:=λ _ _ _ h=>h
theorem cP.trans {t:Addr}{H H1 H2:Hp} (a:cP t H H1) (b:cP t H1 H2):cP t H H2:=λ c o hc h=>b c o hc (a c o hc h)
theorem aF.but {t:Addr}{H H':Hp} (a:aF H H'):cP t H H':=λ b o _ h=>a b o h
theorem cP.upd {t:Addr}{H:Hp}{o:HO}:cP t H (upd H t o):=λ b u hb h=>by rw[aO hb];exact h
theorem cP.ts {K:aaa}{t:Addr}{H H':Hp} (a:cP t H H') (hm:kR (H t)):bV K H H':=by
 intro b xs h
 have ne:∀ {o:HO},H b=some o->¬ kR (some o)->b≠t:=λ e n z=>by rw[<- z,e] at hm;exact n hm
 rcases h with (h | ⟨o,h⟩) | h
 ·exact .inl (.inl (a _ _ (ne h (λ z=>z)) h))
 ·exact .inl (.inr ⟨o,a _ _ (ne h (λ z=>z)) h⟩)
 ·exact .inr h
theorem cP.free {t l:Addr}{H H':Hp} (a:cP t H H') (hl:l≠t) (h:H' l=none):H l=none:=by
 cases q:H l with
 | none=>rfl
 | some o=>rw[a l o hl q] at h;cases h
noncomputable def E3 (K:aaa):V->V->Hp->VK->Prop:=λ o i H Q=>∃ (p:Addr) (xs:List V) (k:Int) (v:V),o=.ref p/\i=.int k/\bT K H p xs/\0<=k/\k < 2 ^ 63/\xs[k.toNat]? = some v/\Q v H
theorem BA {X:Cx}:GG X (E3 X.K):=by
 intro pins s σ H o i ov iv Q I ro ri h
 obtain⟨p,xs,k,v,rfl,rfl,hq,h0,h1,hx,q⟩:=h
 cases ro
 obtain⟨t,rfl⟩:=ri
 obtain⟨its,r,pl,hz⟩:=I.list hq
 obtain⟨w',ew,rw'⟩:=r.get hx
 exact wpAny_getItem_list pl.isList h0 h1 (by simpa using ew) ⟨v,H,I,rw',q⟩
theorem nH {n:Nat}{k:Int} (h0:0<=k) (h1:k < n):DH n k=some k.toNat:=by
 unfold DH
 rw[if_pos h0,if_pos h1]
theorem nR {af:Type}{xs:List af}{k:Int}{v:af} (h0:0<=k) (h:xs[k.toNat]? = some v):BS xs k=some v:=by
 obtain⟨j,rfl⟩:=Int.eq_ofNat_of_zero_le h0
 exact bZ (by simpa using h)
theorem Is.tupOf {K:aaa}{H:Hp}{ds:List D}{a:Addr}{xs:List V} (q:bD K H a xs) (l:IsL K H ds xs):Is K H (.tup ds) (.ref a):=by
 rw[Is];exact⟨a,xs,rfl,q,l⟩
theorem Is.un {K:aaa}{H:Hp}{ds:List D}{v:V} (h:Is K H (.tup ds) v):∃ a xs,v=.ref a/\bD K H a xs/\IsL K H ds xs:=by
 rw[Is] at h;exact h
theorem IsL.un {K:aaa}{H:Hp}{d:D}{ds:List D}{xs:List V} (h:IsL K H (d::ds) xs):∃ x r,xs=x::r/\Is K H d x/\IsL K H ds r:=by
 rw[IsL] at h;exact h
theorem IsL.un0 {K:aaa}{H:Hp}{xs:List V} (h:IsL K H [] xs):xs=[]:=by
 rw[IsL] at h;exact h
theorem IsL.cons {K:aaa}{H:Hp}{d:D}{ds:List D}{x:V}{xs:List V} (hd:Is K H d x) (h:IsL K H ds xs):IsL K H (d::ds) (x::xs):=by
 rw[IsL];exact⟨x,xs,rfl,hd,h⟩
theorem IsL.nil {K:aaa}{H:Hp}:IsL K H [] []:=by rw[IsL]
theorem Is.i {K:aaa}{H:Hp} (i:Int):Is K H (.int i) (.int i):=by rw[Is]
theorem Is.b {K:aaa}{H:Hp} (i:Bool):Is K H (.bl i) (.bl i):=by rw[Is]
theorem Is.s {K:aaa}{H:Hp} (i:Str):Is K H (.str i) (.str i):=by rw[Is]
theorem Is.n {K:aaa}{H:Hp}:Is K H .non .non:=by rw[Is]
theorem Is.ui {K:aaa}{H:Hp}{i:Int}{v:V} (h:Is K H (.int i) v):v=.int i:=by rw[Is] at h;exact h
theorem Is.ub {K:aaa}{H:Hp}{i:Bool}{v:V} (h:Is K H (.bl i) v):v=.bl i:=by rw[Is] at h;exact h
theorem Is.us {K:aaa}{H:Hp}{i:Str}{v:V} (h:Is K H (.str i) v):v=.str i:=by rw[Is] at h;exact h
theorem Is.u0 {K:aaa}{H:Hp}{v:V} (h:Is K H .non v):v=.non:=by rw[Is] at h;exact h
end L2
namespace Tw
open PySem L2
structure Vs where
 size:Int
 brim:Int
 outs:List (Option Int×Int)
 holds:Bool
 spill:Option Int
 acts:List (Str×Int)
noncomputable abbrev sV:=Int×Int×Bool
structure Net where
 vs:List Vs
 sps:List sV
noncomputable def uN:Option Int->D
 | none=>.non
 | some i=>.int i
noncomputable def fR:Option Int->V
 | none=>.non
 | some i=>.int i
noncomputable def outD (o:Option Int×Int):D:=.tup [uN o.1,.int o.2]
noncomputable def jA (a:Str×Int):D:=.tup [.str a.1,.int a.2]
noncomputable def jM (v:Vs):D:=.tup [.int v.size,.int v.brim,.tup (v.outs.map outD),.bl v.holds,uN v.spill,.tup (v.acts.map jA)]
noncomputable def pC (s:sV):D:=.tup [.int s.1,.int s.2.1,.bl s.2.2]
noncomputable def dY (n:Net):D:=.tup [.tup (n.vs.map jM),.tup (n.sps.map pC)]
noncomputable def CA (held coming:List Int) (doors:List Bool):D:=.tup [.tup (held.map D.int),.tup (coming.map D.int),.tup (doors.map D.bl)]
theorem Is.tg {K:aaa}{H:Hp}{t:Option Int}{v:V} (h:Is K H (uN t) v):v=fR t:=by
 cases t with
 | none=>exact h.u0
 | some i=>exact h.ui
theorem Is.tgOf {K:aaa}{H:Hp} (t:Option Int):Is K H (uN t) (fR t):=by
 cases t with
 | none=>exact Is.n
 | some i=>exact Is.i i
structure OutOk (n:Nat) (o:Option Int×Int):Prop where
 tg:∀ t,o.1=some t->0<=t/\t < n
 lo:1<=o.2
 hi:o.2<=60
structure ActOk (m:Nat) (a:Str×Int):Prop where
 word:a.1 = "open" \/ a.1 = "shut" \/ a.1 = "turn"
 lo:0<=a.2
 hi:a.2 < m
structure VOk (n m:Nat) (v:Vs):Prop where
 size:1<=v.size
 ne:v.outs≠[]
 o3:v.outs.length<=3
 outs:∀ o∈v.outs,OutOk n o
 spill:∀ t,v.spill=some t->0<=t/\t < n
 a3:v.acts.length<=3
 acts:∀ a∈v.acts,ActOk m a
structure NetOk (net:Net):Prop where
 lo:1<=net.vs.length
 hi:net.vs.length<=12
 sp:net.sps.length<=12
 vs:∀ v∈net.vs,VOk net.vs.length net.sps.length v
 sps:∀ s∈net.sps,0<=s.1/\s.1 < net.vs.length
noncomputable def whole (outs:List (Option Int×Int)):Int:=(outs.map (·.2)).sum
theorem pT {n:Nat}:∀ {outs:List (Option Int×Int)},outs≠[]->(∀ o∈outs,OutOk n o)->1<=whole outs
 | [],h,_=>absurd rfl h
 | o::r,_,h=>by
  have h1:=(h o abk).lo
  have h2:0<=whole r:=by
   clear h1
   have:∀ (r:List (Option Int×Int)),(∀ o∈r,OutOk n o)->0<=whole r:=by
    intro r
    induction r with
    | nil=>intro _;exact Int.le_refl _
    | cons o r ih=>
     intro h
     have h1:=(h o abk).lo
     have h2:=ih λ o ho=>h o (aay _ ho)
     show 0<=o.2+whole r
     omega
   exact this r λ o ho=>h o (aay _ ho)
  show 1<=o.2+whole r
  omega
theorem nS {n:Nat}:∀ {outs:List (Option Int×Int)},(∀ o∈outs,OutOk n o)->whole outs<=60 * outs.length
 | [],_=>Int.le_refl _
 | o::r,h=>by
  have h1:=(h o abk).hi
  have h2:=nS λ o ho=>h o (aay _ ho)
  show o.2+whole r<=_
  rw[abi]
  omega
noncomputable def cY (k:Option Int):List (Option Int×Int)->Int
 | []=>0
 | g::r=>(if g.1=k then g.2 else 0)+cY k r
theorem jP (k:Option Int):∀ (a b:List (Option Int×Int)),cY k (a++b)=cY k a+cY k b
 | [],b=>by simp [cY]
 | g::r,b=>by
  show (if g.1=k then g.2 else 0)+cY k (r++b)=(if g.1=k then g.2 else 0)+cY k r+cY k b
  rw[jP k r b];omega
noncomputable def bU (v:Vs) (has:Int):Int:=min has v.brim
noncomputable def iP (v:Vs) (has:Int):Bool:=decide (v.size<=bU v has)
noncomputable def eZ (v:Vs) (here:Int):List (Option Int×Int):=v.outs.map λ o=>(o.1,here / whole v.outs * o.2)
noncomputable def fL (v:Vs) (has:Int):List (Option Int×Int):=
 (v.spill,has - bU v has)::(if iP v has=true then eZ v (bU v has)++(if v.holds=true then [] else [(none,bU v has % whole v.outs)]) else [])
noncomputable def fK (v:Vs) (has:Int):Int:=if iP v has=true then (if v.holds=true then bU v has % whole v.outs else 0) else bU v has
theorem x9 {n m:Nat}{v:Vs} (ok:VOk n m v) (has:Int):(fL v has).length<=5:=by
 unfold fL eZ
 have:=ok.o3
 split
 ·split <;> simp <;> omega
 ·simp
noncomputable def oW (has:List Int) (s:sV) (d:Bool):List Int:=if d=true then has.set s.1.toNat (has.getD s.1.toNat 0+s.2.1) else has
noncomputable def eS:List Int->List sV->List Bool->List Int
 | has,s::ss,d::ds=>eS (oW has s d) ss ds
 | has,_,_=>has
noncomputable def gG:List Int->List Int->List Int->List Int
 | a::as,b::bs,c::cs=>(a+b+c)::gG as bs cs
 | _,_,_=>[]
noncomputable def aS (net:Net) (held coming poured:List Int) (doors:List Bool):List Int:=eS (gG held coming poured) net.sps doors
noncomputable def cG:List Vs->List Int->List (Option Int×Int)
 | v::vs,h::hs=>fL v h++cG vs hs
 | _,_=>[]
noncomputable def dF:List Vs->List Int->List Int
 | v::vs,h::hs=>fK v h::dF vs hs
 | _,_=>[]
noncomputable def bS:Nat->List Vs->List Int->List Nat
 | i,v::vs,h::hs=>if iP v h=true then i::bS (i+1) vs hs else bS (i+1) vs hs
 | _,_,_=>[]
noncomputable def vU (doors:List Bool) (a:Str×Int):List Bool:=doors.set a.2.toNat (if a.1 = "open" then true else if a.1 = "turn" then !(doors.getD a.2.toNat false) else false)
noncomputable def eG (doors:List Bool) (as:List (Str×Int)):List Bool:=as.foldl vU doors
noncomputable def cJ (vs:List Vs) (doors:List Bool) (tip:List Nat):List Bool:=tip.foldl (λ ds i=>match vs[i]? with | some v=>eG ds v.acts | none=>ds) doors
noncomputable def eB (n:Nat) (goes:List (Option Int×Int)):List Int:=(List.range n).map λ (k:Nat)=>cY (some (k:Int)) goes
structure Tick where
 held:List Int
 coming:List Int
 doors:List Bool
 tip:List Nat
 ground:Int
noncomputable def kC (net:Net) (held coming poured:List Int) (doors:List Bool):Tick:=
 let hs:=aS net held coming poured doors
 ⟨dF net.vs hs,eB net.vs.length (cG net.vs hs),cJ net.vs doors (bS 0 net.vs hs),bS 0 net.vs hs,cY none (cG net.vs hs)⟩
end Tw
namespace Tw
open PySem L2
noncomputable def bK (i:Nat):Stmt:=PySem.Challenge.pw_tipwell_k11_whole_alike_or_parted.main.body.getD i (.Pass ⟨0,0,0,0⟩)
structure Txt (mg:Str->Option Value):Prop where
 b_len:mg "len" = none
 b_sum:mg "sum" = none
 b_all:mg "all" = none
 b_max:mg "max" = none
 b_min:mg "min" = none
 b_int:mg "int" = none
 b_tuple:mg "tuple" = none
 b_list:mg "list" = none
 b_bool:mg "bool" = none
 b_range:mg "range" = none
 b_zip:mg "zip" = none
 b_enumerate:mg "enumerate" = none
 b_isinstance:mg "isinstance" = none
 b_divmod:mg "divmod" = none
 b_set:mg "set" = none
 b_sorted:mg "sorted" = none
noncomputable def lP:Option Int->fN
 | none=>.inr none
 | some i=>.inl i
theorem AM (k:Option Int):kV (lP k)=fR k:=by cases k <;> rfl
theorem AL {a b:Option Int} (h:lP a=lP b):a=b:=by
 cases a <;> cases b <;> simp_all [lP]
noncomputable def iJ (H:Hp) (d:Addr) (gs:List (Option Int×Int)):Prop:=
 ∃ kvs:List (fN×V),H d=some (.dK kvs)/\kvs.length<=gs.length/\∀ k:Option Int,(dM kvs (lP k)).getD (.int 0)=.int (cY k gs)
theorem iJ.mut {H:Hp}{d:Addr}{gs:List (Option Int×Int)} (h:iJ H d gs):kR (H d):=by
 obtain⟨kvs,e,_⟩:=h;rw[e];exact trivial
section
variable {P:Program}{w:World}{K:aaa}{mg:Str->Option Value}{base:Heap}
noncomputable def rA:Sp:=λ vs H Q _=>∃ (d:Addr) (t:Option Int) (a:Int) (gs:List (Option Int×Int)),vs=[.ref d,fR t,.int a]/\iJ H d gs/\gs.length<=1000/\
 ∀ H',cP d H H'->iJ H' d (gs++[(t,a)])->Q .non H'
theorem wB:FnScope ["sent","target","amount"] ["sent","target","amount"] (aM (bK 17)):=⟨rfl,rfl,rfl,by decide +kernel,rfl,by decide +kernel,by decide +kernel⟩
theorem DC {f:Addr}{fd:FuncData} (F:Fun K "send" "send" (bK 17) f fd) (T:Txt mg):FnOk P w K mg base iM 1 f fd ["sent","target","amount"] rA:=by
 refine F.ok wB (λ vs H Q E h=>?_) (λ cdv A outer s H vs Q E hr h=>?_)
 ·obtain⟨d,t,a,gs,rfl,_⟩:=h;rfl
 ·obtain⟨d,t,a,gs,rfl,⟨kvs,hd,hl,hv⟩,hg,k⟩:=h
  have sc:=wB
  have hu:=EB hr
  refine⟨_,(aK (CV hu (pv 0) (pv 1) (aU cB (oF hu (pv 0) (pv 1) aE ⟨rfl,rfl,rfl,rfl⟩) (pv 2)) rfl)),?_⟩
  have hget:=vV.k (k:=lP t) hd
  rw[AM] at hget
  have hput:=BZ.k (k:=lP t) (v:=V.int (cY t gs+a)) hd (aY (by omega))
  rw[AM] at hput
  refine⟨_,rfl,d,rfl,.inl ⟨kvs,.inl hd⟩,_,rfl,dM kvs (lP t),hget,_,rfl,_,_,hv t,rfl,_,rfl,_,rfl,d,_,rfl,hput,?_⟩
  refine k _ cP.upd ⟨_,aB,?_,λ k'=>?_⟩
  ·have:=fM kvs (lP t) (V.int (cY t gs+a))
   rw[aak];simp;omega
  ·rw[sX,jP]
   by_cases e:k'=t
   ·subst e
    rw[if_pos rfl]
    show V.int _=V.int _
    simp [cY]
   ·rw[if_neg (λ z=>e (AL z)),hv k']
    have:¬ t=k':=λ z=>e z.symm
    simp [cY,this]
end
end Tw
namespace L2
open PySem PySem.Spec PyProof.Rows TwZ
section
variable {K:aaa}{g:TG}{tc:TT}{te:TE}{fr:List (Option Nat)}{σ:St}{H1:Hp}{Q:Addr->Hp->Prop}
theorem gA {a:Addr}{xs:List V} (Pv:Addr->Nat->List V->St->Hp->Prop) (hq:∀ D i ys σ H,Pv D i ys σ H->bD K H a xs)
  (h0:∀ D,H1 D=none->Pv D 0 [] (uI fr σ) (upd H1 D (.lst []))) (hstop:∀ D ys ac H',Pv D xs.length ys ac H'->Q D H')
  (hgo:∀ D i x ys ac H',xs[i]? = some x->Pv D i ys ac H'->g x ac H' λ ao H3=>tc ao H3 λ b H4=>
    if b=true then te ao H4 λ y H5=>H5 D=some (.lst ys)/\ys.length < sizeLine/\Pv D (i+1) (ys++[y]) ao (upd H5 D (.lst (ys++[y])))
    else Pv D (i+1) ys ao H4):j3 (GP K a) g tc te fr σ H1 Q:=by
 refine sD (n:=xs.length) Pv h0 (λ D ys ac H' p=>⟨⟨xs,hq D _ ys ac H' p,Nat.le_refl _⟩,hstop D ys ac H' p⟩) λ D i ys ac H' hi p=>⟨⟨xs,xs[i],hq D _ ys ac H' p,by simp [hi]⟩,λ x H2 y=>?_⟩
 obtain⟨e,y⟩:=y
 subst e
 exact hgo D i x ys ac _ (y xs (hq D _ ys ac _ p)) p
theorem sC {a:Addr}{xs:List V} (Pv:Addr->Nat->List V->St->Hp->Prop) (hq:∀ D i ys σ H,Pv D i ys σ H->bT K H a xs)
  (h0:∀ D,H1 D=none->Pv D 0 [] (uI fr σ) (upd H1 D (.lst []))) (hstop:∀ D ys ac H',Pv D xs.length ys ac H'->Q D H')
  (hgo:∀ D i x ys ac H',xs[i]? = some x->Pv D i ys ac H'->g x ac H' λ ao H3=>tc ao H3 λ b H4=>
    if b=true then te ao H4 λ y H5=>H5 D=some (.lst ys)/\ys.length < sizeLine/\Pv D (i+1) (ys++[y]) ao (upd H5 D (.lst (ys++[y])))
    else Pv D (i+1) ys ao H4):j3 (GQ K a) g tc te fr σ H1 Q:=by
 refine sD (n:=xs.length) Pv h0 (λ D ys ac H' p=>⟨⟨xs,hq D _ ys ac H' p,Nat.le_refl _⟩,hstop D ys ac H' p⟩) λ D i ys ac H' hi p=>⟨⟨xs,xs[i],hq D _ ys ac H' p,by simp [hi]⟩,λ x H2 y=>?_⟩
 obtain⟨e,y⟩:=y
 subst e
 exact hgo D i x ys ac _ (y xs (hq D _ ys ac _ p)) p
theorem lN {n:Nat} (Pv:Addr->Nat->List V->St->Hp->Prop)
  (h0:∀ D,H1 D=none->Pv D 0 [] (uI fr σ) (upd H1 D (.lst []))) (hstop:∀ D ys ac H',Pv D n ys ac H'->Q D H')
  (hgo:∀ D i ys ac H',i < n->Pv D i ys ac H'->g (.int (i:Int)) ac H' λ ao H3=>tc ao H3 λ b H4=>
    if b=true then te ao H4 λ y H5=>H5 D=some (.lst ys)/\ys.length < sizeLine/\Pv D (i+1) (ys++[y]) ao (upd H5 D (.lst (ys++[y])))
    else Pv D (i+1) ys ao H4):j3 (GJ 0 n) g tc te fr σ H1 Q:=by
 refine sD (n:=n) Pv h0 (λ D ys ac H' p=>⟨Nat.le_refl _,hstop D ys ac H' p⟩) λ D i ys ac H' hi p=>⟨hi,λ x H2 y=>?_⟩
 obtain⟨e,y⟩:=y
 subst e y
 rw[Int.zero_add]
 exact hgo D i ys ac _ hi p
theorem DF {t1 t2 t3:Bool}{a1 a2 a3:Addr}{xs ys zs:List V}{n:Nat} (h1:xs.length=n) (h2:ys.length=n) (h3:zs.length=n) (Pv:Addr->Nat->List V->St->Hp->Prop)
  (hq:∀ D i r σ H,Pv D i r σ H->jC K H t1 a1 xs/\jC K H t2 a2 ys/\jC K H t3 a3 zs)
  (h0:∀ D,H1 D=none->Pv D 0 [] (uI fr σ) (upd H1 D (.lst []))) (hstop:∀ D r ac H',Pv D n r ac H'->Q D H')
  (hgo:∀ D i x y z r ac H' T,xs[i]? = some x->ys[i]? = some y->zs[i]? = some z->Pv D i r ac H'->H' T=none->g (.ref T) ac (upd H' T (.tup [x,y,z])) λ ao H3=>tc ao H3 λ b H4=>
    if b=true then te ao H4 λ y H5=>H5 D=some (.lst r)/\r.length < sizeLine/\Pv D (i+1) (r++[y]) ao (upd H5 D (.lst (r++[y])))
    else Pv D (i+1) r ao H4):j3 (GH K t1 t2 t3 a1 a2 a3) g tc te fr σ H1 Q:=by
 refine sD (n:=n) Pv h0 (λ D r ac H' p=>?_) λ D i r ac H' hi p=>?_
 ·obtain⟨q1,q2,q3⟩:=hq D _ r ac H' p
  exact⟨⟨xs,ys,zs,q1,q2,q3,.inl (by omega)⟩,hstop D r ac H' p⟩
 ·obtain⟨q1,q2,q3⟩:=hq D _ r ac H' p
  refine⟨⟨xs,ys,zs,xs[i]'(by omega),ys[i]'(by omega),zs[i]'(by omega),q1,q2,q3,by simp,by simp,by simp⟩,?_⟩
  rintro v H2 ⟨T,x,y,z,hT,rfl,e1,e2,e3,rfl⟩
  exact hgo D i x y z r ac H' T (e1 xs q1) (e2 ys q2) (e3 zs q3) p hT
end
section
variable {K:aaa}{g:TG}{tb:TS}{D:Ends}{σ:St}{H:Hp}
noncomputable abbrev wW (J:It) (g:TG) (tb:TS) (D:Ends) (σ:St) (H:Hp):Prop:=
 ∃ W:Nat->Nat->St->Hp->Prop,(∃ m,W 0 m σ H)/\∀ i m σ H,W i m σ H->
   (J.stop i H/\D.nx σ H)\/(J.go i H/\∃ N:St->Hp->Prop,(∀ ac H',N ac H'->∃ m',m' < m/\W (i+1) m' ac H')/\∀ x H',J.yld i H x H'->g x σ H' λ ba H2=>tb { D with nx:=N,ct:=N,bk:=D.nx } ba H2)
theorem BC {t1 t2:Bool}{a1 a2:Addr}{xs ys:List V}{n:Nat} (h1:xs.length=n) (h2:ys.length=n) (Pv:Nat->St->Hp->Prop) (hq:∀ i σ H,Pv i σ H->jC K H t1 a1 xs/\jC K H t2 a2 ys)
  (h0:Pv 0 σ H) (hstop:∀ σ H,Pv n σ H->D.nx σ H)
  (hgo:∀ i x y σ H T,xs[i]? = some x->ys[i]? = some y->Pv i σ H->H T=none->g (.ref T) σ (upd H T (.tup [x,y])) λ ba H2=>tb { D with nx:=Pv (i+1),ct:=Pv (i+1),bk:=D.nx } ba H2):wW (GI K t1 t2 a1 a2) g tb D σ H:=by
 refine wP (n:=n) Pv h0 (λ σ H p=>?_) λ i σ H hi p=>?_
 ·obtain⟨q1,q2⟩:=hq _ σ H p
  exact⟨⟨xs,ys,q1,q2,.inl (by omega)⟩,hstop σ H p⟩
 ·obtain⟨q1,q2⟩:=hq _ σ H p
  refine⟨⟨xs,ys,xs[i]'(by omega),ys[i]'(by omega),q1,q2,by simp,by simp⟩,?_⟩
  rintro v H2 ⟨T,x,y,hT,rfl,e1,e2,rfl⟩
  exact hgo i x y σ H T (e1 xs q1) (e2 ys q2) p hT
theorem BD {t:Bool}{a:Addr}{xs:List V} (Pv:Nat->St->Hp->Prop) (hq:∀ i σ H,Pv i σ H->jC K H t a xs)
  (h0:Pv 0 σ H) (hstop:∀ σ H,Pv xs.length σ H->D.nx σ H)
  (hgo:∀ i x σ H T,xs[i]? = some x->Pv i σ H->H T=none->g (.ref T) σ (upd H T (.tup [.int (i:Int),x])) λ ba H2=>tb { D with nx:=Pv (i+1),ct:=Pv (i+1),bk:=D.nx } ba H2):wW (Ite K t a) g tb D σ H:=by
 refine wP (n:=xs.length) Pv h0 (λ σ H p=>?_) λ i σ H hi p=>?_
 ·exact⟨⟨xs,hq _ σ H p,Nat.le_refl _⟩,hstop σ H p⟩
 ·refine⟨⟨xs,xs[i],hq _ σ H p,by simp [hi]⟩,?_⟩
  rintro v H2 ⟨T,x,hT,rfl,e1,rfl⟩
  exact hgo i x σ H T (e1 xs (hq _ σ H p)) p hT
end
theorem gN {σ:St}{H:Hp}{A B:Hp->Prop} (h:A H):EL σ H λ b H4=>if b=true then A H4 else B H4:=by
 show if true=true then A H else B H
 rw[if_pos rfl];exact h
theorem g9 {i:Nat}{v:V}{σ:St}{H:Hp}{A B:St->Hp->Prop} (h:A (σ.set i (some v)) H):gE i v σ H λ ao H3=>EL ao H3 λ b H4=>if b=true then A ao H4 else B ao H4:=gN (σ:=σ.set i (some v)) (A:=A (σ.set i (some v))) (B:=B (σ.set i (some v))) h
theorem aF.put {H H':Hp}{p:Addr}{o:HO} (a:aF H H') (h:H p=none):aF H (upd H' p o):=λ b u e=>by rw[aO (aL e h)];exact a b u e
theorem bV.put {K:aaa}{H H':Hp}{p:Addr}{o:HO} (a:bV K H H') (h:H' p=none\/kR (H' p)):bV K H (upd H' p o):=a.trans (by
 rcases h with h | h
 ·exact (aF.new h).ts
 ·exact cP.ts cP.upd h)
noncomputable def EF (i j:Int):Prop:=0 < j/\j < 2 ^ 200
theorem AA {X:Cx}:iN X (binaryOp .FloorDiv) (rI EF λ i j=>.int (i / j)):=HQ λ i j _ _ _ _ _ hc q=>by
 have h1:(0:Int) < j:=hc.1
 have h2:j < 2 ^ 200:=hc.2
 refine floordiv_int (by omega) (by rw[Int.fdiv_eq_ediv_of_nonneg i (by omega)];exact q) (.inl (PyProof.noPylong_of_log2 ?_))
 have h0:j.natAbs≠0:=by omega
 have h3:j.natAbs < 2 ^ 200:=by omega
 have:=(Nat.log2_lt h0).mpr h3
 omega
theorem kN:bootBuiltins "int" = some (.type "int"):=by decide +kernel
theorem bR:bootBuiltins "tuple" = some (.type "tuple"):=by decide +kernel
theorem nN:bootBuiltins "list" = some (.type "list"):=by decide +kernel
theorem DL:bootBuiltins "bool" = some (.type "bool"):=by decide +kernel
section
variable {X:Cx}{K:aaa}{tg:Expr}{pos:Pos}
theorem bJ {es:List Expr}{k:Nat}{t:BV}{n:Nat} (hK:X.K=K) (hc:X.calm=true) (h:GF X es t)
  (hn:(assignEach es X.env).length=n:=by rfl) (hst:(assignEach es X.env).findIdx? (·.1)=none:=by rfl):PG X (.Tuple es k pos) (HW K n t):=by
 subst hK;exact FH hc h hn hst
theorem aJ (hK:X.K=K):yQ X (uX K):=by subst hK;exact FV
noncomputable def HD (K:aaa):List V->Hp->VK->Prop:=λ xs H Q=>∃ p ys,xs=[.ref p]/\(bT K H p ys\/bD K H p ys)/\Q (.int ys.length) H
theorem bA (hK:X.K=K):eN X (.builtin "len") (HD K):=by subst hK;exact sO
theorem gZ (hK:X.K=K) (hc:X.calm=true):eN X (.builtin "sum") (HB K):=by subst hK;exact yE hc
theorem yH (hK:X.K=K) (hc:X.calm=true):eN X (.builtin "all") (HJ K):=by subst hK;exact yI hc
theorem jJ (hK:X.K=K):eN X (.builtin "isinstance") (HI K):=by subst hK;exact BP
noncomputable def FA (K:aaa):List V->Hp->VK->Prop:=λ xs H Q=>∃ p ys,xs=[.ref p]/\((bT K H p ys/\∀ l,H l=none->Q (.ref l) (upd H l (.tup ys)))\/(bD K H p ys/\Q (.ref p) H))
theorem bO (hK:X.K=K):eN X (.type "tuple") (FA K):=by subst hK;exact pR
noncomputable def FC (K:aaa):List V->Hp->VK->Prop:=λ xs H Q=>∃ p ys,xs=[.ref p]/\(bT K H p ys\/bD K H p ys)/\∀ l,H l=none->Q (.ref l) (upd H l (.lst ys))
theorem mU (hK:X.K=K):eN X (.type "list") (FC K):=by subst hK;exact sN
theorem g0 {l:Expr}{tl:TE} (hK:X.K=K) (hl:PE X l tl):PI X tg l (E9 K tl):=by subst hK;exact D3 hl
theorem cW {l:Expr}{tl:TE} (hK:X.K=K) (hl:PE X l tl):PI X tg l (HS K tl):=by subst hK;exact FG hl
theorem A3 {a:Expr}{ta:TA}{p:Pos} (hK:X.K=K) (hg:Gl X "enumerate") (hm:X.mg "enumerate" = none) (ha:PA X [a] ta) (hs:starEach [a] X.env=[(false,eval a X.env)]:=by rfl):PI X tg (.Call (.Name "enumerate" p) [a] [] pos) (EA K ta):=by
 subst hK;exact D4 hg hm ha hs
theorem A2 {a b:Expr}{ta:TA}{p:Pos} (hK:X.K=K) (hg:Gl X "zip") (hm:X.mg "zip" = none) (ha:PA X [a,b] ta) (hs:starEach [a,b] X.env=[(false,eval a X.env),(false,eval b X.env)]:=by rfl) (hs2:starEach [b] X.env=[(false,eval b X.env)]:=by rfl) :
  PI X tg (.Call (.Name "zip" p) [a,b] [] pos) (E8 K ta):=by subst hK;exact D0 hg hm ha hs hs2
theorem A1 {a b c:Expr}{ta:TA}{p:Pos} (hK:X.K=K) (hg:Gl X "zip") (hm:X.mg "zip" = none) (ha:PA X [a,b,c] ta) (hs:starEach [a,b,c] X.env=[(false,eval a X.env),(false,eval b X.env),(false,eval c X.env)]:=by rfl)
  (hs2:starEach [b,c] X.env=[(false,eval b X.env),(false,eval c X.env)]:=by rfl):PI X tg (.Call (.Name "zip" p) [a,b,c] [] pos) (E7 K ta):=by subst hK;exact CZ hg hm ha hs hs2
theorem tN (hK:X.K=K):iN X (binaryOp .Mult) (DX K):=by subst hK;exact wH
theorem vD (hK:X.K=K) (hu:X.A.units+64 < cLine):iN X (compareOp .NotEq) (wE K):=by subst hK;exact xJ hu
theorem xX (hK:X.K=K):GG X (E3 K):=by subst hK;exact BA
theorem eA {o e:Expr}{es:List Expr}{to:TE}{t:TA}{name:Str}{apos cpos:Pos}{T id:String}{r:V->List V->Hp->VK->Prop} (hK:X.K=K)
  (pa:PlainAttrs T) (slot:Slot T name id) (hty:typeOf (.builtin id)=pure (.type "method_descriptor")) (hm:MtR X id r) (ho:PE X o to) (ha:PA X (e::es) t)
  (hbase:attributeBase o name X.env (eval o X.env)=eval o X.env:=by rfl)
  (hfew:((backTo cpos (starEach (e::es) X.env)).all (λ x=>!x.1) && (backToKw cpos (keywordEach [] X.env)).all (λ x=>x.1.isSome)
   && decide ((e::es).length+([]:List Keyword).length+(if ([]:List Keyword).isEmpty then 0 else 1) < 30))=true:=by rfl)
  (hline:(apos.endLine == cpos.line)=true:=by rfl) (hs:starEach (e::es) X.env=(false,eval e X.env)::starEach es X.env:=by rfl) (hplain:(backTo cpos (starEach es X.env)).any (·.1)=false:=by rfl) :
  PE X (.Call (.Attribute o name apos) (e::es) [] cpos) (tBM K T r to t):=by subst hK;exact HM pa slot hty hm ho ha hbase hfew hline hs hplain
end
end L2
namespace Tw
open PySem L2
section
variable {P:Program}{w:World}{K:aaa}{mg:Str->Option Value}{base:Heap}
theorem bI {af:Type}{xs:List af}{i:Nat}{x:af} (h:xs[i]? = some x):xs.take (i+1)=xs.take i++[x]:=by
 rw[abn,h];rfl
theorem i9 {H:Hp}{outs:List (Option Int×Int)}{xs:List V}{i:Nat}{x:V} (l:IsL K H (outs.map outD) xs) (h:xs[i]? = some x) :
  ∃ o,outs[i]? = some o/\∃ a,x=.ref a/\bD K H a [fR o.1,.int o.2]:=by
 obtain⟨d,hd,hx⟩:=l.get' h
 rw[aah] at hd
 cases e:outs[i]? with
 | none=>rw[e] at hd;cases hd
 | some o=>
  rw[e] at hd
  cases hd
  refine⟨o,rfl,?_⟩
  obtain⟨a,ys,rfl,q,l⟩:=(show Is K H (.tup [uN o.1,.int o.2]) x from hx).un
  obtain⟨y,r,rfl,hy,l⟩:=l.un
  obtain⟨z,r,rfl,hz,l⟩:=l.un
  have:=l.un0
  subst this
  rw[Is.tg hy,hz.ui] at q
  exact⟨a,rfl,q⟩
noncomputable def r9 (K:aaa):Sp:=λ vs H Q _=>∃ (o d:Addr) (has:Int) (outs gs:List (Option Int×Int)) (n:Nat),vs=[.ref o,.int has,.ref d]/\Is K H (.tup (outs.map outD)) (.ref o)/\iJ H d gs/\gs.length+3<=1000/\
 outs≠[]/\outs.length<=3/\(∀ x∈outs,OutOk n x)/\∀ H',cP d H H'->iJ H' d (gs++outs.map λ x=>(x.1,has / whole outs * x.2))->Q (.int (has % whole outs)) H'
theorem kX:FnScope ["outs","has","sent","whole","times","target","parts"] ["outs","has","sent"] (aM (bK 16)):=⟨rfl,rfl,rfl,by decide +kernel,rfl,by decide +kernel,by decide +kernel⟩
theorem rQ {f fS:Addr}{fd fdS:FuncData} (F:Fun K "share_out" "share_out" (bK 16) f fd) (T:Txt mg) (G_send:Callee P w K mg base "send" ["sent","target","amount"] 1 rA fS fdS):FnOk P w K mg base iM 2 f fd ["outs","has","sent"] (r9 K):=by
 refine F.ok kX (λ vs H Q E h=>?_) (λ cdv A outer s H vs Q E hr h=>?_)
 ·obtain⟨o,d,has,outs,gs,n,rfl,_⟩:=h;rfl
 ·obtain⟨o,d,has,outs,gs,n,rfl,ho,hd,hg,hne,h3,hok,k⟩:=h
  have sc:=kX
  refine⟨_,(aD (aP (i:=3) sc.nd rfl (Or.inl rfl) (aR (gZ (K:=K) rfl rfl) rfl T.b_sum PyProof.Rows.boot_sum (aA (gL (λ _ _ h=>h) rfl (LcOk.mk (N':=["target","parts"]) (fr:=[none,none]) rfl trivial rfl rfl rfl rfl rfl trivial) (cW (K:=K) rfl (pv 0)) (λ _ _ _=>(bJ (K:=K) (n:=2) rfl rfl (aG (aH (i:=0) (show (["target","parts"]:List Str).Nodup by decide +kernel) rfl (Or.inl rfl) (Or.inr rfl)) (aG (aH (i:=1) (show (["target","parts"]:List Str).Nodup by decide +kernel) rfl (Or.inl rfl) (Or.inr rfl)) bF)))) (λ _ _ _=>d6) (λ _ _ _=>(pv 1))) aC)))
   (aD (aP (i:=4) sc.nd rfl (Or.inl rfl) (aU gM (pv 1) (aR (qK rfl) rfl T.b_max PyProof.Rows.boot_max (aA aE (aA (pv 3) aC)))))
   (aD (cS PassesOwn.never rfl (cW (K:=K) rfl (pv 0)) (bJ (K:=K) (n:=2) rfl rfl (aG (aH (i:=5) sc.nd rfl (Or.inl rfl)) (aG (aH (i:=6) sc.nd rfl (Or.inl rfl)) bF))) (aK (cV (d5 G_send hr (aA (pv 2) (aA (pv 5) (aA (aU iB (pv 6) (pv 4)) aC)))))))
   (aK (bC (aU eY (pv 1) (aU iB (pv 3) (pv 4)))))))),?_⟩
  have hw1:=pT hne hok
  have hw2:=nS hok
  obtain⟨o',xs,e,hq,hl⟩:=ho.un
  cases e
  have hxl:xs.length=outs.length:=by rw[hl.length,aac]
  refine⟨_,rfl,o,rfl,⟨_,hq⟩,gA (K:=K) (a:=o) (xs:=xs) (λ D i ys ac H'=>H D=none/\aF H H'/\H' D=some (.lst ys)/\ys=(outs.take i).map (λ x=>V.int x.2)/\∃ x y,ac=[x,y])
   (λ D i ys ac H' p=>p.2.1.tup hq) (λ D hD=>⟨hD,aF.new hD,aB,by simp,none,none,rfl⟩) ?_ ?_⟩
  rotate_left
  ·rintro D i x ys ac H' hx ⟨hD,sm,hDl,rfl,v1,v2,rfl⟩
   obtain⟨ot,hot,a,rfl,qa⟩:=i9 hl hx
   have hil:=(aad.mp hot).1
   refine⟨a,_,rfl,sm.tup qa,rfl,_,_,rfl,_,_,rfl,rfl,?_⟩
   refine gN ⟨_,rfl,hDl,aY (by simp;omega),hD,sm.put hD,aB,?_,_,_,rfl⟩
   rw[bI hot];simp
  ·rintro D ys ac H1 ⟨hD,sm,hDl,rfl,_⟩
   rw[hxl,aao] at hDl
   refine⟨false,D,outs.map (·.2),rfl,bT.of (by rw[abz];exact hDl),?_⟩
   refine⟨_,rfl,_,rfl,_,_,rfl,_,_,rfl,rfl,?_,?_⟩
   ·show 0 < (if whole outs > 1 then whole outs else 1)/\(if whole outs > 1 then whole outs else 1) < 1073741824
    split <;> omega
   have hm:(if whole outs > 1 then whole outs else 1)=whole outs:=by split <;> omega
   show eP _ _ _ [some (V.ref o),some (V.int has),some (V.ref d),some (V.int (whole outs)),some (V.int (has / (if whole outs > 1 then whole outs else 1))),none,none] _
   rw[hm]
   have hd1:iJ H1 d gs:=by obtain⟨kvs,e,r⟩:=hd;exact⟨kvs,sm _ _ e,r⟩
   have tsH:bV K H H1:=sm.ts
   refine⟨_,rfl,o,rfl,⟨_,sm.tup hq⟩,jI (K:=K) (a:=o) (xs:=xs) (λ i ac H'=>cP d H1 H'/\iJ H' d (gs++(outs.take i).map λ x=>(x.1,has / whole outs * x.2))/\
    ∃ x y,ac=[some (V.ref o),some (V.int has),some (V.ref d),some (V.int (whole outs)),some (V.int (has / whole outs)),x,y]) ⟨cP.refl _,by simpa using hd1,none,none,rfl⟩
    (λ i ac H' _ p=>(p.1.ts hd1.mut) _ _ (sm.tup hq)) ?_ ?_⟩
   ·rintro i x ac H2 hx ⟨bt,dg,v1,v2,rfl⟩
    obtain⟨ot,hot,a,rfl,qa⟩:=i9 hl hx
    have hil:=(aad.mp hot).1
    have hom:=hok ot (aan hot)
    refine⟨a,_,rfl,(bt.ts hd1.mut) _ _ (sm.tup qa),rfl,_,_,rfl,_,_,rfl,rfl,?_⟩
    refine⟨_,rfl,_,rfl,_,rfl,_,rfl,_,_,rfl,rfl,.inl ⟨by have:=hom.lo;omega,by have:=hom.hi;omega⟩,d,ot.1,ot.2 * (has / whole outs),_,rfl,dg,by simp;omega,λ H' bt' dg'=>?_⟩
    refine⟨bt.trans bt',?_,_,_,rfl⟩
    rw[bI hot,aae,<- abr]
    rw[Int.mul_comm] at dg'
    exact dg'
   ·rintro ac H2 ⟨bt,dg,v1,v2,rfl⟩
    rw[hxl,aao] at dg
    refine⟨_,rfl,_,rfl,_,rfl,_,_,rfl,rfl,.inl ⟨by omega,by omega⟩,_,_,rfl,rfl,?_⟩
    have e:has - whole outs * (has / whole outs)=has % whole outs:=by
     have:=Int.emod_add_mul_ediv has (whole outs);omega
    show Q (V.int (has - whole outs * (has / whole outs))) H2
    rw[e]
    exact k H2 (sm.but.trans bt) dg
theorem kU {H:Hp}{v:Vs}{x:V} (h:Is K H (jM v) x):∃ (a:Addr) (o c:V),x=.ref a/\bD K H a [.int v.size,.int v.brim,o,.bl v.holds,fR v.spill,c]/\Is K H (.tup (v.outs.map outD)) o/\Is K H (.tup (v.acts.map jA)) c:=by
 obtain⟨a,xs,rfl,q,l⟩:=(show Is K H (.tup [.int v.size,.int v.brim,.tup (v.outs.map outD),.bl v.holds,uN v.spill,.tup (v.acts.map jA)]) x from h).un
 obtain⟨x1,r,rfl,h1,l⟩:=l.un
 obtain⟨x2,r,rfl,h2,l⟩:=l.un
 obtain⟨x3,r,rfl,h3,l⟩:=l.un
 obtain⟨x4,r,rfl,h4,l⟩:=l.un
 obtain⟨x5,r,rfl,h5,l⟩:=l.un
 obtain⟨x6,r,rfl,h6,l⟩:=l.un
 have:=l.un0
 subst this
 rw[h1.ui,h2.ui,h4.ub,Is.tg h5] at q
 exact⟨a,x3,x6,rfl,q,h3,h6⟩
noncomputable def o0 (K:aaa):Sp:=λ vs H Q _=>∃ (x:V) (d:Addr) (has:Int) (v:Vs) (gs:List (Option Int×Int)) (n m:Nat),vs=[x,.int has,.ref d]/\Is K H (jM v) x/\iJ H d gs/\gs.length+5<=1000/\VOk n m v/\
 ∀ p H',cP d H H'->iJ H' d (gs++fL v has)->bD K H' p [.int (fK v has),.bl (iP v has)]->Q (.ref p) H'
theorem pZ:FnScope ["vessel","has","sent","size","brim","outs","holds","spill","acts","over","left"] ["vessel","has","sent"] (aM (bK 15)):=⟨rfl,rfl,rfl,by decide +kernel,rfl,by decide +kernel,by decide +kernel⟩
theorem xL {f fS fO:Addr}{fd fdS fdO:FuncData} (F:Fun K "settle" "settle" (bK 15) f fd) (T:Txt mg) (G_send:Callee P w K mg base "send" ["sent","target","amount"] 1 rA fS fdS)
  (G_share_out:Callee P w K mg base "share_out" ["outs","has","sent"] 2 (r9 K) fO fdO):FnOk P w K mg base iM 3 f fd ["vessel","has","sent"] (o0 K):=by
 refine F.ok pZ (λ vs H Q E h=>?_) (λ cdv A outer s H vs Q E hr h=>?_)
 ·obtain⟨x,d,has,v,gs,n,m,rfl,_⟩:=h;rfl
 ·obtain⟨x,d,has,v,gs,n,m,rfl,hx,hd,hg,ok,k⟩:=h
  have sc:=pZ
  refine⟨_,(aD (cN (pv 0) (bJ (K:=K) (n:=6) rfl rfl (aG (aH (i:=3) sc.nd rfl (Or.inl rfl)) (aG (aH (i:=4) sc.nd rfl (Or.inl rfl)) (aG (aH (i:=5) sc.nd rfl (Or.inl rfl)) (aG (aH (i:=6) sc.nd rfl (Or.inl rfl)) (aG (aH (i:=7) sc.nd rfl (Or.inl rfl)) (aG (aH (i:=8) sc.nd rfl (Or.inl rfl)) bF))))))))
   (aD (aP (i:=9) sc.nd rfl (Or.inl rfl) (aR (qK rfl) rfl T.b_max PyProof.Rows.boot_max (aA aE (aA (aU eY (pv 1) (pv 4)) aC))))
   (aD (cV (d5 G_send hr (aA (pv 2) (aA (pv 7) (aA (pv 9) aC)))))
   (aD (zX (i:=1) sc.nd rfl (Or.inl rfl) (pv 9) FY)
   (aD (cF (bB oH (pv 1) (pv 3) (bH _)) (aK (bC (aV (aA (pv 1) (aA eF aC))))) bL)
   (aD (aP (i:=10) sc.nd rfl (Or.inl rfl) (d5 G_share_out hr (aA (pv 5) (aA (pv 1) (aA (pv 2) aC)))))
   (aD (cF (fQ (pv 6)) (aK (bC (aV (aA (pv 10) (aA eF aC))))) bL)
   (aD (cV (d5 G_send hr (aA (pv 2) (aA eQ (aA (pv 10) aC)))))
   (aK (bC (aV (aA aE (aA eF aC))))))))))))),?_⟩
  obtain⟨a,o,c,rfl,q,ho,hc⟩:=kU hx
  refine⟨_,rfl,a,_,rfl,q,rfl,_,_,rfl,_,_,rfl,_,_,rfl,_,_,rfl,_,_,rfl,_,_,rfl,rfl,?_⟩
  refine⟨_,rfl,_,rfl,_,_,rfl,rfl,_,_,rfl,?_⟩
  have eo:(if has - v.brim > 0 then has - v.brim else 0)=has - bU v has:=by unfold bU;split <;> omega
  show eP _ _ _ [some (V.ref a),some (V.int has),some (V.ref d),some (V.int v.size),some (V.int v.brim),some o,some (V.bl v.holds),some (fR v.spill),some c,some (V.int (if has - v.brim > 0 then has - v.brim else 0)),none] _
  rw[eo]
  refine⟨_,rfl,_,rfl,_,rfl,d,v.spill,has - bU v has,gs,rfl,hd,by omega,λ H1 b1 d1=>?_⟩
  have ts1:bV K H H1:=b1.ts hd.mut
  refine⟨_,rfl,_,rfl,_,_,rfl,rfl,?_⟩
  have eh:has - (has - bU v has)=bU v has:=by omega
  show eP _ _ _ [some (V.ref a),some (V.int (has - (has - bU v has))),some (V.ref d),some (V.int v.size),some (V.int v.brim),some o,some (V.bl v.holds),some (fR v.spill),some c,some (V.int (has - bU v has)),none] _
  rw[eh]
  refine⟨_,rfl,_,rfl,_,_,rfl,rfl,_,rfl,?_⟩
  refine eM (λ hlt=>?_) (λ hge=>?_)
  ·have hlt':bU v has < v.size:=of_decide_eq_true hlt
   have ht:iP v has=false:=decide_eq_false (by omega)
   refine⟨_,rfl,(show 2<=sizeLine by decide),λ p hp=>?_⟩
   refine k p _ (b1.trans (aF.new hp).but) ?_ ?_
   ·have:fL v has=[(v.spill,has - bU v has)]:=by unfold fL;rw[ht];rfl
    rw[this]
    obtain⟨kvs,e,r⟩:=d1
    exact⟨kvs,aF.new hp _ _ e,r⟩
   ·have:fK v has=bU v has:=by unfold fK;rw[ht];rfl
    rw[this,ht]
    exact bD.of aB
  ·have hge':v.size<=bU v has:=by simpa using hge
   have ht:iP v has=true:=decide_eq_true hge'
   obtain⟨oa,os,rfl,_,_⟩:=ho.un
   refine⟨_,rfl,_,rfl,_,rfl,oa,d,bU v has,v.outs,_,n,rfl,Is.mono ts1 _ _ ho,d1,by simp;omega,ok.ne,ok.o3,ok.outs,λ H2 b2 d2=>?_⟩
   refine⟨_,rfl,_,rfl,?_⟩
   cases hh:v.holds with
   | true=>
    refine gF ?_
    refine⟨_,rfl,(show 2<=sizeLine by decide),λ p hp=>?_⟩
    refine k p _ (b1.trans (b2.trans (aF.new hp).but)) ?_ ?_
    ·have:gs++fL v has=(gs++[(v.spill,has - bU v has)])++v.outs.map λ x=>(x.1,bU v has / whole v.outs * x.2):=by
      unfold fL eZ;rw[ht,hh];simp
     rw[this]
     obtain⟨kvs,e,r⟩:=d2
     exact⟨kvs,aF.new hp _ _ e,r⟩
    ·have:fK v has=bU v has % whole v.outs:=by unfold fK;rw[ht,hh];rfl
     rw[this,ht]
     exact bD.of aB
   | false=>
    refine dP ?_
    refine⟨_,rfl,_,rfl,d,none,bU v has % whole v.outs,_,rfl,d2,by simp;have:=ok.o3;omega,λ H3 b3 d3=>?_⟩
    refine⟨(show 2<=sizeLine by decide),λ p hp=>?_⟩
    refine k p _ (b1.trans (b2.trans (b3.trans (aF.new hp).but))) ?_ ?_
    ·have:gs++fL v has=((gs++[(v.spill,has - bU v has)])++v.outs.map λ x=>(x.1,bU v has / whole v.outs * x.2))++[(none,bU v has % whole v.outs)]:=by
      unfold fL eZ;rw[ht,hh];simp
     rw[this]
     obtain⟨kvs,e,r⟩:=d3
     exact⟨kvs,aF.new hp _ _ e,r⟩
    ·have:fK v has=0:=by unfold fK;rw[ht,hh];rfl
     rw[this,ht]
     exact bD.of aB
end
end Tw
namespace Tw
open PySem L2
section
variable {P:Program}{w:World}{K:aaa}{mg:Str->Option Value}{base:Heap}
theorem mB {H:Hp}{acts:List (Str×Int)}{xs:List V}{i:Nat}{x:V} (l:IsL K H (acts.map jA) xs) (h:xs[i]? = some x) :
  ∃ o,acts[i]? = some o/\∃ a,x=.ref a/\bD K H a [.str o.1,.int o.2]:=by
 obtain⟨d,hd,hx⟩:=l.get' h
 rw[aah] at hd
 cases e:acts[i]? with
 | none=>rw[e] at hd;cases hd
 | some o=>
  rw[e] at hd
  cases hd
  refine⟨o,rfl,?_⟩
  obtain⟨a,ys,rfl,q,l⟩:=(show Is K H (.tup [.str o.1,.int o.2]) x from hx).un
  obtain⟨y,r,rfl,hy,l⟩:=l.un
  obtain⟨z,r,rfl,hz,l⟩:=l.un
  have:=l.un0
  subst this
  rw[hy.us,hz.ui] at q
  exact⟨a,rfl,q⟩
theorem BT (ds:List Bool) (a:Str×Int):(vU ds a).length=ds.length:=by unfold vU;simp
theorem jL:∀ (as:List (Str×Int)) (ds:List Bool),(eG ds as).length=ds.length
 | [],ds=>rfl
 | a::as,ds=>by
  show (eG (vU ds a) as).length=_
  rw[jL as,BT]
theorem iE (vs:List Vs):∀ (tip:List Nat) (ds:List Bool),(cJ vs ds tip).length=ds.length
 | [],ds=>rfl
 | i::r,ds=>by
  show (cJ vs (match vs[i]? with | some v=>eG ds v.acts | none=>ds) r).length=_
  rw[iE vs r]
  cases vs[i]? with
  | none=>rfl
  | some v=>exact jL _ _
theorem pA (ds:List Bool) (as:List (Str×Int)) (a:Str×Int):eG ds (as++[a])=vU (eG ds as) a:=by
 unfold eG;rw[List.foldl_append];rfl
theorem n6 (vs:List Vs) (ds:List Bool) (tip:List Nat) (i:Nat) (v:Vs) (h:vs[i]? = some v):cJ vs ds (tip++[i])=eG (cJ vs ds tip) v.acts:=by
 unfold cJ;rw[List.foldl_append]
 show (match vs[i]? with | some v=>_ | none=>_)=_
 rw[h]
noncomputable def rD (K:aaa):Sp:=λ args H Q _=>∃ (x y:V) (t:Addr) (vs:List Vs) (doors:List Bool) (tip:List Nat) (n:Nat),args=[x,y,.ref t]/\Is K H (.tup (vs.map jM)) x/\Is K H (.tup (doors.map D.bl)) y/\
 bT K H t (tip.map λ (i:Nat)=>V.int (i:Int))/\(∀ i∈tip,i < vs.length)/\(∀ v∈vs,VOk n doors.length v)/\doors.length<=12/\
 ∀ p H',aF H H'->Is K H' (.tup ((cJ vs doors tip).map D.bl)) p->Q p H'
theorem iG:FnScope ["vessels","doors","tipped","behind","number","size","brim","outs","holds","spill","acts","word","spout"] ["vessels","doors","tipped"] (aM (bK 18)):=⟨rfl,rfl,rfl,by decide +kernel,rfl,by decide +kernel,by decide +kernel⟩
theorem nB {f:Addr}{fd:FuncData} (F:Fun K "doors_behind" "doors_behind" (bK 18) f fd) (T:Txt mg):FnOk P w K mg base iM 1 f fd ["vessels","doors","tipped"] (rD K):=by
 refine F.ok iG (λ vs H Q E h=>?_) (λ cdv A outer s H vs Q E hr h=>?_)
 ·obtain⟨x,y,t,vs,doors,tip,n,rfl,_⟩:=h;rfl
 ·obtain⟨x,y,t,vs,doors,tip,n,rfl,hx,hy,ht,htip,hok,hm,k⟩:=h
  have sc:=iG
  refine⟨_,(aD (aP (i:=3) sc.nd rfl (Or.inl rfl) (aZ (mU (K:=K) rfl) rfl T.b_list nN (aA (pv 1) aC)))
   (aD (cS PassesOwn.never rfl (g0 (K:=K) rfl (pv 2)) (aH (i:=4) sc.nd rfl (Or.inl rfl)) (aD (cN (aQ (aJ (K:=K) rfl) (pv 0) (pv 4) (λ _ _=>rfl)) (bJ (K:=K) (n:=6) rfl rfl (aG (aH (i:=5) sc.nd rfl (Or.inl rfl)) (aG (aH (i:=6) sc.nd rfl (Or.inl rfl)) (aG (aH (i:=7) sc.nd rfl (Or.inl rfl)) (aG (aH (i:=8) sc.nd rfl (Or.inl rfl)) (aG (aH (i:=9) sc.nd rfl (Or.inl rfl)) (aG (aH (i:=10) sc.nd rfl (Or.inl rfl)) bF))))))))
   (aK (cS PassesOwn.never rfl (cW (K:=K) rfl (pv 10)) (bJ (K:=K) (n:=2) rfl rfl (aG (aH (i:=11) sc.nd rfl (Or.inl rfl)) (aG (aH (i:=12) sc.nd rfl (Or.inl rfl)) bF))) (aK (cN (HL (eD g7 (pv 11) cH (bH _)) (vC (rO (eD g7 (pv 11) cH (bH _)) (vC (oE (aQ (aJ (K:=K) rfl) (pv 3) (pv 12) (λ _ _=>rfl))))))) (mO (pv 3) (pv 12) fZ)))))))
   (aK (bC (aZ (bO (K:=K) rfl) rfl T.b_tuple bR (aA (pv 3) aC)))))),?_⟩
  obtain⟨ax,xs,rfl,qx,lx⟩:=hx.un
  obtain⟨ay,ys,rfl,qy,ly⟩:=hy.un
  have ey:=ly.bools
  subst ey
  have exl:xs.length=vs.length:=by rw[lx.length,aac]
  refine⟨_,rfl,ay,_,rfl,.inr qy,λ b hb=>?_⟩
  have nb:∀ {c:Addr}{o:HO},H c=some o->c≠b:=λ e=>aL e hb
  refine⟨_,rfl,t,rfl,⟨_,(aF.new hb).seq ht⟩,lT (K:=K) (a:=t) (xs:=tip.map λ (i:Nat)=>V.int (i:Int))
   (λ i ac H'=>aF H H'/\H' b=some (.lst ((cJ vs doors (tip.take i)).map V.bl))/\∃ v4 v5 v6 v7 v8 v9 v10 v11 v12,ac=[some (.ref ax),some (.ref ay),some (.ref t),some (.ref b),v4,v5,v6,v7,v8,v9,v10,v11,v12])
   ⟨aF.new hb,aB,none,none,none,none,none,none,none,none,none,rfl⟩ (λ i ac H' _ p=>p.1.seq ht) ?_ ?_⟩
  ·rintro i x ac H1 hi ⟨sm,hbl,v4,v5,v6,v7,v8,v9,v10,v11,v12,rfl⟩
   rw[aah] at hi
   obtain⟨j,hj,rfl⟩:=aaq.mp hi
   have hjv:=htip j (aan hj)
   have hv:vs[j]? = some vs[j]:=by simp [hjv]
   have hvok:=hok vs[j] (abu hjv)
   obtain⟨xv,hxv,ixv⟩:=lx.get (i:=j) (d:=jM vs[j]) (by rw[aah,hv];rfl)
   obtain⟨va,o,c,rfl,qv,ho,hc⟩:=kU ixv
   refine⟨_,rfl,_,rfl,.inr (.inl ⟨ax,xs,j,_,rfl,rfl,sm.tup qx,bZ hxv,va,_,rfl,sm.tup qv,rfl,_,_,rfl,_,_,rfl,_,_,rfl,_,_,rfl,_,_,rfl,_,_,rfl,rfl,?_⟩)⟩
   obtain⟨ca,cs,rfl,qc,lc⟩:=hc.un
   have ecs:cs.length=vs[j].acts.length:=by rw[lc.length,aac]
   refine⟨_,rfl,ca,rfl,⟨_,sm.tup qc⟩,jI (K:=K) (a:=ca) (xs:=cs)
    (λ l ac H'=>aF H H'/\H' b=some (.lst ((eG (cJ vs doors (tip.take i)) (vs[j].acts.take l)).map V.bl))/\
     ∃ u11 u12,ac=[some (.ref ax),some (.ref ay),some (.ref t),some (.ref b),some (.int (j:Int)),some (.int vs[j].size),some (.int vs[j].brim),some o,some (.bl vs[j].holds),some (fR vs[j].spill),some (.ref ca),u11,u12])
    ⟨sm,hbl,v11,v12,rfl⟩ (λ l ac H' _ p=>p.1.tup qc) ?_ ?_⟩
   ·rintro l x ac H2 hl ⟨sm2,hb2,u11,u12,rfl⟩
    obtain⟨at',hat,aa,rfl,qa⟩:=mB lc hl
    have aok:=hvok.acts at' (aan hat)
    refine⟨aa,_,rfl,sm2.tup qa,rfl,_,_,rfl,_,_,rfl,rfl,?_⟩
    have hdl:(eG (cJ vs doors (tip.take i)) (vs[j].acts.take l)).length=doors.length:=by rw[jL,iE]
    have hsp:at'.2.toNat < (eG (cJ vs doors (tip.take i)) (vs[j].acts.take l)).length:=by rw[hdl];have:=aok.lo;have:=aok.hi;omega
    have fin:∀ c:Bool,c=(if at'.1 = "open" then true else if at'.1 = "turn" then !((eG (cJ vs doors (tip.take i)) (vs[j].acts.take l)).getD at'.2.toNat false) else false)->
      aF H (upd H2 b (.lst (((eG (cJ vs doors (tip.take i)) (vs[j].acts.take l)).map V.bl).set at'.2.toNat (.bl c))))/\
      upd H2 b (.lst (((eG (cJ vs doors (tip.take i)) (vs[j].acts.take l)).map V.bl).set at'.2.toNat (.bl c))) b=some (.lst ((eG (cJ vs doors (tip.take i)) (vs[j].acts.take (l+1))).map V.bl)):=λ c hc=>by
     refine⟨sm2.put hb,?_⟩
     rw[aB,bI hat,pA,vU,<- hc,List.map_set]
    have set:∀ c:Bool,c=(if at'.1 = "open" then true else if at'.1 = "turn" then !((eG (cJ vs doors (tip.take i)) (vs[j].acts.take l)).getD at'.2.toNat false) else false)->
      BB (dN 3) (dN 12) tI (.bl c) [some (.ref ax),some (.ref ay),some (.ref t),some (.ref b),some (.int (j:Int)),some (.int vs[j].size),some (.int vs[j].brim),some o,some (.bl vs[j].holds),some (fR vs[j].spill),some (.ref ca),some (.str at'.1),some (.int at'.2)] H2
       λ ac H'=>aF H H'/\H' b=some (.lst ((eG (cJ vs doors (tip.take i)) (vs[j].acts.take (l+1))).map V.bl))/\
        ∃ u11 u12,ac=[some (.ref ax),some (.ref ay),some (.ref t),some (.ref b),some (.int (j:Int)),some (.int vs[j].size),some (.int vs[j].brim),some o,some (.bl vs[j].holds),some (fR vs[j].spill),some (.ref ca),u11,u12]:=λ c hc=>by
     obtain⟨f1,f2⟩:=fin c hc
     refine⟨_,rfl,_,rfl,b,_,at'.2,at'.2.toNat,rfl,rfl,hb2,nH aok.lo (by rw[aac];omega),f1,f2,_,_,rfl⟩
    refine⟨_,rfl,rfl,_,rfl,?_⟩
    refine eM (λ h1=>?_) (λ h1=>?_)
    ·have e1:at'.1 = "open" := by have:=of_decide_eq_true h1;injection this
     exact set true (by rw[if_pos e1])
    ·have e1:¬ at'.1 = "open" := λ z=>h1 (decide_eq_true (by rw[z]))
     refine⟨_,rfl,rfl,_,rfl,?_⟩
     refine eM (λ h2=>?_) (λ h2=>?_)
     ·have e2:at'.1 = "turn" := by have:=of_decide_eq_true h2;injection this
      have hg:((eG (cJ vs doors (tip.take i)) (vs[j].acts.take l)).map V.bl)[at'.2.toNat]? = some (.bl ((eG (cJ vs doors (tip.take i)) (vs[j].acts.take l)).getD at'.2.toNat false)):=by
       rw[aah,abv];simp [hsp]
      refine⟨_,rfl,_,rfl,.inl ⟨b,_,at'.2,_,rfl,rfl,bT.of hb2,nR aok.lo hg,_,rfl,?_⟩⟩
      exact set _ (by rw[if_neg e1,if_pos e2])
     ·have e2:¬ at'.1 = "turn" := λ z=>h2 (decide_eq_true (by rw[z]))
      exact set false (by rw[if_neg e1,if_neg e2])
   ·rintro ac H2 ⟨sm2,hb2,u11,u12,rfl⟩
    rw[ecs,aao] at hb2
    refine⟨sm2,?_,_,_,_,_,_,_,_,_,_,rfl⟩
    rw[bI hj,n6 vs doors _ j vs[j] hv]
    exact hb2
  ·rintro ac H1 ⟨sm,hbl,v4,v5,v6,v7,v8,v9,v10,v11,v12,rfl⟩
   rw[aac,aao] at hbl
   refine⟨_,rfl,b,_,rfl,.inl ⟨bT.of hbl,λ l hl=>?_⟩⟩
   exact k _ _ (sm.trans (aF.new hl)) (Is.tupOf (bD.of aB) (IsL.of_bools _))
end
end Tw
namespace Tw
open PySem L2
theorem h9:∀ {a b c:List Int}{n:Nat},a.length=n->b.length=n->c.length=n->(gG a b c).length=n
 | [],b,c,n,h,_,_=>by simp at h;subst h;rfl
 | x::a,[],c,n,h1,h2,_=>by simp at h1 h2;omega
 | x::a,y::b,[],n,h1,_,h3=>by simp at h1 h3;omega
 | x::a,y::b,z::c,n,h1,h2,h3=>by
  simp at h1 h2 h3
  show (gG a b c).length+1=n
  rw[h9 (n:=n - 1) (by omega) (by omega) (by omega)];omega
theorem oZ:∀ {a b c:List Int}{i:Nat}{x y z:Int},a[i]? = some x->b[i]? = some y->c[i]? = some z->(gG a b c)[i]? = some (x+y+z)
 | [],_,_,i,_,_,_,h,_,_=>by simp at h
 | _::_,[],_,i,_,_,_,_,h,_=>by simp at h
 | _::_,_::_,[],i,_,_,_,_,_,h=>by simp at h
 | a::as,b::bs,c::cs,0,x,y,z,h1,h2,h3=>by simp at h1 h2 h3;subst h1 h2 h3;rfl
 | a::as,b::bs,c::cs,i+1,x,y,z,h1,h2,h3=>by
  show (gG as bs cs)[i]? = _
  exact oZ (by simpa using h1) (by simpa using h2) (by simpa using h3)
theorem xY (has:List Int) (s:sV) (d:Bool):(oW has s d).length=has.length:=by unfold oW;split <;> simp
theorem fU:∀ (ss:List sV) (ds:List Bool) (has:List Int),(eS has ss ds).length=has.length
 | [],ds,has=>by cases ds <;> rfl
 | s::ss,[],has=>rfl
 | s::ss,d::ds,has=>by show (eS (oW has s d) ss ds).length=_;rw[fU ss ds,xY]
theorem kJ:∀ (ss:List sV) (ds:List Bool) (i:Nat) (has:List Int) (s:sV) (d:Bool),ss[i]? = some s->ds[i]? = some d->eS has (ss.take (i+1)) (ds.take (i+1))=oW (eS has (ss.take i) (ds.take i)) s d
 | [],_,i,_,_,_,h,_=>by simp at h
 | _::_,[],i,_,_,_,_,h=>by simp at h
 | a::ss,b::ds,0,has,s,d,h1,h2=>by simp at h1 h2;subst h1 h2;simp [eS]
 | a::ss,b::ds,i+1,has,s,d,h1,h2=>by
  simp only [List.take_succ_cons,eS]
  exact kJ ss ds i _ s d (by simpa using h1) (by simpa using h2)
theorem kI:∀ (vs:List Vs) (hs:List Int) (i:Nat) (v:Vs) (h:Int),vs[i]? = some v->hs[i]? = some h->cG (vs.take (i+1)) (hs.take (i+1))=cG (vs.take i) (hs.take i)++fL v h
 | [],_,i,_,_,h,_=>by simp at h
 | _::_,[],i,_,_,_,h=>by simp at h
 | a::vs,b::hs,0,v,h,h1,h2=>by simp at h1 h2;subst h1 h2;simp [cG]
 | a::vs,b::hs,i+1,v,h,h1,h2=>by
  simp only [List.take_succ_cons,cG,abr]
  rw[kI vs hs i v h (by simpa using h1) (by simpa using h2)]
theorem iQ:∀ (vs:List Vs) (hs:List Int) (i:Nat) (v:Vs) (h:Int),vs[i]? = some v->hs[i]? = some h->dF (vs.take (i+1)) (hs.take (i+1))=dF (vs.take i) (hs.take i)++[fK v h]
 | [],_,i,_,_,h,_=>by simp at h
 | _::_,[],i,_,_,_,h=>by simp at h
 | a::vs,b::hs,0,v,h,h1,h2=>by simp at h1 h2;subst h1 h2;simp [dF]
 | a::vs,b::hs,i+1,v,h,h1,h2=>by
  simp only [List.take_succ_cons,dF,List.cons_append]
  rw[iQ vs hs i v h (by simpa using h1) (by simpa using h2)]
theorem kB:∀ (vs:List Vs) (hs:List Int) (i j:Nat) (v:Vs) (h:Int),vs[i]? = some v->hs[i]? = some h->bS j (vs.take (i+1)) (hs.take (i+1))=bS j (vs.take i) (hs.take i)++(if iP v h=true then [j+i] else [])
 | [],_,i,_,_,_,h,_=>by simp at h
 | _::_,[],i,_,_,_,_,h=>by simp at h
 | a::vs,b::hs,0,j,v,h,h1,h2=>by
  simp at h1 h2;subst h1 h2
  simp only [List.take_succ_cons,List.take_zero,bS,Nat.add_zero,List.nil_append]
 | a::vs,b::hs,i+1,j,v,h,h1,h2=>by
  simp only [List.take_succ_cons,bS]
  rw[kB vs hs i (j+1) v h (by simpa using h1) (by simpa using h2)]
  have e:j+1+i=j+(i+1):=by omega
  rw[e]
  split <;> simp
theorem nY:∀ (vs:List Vs) (hs:List Int) (j k:Nat),k∈bS j vs hs->j<=k/\k < j+vs.length
 | [],_,_,k,h=>by simp [bS] at h
 | _::_,[],_,k,h=>by simp [bS] at h
 | a::vs,b::hs,j,k,h=>by
  simp only [bS] at h
  have ih:=nY vs hs (j+1) k
  simp only [abi]
  split at h
  ·rcases List.mem_cons.mp h with rfl | h
   ·omega
   ·have:=ih h;omega
  ·have:=ih h;omega
theorem jE:∀ (vs:List Vs) (hs:List Int) (j:Nat),(bS j vs hs).length<=vs.length
 | [],_,_=>by simp [bS]
 | _::_,[],_=>by simp [bS]
 | a::vs,b::hs,j=>by
  simp only [bS,abi]
  have:=jE vs hs (j+1)
  split
  ·rw[abi];omega
  ·omega
theorem jH {n m:Nat}:∀ (vs:List Vs) (hs:List Int),(∀ v∈vs,VOk n m v)->(cG vs hs).length<=5 * vs.length
 | [],_,_=>by simp [cG]
 | _::_,[],_=>by simp [cG]
 | a::vs,b::hs,h=>by
  simp only [cG,aak,abi]
  have h1:=x9 (h a abk) b
  have h2:=jH vs hs λ v hv=>h v (aay _ hv)
  omega
section
variable {P:Program}{w:World}{K:aaa}{mg:Str->Option Value}{base:Heap}
theorem mF {H:Hp}{sps:List sV}{xs:List V}{i:Nat}{x:V} (l:IsL K H (sps.map pC) xs) (h:xs[i]? = some x) :
  ∃ s,sps[i]? = some s/\∃ a,x=.ref a/\bD K H a [.int s.1,.int s.2.1,.bl s.2.2]:=by
 obtain⟨d,hd,hx⟩:=l.get' h
 rw[aah] at hd
 cases e:sps[i]? with
 | none=>rw[e] at hd;cases hd
 | some o=>
  rw[e] at hd
  cases hd
  refine⟨o,rfl,?_⟩
  obtain⟨a,ys,rfl,q,l⟩:=(show Is K H (.tup [.int o.1,.int o.2.1,.bl o.2.2]) x from hx).un
  obtain⟨y,r,rfl,hy,l⟩:=l.un
  obtain⟨z,r,rfl,hz,l⟩:=l.un
  obtain⟨z2,r,rfl,hz2,l⟩:=l.un
  have:=l.un0
  subst this
  rw[hy.ui,hz.ui,hz2.ub] at q
  exact⟨a,rfl,q⟩
theorem vY {H:Hp}{held coming:List Int}{doors:List Bool}{y:V} (h:Is K H (CA held coming doors) y):∃ (a b c d:Addr),y=.ref a/\bD K H a [.ref b,.ref c,.ref d]/\bD K H b (held.map V.int)/\bD K H c (coming.map V.int)/\bD K H d (doors.map V.bl):=by
 obtain⟨a,xs,rfl,q,l⟩:=(show Is K H (.tup [.tup (held.map D.int),.tup (coming.map D.int),.tup (doors.map D.bl)]) y from h).un
 obtain⟨x1,r,rfl,h1,l⟩:=l.un
 obtain⟨x2,r,rfl,h2,l⟩:=l.un
 obtain⟨x3,r,rfl,h3,l⟩:=l.un
 have:=l.un0
 subst this
 obtain⟨b,ys,rfl,q1,l1⟩:=h1.un
 obtain⟨c,zs,rfl,q2,l2⟩:=h2.un
 obtain⟨d,us,rfl,q3,l3⟩:=h3.un
 rw[l1.ints] at q1
 rw[l2.ints] at q2
 rw[l3.bools] at q3
 exact⟨a,b,c,d,rfl,q,q1,q2,q3⟩
theorem vZ {H:Hp}{held coming:List Int}{doors:List Bool}{a b c d:Addr} (q:bD K H a [.ref b,.ref c,.ref d]) (q1:bD K H b (held.map V.int)) (q2:bD K H c (coming.map V.int)) (q3:bD K H d (doors.map V.bl)):Is K H (CA held coming doors) (.ref a):=
 Is.tupOf q (.cons (Is.tupOf q1 (IsL.of_ints _)) (.cons (Is.tupOf q2 (IsL.of_ints _)) (.cons (Is.tupOf q3 (IsL.of_bools _)) .nil)))
noncomputable def o4 (K:aaa):Sp:=λ args H Q _=>∃ (x y:V) (z:Addr) (sps:List sV) (held coming poured:List Int) (doors:List Bool) (n:Nat),args=[x,y,.ref z]/\Is K H (.tup (sps.map pC)) x/\Is K H (CA held coming doors) y/\bD K H z (poured.map V.int)/\
 held.length=n/\coming.length=n/\poured.length=n/\doors.length=sps.length/\n<=12/\(∀ s∈sps,0<=s.1/\s.1 < n)/\
 ∀ p H',aF H H'->H p=none->H' p=some (.lst ((eS (gG held coming poured) sps doors).map V.int))->Q (.ref p) H'
theorem qA:FnScope ["spouts","state","poured","held","coming","doors","has","target","flow","first_door","door"] ["spouts","state","poured"] (aM (bK 14)):=⟨rfl,rfl,rfl,by decide +kernel,rfl,by decide +kernel,by decide +kernel⟩
theorem xM {f:Addr}{fd:FuncData} (F:Fun K "filled" "filled" (bK 14) f fd) (T:Txt mg):FnOk P w K mg base iM 1 f fd ["spouts","state","poured"] (o4 K):=by
 refine F.ok qA (λ vs H Q E h=>?_) (λ cdv A outer s H vs Q E hr h=>?_)
 ·obtain⟨x,y,z,sps,held,coming,poured,doors,n,rfl,_⟩:=h;rfl
 ·obtain⟨x,y,z,sps,held,coming,poured,doors,n,rfl,hx,hy,qz,l1,l2,l3,l4,hn,hsp,k⟩:=h
  have sc:=qA
  refine⟨_,(aD (cN (pv 1) (bJ (K:=K) (n:=3) rfl rfl (aG (aH (i:=3) sc.nd rfl (Or.inl rfl)) (aG (aH (i:=4) sc.nd rfl (Or.inl rfl)) (aG (aH (i:=5) sc.nd rfl (Or.inl rfl)) bF)))))
   (aD (jG (i:=6) sc.nd rfl rfl (λ _ _ h=>h) rfl (LcOk.mk (N':=["amounts"]) (fr:=[none]) rfl trivial rfl rfl rfl rfl rfl trivial) (A1 (K:=K) rfl rfl T.b_zip (aA (pv 3) (aA (pv 4) (aA (pv 2) aC)))) (λ _ _ _=>(aH (i:=0) (show (["amounts"]:List Str).Nodup by decide +kernel) rfl (Or.inl rfl) (Or.inr rfl))) (λ _ _ _=>d6) (λ _ _ _=>(aR (gZ (K:=K) rfl rfl) rfl T.b_sum PyProof.Rows.boot_sum (aA (pv 0) aC))))
   (aD (cS PassesOwn.never rfl (A2 (K:=K) rfl rfl T.b_zip (aA (pv 0) (aA (pv 5) aC))) (bJ (K:=K) (n:=2) rfl rfl (aG (bJ (K:=K) (n:=3) rfl rfl (aG (aH (i:=7) sc.nd rfl (Or.inl rfl)) (aG (aH (i:=8) sc.nd rfl (Or.inl rfl)) (aG (aH (i:=9) sc.nd rfl (Or.inl rfl)) bF)))) (aG (aH (i:=10) sc.nd rfl (Or.inl rfl)) bF))) (aK (cF (fQ (pv 10)) (aK (CW (pv 6) (pv 7) (xX (K:=K) rfl) (pv 8) AR fZ)) bL)))
   (aK (bC (pv 6)))))),?_⟩
  obtain⟨ax,xs,rfl,qx,lx⟩:=hx.un
  obtain⟨ay,a1,a2,a3,rfl,qy,q1,q2,q3⟩:=vY hy
  have exl:xs.length=sps.length:=by rw[lx.length,aac]
  refine⟨_,rfl,ay,_,rfl,qy,rfl,_,_,rfl,_,_,rfl,_,_,rfl,rfl,?_⟩
  have la:=h9 l1 l2 l3
  refine⟨_,rfl,_,rfl,_,rfl,true,true,true,a1,a2,z,rfl,⟨_,q1⟩,⟨_,q2⟩,⟨_,qz⟩,DF (K:=K) (xs:=held.map V.int) (ys:=coming.map V.int) (zs:=poured.map V.int) (n:=n) (by simpa using l1) (by simpa using l2) (by simpa using l3)
   (λ D i r ac H'=>H D=none/\aF H H'/\H' D=some (.lst r)/\r=((gG held coming poured).take i).map V.int/\∃ v,ac=[v])
   (λ D i r ac H' p=>⟨p.2.1.tup q1,p.2.1.tup q2,p.2.1.tup qz⟩) (λ D hD=>⟨hD,aF.new hD,aB,by simp,none,rfl⟩) ?_ ?_⟩
  rotate_left
  ·rintro D i x0 y0 z0 r ac H' Tt hx0 hy0 hz0 ⟨hD,sm,hDl,rfl,v,rfl⟩ hT
   rw[aah] at hx0 hy0 hz0
   obtain⟨x,hx,rfl⟩:=aaq.mp hx0
   obtain⟨y,hy,rfl⟩:=aaq.mp hy0
   obtain⟨z',hz,rfl⟩:=aaq.mp hz0
   have hi:=oZ hx hy hz
   have hil:=(aad.mp hi).1
   have nT:D≠Tt:=aL hDl hT
   refine g9 ?_
   refine⟨_,rfl,true,Tt,[x,y,z'],rfl,bD.of aB,by rw[aO nT];exact hDl,aY (by simp;omega),hD,?_,aB,?_,_,rfl⟩
   ·intro b o e
    rw[aO (aL e hD)]
    exact aF.new hT b o (sm b o e)
   ·rw[bI hi,aae]
    have:[x,y,z'].sum=x+y+z':=by simp;omega
    rw[this];rfl
  ·rintro D r ac H1 ⟨hD,sm,hDl,rfl,_⟩
   rw[<- la,aao] at hDl
   refine⟨_,rfl,_,rfl,true,true,ax,a3,rfl,⟨_,sm.tup qx⟩,⟨_,sm.tup q3⟩,BC (K:=K) (xs:=xs) (ys:=doors.map V.bl) (n:=sps.length) exl (by rw[aac,l4])
    (λ i ac H'=>aF H H'/\H' D=some (.lst ((eS (gG held coming poured) (sps.take i) (doors.take i)).map V.int))/\
     ∃ v7 v8 v9 v10,ac=[some (.ref ax),some (.ref ay),some (.ref z),some (.ref a1),some (.ref a2),some (.ref a3),some (.ref D),v7,v8,v9,v10])
    (λ i ac H' p=>⟨p.1.tup qx,p.1.tup q3⟩) ⟨sm,by cases sps <;> exact hDl,none,none,none,none,rfl⟩ ?_ ?_⟩
   ·rintro ac H2 ⟨sm2,h2,v7,v8,v9,v10,rfl⟩
    rw[<- l4,aao] at h2
    rw[l4,aao] at h2
    refine⟨_,rfl,?_⟩
    exact k D H2 sm2 hD h2
   ·rintro i x y ac H2 Tt hx hy ⟨sm2,h2,v7,v8,v9,v10,rfl⟩ hT
    obtain⟨sp,hsi,sa,rfl,qs⟩:=mF lx hx
    rw[aah] at hy
    obtain⟨dr,hdi,rfl⟩:=aaq.mp hy
    have nT:D≠Tt:=aL h2 hT
    have sm3:aF H (upd H2 Tt (.tup [.ref sa,.bl dr])):=λ b o e=>aF.new hT b o (sm2 b o e)
    have h3:upd H2 Tt (.tup [.ref sa,.bl dr]) D=some (.lst ((eS (gG held coming poured) (sps.take i) (doors.take i)).map V.int)):=by rw[aO nT];exact h2
    refine⟨Tt,_,rfl,bD.of aB,rfl,_,_,rfl,⟨sa,_,rfl,sm3.tup qs,rfl,_,_,rfl,_,_,rfl,_,_,rfl,rfl,_,_,rfl,rfl,?_⟩⟩
    refine⟨_,rfl,_,rfl,?_⟩
    have snoc:=kJ sps doors i (gG held coming poured) sp dr hsi hdi
    cases dr with
    | false=>
     refine dP ?_
     refine⟨sm3,?_,_,_,_,_,rfl⟩
     rw[snoc];exact h3
    | true=>
     refine gF ?_
     have hs:=hsp sp (aan hsi)
     have hlen:(eS (gG held coming poured) (sps.take i) (doors.take i)).length=n:=by rw[fU,la]
     have hlt:sp.1.toNat < (eS (gG held coming poured) (sps.take i) (doors.take i)).length:=by rw[hlen];omega
     have hg:((eS (gG held coming poured) (sps.take i) (doors.take i)).map V.int)[sp.1.toNat]? = some (.int ((eS (gG held coming poured) (sps.take i) (doors.take i)).getD sp.1.toNat 0)):=by
      rw[aah,abv];simp [hlt]
     refine⟨_,rfl,_,rfl,D,_,sp.1,_,rfl,rfl,bT.of h3,hs.1,by omega,hg,_,rfl,_,_,rfl,rfl,D,_,sp.1,sp.1.toNat,rfl,rfl,h3,nH hs.1 (by rw[aac,hlen];omega),?_⟩
     refine⟨sm3.put hD,?_,_,_,_,_,rfl⟩
     rw[aB,snoc,oW,if_pos rfl,List.map_set]
end
end Tw
namespace Tw
open PySem L2
theorem hV:∀ (vs:List Vs) (hs:List Int),vs.length=hs.length->(dF vs hs).length=vs.length
 | [],_,_=>by simp [dF]
 | _::_,[],h=>by simp at h
 | a::vs,b::hs,h=>by simp only [dF,abi];rw[hV vs hs (by simpa using h)]
section
variable {P:Program}{w:World}{K:aaa}{mg:Str->Option Value}{base:Heap}
theorem fA {H:Hp}{net:Net}{x:V} (h:Is K H (dY net) x):∃ (a b c:Addr) (xs ys:List V),x=.ref a/\bD K H a [.ref b,.ref c]/\bD K H b xs/\IsL K H (net.vs.map jM) xs/\bD K H c ys/\IsL K H (net.sps.map pC) ys:=by
 obtain⟨a,zs,rfl,q,l⟩:=(show Is K H (.tup [.tup (net.vs.map jM),.tup (net.sps.map pC)]) x from h).un
 obtain⟨x1,r,rfl,h1,l⟩:=l.un
 obtain⟨x2,r,rfl,h2,l⟩:=l.un
 have:=l.un0
 subst this
 obtain⟨b,xs,rfl,q1,l1⟩:=h1.un
 obtain⟨c,ys,rfl,q2,l2⟩:=h2.un
 exact⟨a,b,c,xs,ys,rfl,q,q1,l1,q2,l2⟩
structure StOk (net:Net) (held coming:List Int) (doors:List Bool):Prop where
 h:held.length=net.vs.length
 c:coming.length=net.vs.length
 d:doors.length=net.sps.length
theorem iR:FnScope ["net","state","poured","vessels","spouts","held","tipped","sent","number","has","left","tips","coming","doors"] ["net","state","poured"] (aM (bK 13)):=⟨rfl,rfl,rfl,by decide +kernel,rfl,by decide +kernel,by decide +kernel⟩
end
end Tw
namespace Tw
open PySem L2
section
variable {P:Program}{w:World}{K:aaa}{mg:Str->Option Value}{base:Heap}
noncomputable def dU (H:Hp) (t sl:Addr):Prop:=∃ (ns:List Int) (pos cell:Int),H t=some (.lst [.ref sl,.int pos,.int cell])/\H sl=some (.lst (ns.map V.int))/\ns.length<=1000
theorem dU.mut {H:Hp}{t sl:Addr} (h:dU H t sl):kR (H t):=by obtain⟨ns,pos,cell,e,_⟩:=h;rw[e];exact trivial
theorem dU.same {H H':Hp}{t sl:Addr} (h:dU H t sl) (s:aF H H'):dU H' t sl:=by
 obtain⟨ns,pos,cell,e,f,g⟩:=h;exact⟨ns,pos,cell,s _ _ e,s _ _ f,g⟩
noncomputable def fY:Sp:=λ vs H Q _=>∃ (t sl:Addr) (many:Int),vs=[.ref t,.int many]/\dU H t sl/\0 < many/\many < 1000000/\
 ∀ (r:Int) H',cP t H H'->dU H' t sl->0<=r->r < many->Q (.int r) H'
noncomputable def CK:Sp:=λ vs H Q _=>∃ (t sl:Addr) (many:Int),vs=[.ref t,.int many]/\dU H t sl/\0 < many/\many < 2 ^ 200/\
 ∀ (r:Int) H',cP t H H'->dU H' t sl->0<=r->r < many->Q (.int r) H'
noncomputable abbrev rJ (K:aaa):TS:=eP (jN (hU (rI (λ _ j=>0 < j) λ i j=>.int (i % j)) (hU (uX K) (dN 0) (tC (.int 2))) (dN 1)) (gE 4)) (eP (jN (hU (rI EF λ i j=>.int (i / j)) (hU (uX K) (dN 0) (tC (.int 2))) (dN 1)) (BB (dN 0) (tC (.int 2)) tI)) (GT (dN 4)))
noncomputable abbrev zO (K:aaa):TS:=eP (jN (hU (rK λ i j=>.int (i+j)) (hU (uX K) (dN 0) (tC (.int 1))) (tC (.int 1))) (BB (dN 0) (tC (.int 1)) tI)) (jN (dN 3) (BB (dN 0) (tC (.int 2)) tI))
noncomputable abbrev zP (K:aaa):TS:=eP (jN (hU (rI (λ _ j=>0 < j) λ i j=>.int (i % j)) (hU (rK λ i j=>.int (i+j)) (dN 3) (hU (rI uH λ i j=>.int (i * j)) (tC (.int 1000003)) (hU (uX K) (dN 0) (tC (.int 1))))) (dN 2)) (gE 3)) (eP (jN (hU (rI (λ _ j=>0 < j) λ i j=>.int (i % j)) (hU (rK λ i j=>.int (i+j)) (hU (rK λ i j=>.int (i+j)) (hU (rI uH λ i j=>.int (i * j)) (dN 3) (dN 3)) (hU (rI uH λ i j=>.int (i * j)) (tC (.int 1181783497276652981)) (dN 3))) (tC (.int 2049848353892358983))) (dN 2)) (gE 3)) (jN (hU (rI (λ _ j=>0 < j) λ i j=>.int (i % j)) (hU (rK λ i j=>.int (i+j)) (hU (rI uH λ i j=>.int (i * j)) (dN 3) (dN 3)) (tC (.int 1442695040888963407))) (dN 2)) (gE 3)))
noncomputable abbrev EZ (K:aaa):TT:=tOr (vX (hU (rK λ i j=>.bl (decide (j<=i))) (hU (uX K) (dN 0) (tC (.int 1))) (GM (HD K) (d0 (hU (uX K) (dN 0) (tC (.int 0))) mD)))) (vX (hU (rK λ i j=>.bl (decide (i < j))) (dN 3) (hU (rI IJ λ i j=>.int (i ^ j.toNat)) (tC (.int 10)) (tC (.int 18)))))
noncomputable abbrev dE (Q:VK):Ends:={ nx:=λ _ H'=>Q .non H',rt:=Q }
theorem lF:FnScope ["tape","many","prime","cell","found"] ["tape","many"] (aM (bK 26)):=⟨rfl,rfl,rfl,by decide +kernel,rfl,by decide +kernel,by decide +kernel⟩
theorem pN {f:Addr}{fd:FuncData} (F:Fun K "_law_draw" "_law_draw" (bK 26) f fd) (T:Txt mg):FnOk P w K mg base iM 1 f fd ["tape","many"] CK:=by
 refine F.ok lF (λ vs H Q E h=>?_) (λ cdv A outer s H vs Q E hr h=>?_)
 ·obtain⟨t,sl,many,rfl,_⟩:=h;rfl
 ·obtain⟨t,sl,many,rfl,⟨ns,pos,cell,ht,hsl,hns⟩,hm0,hm1,k⟩:=h
  have sc:=lF
  refine⟨_,(aD (aP (i:=2) sc.nd rfl (Or.inl rfl) aE)
   (aD (cF (bB oH (aQ (aJ (K:=K) rfl) (pv 0) aE (λ _ _=>rfl)) (pv 1) (bH _)) (aD (aP (i:=3) sc.nd rfl (Or.inl rfl) aE)
   (aD (cF (bB tO (aR (bA (K:=K) rfl) rfl T.b_len aar (aA (aQ (aJ (K:=K) rfl) (pv 0) aE (λ _ _=>rfl)) aC)) aE (bH _)) (aK (aP (i:=3) sc.nd rfl (Or.inl rfl) (aQ (aJ (K:=K) rfl) (aQ (aJ (K:=K) rfl) (pv 0) aE (λ _ _=>rfl)) (aU iC (aQ (aJ (K:=K) rfl) (pv 0) aE (λ _ _=>rfl)) (aR (bA (K:=K) rfl) rfl T.b_len aar (aA (aQ (aJ (K:=K) rfl) (pv 0) aE (λ _ _=>rfl)) aC))) (λ _ _=>rfl)))) bL)
   (aD (cF (PW.pt (n4 (bB A9 (aQ (aJ (K:=K) rfl) (pv 0) aE (λ _ _=>rfl)) (aR (bA (K:=K) rfl) rfl T.b_len aar (aA (aQ (aJ (K:=K) rfl) (pv 0) aE (λ _ _=>rfl)) aC)) (bH _)) (mK (bB oH (pv 3) (aU FL aE aE) (bH _))))) (aD (aP (i:=3) sc.nd rfl (Or.inl rfl) (aU iC (aU cB (pv 3) (aU iB aE (aQ (aJ (K:=K) rfl) (pv 0) aE (λ _ _=>rfl)))) (pv 2)))
   (aD (aP (i:=3) sc.nd rfl (Or.inl rfl) (aU iC (aU cB (aU cB (aU iB (pv 3) (pv 3)) (aU iB aE (pv 3))) aE) (pv 2)))
   (aK (aP (i:=3) sc.nd rfl (Or.inl rfl) (aU iC (aU cB (aU iB (pv 3) (pv 3)) aE) (pv 2)))))) bL)
   (aD (cN (aU cB (aQ (aJ (K:=K) rfl) (pv 0) aE (λ _ _=>rfl)) aE) (mO (pv 0) aE fZ))
   (aK (cN (pv 3) (mO (pv 0) aE fZ))))))) bL)
   (aD (aP (i:=4) sc.nd rfl (Or.inl rfl) (aU iC (aQ (aJ (K:=K) rfl) (pv 0) aE (λ _ _=>rfl)) (pv 1)))
   (aD (cN (aU AA (aQ (aJ (K:=K) rfl) (pv 0) aE (λ _ _=>rfl)) (pv 1)) (mO (pv 0) aE fZ))
   (aK (bC (pv 4))))))),?_⟩
  have nst:sl≠t:=E6 hsl ht (by intro z;injection z with z;cases ns <;> simp at z)
  have ix:∀ {H1:Hp}{p' c':Int}{Q:VK},H1 t=some (.lst [.ref sl,.int p',.int c'])->Q (.ref sl) H1->uX K (.ref t) (.int 0) H1 Q:=λ e q=>.inl ⟨t,_,0,_,rfl,rfl,bT.of e,rfl,q⟩
  have ix1:∀ {H1:Hp}{p' c':Int}{Q:VK},H1 t=some (.lst [.ref sl,.int p',.int c'])->Q (.int p') H1->uX K (.ref t) (.int 1) H1 Q:=λ e q=>.inl ⟨t,_,1,_,rfl,rfl,bT.of e,rfl,q⟩
  have FW:∀ {H1:Hp}{p' c':Int}{Q:VK},H1 t=some (.lst [.ref sl,.int p',.int c'])->Q (.int c') H1->uX K (.ref t) (.int 2) H1 Q:=λ e q=>.inl ⟨t,_,2,_,rfl,rfl,bT.of e,rfl,q⟩
  have tail:∀ (v3:Option V) (H1:Hp) (p' c':Int),cP t H H1->H1 t=some (.lst [.ref sl,.int p',.int c'])->rJ K (dE Q) [some (.ref t),some (.int many),some (.int 2305843009213693951),v3,none] H1:=by
   intro v3 H1 p' c' bt e
   refine⟨_,rfl,FW e ⟨_,rfl,_,_,rfl,rfl,hm0,?_⟩⟩
   refine⟨_,rfl,FW e ⟨_,rfl,_,_,rfl,rfl,⟨hm0,hm1⟩,_,rfl,t,_,2,2,rfl,rfl,e,rfl,_,rfl,?_⟩⟩
   refine k _ _ (bt.trans cP.upd) ⟨ns,p',c' / many,aB,?_,hns⟩ (Int.emod_nonneg _ (by omega)) (Int.emod_lt_of_pos _ hm0)
   rw[aO nst];exact bt sl _ nst hsl
  refine⟨_,rfl,FW ht ⟨_,rfl,_,_,rfl,rfl,_,rfl,?_⟩⟩
  refine eM (λ _=>?_) (λ _=>tail none H pos cell (cP.refl H) ht)
  have mid:∀ (c':Int),zO K { nx:=rJ K (dE Q),rt:=Q } [some (.ref t),some (.int many),some (.int 2305843009213693951),some (.int c'),none] H:=by
   intro c'
   refine⟨_,rfl,ix1 ht ⟨_,_,rfl,rfl,_,rfl,t,_,1,1,rfl,rfl,ht,rfl,?_⟩⟩
   refine⟨_,rfl,_,rfl,t,_,2,2,rfl,rfl,aB,rfl,?_⟩
   exact tail (some (.int c')) _ (pos+1) c' (cP.upd.trans cP.upd) aB
  have big:∀ (c':Int),eP (zB (EZ K) (zP K) yZ) (zO K) { nx:=rJ K (dE Q),rt:=Q } [some (.ref t),some (.int many),some (.int 2305843009213693951),some (.int c'),none] H:=by
   intro c'
   have body:∀ σ,σ=[some (.ref t),some (.int many),some (.int 2305843009213693951),some (.int c'),none]->zP K { nx:=zO K { nx:=rJ K (dE Q),rt:=Q },rt:=Q } σ H:=by
    rintro σ rfl
    have prime:(0:Int) < 2305843009213693951:=by decide
    refine⟨_,rfl,_,rfl,ix1 ht ⟨_,_,rfl,rfl,.inl ⟨by decide,by decide⟩,_,_,rfl,rfl,_,rfl,_,_,rfl,rfl,prime,?_⟩⟩
    have b1:=Int.emod_nonneg (c'+1000003 * pos) (show (2305843009213693951:Int)≠0 by decide)
    have b2:=Int.emod_lt_of_pos (c'+1000003 * pos) prime
    generalize (c'+1000003 * pos) % 2305843009213693951=c1 at b1 b2
    refine⟨_,rfl,_,rfl,_,_,rfl,rfl,.inl ⟨by omega,by omega⟩,_,rfl,_,_,rfl,rfl,.inl ⟨by decide,by decide⟩,_,_,rfl,rfl,_,_,rfl,rfl,_,rfl,_,_,rfl,rfl,prime,?_⟩
    have b3:=Int.emod_nonneg (c1 * c1+1181783497276652981 * c1+2049848353892358983) (show (2305843009213693951:Int)≠0 by decide)
    have b4:=Int.emod_lt_of_pos (c1 * c1+1181783497276652981 * c1+2049848353892358983) prime
    generalize (c1 * c1+1181783497276652981 * c1+2049848353892358983) % 2305843009213693951=c2 at b3 b4
    refine⟨_,rfl,_,rfl,_,_,rfl,rfl,.inl ⟨by omega,by omega⟩,_,_,rfl,rfl,_,rfl,_,_,rfl,rfl,prime,?_⟩
    exact mid _
   refine⟨_,rfl,ix1 ht ⟨_,rfl,ix ht ⟨sl,_,rfl,.inl (bT.of hsl),_,_,rfl,rfl,_,rfl,?_⟩⟩⟩
   refine eM (λ _=>?_) (λ _=>?_)
   ·refine gF ?_
    exact body _ rfl
   ·refine⟨_,rfl,_,_,rfl,rfl,⟨by decide,by decide,by decide⟩,_,_,rfl,rfl,_,rfl,?_⟩
    refine eM (λ _=>body _ rfl) (λ _=>mid _)
  refine⟨_,rfl,ix ht ⟨sl,_,rfl,.inl (bT.of hsl),_,_,rfl,rfl,_,rfl,?_⟩⟩
  refine eM (λ hlen=>?_) (λ _=>big 0)
  have hpos:0 < ns.length:=by have:=of_decide_eq_true hlen;simpa using this
  refine⟨_,rfl,ix ht ⟨_,rfl,ix1 ht ⟨_,rfl,ix ht ⟨sl,_,rfl,.inl (bT.of hsl),_,_,rfl,rfl,(show (0:Int) < (((ns.map V.int).length:Nat):Int) by rw[aac];omega),?_⟩⟩⟩⟩
  have m1:=Int.emod_nonneg pos (show (((ns.map V.int).length:Nat):Int)≠0 by rw[aac];omega)
  have m2:=Int.emod_lt_of_pos pos (show (0:Int) < (((ns.map V.int).length:Nat):Int) by rw[aac];omega)
  rw[aac] at m1 m2
  have hix:(ns.map V.int)[(pos % ((ns.map V.int).length:Int)).toNat]? = some (.int (ns[(pos % (ns.length:Int)).toNat]'(by omega))):=by
   rw[aac,aah];simp [show (pos % (ns.length:Int)).toNat < ns.length by omega]
  refine .inl ⟨sl,_,_,_,rfl,rfl,bT.of hsl,nR (by rw[aac];exact m1) hix,?_⟩
  exact big _
theorem rZ {f:Addr}{fd:FuncData} (F:Fun K "_law_draw" "_law_draw" (bK 26) f fd) (T:Txt mg):FnOk P w K mg base iM 1 f fd ["tape","many"] fY:=
 (pN F T).imp λ vs H Q E ⟨t,sl,many,e,tp,h0,h1,k⟩=>⟨t,sl,many,e,tp,h0,Int.lt_of_lt_of_le h1 (by decide),k⟩
end
end Tw
namespace Tw
open PySem L2
structure Ext (t sl:Addr) (H H':Hp):Prop where
 bt:cP t H H'
 tp:dU H' t sl
theorem dU.some {H:Hp}{t sl:Addr} (h:dU H t sl):∃ o,H t=some o:=by obtain⟨ns,pos,cell,e,_⟩:=h;exact⟨_,e⟩
theorem dU.put {H:Hp}{t sl p:Addr}{o:HO} (h:dU H t sl) (h1:p≠t) (h2:p≠sl):dU (upd H p o) t sl:=by
 obtain⟨ns,pos,cell,e,f,g⟩:=h
 exact⟨ns,pos,cell,by rw[aO (Ne.symm h1)];exact e,by rw[aO (Ne.symm h2)];exact f,g⟩
theorem dU.ne_sl {H:Hp}{t sl p:Addr} (h:dU H t sl) (hp:H p=none):p≠sl:=by
 obtain⟨ns,pos,cell,e,f,g⟩:=h
 exact λ z=>by rw[z,f] at hp;cases hp
theorem Ext.new {t sl p:Addr}{H H':Hp}{o:HO} (e:Ext t sl H H') (hp:H' p=none):Ext t sl H (upd H' p o):=⟨e.bt.trans (aF.new hp).but,e.tp.same (aF.new hp)⟩
theorem Ext.ne {t sl p:Addr}{H H':Hp} (e:Ext t sl H H') (hp:H' p=none):p≠t:=by
 obtain⟨o,h⟩:=e.tp.some
 intro z;rw[z,h] at hp;cases hp
theorem Ext.ts {K:aaa}{t sl:Addr}{H H':Hp} (e:Ext t sl H H') (tp:dU H t sl):bV K H H':=e.bt.ts tp.mut
noncomputable def Gn (t sl:Addr) (σ:St) (H0:Hp) (P:V->Prop) (te:TE):Prop:=∀ H Q,Ext t sl H0 H->(∀ v H',Ext t sl H0 H'->cP t H H'->P v->Q v H')->te σ H Q
section
variable {K:aaa}{t sl:Addr}{σ:St}{H0:Hp}{P:V->Prop}{a b c d:TE}
noncomputable def d4 (lo hi:Int):V->Prop:=λ v=>∃ i,v=.int i/\lo<=i/\i < hi
theorem Gn.imp {P':V->Prop} (h:Gn t sl σ H0 P a) (f:∀ v,P v->P' v):Gn t sl σ H0 P' a:=λ H Q e k=>h H Q e λ v H' e' b p=>k v H' e' b (f v p)
theorem oU {v:V} (h:P v):Gn t sl σ H0 P (tC v):=λ H Q e k=>k v H e (cP.refl H) h
theorem HV {i:Nat}{v:V} (bq:σ[i]? = some (some v)) (h:P v):Gn t sl σ H0 P (dN i):=λ H Q e k=>⟨v,bq,k v H e (cP.refl H) h⟩
theorem gD (ha:Gn t sl σ H0 P a) (hb:Gn t sl σ H0 P b) (hc:Gn t sl σ H0 (d4 0 2) c):Gn t sl σ H0 P (hU (uX K) (CJ (d0 a (d0 b mD))) c):=by
 intro H Q e k
 refine ha H _ e λ v1 H1 e1 b1 p1=>hb H1 _ e1 λ v2 H2 e2 b2 p2=>⟨(show 2<=sizeLine by decide),λ p hp=>hc _ _ (e2.new hp) λ v H3 e3 b3 ⟨i,hi,h0,h1⟩=>?_⟩
 subst hi
 have hl:=b3 p _ (e2.ne hp) aB
 have hb:cP t H H3:=b1.trans (b2.trans ((aF.new hp).but.trans b3))
 rcases (show i=0\/i=1 by omega) with rfl | rfl
 ·exact .inl ⟨p,_,0,v1,rfl,rfl,bT.of hl,rfl,k v1 H3 e3 hb p1⟩
 ·exact .inl ⟨p,_,1,v2,rfl,rfl,bT.of hl,rfl,k v2 H3 e3 hb p2⟩
theorem u9 (ha:Gn t sl σ H0 P a) (hb:Gn t sl σ H0 P b) (hd:Gn t sl σ H0 P d) (hc:Gn t sl σ H0 (d4 0 3) c):Gn t sl σ H0 P (hU (uX K) (CJ (d0 a (d0 b (d0 d mD)))) c):=by
 intro H Q e k
 refine ha H _ e λ v1 H1 e1 b1 p1=>hb H1 _ e1 λ v2 H2 e2 b2 p2=>hd H2 _ e2 λ v4 H4 e4 b4 p4=>⟨(show 3<=sizeLine by decide),λ p hp=>hc _ _ (e4.new hp) λ v H3 e3 b3 ⟨i,hi,h0,h1⟩=>?_⟩
 subst hi
 have hl:=b3 p _ (e4.ne hp) aB
 have hb:cP t H H3:=b1.trans (b2.trans (b4.trans ((aF.new hp).but.trans b3)))
 rcases (show i=0\/i=1\/i=2 by omega) with rfl | rfl | rfl
 ·exact .inl ⟨p,_,0,v1,rfl,rfl,bT.of hl,rfl,k v1 H3 e3 hb p1⟩
 ·exact .inl ⟨p,_,1,v2,rfl,rfl,bT.of hl,rfl,k v2 H3 e3 hb p2⟩
 ·exact .inl ⟨p,_,2,v4,rfl,rfl,bT.of hl,rfl,k v4 H3 e3 hb p4⟩
theorem sF {i:Nat}{lo hi:Int} (bq:σ[i]? = some (some (.ref t))) (hlo:0 < lo) (hhi:hi<=1000000) (ha:Gn t sl σ H0 (d4 lo hi) a):Gn t sl σ H0 (λ v=>∃ r m,v=.int r/\0<=r/\r < m/\lo<=m/\m < hi) (pX fY [] E0 (d0 (dN i) (d0 a mD))):=by
 intro H Q e k
 refine⟨_,bq,ha H _ e λ v H1 e1 b1 ⟨m,hm,h0,h1⟩=>?_⟩
 subst hm
 exact⟨t,sl,m,rfl,e1.tp,by omega,by omega,λ r H2 b2 t2 r0 r1=>k _ H2 ⟨e1.bt.trans b2,t2⟩ (b1.trans b2) ⟨r,m,rfl,r0,r1,h0,h1⟩⟩
theorem bY {i:Nat}{m:Int} (bq:σ[i]? = some (some (.ref t))) (h0:0 < m) (h1:m < 1000000):Gn t sl σ H0 (d4 0 m) (pX fY [] E0 (d0 (dN i) (d0 (tC (.int m)) mD))):=
 (sF (lo:=m) (hi:=m+1) bq h0 (by omega) (oU ⟨m,rfl,by omega,by omega⟩)).imp λ v ⟨r,m',e,a,b,c,d⟩=>⟨r,e,a,by omega⟩
theorem j5 {i j:Nat}{m:Int} (bq:σ[i]? = some (some (.ref t))) (hj:σ[j]? = some (some (.int m))) (h0:0 < m) (h1:m < 1000000):Gn t sl σ H0 (d4 0 m) (pX fY [] E0 (d0 (dN i) (d0 (dN j) mD))):=
 (sF (lo:=m) (hi:=m+1) bq h0 (by omega) (HV hj ⟨m,rfl,by omega,by omega⟩)).imp λ v ⟨r,m',e,a,b,c,d⟩=>⟨r,e,a,by omega⟩
theorem sG {x y l h:Int} (ha:Gn t sl σ H0 (d4 x y) a) (hb:Gn t sl σ H0 (d4 l h) b):Gn t sl σ H0 (d4 (x+l) (y+h - 1)) (hU (rK λ i j=>.int (i+j)) a b):=by
 intro H Q e k
 refine ha H _ e λ v1 H1 e1 b1 ⟨i,hi,i0,i1⟩=>hb H1 _ e1 λ v2 H2 e2 b2 ⟨j,hj,j0,j1⟩=>?_
 subst hi hj
 exact⟨i,j,rfl,rfl,k _ H2 e2 (b1.trans b2) ⟨_,rfl,by omega,by omega⟩⟩
theorem B0 {y m:Int} (hm:0 < m) (hm2:m < 1000000) (ha:Gn t sl σ H0 (d4 0 y) a):Gn t sl σ H0 (λ v=>∃ i,v=.int (i / m)/\0<=i/\i < y) (hU (rI GK λ i j=>.int (i / j)) a (tC (.int m))):=by
 intro H Q e k
 refine ha H _ e λ v1 H1 e1 b1 ⟨i,hi,i0,i1⟩=>?_
 subst hi
 exact⟨i,m,rfl,rfl,⟨hm,by omega⟩,k _ H1 e1 b1 ⟨i,rfl,i0,i1⟩⟩
theorem vM {y c0:Int} (ha:Gn t sl σ H0 (d4 0 y) a):Gn t sl σ H0 (λ v=>∃ b:Bool,v=.bl b) (hU rEq a (tC (.int c0))):=by
 intro H Q e k
 refine ha H _ e λ v1 H1 e1 b1 ⟨i,hi,i0,i1⟩=>?_
 subst hi
 exact⟨rfl,k _ H1 e1 b1 ⟨_,rfl⟩⟩
theorem FZ {y c0:Int} (ha:Gn t sl σ H0 (d4 0 y) a):Gn t sl σ H0 (λ v=>∃ b:Bool,v=.bl b) (hU (rK λ i j=>.bl (decide (j < i))) a (tC (.int c0))):=by
 intro H Q e k
 refine ha H _ e λ v1 H1 e1 b1 ⟨i,hi,i0,i1⟩=>?_
 subst hi
 exact⟨i,c0,rfl,rfl,k _ H1 e1 b1 ⟨_,rfl⟩⟩
noncomputable abbrev zS:List V->Hp->VK->Prop:=λ xs H Q=>(∃ i,xs=[.int i]/\Q (.int i) H)\/∃ k,xs=[.bl k]/\Q (.int (if k then 1 else 0)) H
theorem AZ {i:Nat}{s:Bool} (bq:σ[i]? = some (some (.bl s))):Gn t sl σ H0 (d4 0 2) (GM zS (d0 (dN i) mD)):=by
 intro H Q e k
 refine⟨_,bq,.inr ⟨s,rfl,k _ H e (cP.refl H) ?_⟩⟩
 cases s
 ·exact⟨0,rfl,by omega,by omega⟩
 ·exact⟨1,rfl,by omega,by omega⟩
theorem nI {i:Nat}{s:Bool}{x y lo hi:Int} (bq:σ[i]? = some (some (.bl s))) (h1:lo<=x/\x < hi) (h2:lo<=y/\y < hi):Gn t sl σ H0 (d4 lo hi) (hU (uX K) (CJ (d0 (tC (.int x)) (d0 (tC (.int y)) mD))) (GM zS (d0 (dN i) mD))):=
 gD (oU ⟨x,rfl,h1.1,h1.2⟩) (oU ⟨y,rfl,h2.1,h2.2⟩) (AZ bq)
theorem nJ (ha:Gn t sl σ H0 (d4 0 4) a):Gn t sl σ H0 (d4 0 2) (hU (rI GK λ i j=>.int (i / j)) a (tC (.int 3))):=
 (B0 (by decide) (by decide) ha).imp λ v ⟨i,e,a,b⟩=>⟨i / 3,e,by omega,by omega⟩
theorem jZ {lo hi lo' hi':Int} (h:Gn t sl σ H0 (d4 lo hi) a) (h1:lo'<=lo) (h2:hi<=hi'):Gn t sl σ H0 (d4 lo' hi') a:=h.imp λ v ⟨i,e,a,b⟩=>⟨i,e,by omega,by omega⟩
theorem j6 {i:Nat}{lo hi:Int} (bq:σ[i]? = some (some (.ref t))) (hlo:0 < lo) (hhi:hi<=1000000) (ha:Gn t sl σ H0 (d4 lo hi) a):Gn t sl σ H0 (d4 0 (hi - 1)) (pX fY [] E0 (d0 (dN i) (d0 a mD))):=
 (sF bq hlo hhi ha).imp λ v ⟨r,m,e,a,b,c,d⟩=>⟨r,e,a,by omega⟩
end
section
variable {P:Program}{w:World}{K:aaa}{mg:Str->Option Value}{base:Heap}
noncomputable def uU (K:aaa):Sp:=λ args H Q _=>∃ (t sl:Addr) (n:Nat) (small:Bool),args=[.ref t,.int (n:Int),.bl small]/\dU H t sl/\1<=n/\n<=12/\
 ∀ (outs:List (Option Int×Int)) p H',Ext t sl H H'->outs≠[]->outs.length<=3->(∀ o∈outs,OutOk n o)->Is K H' (.tup (outs.map outD)) p->Q p H'
theorem lE:FnScope ["tape","many","small","outs","k","target","parts"] ["tape","many","small"] (aM (bK 29)):=⟨rfl,rfl,rfl,by decide +kernel,rfl,by decide +kernel,by decide +kernel⟩
theorem rX {f fD:Addr}{fd fdD:FuncData} (F:Fun K "_law_outs" "_law_outs" (bK 29) f fd) (T:Txt mg) (G__law_draw:Callee P w K mg base "_law_draw" ["tape","many"] 1 fY fD fdD):FnOk P w K mg base iM 2 f fd ["tape","many","small"] (uU K):=by
 refine F.ok lE (λ vs H Q E h=>?_) (λ cdv A outer s H vs Q E hr h=>?_)
 ·obtain⟨t,sl,n,small,rfl,_⟩:=h;rfl
 ·obtain⟨t,sl,n,small,rfl,tp,n1,n2,k⟩:=h
  have sc:=lE
  refine⟨_,(aD (aP (i:=3) sc.nd rfl (Or.inl rfl) (bG aC))
   (aD (cS PassesOwn.never rfl (cK rfl T.b_range (aA (aU cB aE (aQ (aJ (K:=K) rfl) (bG (aA (d5 G__law_draw hr (aA (pv 0) (aA aE aC))) (aA (d5 G__law_draw hr (aA (pv 0) (aA aE aC))) aC))) (d5 G__law_draw hr (aA (pv 0) (aA aE aC))) (λ _ _=>rfl))) aC)) (aH (i:=4) sc.nd rfl (Or.inl rfl)) (aD (aP (i:=5) sc.nd rfl (Or.inl rfl) (aQ (aJ (K:=K) rfl) (bG (aA eQ (aA (d5 G__law_draw hr (aA (pv 0) (aA (pv 1) aC))) (aA (d5 G__law_draw hr (aA (pv 0) (aA (pv 1) aC))) aC)))) (d5 G__law_draw hr (aA (pv 0) (aA aE aC))) (λ _ _=>rfl)))
   (aD (aP (i:=6) sc.nd rfl (Or.inl rfl) (aQ (aJ (K:=K) rfl) (bG (aA (d5 G__law_draw hr (aA (pv 0) (aA aE aC))) (aA (d5 G__law_draw hr (aA (pv 0) (aA (aQ (aJ (K:=K) rfl) (bG (aA aE (aA aE aC))) (aZ fW rfl T.b_int kN (aA (pv 2) aC)) (λ _ _=>rfl)) aC))) aC))) (aU gM (d5 G__law_draw hr (aA (pv 0) (aA aE aC))) aE) (λ _ _=>rfl)))
   (aK (cV (eA (K:=K) rfl aas aau aav cD (pv 3) (aA (aV (aA (pv 5) (aA (aU cB aE (pv 6)) aC))) aC)))))))
   (aK (bC (aZ (bO (K:=K) rfl) rfl T.b_tuple bR (aA (pv 3) aC)))))),?_⟩
  refine⟨Nat.zero_le _,λ ol hol=>?_⟩
  have e0:Ext t sl H (upd H ol (.lst [])):=Ext.new ⟨cP.refl H,tp⟩ hol
  have no:ol≠t:=Ext.ne ⟨cP.refl H,tp⟩ hol
  refine sG (x:=1) (y:=2) (l:=0) (h:=3) (H0:=upd H ol (.lst [])) (t:=t) (sl:=sl) (oU ⟨1,rfl,by omega,by omega⟩)
   (gD (jZ (bY rfl (by decide) (by decide)) (Int.le_refl _) (by decide)) (bY rfl (by decide) (by decide)) (bY rfl (by decide) (by decide))) _ _ ⟨cP.refl _,e0.tp⟩ ?_
  rintro v H1 e1 _ ⟨m,rfl,m0,m1⟩
  refine⟨m,rfl,by omega,by omega,?_⟩
  refine dS (lo:=0) (n:=m.toNat) (λ i ac H'=>Ext t sl H H'/\∃ (outs:List (Option Int×Int)) (xs:List V),H' ol=some (.lst xs)/\IsL K H' (outs.map outD) xs/\outs.length=i/\(∀ o∈outs,OutOk n o)/\
   ∃ v4 v5 v6,ac=[some (.ref t),some (.int (n:Int)),some (.bl small),some (.ref ol),v4,v5,v6]) ?_ ?_ ?_
  ·exact⟨⟨e0.bt.trans e1.bt,e1.tp⟩,[],[],e1.bt ol _ no aB,.nil,rfl,λ o ho=>(nomatch ho),none,none,none,rfl⟩
  ·rintro i ac H2 hi ⟨e2,outs,xs,ho,hl,hlen,hok,v4,v5,v6,rfl⟩
   refine u9 (H0:=H2) (t:=t) (sl:=sl) (P:=λ v=>∃ o:Option Int,v=fR o/\∀ z,o=some z->0<=z/\z < n) (oU ⟨none,rfl,λ z h=>nomatch h⟩)
    ((j5 (m:=(n:Int)) rfl rfl (by omega) (by omega)).imp λ v ⟨r,e,a,b⟩=>⟨some r,e,λ z h=>by cases h;exact⟨a,by omega⟩⟩)
    ((j5 (m:=(n:Int)) rfl rfl (by omega) (by omega)).imp λ v ⟨r,e,a,b⟩=>⟨some r,e,λ z h=>by cases h;exact⟨a,by omega⟩⟩) (bY rfl (by decide) (by decide)) _ _ ⟨cP.refl _,e2.tp⟩ ?_
   rintro v H3 e3 _ ⟨tg,rfl,htg⟩
   refine gD (H0:=H3) (t:=t) (sl:=sl) (P:=d4 0 60) (jZ (bY rfl (by decide) (by decide)) (Int.le_refl _) (by decide))
    (jZ (j6 (lo:=3) (hi:=61) rfl (by decide) (by decide) (nI rfl ⟨by decide,by decide⟩ ⟨by decide,by decide⟩)) (Int.le_refl _) (by decide)) (nJ (bY rfl (by decide) (by decide))) _ _ ⟨cP.refl _,e3.tp⟩ ?_
   rintro v H4 e4 _ ⟨pt,rfl,p0,p1⟩
   have ho4:H4 ol=some (.lst xs):=e4.bt ol _ no (e3.bt ol _ no ho)
   refine⟨_,rfl,.inl ⟨rfl,_,bT.of ho4⟩,_,rfl,_,rfl,_,_,rfl,rfl,(show 2<=sizeLine by decide),λ q hq=>?_⟩
   have nq:ol≠q:=aL ho4 hq
   have hxl:xs.length=outs.length:=by rw[hl.length,aac]
   have hm3:m.toNat<=3:=by omega
   refine⟨ol,xs,_,rfl,rfl,by rw[aO nq];exact ho4,aY (by omega),?_⟩
   have e5:Ext t sl H2 (upd H4 q (.tup [fR tg,.int (1+pt)])):=Ext.new ⟨e3.bt.trans e4.bt,e4.tp⟩ hq
   have ts:bV K H2 (upd (upd H4 q (.tup [fR tg,.int (1+pt)])) ol (.lst (xs++[.ref q]))):=bV.put (e5.ts e2.tp) (.inr (by rw[aO nq,ho4];exact trivial))
   refine⟨⟨λ b o hb e=>?_,?_⟩,outs++[(tg,1+pt)],xs++[.ref q],aB,?_,by simp [hlen],?_,_,_,_,rfl⟩
   ·rw[aO (aL e hol)];exact e5.bt b o hb (e2.bt b o hb e)
   ·exact e5.tp.put no (dU.ne_sl tp hol)
   ·rw[aae]
    exact IsL.snoc (Is.tupOf (ds:=[uN tg,.int (1+pt)]) (bV.put (bV.refl _) (.inr (by rw[aO nq,ho4];exact trivial)) _ _ (bD.of aB)) (.cons (Is.tgOf tg) (.cons (Is.i _) .nil))) (IsL.mono ts _ _ hl)
   ·intro o ho
    rcases abd.mp ho with ho | ho
    ·exact hok o ho
    ·rw[aaw.mp ho]
     exact⟨λ z hz=>htg z hz,by show 1<=1+pt;omega,by show 1+pt<=60;omega⟩
  ·rintro ac H2 ⟨e2,outs,xs,ho,hl,hlen,hok,v4,v5,v6,rfl⟩
   refine⟨_,rfl,ol,_,rfl,.inl ⟨bT.of ho,λ l hlf=>?_⟩⟩
   refine k outs _ _ (e2.new hlf) (λ z=>by rw[z] at hlen;simp at hlen;omega) (by omega) hok (Is.tupOf (bD.of aB) (IsL.mono (aF.new hlf).ts _ _ hl))
end
end Tw
namespace L2
theorem wL {c:TT}{a b:TS}{D:Ends}{σ:St}{H:Hp} (I:St->Hp->Prop) (h1:∀ D':Ends,(∀ ac H',I ac H'->D'.nx ac H')->zB c a b D' σ H) (h2:∀ ac H',I ac H'->D.nx ac H'):zB c a b D σ H:=h1 D h2
theorem rH {s R:TS}{D:Ends}{σ:St}{H:Hp} (I:St->Hp->Prop) (h1:∀ D':Ends,(∀ ac H',I ac H'->D'.nx ac H')->s D' σ H) (h2:∀ ac H',I ac H'->R D ac H'):eP s R D σ H:=h1 _ h2
end L2
namespace Tw
open PySem L2
section
variable {K:aaa}{t sl:Addr}{σ:St}{H0:Hp}{P:V->Prop}{a b c d:TE}
theorem AS {y c0:Int}{t' u':TS}{D':Ends}{H:Hp} (ha:Gn t sl σ H0 (d4 0 y) a) (e:Ext t sl H0 H) (k:∀ (b:Bool) H',Ext t sl H0 H'->cP t H H'->if b=true then t' D' σ H' else u' D' σ H'):zB (vX (hU rEq a (tC (.int c0)))) t' u' D' σ H:=
 vM ha H _ e λ v H' e' b ⟨c,hc⟩=>⟨c,hc,k c H' e' b⟩
theorem xW {i:Nat}{s:Bool} (bq:σ[i]? = some (some (.bl s))) (ha:Gn t sl σ H0 (d4 0 2) a):Gn t sl σ H0 (d4 0 2) (hU (rI uH λ i j=>.int (i * j)) a (GM zS (d0 (DR (dN i)) mD))):=by
 intro H Q e k
 refine ha H _ e λ v1 H1 e1 b1 ⟨j,hj,j0,j1⟩=>⟨_,bq,s,rfl,.inr ⟨!s,rfl,?_⟩⟩
 subst hj
 refine⟨j,_,rfl,rfl,.inl ⟨by omega,by omega⟩,k _ H1 e1 b1 ?_⟩
 cases s
 ·exact⟨j,by simp,j0,j1⟩
 ·exact⟨0,by simp,by omega,by omega⟩
theorem AY {j:Nat}{x y:Int} (hj:σ[j]? = some (some (.int y))):Gn t sl σ H0 (d4 (x - y) (x - y+1)) (hU (rK λ i j=>.int (i - j)) (tC (.int x)) (dN j)):=λ H Q e k=>
 ⟨_,hj,x,y,rfl,rfl,k _ H e (cP.refl H) ⟨_,rfl,by omega,by omega⟩⟩
theorem wO {j:Nat}{y l h:Int} (hj:σ[j]? = some (some (.int y))) (hb:Gn t sl σ H0 (d4 l h) b):Gn t sl σ H0 (d4 (y+l) (y+h)) (hU (rK λ i j=>.int (i+j)) (dN j) b):=
 jZ (sG (x:=y) (y:=y+1) (HV hj ⟨y,rfl,by omega,by omega⟩) hb) (by omega) (by omega)
end
section
variable {P:Program}{w:World}{K:aaa}{mg:Str->Option Value}{base:Heap}
structure VFull (i:Nat) (v:Vs):Prop where
 sz:v.size<=60
 br:v.size<=v.brim
 bh:v.brim<=200
 sp:∀ t,v.spill=some t->(i:Int) < t
structure NetFull (net:Net):Prop where
 vs:∀ i v,net.vs[i]? = some v->VFull i v
 sps:∀ s∈net.sps,0<=s.2.1/\s.2.1<=60
noncomputable def nZ (K:aaa):Sp:=λ args H Q _=>∃ (t sl:Addr) (i n m:Nat) (small:Bool),args=[.ref t,.int (i:Int),.int (n:Int),.int (m:Int),.bl small]/\dU H t sl/\i < n/\n<=12/\m<=12/\
 ∀ (v:Vs) p H',Ext t sl H H'->VOk n m v->VFull i v->Is K H' (jM v) p->Q p H'
theorem iT:FnScope ["tape","number","many","spouts","small","size","brim","spill","acts","k"] ["tape","number","many","spouts","small"] (aM (bK 30)):=⟨rfl,rfl,rfl,by decide +kernel,rfl,by decide +kernel,by decide +kernel⟩
theorem oJ {f fD fO:Addr}{fd fdD fdO:FuncData} (F:Fun K "_law_vessel" "_law_vessel" (bK 30) f fd) (T:Txt mg) (G__law_draw:Callee P w K mg base "_law_draw" ["tape","many"] 1 fY fD fdD)
  (G__law_outs:Callee P w K mg base "_law_outs" ["tape","many","small"] 2 (uU K) fO fdO):FnOk P w K mg base iM 3 f fd ["tape","number","many","spouts","small"] (nZ K):=by
 refine F.ok iT (λ vs H Q E h=>?_) (λ cdv A outer s H vs Q E hr h=>?_)
 ·obtain⟨t,sl,i,n,m,small,rfl,_⟩:=h;rfl
 ·obtain⟨t,sl,i,n,m,small,rfl,tp,hi,hn,hm,k⟩:=h
  have sc:=iT
  refine⟨_,(aD (aP (i:=5) sc.nd rfl (Or.inl rfl) (aU cB aE (aQ (aJ (K:=K) rfl) (bG (aA (d5 G__law_draw hr (aA (pv 0) (aA (aQ (aJ (K:=K) rfl) (bG (aA aE (aA aE aC))) (aZ fW rfl T.b_int kN (aA (pv 4) aC)) (λ _ _=>rfl)) aC))) (aA (d5 G__law_draw hr (aA (pv 0) (aA (aQ (aJ (K:=K) rfl) (bG (aA aE (aA aE aC))) (aZ fW rfl T.b_int kN (aA (pv 4) aC)) (λ _ _=>rfl)) aC))) aC))) (aU gM (d5 G__law_draw hr (aA (pv 0) (aA aE aC))) aE) (λ _ _=>rfl))))
   (aD (aP (i:=6) sc.nd rfl (Or.inl rfl) (aU cB (pv 5) (aQ (aJ (K:=K) rfl) (bG (aA aE (aA (d5 G__law_draw hr (aA (pv 0) (aA (aU eY aE (pv 5)) aC))) aC))) (aU iB (d5 G__law_draw hr (aA (pv 0) (aA aE aC))) (aZ fW rfl T.b_int kN (aA (oE (pv 4)) aC))) (λ _ _=>rfl))))
   (aD (cF (bB g7 (d5 G__law_draw hr (aA (pv 0) (aA aE aC))) aE (bH _)) (aK (aP (i:=6) sc.nd rfl (Or.inl rfl) (aU cB (pv 5) (d5 G__law_draw hr (aA (pv 0) (aA aE aC)))))) bL)
   (aD (aP (i:=7) sc.nd rfl (Or.inl rfl) eQ)
   (aD (cF (PW.pt (uY (bB oH (aU cB (pv 1) aE) (pv 2) (bH _)) (rM (bB g7 (d5 G__law_draw hr (aA (pv 0) (aA aE aC))) aE (bH _))))) (aK (aP (i:=7) sc.nd rfl (Or.inl rfl) (aU cB (aU cB (pv 1) aE) (d5 G__law_draw hr (aA (pv 0) (aA (aU eY (aU eY (pv 2) (pv 1)) aE) aC)))))) bL)
   (aD (aP (i:=8) sc.nd rfl (Or.inl rfl) (bG aC))
   (aD (cF (bB tO (pv 3) aE (bH _)) (aK (cS PassesOwn.never rfl (cK rfl T.b_range (aA (aU gM (d5 G__law_draw hr (aA (pv 0) (aA aE aC))) aE) aC)) (aH (i:=9) sc.nd rfl (Or.inl rfl)) (aK (cV (eA (K:=K) rfl aas aau aav cD (pv 8) (aA (aV (aA (aQ (aJ (K:=K) rfl) (bG (aA cH (aA cH (aA cH aC)))) (d5 G__law_draw hr (aA (pv 0) (aA aE aC))) (λ _ _=>rfl)) (aA (d5 G__law_draw hr (aA (pv 0) (aA (pv 3) aC))) aC))) aC)))))) bL)
   (aK (bC (aV (aA (pv 5) (aA (pv 6) (aA (d5 G__law_outs hr (aA (pv 0) (aA (pv 2) (aA (pv 4) aC)))) (aA (eD g7 (d5 G__law_draw hr (aA (pv 0) (aA aE aC))) aE (bH _)) (aA (pv 7) (aA (aZ (bO (K:=K) rfl) rfl T.b_tuple bR (aA (pv 8) aC)) aC)))))))))))))))),?_⟩
  refine sG (t:=t) (sl:=sl) (H0:=H) (x:=1) (y:=2) (l:=0) (h:=60) (oU ⟨1,rfl,by omega,by omega⟩)
   (gD (jZ (j6 (lo:=4) (hi:=10) rfl (by decide) (by decide) (nI rfl ⟨by decide,by decide⟩ ⟨by decide,by decide⟩)) (Int.le_refl _) (by decide))
    (jZ (j6 (lo:=4) (hi:=61) rfl (by decide) (by decide) (nI rfl ⟨by decide,by decide⟩ ⟨by decide,by decide⟩)) (Int.le_refl _) (by decide)) (nJ (bY rfl (by decide) (by decide)))) _ _ ⟨cP.refl _,tp⟩ ?_
  rintro v H1 e1 _ ⟨size,rfl,s0,s1⟩
  refine wO (t:=t) (sl:=sl) (H0:=H) (y:=size) (l:=0) (h:=201 - size) rfl (gD (oU ⟨0,rfl,by omega,by omega⟩)
   (jZ (j6 (lo:=201 - size) (hi:=201 - size+1) rfl (by omega) (by omega) (AY rfl)) (Int.le_refl _) (by omega)) (xW rfl (bY rfl (by decide) (by decide)))) _ _ e1 ?_
  rintro v H2 e2 _ ⟨brim,rfl,br0,br1⟩
  dsimp only [eP,jN,tC,gE]
  refine wL (λ ac H'=>Ext t sl H H'/\∃ brim,size<=brim/\brim<=200/\ac=[some (.ref t),some (.int (i:Int)),some (.int (n:Int)),some (.int (m:Int)),some (.bl small),some (.int size),some (.int brim),none,none,none]) (λ D' hD=>?_) ?_
  ·refine AS (t:=t) (sl:=sl) (H0:=H) (bY rfl (by decide) (by decide)) e2 λ b H3 e3 _=>?_
   cases b with
   | false=>exact dP (hD _ _ ⟨e3,brim,by omega,by omega,rfl⟩)
   | true=>
    refine gF ?_
    refine wO (t:=t) (sl:=sl) (H0:=H) (y:=size) (l:=0) (h:=3) rfl (bY rfl (by decide) (by decide)) _ _ e3 ?_
    rintro v H4 e4 _ ⟨b2,rfl,c0,c1⟩
    exact hD _ _ ⟨e4,b2,by omega,by omega,rfl⟩
  rintro ao H3 ⟨e3,brim,hb1,hb2,rfl⟩
  dsimp only [eP,jN,tC,gE]
  refine wL (λ ac H'=>Ext t sl H H'/\∃ sp:Option Int,(∀ z,sp=some z->(0<=z/\z < n)/\(i:Int) < z)/\ac=[some (.ref t),some (.int (i:Int)),some (.int (n:Int)),some (.int (m:Int)),some (.bl small),some (.int size),some (.int brim),some (fR sp),none,none]) (λ D' hD=>?_) ?_
  ·refine⟨_,rfl,_,_,rfl,rfl,_,rfl,_,_,rfl,rfl,_,rfl,?_⟩
   refine eM (λ hlt=>?_) (λ _=>dP (hD _ _ ⟨e3,none,(λ z h=>nomatch h),rfl⟩))
   have hlt':(i:Int)+1 < n:=of_decide_eq_true hlt
   refine vM (t:=t) (sl:=sl) (H0:=H) (bY rfl (by decide) (by decide)) _ _ e3 ?_
   rintro v H4 e4 _ ⟨b,rfl⟩
   refine⟨b,rfl,?_⟩
   cases b with
   | false=>exact dP (hD _ _ ⟨e4,none,(λ z h=>nomatch h),rfl⟩)
   | true=>
    refine gF ?_
    refine⟨_,rfl,_,_,rfl,rfl,_,rfl,_,rfl,_,rfl,_,_,rfl,rfl,_,_,rfl,rfl,t,sl,(n:Int) - i - 1,rfl,e4.tp,by omega,by omega,λ r H5 b5 t5 r0 r1=>⟨_,_,rfl,rfl,?_⟩⟩
    exact hD _ _ ⟨⟨e4.bt.trans b5,t5⟩,some ((i:Int)+1+r),λ z h=>by cases h;omega,rfl⟩
  rintro σ4 H4 ⟨e4,sp,hsp,rfl⟩
  refine⟨Nat.zero_le _,λ al hal=>?_⟩
  dsimp only [eP,jN,tC,gE]
  have fal:H al=none:=e4.bt.free (e4.ne hal) hal
  have nal:al≠t:=e4.ne hal
  refine wL (λ ac H'=>Ext t sl H H'/\∃ (acts:List (Str×Int)) (xs:List V),H' al=some (.lst xs)/\L2.IsL K H' (acts.map jA) xs/\acts.length<=3/\(∀ a∈acts,ActOk m a)/\
   ∃ v9,ac=[some (.ref t),some (.int (i:Int)),some (.int (n:Int)),some (.int (m:Int)),some (.bl small),some (.int size),some (.int brim),some (fR sp),some (.ref al),v9]) (λ D' hD=>?_) ?_
  ·refine⟨_,rfl,_,_,rfl,rfl,_,rfl,?_⟩
   refine eM (λ hlt=>?_) (λ _=>hD _ _ ⟨e4.new hal,[],[],aB,.nil,by simp,λ a ha=>(nomatch ha),none,rfl⟩)
   have hm0:(0:Int) < m:=of_decide_eq_true hlt
   refine B0 (t:=t) (sl:=sl) (H0:=H) (by decide) (by decide) (bY (m:=11) rfl (by decide) (by decide)) _ _ (e4.new hal) ?_
   rintro v H5 e5 b5 ⟨c,rfl,c0,c1⟩
   refine⟨_,rfl,by omega,by omega,?_⟩
   refine dS (lo:=0) (n:=(c / 3).toNat) (λ j ac H'=>Ext t sl H H'/\∃ (acts:List (Str×Int)) (xs:List V),H' al=some (.lst xs)/\L2.IsL K H' (acts.map jA) xs/\acts.length=j/\(∀ a∈acts,ActOk m a)/\
    ∃ v9,ac=[some (.ref t),some (.int (i:Int)),some (.int (n:Int)),some (.int (m:Int)),some (.bl small),some (.int size),some (.int brim),some (fR sp),some (.ref al),v9]) ?_ ?_ ?_
   ·exact⟨e5,[],[],b5 al _ nal aB,.nil,rfl,λ a ha=>(nomatch ha),none,rfl⟩
   ·rintro j ac H6 hj ⟨e6,acts,xs,ha,hl,hlen,hok,v9,rfl⟩
    refine⟨_,rfl,.inl ⟨rfl,_,bT.of ha⟩,?_⟩
    refine u9 (t:=t) (sl:=sl) (H0:=H) (P:=λ v=>∃ wd:Str,v=.str wd/\(wd = "open" \/ wd = "shut" \/ wd = "turn")) (oU ⟨_,rfl,.inl rfl⟩) (oU ⟨_,rfl,.inr (.inl rfl)⟩) (oU ⟨_,rfl,.inr (.inr rfl)⟩) (bY rfl (by decide) (by decide)) _ _ e6 ?_
    rintro v H7 e7 b7 ⟨wd,rfl,hwd⟩
    refine j5 (t:=t) (sl:=sl) (H0:=H) (m:=(m:Int)) rfl rfl hm0 (by omega) _ _ e7 ?_
    rintro v H8 e8 b8 ⟨r,rfl,r0,r1⟩
    refine⟨(show 2<=sizeLine by decide),λ q hq=>?_⟩
    have ha8:H8 al=some (.lst xs):=b8 al _ nal (b7 al _ nal ha)
    have nq:al≠q:=aL ha8 hq
    have hxl:xs.length=acts.length:=by rw[hl.length,aac]
    refine⟨al,xs,_,rfl,rfl,by rw[aO nq];exact ha8,aY (by omega),?_⟩
    have e9:Ext t sl H (upd H8 q (.tup [.str wd,.int r])):=e8.new hq
    have mt:kR (upd H8 q (.tup [.str wd,.int r]) al):=by rw[aO nq,ha8];exact trivial
    have ts:bV K H6 (upd (upd H8 q (.tup [.str wd,.int r])) al (.lst (xs++[.ref q]))):=bV.put (((b7.trans b8).trans (aF.new hq).but).ts e6.tp.mut) (.inr mt)
    refine⟨⟨λ b o hb e=>?_,e9.tp.put nal (dU.ne_sl tp fal)⟩,acts++[(wd,r)],xs++[.ref q],aB,?_,by simp [hlen],?_,_,rfl⟩
    ·rw[aO (aL e fal)];exact e9.bt b o hb e
    ·rw[aae]
     exact L2.IsL.snoc (Is.tupOf (ds:=[.str wd,.int r]) (bV.put (bV.refl _) (.inr mt) _ _ (bD.of aB)) (.cons (Is.s _) (.cons (Is.i _) .nil))) (L2.IsL.mono ts _ _ hl)
    ·intro a ha'
     rcases abd.mp ha' with ha' | ha'
     ·exact hok a ha'
     ·rw[aaw.mp ha']
      exact⟨hwd,r0,r1⟩
   ·rintro ac H6 ⟨e6,acts,xs,ha,hl,hlen,hok,v9,rfl⟩
    exact hD _ _ ⟨e6,acts,xs,ha,hl,by omega,hok,v9,rfl⟩
  rintro ci H5 ⟨e5,acts,xs,ha,hl,hlen,hok,v9,rfl⟩
  refine⟨_,rfl,_,rfl,_,rfl,_,rfl,_,rfl,t,sl,n,small,rfl,e5.tp,by omega,hn,λ outs p H6 e6 o1 o2 o3 hp=>?_⟩
  refine vM (t:=t) (sl:=sl) (H0:=H) (bY rfl (by decide) (by decide)) _ _ ⟨e5.bt.trans e6.bt,e6.tp⟩ ?_
  rintro v H7 e7 b7 ⟨b,rfl⟩
  have ha7:H7 al=some (.lst xs):=b7 al _ nal (e6.bt al _ nal ha)
  have b57:cP t H5 H7:=e6.bt.trans b7
  refine⟨_,rfl,_,rfl,al,_,rfl,.inl ⟨bT.of ha7,λ q hq=>⟨(show 6<=sizeLine by decide),λ r hr'=>?_⟩⟩⟩
  have m1:=aF.new (o:=HO.tup xs) hq
  have m2:aF (upd H7 q (.tup xs)) (upd (upd H7 q (.tup xs)) r (.tup [.int size,.int brim,p,.bl b,fR sp,.ref q])):=aF.new hr'
  refine k ⟨size,brim,outs,b,sp,acts⟩ _ _ ((e7.new hq).new hr') ⟨s0,o1,o2,o3,λ z h=>(hsp z h).1,hlen,hok⟩ ⟨by show size<=60;omega,hb1,hb2,λ z h=>(hsp z h).2⟩ ?_
  refine Is.tupOf (bD.of aB) (.cons (Is.i _) (.cons (Is.i _) (.cons ?_ (.cons (Is.b _) (.cons (Is.tgOf _) (.cons ?_ .nil))))))
  ·exact Is.mono m2.ts _ _ (Is.mono m1.ts _ _ (Is.mono (b7.ts e6.tp.mut) _ _ hp))
  ·exact Is.mono m2.ts _ _ (Is.tupOf (bD.of aB) (L2.IsL.mono m1.ts _ _ (L2.IsL.mono (b57.ts e5.tp.mut) _ _ hl)))
end
end Tw
namespace Tw
open PySem L2
section
variable {P:Program}{w:World}{K:aaa}{mg:Str->Option Value}{base:Heap}
theorem Ext.put {t sl p:Addr}{H H':Hp}{o:HO} (e:Ext t sl H H') (tp:dU H t sl) (hp:H p=none):Ext t sl H (upd H' p o):=
 ⟨λ b u hb e1=>by rw[aO (aL e1 hp)];exact e.bt b u hb e1,e.tp.put (λ z=>by obtain⟨o,h⟩:=tp.some;rw[z,h] at hp;cases hp) (dU.ne_sl tp hp)⟩
theorem Ext.trans {t sl:Addr}{H H1 H2:Hp} (a:Ext t sl H H1) (b:Ext t sl H1 H2):Ext t sl H H2:=⟨a.bt.trans b.bt,b.tp⟩
noncomputable def uV (K:aaa):Sp:=λ args H Q _=>∃ (t sl:Addr) (most:Int) (small:Bool),args=[.ref t,.int most,.bl small]/\1<=most/\most<=12/\dU H t sl/\
 ∀ (net:Net) p H',Ext t sl H H'->NetOk net->NetFull net->(net.vs.length:Int)<=most->Is K H' (dY net) p->Q p H'
theorem mX:FnScope ["tape","most","small","many","spouts","vessels","found","k","flow"] ["tape","most","small"] (aM (bK 31)):=⟨rfl,rfl,rfl,by decide +kernel,rfl,by decide +kernel,by decide +kernel⟩
theorem rY {f fD fV:Addr}{fd fdD fdV:FuncData} (F:Fun K "_law_net" "_law_net" (bK 31) f fd) (T:Txt mg) (G__law_draw:Callee P w K mg base "_law_draw" ["tape","many"] 1 fY fD fdD)
  (G__law_vessel:Callee P w K mg base "_law_vessel" ["tape","number","many","spouts","small"] 3 (nZ K) fV fdV):FnOk P w K mg base iM 4 f fd ["tape","most","small"] (uV K):=by
 refine F.ok mX (λ vs H Q E h=>?_) (λ cdv A outer s H vs Q E hr h=>?_)
 ·obtain⟨t,sl,most,small,rfl,_⟩:=h;rfl
 ·obtain⟨t,sl,most,small,rfl,mo1,mo2,tp,k⟩:=h
  have sc:=mX
  refine⟨_,(aD (aP (i:=3) sc.nd rfl (Or.inr rfl) (aU cB aE (d5 G__law_draw hr (aA (pv 0) (aA (pv 1) aC)))))
   (aD (aP (i:=4) sc.nd rfl (Or.inr rfl) (aQ (aJ (K:=K) rfl) (bG (aA (d5 G__law_draw hr (aA (pv 0) (aA aE aC))) (aA (d5 G__law_draw hr (aA (pv 0) (aA aE aC))) aC))) (aU gM (d5 G__law_draw hr (aA (pv 0) (aA aE aC))) aE) (λ _ _=>rfl)))
   (aD (jG (i:=5) sc.nd rfl rfl (λ _ _ h=>h) rfl (LcOk.mk (N':=["k","tape","many","spouts","small"]) (fr:=[none,some 0,some 3,some 4,some 2]) rfl ⟨rfl,rfl,rfl,rfl,trivial⟩ rfl rfl rfl rfl rfl ⟨⟨_,rfl,rfl,rfl,rfl⟩,⟨_,rfl,rfl,rfl,rfl⟩,⟨_,rfl,rfl,rfl,rfl⟩,⟨_,rfl,rfl,rfl,rfl⟩,trivial⟩) (cK rfl T.b_range (aA (pv 3) aC)) (λ _ _ _=>(aH (i:=0) (show (["k","tape","many","spouts","small"]:List Str).Nodup by decide +kernel) rfl (Or.inl rfl) (Or.inr rfl))) (λ _ _ _=>d6) (λ _ _ _=>(d5 G__law_vessel hr (aA (pv 1) (aA (pv 0) (aA (pv 2) (aA (pv 3) (aA (pv 4) aC))))))))
   (aD (aP (i:=6) sc.nd rfl (Or.inl rfl) (bG aC))
   (aD (cS PassesOwn.never rfl (cK rfl T.b_range (aA (pv 4) aC)) (aH (i:=7) sc.nd rfl (Or.inl rfl)) (aD (aP (i:=8) sc.nd rfl (Or.inl rfl) (aQ (aJ (K:=K) rfl) (bG (aA (d5 G__law_draw hr (aA (pv 0) (aA aE aC))) (aA (d5 G__law_draw hr (aA (pv 0) (aA (aQ (aJ (K:=K) rfl) (bG (aA aE (aA aE aC))) (aZ fW rfl T.b_int kN (aA (pv 2) aC)) (λ _ _=>rfl)) aC))) aC))) (aU gM (d5 G__law_draw hr (aA (pv 0) (aA aE aC))) aE) (λ _ _=>rfl)))
   (aK (cV (eA (K:=K) rfl aas aau aav cD (pv 6) (aA (aV (aA (d5 G__law_draw hr (aA (pv 0) (aA (pv 3) aC))) (aA (pv 8) (aA (eD tO (d5 G__law_draw hr (aA (pv 0) (aA aE aC))) aE (bH _)) aC)))) aC))))))
   (aK (bC (aV (aA (aZ (bO (K:=K) rfl) rfl T.b_tuple bR (aA (pv 5) aC)) (aA (aZ (bO (K:=K) rfl) rfl T.b_tuple bR (aA (pv 6) aC)) aC)))))))))),?_⟩
  refine sG (t:=t) (sl:=sl) (H0:=H) (x:=1) (y:=2) (l:=0) (h:=most) (oU ⟨1,rfl,by omega,by omega⟩) (j5 (m:=most) rfl rfl (by omega) (by omega)) _ _ ⟨cP.refl _,tp⟩ ?_
  rintro v H1 e1 _ ⟨n',rfl,n0,n1⟩
  obtain⟨n,rfl⟩:=Int.eq_ofNat_of_zero_le (show 0<=n' by omega)
  refine gD (t:=t) (sl:=sl) (H0:=H) (P:=d4 0 13) (jZ (bY rfl (by decide) (by decide)) (Int.le_refl _) (by decide)) (bY rfl (by decide) (by decide)) (nJ (bY rfl (by decide) (by decide))) _ _ e1 ?_
  rintro v H2 e2 _ ⟨m',rfl,m0,m1⟩
  obtain⟨m,rfl⟩:=Int.eq_ofNat_of_zero_le m0
  refine⟨_,rfl,_,rfl,by omega,by omega,?_⟩
  refine lN (n:=n) (λ D i r ac H'=>H2 D=none/\Ext t sl H H'/\H' D=some (.lst r)/\∃ vs:List Vs,vs.length=i/\L2.IsL K H' (vs.map jM) r/\(∀ v∈vs,VOk n m v)/\(∀ i v,vs[i]? = some v->VFull i v)/\∃ v0,ac=[v0,some (.ref t),some (.int (n:Int)),some (.int (m:Int)),some (.bl small)])
   (λ D hD=>⟨hD,e2.new hD,aB,[],rfl,.nil,(λ v hv=>nomatch hv),(λ i v hv=>by simp at hv),none,rfl⟩) ?_ ?_
  rotate_left
  ·rintro D i r ac H3 hi ⟨hD,e3,hl,vs,hlen,hvl,hok,hfu,v0,rfl⟩
   refine g9 ?_
   refine⟨_,rfl,_,rfl,_,rfl,_,rfl,_,rfl,t,sl,i,n,m,small,rfl,e3.tp,hi,by omega,by omega,λ v p H4 e4 vok vfu hp=>?_⟩
   have nD:D≠t:=e2.ne hD
   have fD:H D=none:=e2.bt.free nD hD
   have hl4:H4 D=some (.lst r):=e4.bt D _ nD hl
   have hrl:r.length=vs.length:=by rw[hvl.length,aac]
   have mt:kR (H4 D):=by rw[hl4];exact trivial
   refine⟨hl4,aY (by omega),hD,(e3.trans e4).put tp fD,aB,vs++[v],by simp [hlen],?_,?_,?_,_,rfl⟩
   ·rw[aae]
    exact L2.IsL.snoc (Is.mono (bV.put (bV.refl _) (.inr mt)) _ _ hp) (L2.IsL.mono (bV.put (e4.bt.ts e3.tp.mut) (.inr mt)) _ _ hvl)
   ·intro u hu
    rcases abd.mp hu with hu | hu
    ·exact hok u hu
    ·rw[aaw.mp hu];exact vok
   ·intro j u hu
    rcases Nat.lt_or_ge j vs.length with hj | hj
    ·rw[aba hj] at hu;exact hfu j u hu
    ·rw[abq hj] at hu
     have e0:j - vs.length=0:=by
      rcases Nat.eq_zero_or_pos (j - vs.length) with h | h
      ·exact h
      ·rw[abx (show [v].length<=j - vs.length from h)] at hu;cases hu
     rw[e0] at hu
     have e1:j=i:=by omega
     cases hu
     rw[e1];exact vfu
  rintro D r ac H3 ⟨hD,e3,hl,vs,hlen,hvl,hok,hfu,_⟩
  have nD:D≠t:=e2.ne hD
  have fD:H D=none:=e2.bt.free nD hD
  refine⟨Nat.zero_le _,λ fl hfl=>?_⟩
  have nf:fl≠t:=e3.ne hfl
  have ff:H fl=none:=e3.bt.free nf hfl
  have nDf:D≠fl:=aL hl hfl
  refine⟨_,rfl,_,rfl,by omega,by omega,?_⟩
  refine dS (lo:=0) (n:=m) (λ j ac H'=>Ext t sl H H'/\H' D=some (.lst r)/\L2.IsL K H' (vs.map jM) r/\∃ (sps:List sV) (xs:List V),H' fl=some (.lst xs)/\L2.IsL K H' (sps.map pC) xs/\sps.length=j/\(∀ s∈sps,(0<=s.1/\s.1 < n)/\0<=s.2.1/\s.2.1<=60)/\
   ∃ v7 v8,ac=[some (.ref t),some (.int most),some (.bl small),some (.int (n:Int)),some (.int (m:Int)),some (.ref D),some (.ref fl),v7,v8]) ?_ ?_ ?_
  ·exact⟨e3.new hfl,by rw[aO nDf];exact hl,L2.IsL.mono (aF.new hfl).ts _ _ hvl,[],[],aB,.nil,rfl,(λ s hs=>nomatch hs),none,none,rfl⟩
  ·rintro j ac H4 hj ⟨e4,hl4,hv4,sps,xs,hf4,hs4,hslen,hsok,v7,v8,rfl⟩
   refine gD (t:=t) (sl:=sl) (H0:=H) (P:=d4 0 61) (jZ (bY rfl (by decide) (by decide)) (Int.le_refl _) (by decide))
    (jZ (j6 (lo:=4) (hi:=62) rfl (by decide) (by decide) (nI rfl ⟨by decide,by decide⟩ ⟨by decide,by decide⟩)) (Int.le_refl _) (by decide)) (nJ (bY rfl (by decide) (by decide))) _ _ e4 ?_
   rintro v H5 e5 b5 ⟨flow,rfl,fl0,fl1⟩
   have hf5:H5 fl=some (.lst xs):=b5 fl _ nf hf4
   refine⟨_,rfl,.inl ⟨rfl,_,bT.of hf5⟩,?_⟩
   refine j5 (t:=t) (sl:=sl) (H0:=H) (m:=(n:Int)) rfl rfl (by omega) (by omega) _ _ e5 ?_
   rintro v H6 e6 b6 ⟨tg,rfl,tg0,tg1⟩
   refine⟨_,rfl,?_⟩
   refine FZ (t:=t) (sl:=sl) (H0:=H) (bY rfl (by decide) (by decide)) _ _ e6 ?_
   rintro v H7 e7 b7 ⟨dr,rfl⟩
   refine⟨(show 3<=sizeLine by decide),λ q hq=>?_⟩
   have b47:cP t H4 H7:=b5.trans (b6.trans b7)
   have hf7:H7 fl=some (.lst xs):=b47 fl _ nf hf4
   have hl7:H7 D=some (.lst r):=b47 D _ nD hl4
   have nq:fl≠q:=aL hf7 hq
   have nDq:D≠q:=aL hl7 hq
   have hxl:xs.length=sps.length:=by rw[hs4.length,aac]
   refine⟨fl,xs,_,rfl,rfl,by rw[aO nq];exact hf7,aY (by omega),?_⟩
   have mt:kR (upd H7 q (.tup [.int tg,.int flow,.bl dr]) fl):=by rw[aO nq,hf7];exact trivial
   have ts:bV K H4 (upd (upd H7 q (.tup [.int tg,.int flow,.bl dr])) fl (.lst (xs++[.ref q]))):=bV.put ((b47.trans (aF.new hq).but).ts e4.tp.mut) (.inr mt)
   refine⟨(e7.new hq).put tp ff,by rw[aO nDf,aO nDq];exact hl7,L2.IsL.mono ts _ _ hv4,sps++[(tg,flow,dr)],xs++[.ref q],aB,?_,by simp [hslen],?_,_,_,rfl⟩
   ·rw[aae]
    exact L2.IsL.snoc (Is.tupOf (ds:=[.int tg,.int flow,.bl dr]) (bV.put (bV.refl _) (.inr mt) _ _ (bD.of aB)) (.cons (Is.i _) (.cons (Is.i _) (.cons (Is.b _) .nil)))) (L2.IsL.mono ts _ _ hs4)
   ·intro s hs
    rcases abd.mp hs with hs | hs
    ·exact hsok s hs
    ·rw[aaw.mp hs];exact⟨⟨tg0,tg1⟩,fl0,show flow<=60 by omega⟩
  ·rintro ac H4 ⟨e4,hl4,hv4,sps,xs,hf4,hs4,hslen,hsok,v7,v8,rfl⟩
   refine⟨_,rfl,D,_,rfl,.inl ⟨bT.of hl4,λ q1 hq1=>⟨_,rfl,fl,_,rfl,.inl ⟨bT.of (aF.new hq1 _ _ hf4),λ q2 hq2=>⟨(show 2<=sizeLine by decide),λ q3 hq3=>?_⟩⟩⟩⟩⟩
   have m1:aF H4 (upd H4 q1 (.tup r)):=aF.new hq1
   have m2:aF (upd H4 q1 (.tup r)) (upd (upd H4 q1 (.tup r)) q2 (.tup xs)):=aF.new hq2
   have m3:aF (upd (upd H4 q1 (.tup r)) q2 (.tup xs)) (upd (upd (upd H4 q1 (.tup r)) q2 (.tup xs)) q3 (.tup [.ref q1,.ref q2])):=aF.new hq3
   refine k ⟨vs,sps⟩ _ _ (((e4.new hq1).new hq2).new hq3) ⟨by show 1<=vs.length;omega,by show vs.length<=12;omega,by show sps.length<=12;omega,λ v hv=>by rw[hlen,hslen];exact hok v hv,λ s hs=>by rw[hlen];exact (hsok s hs).1⟩ ⟨hfu,λ s hs=>(hsok s hs).2⟩ (by show (vs.length:Int)<=most;omega) ?_
   refine Is.tupOf (bD.of aB) (.cons (Is.tupOf (m3.tup (m2.tup (bD.of aB))) ?_) (.cons (Is.tupOf (m3.tup (bD.of aB)) ?_) .nil))
   ·exact L2.IsL.mono m3.ts _ _ (L2.IsL.mono m2.ts _ _ (L2.IsL.mono m1.ts _ _ hv4))
   ·exact L2.IsL.mono m3.ts _ _ (L2.IsL.mono m2.ts _ _ (L2.IsL.mono m1.ts _ _ hs4))
end
end Tw
namespace Tw
open PySem L2
section
variable {P:Program}{w:World}{K:aaa}{mg:Str->Option Value}{base:Heap}
theorem zN:∀ n:Nat,(List.replicate n [V.int 0]).flatten=(List.replicate n (0:Int)).map V.int
 | 0=>rfl
 | n+1=>by rw[List.replicate_succ,List.replicate_succ,List.flatten_cons,zN n,abb];rfl
noncomputable def gH (n:Nat):List Int:=List.replicate n 0
noncomputable def gI (K:aaa):Sp:=λ args H Q _=>∃ (x:V) (net:Net),args=[x]/\Is K H (dY net) x/\NetOk net/\
 ∀ p H',aF H H'->Is K H' (CA (gH net.vs.length) (gH net.vs.length) (net.sps.map (·.2.2))) p->Q p H'
theorem iS:FnScope ["net","vessels","spouts","empty"] ["net"] (aM (bK 11)):=⟨rfl,rfl,rfl,by decide +kernel,rfl,by decide +kernel,by decide +kernel⟩
theorem oI {f:Addr}{fd:FuncData} (F:Fun K "first_state" "first_state" (bK 11) f fd) (T:Txt mg):FnOk P w K mg base iM 1 f fd ["net"] (gI K):=by
 refine F.ok iS (λ vs H Q E h=>?_) (λ cdv A outer s H vs Q E hr h=>?_)
 ·obtain⟨x,net,rfl,_⟩:=h;rfl
 ·obtain⟨x,net,rfl,hx,nok,k⟩:=h
  have sc:=iS
  refine⟨_,(aD (cN (pv 0) (bJ (K:=K) (n:=2) rfl rfl (aG (aH (i:=1) sc.nd rfl (Or.inl rfl)) (aG (aH (i:=2) sc.nd rfl (Or.inl rfl)) bF))))
   (aD (aP (i:=3) sc.nd rfl (Or.inl rfl) (aU (tN (K:=K) rfl) (aV (aA aE aC)) (aR (bA (K:=K) rfl) rfl T.b_len aar (aA (pv 1) aC))))
   (aK (bC (aV (aA (pv 3) (aA (pv 3) (aA (aZ (bO (K:=K) rfl) rfl T.b_tuple bR (aA (gL (λ _ _ h=>h) rfl (LcOk.mk (N':=["target","flow","door"]) (fr:=[none,none,none]) rfl trivial rfl rfl rfl rfl rfl trivial) (cW (K:=K) rfl (pv 2)) (λ _ _ _=>(bJ (K:=K) (n:=3) rfl rfl (aG (aH (i:=0) (show (["target","flow","door"]:List Str).Nodup by decide +kernel) rfl (Or.inl rfl) (Or.inr rfl)) (aG (aH (i:=1) (show (["target","flow","door"]:List Str).Nodup by decide +kernel) rfl (Or.inl rfl) (Or.inr rfl)) (aG (aH (i:=2) (show (["target","flow","door"]:List Str).Nodup by decide +kernel) rfl (Or.inl rfl) (Or.inr rfl)) bF))))) (λ _ _ _=>d6) (λ _ _ _=>(pv 2))) aC)) aC)))))))),?_⟩
  obtain⟨a,b,c,xs,ys,rfl,q,q1,l1,q2,l2⟩:=fA hx
  have exl:xs.length=net.vs.length:=by rw[l1.length,aac]
  have eyl:ys.length=net.sps.length:=by rw[l2.length,aac]
  have n1:=nok.lo
  have n2:=nok.hi
  have n3:=nok.sp
  refine⟨_,rfl,a,_,rfl,q,rfl,_,_,rfl,_,_,rfl,rfl,?_⟩
  refine⟨(show 1<=sizeLine by decide),λ z hz=>⟨_,rfl,b,xs,rfl,.inr ((aF.new hz).tup q1),z,_,[.int 0],rfl,rfl,bD.of aB,by omega,by omega,by simp,by simp,λ e H1 sm1 qe=>?_⟩⟩
  have s1:aF H H1:=(aF.new hz).trans sm1
  have en:((xs.length:Nat):Int).toNat=net.vs.length:=by rw[exl];simp
  rw[en,zN] at qe
  refine⟨_,rfl,_,rfl,_,rfl,c,rfl,⟨_,s1.tup q2⟩,gA (K:=K) (a:=c) (xs:=ys) (λ D i r ac H'=>H1 D=none/\aF H1 H'/\H' D=some (.lst r)/\r=((net.sps.take i).map (·.2.2)).map V.bl/\∃ u v w,ac=[u,v,w])
   (λ D i r ac H' p=>p.2.1.tup (s1.tup q2)) (λ D hD=>⟨hD,aF.new hD,aB,by simp,none,none,none,rfl⟩) ?_ ?_⟩
  rotate_left
  ·rintro D i x r ac H2 hx ⟨hD,sm,hDl,rfl,u,v,w',rfl⟩
   obtain⟨sp,hsi,sa,rfl,qs⟩:=mF l2 hx
   have hil:=(aad.mp hsi).1
   refine⟨sa,_,rfl,sm.tup (s1.tup qs),rfl,_,_,rfl,_,_,rfl,_,_,rfl,rfl,?_⟩
   refine gN ⟨_,rfl,hDl,aY (by simp;omega),hD,sm.put hD,aB,?_,_,_,_,rfl⟩
   rw[bI hsi];simp
  ·rintro D r ac H2 ⟨hD,sm,hDl,rfl,_⟩
   rw[eyl,aao] at hDl
   refine⟨D,_,rfl,.inl ⟨bT.of hDl,λ d hd=>⟨(show 3<=sizeLine by decide),λ r hr'=>?_⟩⟩⟩
   have m1:aF H2 (upd H2 d (.tup ((net.sps.map (·.2.2)).map V.bl))):=aF.new hd
   have m2:aF (upd H2 d (.tup ((net.sps.map (·.2.2)).map V.bl))) (upd (upd H2 d (.tup ((net.sps.map (·.2.2)).map V.bl))) r (.tup [.ref e,.ref e,.ref d])):=aF.new hr'
   refine k _ _ (((s1.trans sm).trans m1).trans m2) (vZ (bD.of aB) ?_ ?_ (m2.tup (bD.of aB)))
   ·exact m2.tup (m1.tup (sm.tup qe))
   ·exact m2.tup (m1.tup (sm.tup qe))
theorem jW:FnScope ["net","none"] ["net"] (aM (bK 32)):=⟨rfl,rfl,rfl,by decide +kernel,rfl,by decide +kernel,by decide +kernel⟩
theorem pM {f:Addr}{fd:FuncData} (F:Fun K "_law_first" "_law_first" (bK 32) f fd) (T:Txt mg):FnOk P w K mg base iM 1 f fd ["net"] (gI K):=by
 refine F.ok jW (λ vs H Q E h=>?_) (λ cdv A outer s H vs Q E hr h=>?_)
 ·obtain⟨x,net,rfl,_⟩:=h;rfl
 ·obtain⟨x,net,rfl,hx,nok,k⟩:=h
  have sc:=jW
  refine⟨_,(aD (aP (i:=1) sc.nd rfl (Or.inl rfl) (aU (tN (K:=K) rfl) (aV (aA aE aC)) (aR (bA (K:=K) rfl) rfl T.b_len aar (aA (aQ (aJ (K:=K) rfl) (pv 0) aE (λ _ _=>rfl)) aC))))
   (aK (bC (aV (aA (pv 1) (aA (pv 1) (aA (aZ (bO (K:=K) rfl) rfl T.b_tuple bR (aA (gL (λ _ _ h=>h) rfl (LcOk.mk (N':=["spout"]) (fr:=[none]) rfl trivial rfl rfl rfl rfl rfl trivial) (cW (K:=K) rfl (aQ (aJ (K:=K) rfl) (pv 0) aE (λ _ _=>rfl))) (λ _ _ _=>(aH (i:=0) (show (["spout"]:List Str).Nodup by decide +kernel) rfl (Or.inl rfl) (Or.inr rfl))) (λ _ _ _=>d6) (λ _ _ _=>(aQ (aJ (K:=K) rfl) (pv 0) aE (λ _ _=>rfl)))) aC)) aC))))))),?_⟩
  obtain⟨a,b,c,xs,ys,rfl,q,q1,l1,q2,l2⟩:=fA hx
  have exl:xs.length=net.vs.length:=by rw[l1.length,aac]
  have eyl:ys.length=net.sps.length:=by rw[l2.length,aac]
  have n1:=nok.lo
  have n2:=nok.hi
  have n3:=nok.sp
  refine⟨(show 1<=sizeLine by decide),λ z hz=>⟨_,rfl,.inr (.inl ⟨a,_,0,_,rfl,rfl,(aF.new hz).tup q,rfl,b,xs,rfl,.inr ((aF.new hz).tup q1),z,_,[.int 0],rfl,rfl,bD.of aB,by omega,by omega,by simp,by simp,λ e H1 sm1 qe=>?_⟩)⟩⟩
  have s1:aF H H1:=(aF.new hz).trans sm1
  have en:((xs.length:Nat):Int).toNat=net.vs.length:=by rw[exl];simp
  rw[en,zN] at qe
  refine⟨_,rfl,_,rfl,_,rfl,.inr (.inl ⟨a,_,1,_,rfl,rfl,s1.tup q,rfl,c,rfl,⟨_,s1.tup q2⟩,gA (K:=K) (a:=c) (xs:=ys) (λ D i r ac H'=>H1 D=none/\aF H1 H'/\H' D=some (.lst r)/\r=((net.sps.take i).map (·.2.2)).map V.bl/\∃ u,ac=[u])
   (λ D i r ac H' p=>p.2.1.tup (s1.tup q2)) (λ D hD=>⟨hD,aF.new hD,aB,by simp,none,rfl⟩) ?_ ?_⟩)⟩
  rotate_left
  ·rintro D i x r ac H2 hx ⟨hD,sm,hDl,rfl,u,rfl⟩
   obtain⟨sp,hsi,sa,rfl,qs⟩:=mF l2 hx
   have hil:=(aad.mp hsi).1
   refine g9 ?_
   refine⟨_,rfl,.inr (.inl ⟨sa,_,2,_,rfl,rfl,sm.tup (s1.tup qs),rfl,hDl,aY (by simp;omega),hD,sm.put hD,aB,?_,_,rfl⟩)⟩
   rw[bI hsi];simp
  ·rintro D r ac H2 ⟨hD,sm,hDl,rfl,_⟩
   rw[eyl,aao] at hDl
   refine⟨D,_,rfl,.inl ⟨bT.of hDl,λ d hd=>⟨(show 3<=sizeLine by decide),λ r hr'=>?_⟩⟩⟩
   have m1:aF H2 (upd H2 d (.tup ((net.sps.map (·.2.2)).map V.bl))):=aF.new hd
   have m2:aF (upd H2 d (.tup ((net.sps.map (·.2.2)).map V.bl))) (upd (upd H2 d (.tup ((net.sps.map (·.2.2)).map V.bl))) r (.tup [.ref e,.ref e,.ref d])):=aF.new hr'
   refine k _ _ (((s1.trans sm).trans m1).trans m2) (vZ (bD.of aB) ?_ ?_ (m2.tup (bD.of aB)))
   ·exact m2.tup (m1.tup (sm.tup qe))
   ·exact m2.tup (m1.tup (sm.tup qe))
end
end Tw
namespace Tw
end Tw
namespace Tw
open PySem L2
theorem mS {af:Type} (f:af->L2.D) (hf:∀ a,(f a).depth=0):∀ l:List af,cE (l.map f)=0
 | []=>by rw[List.map_nil,cE]
 | a::r=>by rw[abb,cE,hf,mS f hf r];rfl
theorem y9 (i:Int):(L2.D.int i).depth=0:=by rw[L2.D.depth] <;> intros <;> (first | rfl | (intro z;cases z) | (rename_i z;cases z))
theorem BI (i:Bool):(L2.D.bl i).depth=0:=by rw[L2.D.depth] <;> intros <;> (first | rfl | (intro z;cases z) | (rename_i z;cases z))
theorem uC (held coming:List Int) (doors:List Bool):cE [.tup (held.map L2.D.int),.tup (coming.map L2.D.int),.tup (doors.map L2.D.bl)]=1:=by
 simp only [cE,L2.D.depth,mS _ y9,mS _ BI];rfl
theorem AI (K:aaa):PySem.W.kitOne K (.type "tuple") (.type "tuple")=some true:=by
 unfold PySem.W.kitOne;rw[if_pos (by decide +kernel)]
theorem FO (K:aaa):PySem.W.kitOne K (.type "int") (.type "bool")=some false:=by
 unfold PySem.W.kitOne
 rw[if_neg (by decide +kernel)]
 show (if PySem.W.kitMeta "bool" = true then PySem.W.subIn K (.type "int") (.type "bool") else none)=some false
 rw[if_pos (by decide +kernel)]
 show (PySem.fastBuiltinMro "int").map (·.contains (.type "bool"))=some false
 decide +kernel
section
variable {P:Program}{w:World}{K:aaa}{mg:Str->Option Value}{base:Heap}
end
end Tw
namespace L2
open PySem PySem.Spec PyProof.Rows TwZ
section
variable {X:Cx}{K:aaa}
theorem eX {x:Str}{v:V}{pos:Pos} (hg:Gl X x) (h:∃ u,X.mg x=some u/\bN v u) (hd:(x == ("__debug__" : Str))=false:=by decide):PE X (.Name x pos) (tC v):=by
 obtain⟨u,e,r⟩:=h
 exact D6 hg e r hd
theorem A8 (hK:X.K=K):iN X (compareOp .In) (rIn K false):=by subst hK;exact xK
end
theorem iteD {c A B:Prop} [Decidable c] (hc:c) (h:A):if decide c=true then A else B:=by
 rw[if_pos (decide_eq_true hc)];exact h
end L2
namespace Tw
open PySem L2
theorem FN (K:aaa):PySem.W.kitOne K (.type "int") (.type "int")=some true:=by
 unfold PySem.W.kitOne;rw[if_pos (by decide +kernel)]
section
variable {P:Program}{w:World}{K:aaa}{mg:Str->Option Value}{base:Heap}{aw:Addr}
noncomputable def qU:Sp:=λ vs H Q _=>∃ (n lo hi:Int),vs=[.int n,.int lo,.int hi]/\lo<=n/\n<=hi/\Q (.bl true) H
end
end Tw
namespace L2
open PySem PySem.Spec PyProof.Rows
noncomputable def HX (K:aaa) (n:Nat) (t:BV):TG:=λ v σ H Q=>∃ a xs,v=.ref a/\bT K H a xs/\xs.length=n/\t xs σ H Q
theorem FI {X:Cx}{pos:Pos}{es:List Expr}{k:Nat}{t:BV}{n:Nat} (hc:X.calm=true) (h:GF X es t)
  (hn:(assignEach es X.env).length=n:=by rfl) (hst:(assignEach es X.env).findIdx? (·.1)=none:=by rfl):PG X (.Tuple es k pos) (HX X.K n t):=by
 intro pins s σ H v u Q I r hw
 obtain⟨a,xs,e1,hq,hl,hw⟩:=hw
 subst e1
 cases r
 obtain⟨its,rv,ht,hz⟩:=I.list hq
 rw[assign_Tuple]
 refine wpAny_bind (wpAny_standAt ?_)
 unfold unpack
 have e:(assignEach es X.env).length=its.toArray.size:=by simp [hn,<- hl,rv.length]
 rw[e,hst]
 refine wpAny_bind (wpAny_holding (PySem.W.kun_itemsOf (I.ok.hd hc) ht.isList λ h' hx=>?_))
 have I1:Inv X pins σ H { s with heap:=h' }:=I.kept (t':=s.toks) λ b o e=>hx b o (aat (aai e)) e
 exact h pins _ σ H xs _ Q I1 (by simpa using rv) hw
theorem D5 {X:Cx}{K:aaa}{pos:Pos}{es:List Expr}{k:Nat}{t:BV}{n:Nat} (hK:X.K=K) (hc:X.calm=true) (h:GF X es t)
  (hn:(assignEach es X.env).length=n:=by rfl) (hst:(assignEach es X.env).findIdx? (·.1)=none:=by rfl):PG X (.Tuple es k pos) (HX K n t):=by
 subst hK;exact FI hc h hn hst
end L2
namespace L2
open PySem PySem.Spec PyProof.Rows TwZ
section
variable {X:Cx}{K:aaa}
theorem AC (hK:X.K=K):iN X (binaryOp .Add) (E4 K):=by subst hK;exact wI
theorem nW (l:Addr) (items:Array Value) (n:Nat) (x:Int) (u:Tok) (dd:Option Addr) (sl:Array (Option Value)) (c0:¬ (decide (x < -(2 ^ 63)) || decide (x ≥ 2 ^ 63))=true) (c1:¬ (items.isEmpty || x == 1)=true)
  (c2:(decide (x<=0) || items.isEmpty)=true) :
  Meets (Builtin.«tuple.__mul__» ⟨[.ref l,.int x u],[]⟩) (λ _ R s=>s.heap.get? l=some { cls:=.type "tuple",dict:=dd,data:=.seq items n,slots:=sl }/\
   R (.ok (.ret (.ref s.heap.objs.size))) { s with heap:=s.heap.push { cls:=.type "tuple",data:=.seq #[] } }):=
 .of_wp λ prog w A R s h=>by
  obtain⟨hp,g,d,tk,os⟩:=s;obtain⟨hl,h⟩:=h
  wp_walk
  rw[if_neg c0]
  wp_walk
  all_goals (try rw[if_neg c1])
  wp_walk
  all_goals (try rw[if_pos c2])
  wp_walk
  exact⟨_,rfl,h⟩
noncomputable def DW (K:aaa):R2:=λ x y H Q=>∃ (l:Addr) (k:Int) (xs:List V),x=.ref l/\y=.int k/\bD K H l xs/\0<=k/\k < 1000000/\xs≠[]/\xs.length<=10/\
 ∀ p H',aF H H'->bD K H' p (List.replicate k.toNat xs).flatten->Q (.ref p) H'
theorem D9:iN X (binaryOp .Mult) (DW X.K):=by
 intro pins s σ H x y v u Q I rx ry h
 obtain⟨l,k,xs,rfl,rfl,hq,h1,h2,hne,hl10,q⟩:=h
 by_cases hk:1<=k
 ·exact wH pins s σ H _ _ v u Q I rx ry ⟨l,k,xs,rfl,rfl,hq,hk,h2,hne,hl10,q⟩
 ·have hk0:k=0:=by omega
  subst hk0
  cases rx
  obtain⟨t,rfl⟩:=ry
  obtain⟨its,r,ht,z⟩:=I.tuple hq
  have hlen:=r.length
  obtain⟨⟨cls,dd,data,sl⟩,e,hc,n,hd⟩:=id ht
  simp only at hc hd
  subst hc hd
  refine wpAny_binaryOp_repeat_ref (T := "tuple") (U := "int") (by decide) ⟨_,e,rfl⟩ (λ s'=>typeIs_int s' 0 t) gX F.fills_int_mul F.slot_int_rmul lH F.slot_int_index.lookup
   (call_meets F.slot_int_rmul (typeIs_int s 0 t) F.entry_int_rmul (F.args_int_rmul_2 _ _) (j4 0 t l its.toArray n dd sl) ⟨e,rfl,⟨_,e,rfl⟩,?_⟩)
  have hne':its≠[]:=λ z=>by rw[z] at hlen;exact hne (List.eq_nil_of_length_eq_zero hlen)
  have hemp:its.toArray.isEmpty=false:=by cases its with
   | nil=>exact absurd rfl hne'
   | cons a r=>rfl
  refine call_meets F.slot_tuple_mul ⟨_,e,rfl⟩ F.entry_tuple_mul (F.args_tuple_mul_2 _ _) (nW l its.toArray n 0 t dd sl (by decide) (by rw[hemp];decide) (by simp)) ⟨e,?_⟩
  have I1:=I.laid (a:=s.heap.objs.size) (o:=.tup []) (h':=s.heap.push { cls:=.type "tuple",data:=.seq #[] }) (t':=s.toks)
   (λ _ _ q=>aab _ q) (Nat.le_refl _) ⟨Nat.zero_le _,[],.nil,⟨_,aag _ rfl,rfl,0,rfl⟩⟩
  exact⟨.ref _,_,I1,rfl,q _ _ (aF.new I.fresh) (bD.of aB)⟩
theorem oG (hK:X.K=K):iN X (binaryOp .Mult) (DW K):=by subst hK;exact D9
end
end L2
namespace L2
open PySem PySem.Spec PyProof.Rows TwZ
section
variable {K:aaa}{g:TG}{tc:TT}{te:TE}{fr:List (Option Nat)}{σ:St}{H1:Hp}{Q:Addr->Hp->Prop}
end
end L2
namespace Tw
open PySem L2
section
variable {K:aaa}{C r dx R M T:Addr}{H H':Hp}{S:RunS}{fp:List Addr}{np mv:V}{ts:List Addr}{rs ms:List V}
end
section
variable {P:Program}{w:World}{K:aaa}{mg:Str->Option Value}{base:Heap}{C:Addr}
noncomputable def mG (K:aaa):Sp:=λ vs H Q _=>∃ (x:V) (net:Net) (v:Int),vs=[x,.int v]/\Is K H (dY net) x/\NetOk net/\∀ p H',aF H H'->bD K H' p ((v::gH (net.vs.length - 1)).map V.int)->Q (.ref p) H'
theorem o9:FnScope ["net","amount","vessels","spouts"] ["net","amount"] (aM (bK 12)):=⟨rfl,rfl,rfl,by decide +kernel,rfl,by decide +kernel,by decide +kernel⟩
theorem vE {f:Addr}{fd:FuncData} (F:Fun K "pouring" "pouring" (bK 12) f fd) (T:Txt mg):FnOk P w K mg base iM 1 f fd ["net","amount"] (mG K):=by
 refine F.ok o9 (λ vs H Q E h=>?_) (λ cdv A outer s H vs Q E hr h=>?_)
 ·obtain⟨x,net,v,rfl,_⟩:=h;rfl
 ·obtain⟨x,net,v,rfl,hx,nok,k⟩:=h
  have sc:=o9
  refine⟨_,(aD (cN (pv 0) (bJ (K:=K) (n:=2) rfl rfl (aG (aH (i:=2) sc.nd rfl (Or.inl rfl)) (aG (aH (i:=3) sc.nd rfl (Or.inl rfl)) bF))))
   (aK (bC (aU (AC (K:=K) rfl) (aV (aA (pv 1) aC)) (aU (oG (K:=K) rfl) (aV (aA aE aC)) (aU eY (aR (bA (K:=K) rfl) rfl T.b_len aar (aA (pv 2) aC)) aE)))))),?_⟩
  obtain⟨a,b,c,xs,ys,rfl,q,q1,l1,q2,l2⟩:=fA hx
  have exl:xs.length=net.vs.length:=by rw[l1.length,aac]
  have n1:=nok.lo
  have n2:=nok.hi
  refine⟨_,rfl,a,_,rfl,q,rfl,_,_,rfl,_,_,rfl,rfl,?_⟩
  refine⟨_,rfl,(show 1<=sizeLine by decide),λ y hy=>⟨(show 1<=sizeLine by decide),λ z hz=>?_⟩⟩
  have m1:=aF.new (o:=HO.tup [.int v]) hy
  have m2:=aF.new (o:=HO.tup [.int 0]) hz
  refine⟨_,rfl,b,xs,rfl,.inr (m2.tup (m1.tup q1)),_,_,rfl,rfl,z,_,[.int 0],rfl,rfl,bD.of aB,by omega,by omega,by simp,by simp,λ e H1 sm1 qe=>?_⟩
  have en:(((xs.length:Nat):Int) - 1).toNat=net.vs.length - 1:=by rw[exl];omega
  rw[en,zN] at qe
  refine⟨y,e,[.int v],_,rfl,rfl,sm1.tup (m2.tup (bD.of aB)),qe,by simp,aY (by simp;omega) |> aca,λ he=>?_,λ _ p hp=>?_⟩
  ·refine k _ _ ((m1.trans m2).trans sm1) ?_
   have e0:gH (net.vs.length - 1)=[]:=List.map_eq_nil_iff.mp he
   rw[e0]
   exact sm1.tup (m2.tup (bD.of aB))
  ·exact k _ _ (((m1.trans m2).trans sm1).trans (aF.new hp)) (bD.of aB)
end
end Tw
namespace L2
open PySem PySem.Spec PyProof.Rows TwZ
section
variable {X:Cx}{pins:List (Addr×Obj)}{σ:St}{H:Hp}{s:Shared}
end
section
variable {K:aaa}{H:Hp}
end
end L2
namespace L2
open PySem PySem.Spec PyProof.Rows TwZ
theorem cC.some {P:Program}{w:World}{H:Hp}{h:Heap}{a:Addr}{o:HO} (x:cC P w H h a o):∃ ob,h.get? a=some ob:=by
 cases o with
 | lst xs=>obtain⟨_,_,_,_,e⟩:=x;exact⟨_,e⟩
 | tup xs=>obtain⟨_,_,_,ob,e,_⟩:=x;exact⟨_,e⟩
 | dK kvs=>obtain⟨_,_,_,_,o,_,_,e,_⟩:=x;exact⟨_,e⟩
 | dT kvs=>obtain⟨_,_,_,_,o,_,_,e,_⟩:=x;exact⟨_,e⟩
 | set S n=>obtain⟨o,_,_,_,e,_⟩:=x;exact⟨_,e⟩
 | ins C dx fs=>obtain⟨_,_,_,e,_⟩:=x;exact⟨_,e⟩
 | own y=>obtain⟨_,e⟩:=x;exact⟨_,e⟩
 | xd fs=>obtain⟨_,⟨_,_,_,e,_⟩,_⟩:=x;exact⟨_,e⟩
 | rng lo hi=>obtain⟨_,_,_,e⟩:=x;exact⟨_,e⟩
 | frz ob u=>obtain⟨e,_⟩:=x;exact⟨_,e⟩
 | tbl ps=>exact⟨_,(show h.get? a=Option.some _ from x)⟩
 | met f y=>exact⟨_,(show h.get? a=Option.some _ from x)⟩
 | ext dz=>obtain⟨_,⟨_,e⟩,_⟩:=x;exact⟨_,e⟩
structure Fly (P:Program) (w:World) (stack:List Env) (H:Hp) (h:Heap) (ea:Addr) (cls a0:Value) (H':Hp) (h' B:Heap):Prop where
 fl:Heap.FlyingW B stack ea cls a0 h'
 keep:∀ b o,h.get? b=some o->H b=none->b∉hJ stack->B.get? b=some o
 slot:∀ b o,h.get? b=some o->H b=none->b∈hJ stack->∃ sl,h'.get? b=some { o with slots:=sl }
 free:∀ b o,h.get? b=some o->H b=none->H' b=none
 there:∀ b o,h.get? b=some o->b∉hJ stack->∃ o',B.get? b=some o'
 tups:∀ b xs,H b=some (.tup xs)->H' b=some (.tup xs)
 frzs:∀ b o u,H b=some (.frz o u)->H' b=some (.frz o u)
 tbls:∀ b ps,H b=some (.tbl ps)->∃ more,H' b=some (.tbl (ps++more))
 hok:kA P w H' B
noncomputable def uJ (P:Program) (w:World):vW:=λ outer H s E e s'=>∃ (ea:Addr) (cls a0:Value) (H':Hp) (B:Heap),e=.ref ea/\s'.os=s.os/\AllBare s'.gens/\Fly P w outer H s.heap ea cls a0 H' s'.heap B/\E cls none H'
structure Leaves (X:Cx) (E:XK):Prop where
 stk:X.stack=X.env::X.outer
 fr:X.env.frame=some X.env.locals
 ex:X.ex=[]
 xe:∀ e s',wpAny (model X.prog X.w) X.A (leaving X.env e) (λ _ s''=>uJ X.prog X.w X.outer X.H₀ X.s₀ E e s'') (λ e' s''=>uJ X.prog X.w X.outer X.H₀ X.s₀ E e' s'') s'->X.xe e s'
section
variable {X:Cx}{pins:List (Addr×Obj)}{σ:St}{H H':Hp}{s s':Shared}{E:XK}
theorem DE {l:List Env}{b:Addr}{env:Env} (he:env∈l) (hf:env.frame=some b):b∈hJ l:=List.mem_filterMap.mpr ⟨env,he,hf⟩
theorem lK {l:List Env}{b L:Addr}{env:Env} (hf:env.frame=some L) (h:b∈hJ (env::l)):b=L\/b∈hJ l:=by
 unfold hJ at h ⊢
 rw[List.filterMap_cons,hf] at h
 exact List.mem_cons.1 h
theorem zR {h':Heap}{ea:Addr}{cls:Value}{vs:List Value} (L:Leaves X E) (I:Inv X pins σ H s) (hx:Heap.MadeExcOf s.heap h' ea cls vs) (hE:E cls none H):X.xe (.ref ea) { s with heap:=h' }:=by
 refine L.xe _ _ ?_
 have fr:X.A.frames=some (X.env::X.outer):=by rw[<- L.stk];exact I.ok.frames
 have hs:s.heap.FunFrames X.base (X.env::X.outer):=by rw[<- L.stk];exact I.stack
 have hfree:∀ b∈hJ (X.env::X.outer),H b=none:=by rw[<- L.stk];exact I.stkFree
 have nex:∀ b:Addr,b∉X.ex:=λ b z=>by rw[L.ex] at z;cases z
 have out:∀ b o,X.s₀.heap.get? b=some o->b∉hJ X.outer->b∉hJ (X.env::X.outer):=λ b o e hb z=>by
  rcases lK L.fr z with z | z
  ·exact absurd (aal (aai e) I.ok.above) (by rw[z];exact abj _)
  ·exact hb z
 refine wpAny_leaves_madeW (base:=PySem.W.hideAll s.heap (hJ (X.env::X.outer))) fr L.fr (λ b o q=>PySem.W.of_hideAll _ q) (PySem.W.funFrames_hide hs λ env he a hf=>DE he hf) hx λ h2 t x1 x2 x3 x4=>?_
 refine⟨ea,cls,.ref t,H,_,rfl,I.os,I.bare,⟨x1,λ b o e n hb=>?_,λ b o e n hb=>?_,λ b o e n=>I.base.free b o e n (nex b),λ b o e hb=>?_,I.base.tups,I.base.frzs,I.base.tbls,λ a o e=>?_⟩,hE⟩
 ·exact PySem.W.hideAll_get _ (I.base.keep b o e n hb (nex b)) (out b o e hb)
 ·obtain⟨sl,e1⟩:=I.base.slot b o e n hb (nex b)
  obtain⟨_,o',ho',hd⟩:=I.ok.funs.mem hb
  rw[e] at ho'
  cases ho'
  obtain⟨sl',e2⟩:=x4 b _ (hx.keeps _ _ e1) hd
  exact⟨sl',e2⟩
 ·obtain⟨o',e1⟩:=I.base.there b o e (nex b)
  exact⟨o',PySem.W.hideAll_get _ e1 (out b o e hb)⟩
 ·refine (I.hok a o e).stay (λ b u hb q=>PySem.W.hideAll_get _ q λ z=>?_) (λ _ q=>q) λ _ _ q=>q
  have:=hfree b z
  rcases hb with rfl | hb
  ·rw[e] at this;cases this
  ·rw[hb] at this;cases this
theorem D7 (L:Leaves X E):kQ (uJ X.prog X.w) X E:=by
 intro pins σ H s e s' I h
 obtain⟨ea,cls,a0,H',B,rfl,os,bare,F,hE⟩:=h
 refine L.xe _ _ ?_
 have fr:X.A.frames=some (X.env::X.outer):=by rw[<- L.stk];exact I.ok.frames
 have nex:∀ b:Addr,b∉X.ex:=λ b z=>by rw[L.ex] at z;cases z
 have out:∀ b o,X.s₀.heap.get? b=some o->b∉hJ X.outer->b∉hJ X.stack:=λ b o e hb z=>by
  rw[L.stk] at z
  rcases lK L.fr z with z | z
  ·exact absurd (aal (aai e) I.ok.above) (by rw[z];exact abj _)
  ·exact hb z
 have inn:∀ b,b∈hJ X.outer->b∈hJ X.stack:=λ b hb=>by
  rw[L.stk];unfold hJ at hb ⊢;rw[List.filterMap_cons,L.fr];exact aay _ hb
 refine wpAny_leaves_onW fr L.fr (by rw[<- L.stk];exact F.fl) λ h2 x1 x2=>?_
 refine⟨ea,cls,a0,H',B,rfl,os.trans I.os,bare,⟨x1,λ b o e n hb=>?_,λ b o e n hb=>?_,λ b o e n=>?_,λ b o e hb=>?_,λ b xs e=>F.tups b xs (I.base.tups b xs e),λ b o u e=>F.frzs b o u (I.base.frzs b o u e),λ b ps e=>?_,F.hok⟩,hE⟩
 ·exact F.keep b o (I.base.keep b o e n hb (nex b)) (I.base.free b o e n (nex b)) (out b o e hb)
 ·obtain⟨sl,e1⟩:=I.base.slot b o e n hb (nex b)
  obtain⟨sl',e2⟩:=F.slot b _ e1 (I.base.free b o e n (nex b)) (inn b hb)
  obtain⟨_,o',ho',hd⟩:=I.ok.funs.mem hb
  rw[e] at ho'
  cases ho'
  obtain⟨sl'',e3⟩:=x2 b _ e2 hd
  exact⟨sl'',e3⟩
 ·obtain⟨o',e1⟩:=I.base.there b o e (nex b)
  exact F.free b o' e1 (I.base.free b o e n (nex b))
 ·obtain⟨o',e1⟩:=I.base.there b o e (nex b)
  exact F.there b o' e1 (out b o e hb)
 ·obtain⟨m1,e1⟩:=I.base.tbls b ps e
  obtain⟨m2,e2⟩:=F.tbls b _ e1
  exact⟨m1++m2,by rw[e2,Array.append_assoc]⟩
noncomputable def y4 (ea:Addr) (cls:Value):HO:=.ext λ h=>∃ o,h.get? ea=some o/\o.cls=cls
theorem Inv.caught {ea:Addr}{cls a0:Value}{B:Heap} (I:Inv X pins σ H s) (os:s'.os=s.os) (bare:AllBare s'.gens) (F:Fly X.prog X.w X.stack H s.heap ea cls a0 H' s'.heap B):H' ea=none/\Inv X pins σ (upd H' ea (y4 ea cls)) s':=by
 obtain⟨ob,hob,hcls⟩:=F.fl.there
 obtain⟨oe,vs,hoe,_,hfd,_⟩:=F.fl.first
 have hea:H' ea=none:=by
  cases q:H' ea with
  | none=>rfl
  | some o=>
   obtain⟨o',e⟩:=(F.hok ea o q).some
   rw[F.fl.2.1] at e;cases e
 have frne:∀ b∈hJ X.stack,b≠ea:=λ b hb z=>by
  obtain⟨_,o',ho',hd⟩:=F.fl.2.2.1.mem hb
  rw[z,hoe] at ho'
  cases ho'
  exact hd _ hfd
 have ne:∀ b o,s.heap.get? b=some o->b≠ea:=λ b o e z=>by
  by_cases hb:b∈hJ X.stack
  ·exact frne b hb z
  ·obtain⟨o',e'⟩:=F.there b o e hb
   rw[z,F.fl.2.1] at e';cases e'
 have kb:∀ b u,B.get? b=some u->s'.heap.get? b=some u:=F.fl.1
 refine⟨hea,I.call' (ch:=[]) os ⟨λ b o e n hb _=>kb _ _ (F.keep b o e n hb),λ b o e n hb _=>F.slot b o e n hb,λ b o e n _=>?_,λ b o e _=>?_,λ b xs e=>?_,λ b o u e=>?_,λ b ps e=>?_⟩ (λ b u e=>?_) bare (λ b z=>absurd z (by simp))⟩
 ·rw[aO (ne b o e)];exact F.free b o e n
 ·by_cases hb:b∈hJ X.stack
  ·obtain⟨_,o',ho',_⟩:=F.fl.2.2.1.mem hb
   exact⟨o',ho'⟩
  ·obtain⟨o',e'⟩:=F.there b o e hb
   exact⟨o',kb _ _ e'⟩
 ·have:=F.tups b xs e
  rw[aO (aL this hea)];exact this
 ·have:=F.frzs b o u e
  rw[aO (aL this hea)];exact this
 ·obtain⟨m,e1⟩:=F.tbls b ps e
  exact⟨m,by rw[aO (aL e1 hea)];exact e1⟩
 ·by_cases hb:b=ea
  ·subst hb
   rw[aB] at e
   cases e
   exact⟨⟨ob,hob,hcls⟩,⟨ob,hob⟩,λ h1 h2 ⟨o,e1,e2⟩ k=>⟨o,k _ e1,e2⟩⟩
  ·rw[aO hb] at e
   exact (F.hok b u e).stay (λ c v _ q=>kb c v q) (λ c q=>by rw[aO (aL q hea)];exact q) λ c xs q=>by rw[aO (aL q hea)];exact q
noncomputable def EN (E:XK) (C:Addr) (t:TA):TS:=λ _ σ H=>t σ H λ vs H1=>vs.length<=100/\E (.ref C) none H1
theorem zV {x:Str}{C:Addr}{bm:List Value}{newId initId B:String}{np cpos pos:Pos}{du:Expr}{rest:List Expr}{t:TA} (L:Leaves X E) (hc:X.calm=true) (hg:Gl X x) (O:PySem.W.excIn X.K C bm newId=true) (hm:PySem.W.nsIn X.K mainGlobals x=some (some (.ref C))) (FB:ExcBaseFacts B newId initId bm) (ha:PA X (du::rest) t)
  (he:starEach (du::rest) X.env=(false,eval du X.env)::starEach rest X.env:=by rfl) (hplain:(backTo cpos (starEach rest X.env)).any (·.1)=false:=by rfl) (hd:(x == ("__debug__" : Str))=false:=by decide) :
  PS X (.Raise (some (.Call (.Name x np) (du::rest) [] cpos)) none pos) (EN E C t):=by
 intro pins s σ H D I h
 have G:X.mg x=some (.ref C):=aap I.ok.mod.kin I.ok.mod.glob hm
 have ocl:OwnCls x C bm newId X.mg X.base:=by
  refine⟨G,?_⟩
  have q:=O
  unfold PySem.W.excIn at q
  split at q
  ·rename_i dd cd sl ho
   split at q
   ·rename_i C' bm' k0 k1 k2 k3 n k5 hm' hs
    simp only [Bool.and_eq_true,Bool.not_eq_true',beq_iff_eq] at q;obtain⟨⟨⟨⟨⟨rfl,rfl⟩,hdel⟩,ht⟩,hok⟩,hni⟩:=q
    obtain⟨nm,bs,mro,ns,qn,hd',sn,sub,ab,col,del⟩:=cd
    dsimp only at hm' hdel hok hni
    subst hm' hdel
    have hsl:sl = #[k0,k1,k2,k3,some (.builtin n),k5]:=by obtain⟨l⟩:=sl;simp only at hs;rw[hs]
    subst hsl
    exact⟨bm',ns,nm,qn,bs,hd',sn,sub,ab,col,dd,k0,k1,k2,k3,k5,_,I.ok.mod.kin _ _ ho,.of_isNs (PySem.W.isNs_of_in I.ok.mod.kin hok),PySem.W.nsMap_none_of_in I.ok.mod.kin hok hni,PySem.W.tail_of_in I.ok.mod.kin ht⟩
   ·cases q
  ·cases q
 obtain⟨tl,N,nm,q,bs,hdct,sn,sub,ab,col,dd,k0,k1,k2,k3,k5,mN,hC,hN,hni,T⟩:=ocl.obj
 refine wpAny_Raise_call_subT (C:=C) (nm:=nm) (q:=q) (N:=N) (bs:=bs) (bm:=tl) (hdct:=hdct) (sn:=sn) (sub:=sub) (ab:=ab) (col:=col) (dd:=dd) (k0:=k0) (k1:=k1) (k2:=k2) (k3:=k3) (k5:=k5) FB (mN:=mN) (T.hasType FB.hasBase) (I.ok.hd hc) (by rw[he];show (false || (backTo cpos (starEach rest X.env)).any (·.1))=false;rw[hplain];rfl) hni (lM I hg G ⟨rfl,?_⟩ hd)
 have ha':=ha cpos pins s σ H _ I h
 rw[he] at ha' ⊢
 refine Calls.evalArgs_plain (wpAny_mono ha' (λ us cj ⟨vs,H1,I1,r1,hlen,hE⟩=>⟨rfl,?_,I1.bk _ _ hC,hN.keeps I1.bk,T.keeps I1.bk,λ h' e hme=>zR L I1 hme hE⟩) λ _ _ y=>y)
 have:=r1.length
 show us.length<=sizeLine
 rw[sizeLine_eq];omega
end
end L2
namespace L2
open PySem PySem.Spec PyProof.Rows TwZ
noncomputable abbrev Cx.within (X:Cx) (pn:List (Addr×Obj)) (E:Value->Shared->Prop):Cx:={ X with pn:=pn,xe:=E }
noncomputable abbrev Cx.caughtIn (X:Cx) (ea:Addr):Cx:={ X with A:=X.A.mark (some (.ref ea)),calm:=false,xe:=λ _ _=>False }
section
variable {X:Cx}{pins:List (Addr×Obj)}{σ:St}{H:Hp}{s:Shared}{pn:List (Addr×Obj)}{E:Value->Shared->Prop}{ea:Addr}
theorem Cx.Ok.within (ok:X.Ok):(X.within pn E).Ok:=
 ⟨ok.mod,ok.kind,ok.glob,ok.blt,ok.above,ok.inj,ok.has,ok.cab,ok.hd,ok.frames,ok.stk,ok.exf,ok.bs,ok.bsz,ok.noex,ok.exfs,ok.funs,ok.frf⟩
theorem Cx.Ok.unwithin (ok:(X.within pn E).Ok):X.Ok:=
 ⟨ok.mod,ok.kind,ok.glob,ok.blt,ok.above,ok.inj,ok.has,ok.cab,ok.hd,ok.frames,ok.stk,ok.exf,ok.bs,ok.bsz,ok.noex,ok.exfs,ok.funs,ok.frf⟩
theorem Inv.within (I:Inv X pins σ H s):Inv (X.within (X.pn++pins) E) [] σ H s:=
 ⟨I.ok.within,I.os,I.bare,I.base,I.loc,I.cell,I.free,I.freeC,λ p hp=>I.pin p (by simpa using hp),I.hok,I.len⟩
theorem Inv.unwithin {p2:List (Addr×Obj)} (I:Inv (X.within (X.pn++pins) E) p2 σ H s):Inv X pins σ H s:=
 ⟨I.ok.unwithin,I.os,I.bare,I.base,I.loc,I.cell,I.free,I.freeC,λ p hp=>I.pin p (abm _ hp),I.hok,I.len⟩
theorem Inv.mark (I:Inv X pins σ H s):Inv (X.caughtIn ea) pins σ H s:=
 ⟨⟨I.ok.mod,I.ok.kind,I.ok.glob,I.ok.blt,I.ok.above,I.ok.inj,I.ok.has,I.ok.cab,λ z=>Bool.noConfusion z,I.ok.frames,I.ok.stk,I.ok.exf,I.ok.bs,I.ok.bsz,I.ok.noex,I.ok.exfs,I.ok.funs,I.ok.frf⟩,I.os,I.bare,I.base,I.loc,I.cell,I.free,I.freeC,I.pin,I.hok,I.len⟩
theorem Inv.unmark (ok:X.Ok) (I:Inv (X.caughtIn ea) pins σ H s):Inv X pins σ H s:=
 ⟨ok,I.os,I.bare,I.base,I.loc,I.cell,I.free,I.freeC,I.pin,I.hok,I.len⟩
theorem AG {M:Model}{A:Around}{E:Value->Shared->Prop}{i:Nat}{n:Str}{pos:Pos}{Q:Unit->Shared->Prop} (I:Inv X pins σ H s) (hN:X.N.Nodup) (hi:X.N[i]? = some n) (hk:X.env.scope.names.lookup n=some .local)
  (h:∀ s',Inv X pins (σ.set i none) H s'->Q () s'):wpAny M A (do bindName X.env n .none;unbindBehindTheSuite X.env n pos) Q E s:=by
 obtain⟨m,hn,hl⟩:=id I.loc
 have hcls:(X.env.scope.kind == .class || (X.env.scope.kind == .module && X.env.locals != X.env.globals))=false:=by rw[I.ok.kind];rfl
 have hlo:X.env.kindOf n=some .local:=hk
 have dc:i < σ.length:=by rw[I.len];exact (aad.mp hi).1
 refine wpAny_bind (wpAny_bindName (wpAny_storeName_local hk hn (λ h₁ hn₁ ad=>?_) hcls))
 unfold unbindBehindTheSuite
 refine wpAny_onRaise ?_;unfold unbindName;refine wpAny_bind (wpAny_point (wpAny_bind ?_));unfold deleteName
 simp only [hlo,hcls]
 rw[if_neg (by decide)]
 refine wpAny_bind (wpAny_nsDel_keeps hn₁ λ am v hn₂ ae=>?_);simp only [if_true,Option.isSome_some,Bool.not_true,Bool.false_eq_true,if_false]
 have hs:=ad.trans ae
 obtain⟨oL,_,_,hoL,_⟩:=id hn
 have cne:=I.cne
 refine wpAny_pure (wpAny_point (h _ ⟨I.ok,I.os,I.bare,⟨λ b o e n hb hx=>?_,λ b o e n hb hx=>?_,I.base.free,λ b o e hx=>?_,I.base.tups,I.base.frzs,I.base.tbls⟩,⟨_,hn₂,λ j y v' e1 e2 e3=>?_⟩,λ y c e=>?_,I.free,I.freeC,λ p hp=>?_,λ b ob e=>?_,by simpa using I.len⟩))
 ·exact (hs.2 b (aat (aal (aai e) I.ok.above))).trans (I.base.keep b o e n hb hx)
 ·obtain⟨sl,e1⟩:=I.base.slot b o e n hb hx
  exact⟨sl,(hs.2 b (aat (aal (aai e) I.ok.above))).trans e1⟩
 ·obtain⟨o',e1⟩:=I.base.there b o e hx
  exact⟨o',(hs.2 b (aat (aal (aai e) I.ok.above))).trans e1⟩
 ·by_cases hj:j=i
  ·subst hj
   rw[acb dc] at e2
   cases e2
  ·rw[ace (Ne.symm hj)] at e2
   obtain⟨u',r',q⟩:=hl j y v' e1 e2 e3
   refine⟨u',r',?_⟩
   rcases q with ⟨k,e⟩ | ⟨k,c,e,z⟩
   ·refine .inl ⟨k,?_⟩
    have:y≠n:=λ e=>hj (oO hN e1 (e ▸ hi))
    simp [this,e]
   ·exact .inr ⟨k,c,e,z.sameBut hs (cne y c e)⟩
 ·obtain⟨w',z⟩:=I.cell y c e
  exact⟨w',z.sameBut hs (cne y c e)⟩
 ·obtain⟨e,n,ne,nf,d⟩:=I.pin p hp
  exact⟨(hs.2 p.1 ne).trans e,n,ne,nf,d⟩
 ·refine (I.hok b ob e).stay (λ c w' hc q=>(hs.2 c ?_).trans q) (λ _ q=>q) λ _ _ q=>q
  rintro rfl
  rcases hc with rfl | hc
  ·rw[I.free] at e;cases e
  ·rw[I.free] at hc;cases hc
noncomputable def tTry (K:aaa) (E:XK) (CT:Addr) (k i:Nat) (tb ts:TS):TS:=λ D σ H=>tb D σ H/\
 ∀ (cls:Value) (H':Hp) (ea:Addr) (ac:St),E cls none H'->ac.length=k->H' ea=none->PySem.W.exmOne K cls (.ref CT)=some true/\
  ts { nx:=λ ba H2=>D.nx (ba.set i none) H2,rt:=λ _ _=>False } (ac.set i (some (.ref ea))) (upd H' ea (y4 ea cls))
theorem FE {EX:XK}{CT:Addr}{x n:Str}{i:Nat}{body suite:List Stmt}{fk:Stmt}{np hpos pos:Pos}{tb ts:TS} (hstk:X.stack=X.env::X.outer) (hfr:X.env.frame=some X.env.locals)
  (hb:∀ (pn:List (Addr×Obj)) (xe:Value->Shared->Prop),kQ (uJ X.prog X.w) (X.within pn xe) EX->sR (X.within pn xe) body tb)
  (hg:Gl X x) (hm:X.mg x=some (.ref CT)) (hN:X.N.Nodup) (hi:X.N[i]? = some n) (hk:X.env.scope.names.lookup n=some .local)
  (hs:∀ ea:Addr,sR (X.caughtIn ea) (fk::suite) ts) (hd:(x == ("__debug__" : Str))=false:=by decide) :
  PS X (.Try body [.ExceptHandler (some (.Name x np)) (some n) (fk::suite) hpos] [] [] pos) (tTry X.K EX CT X.N.length i tb ts):=by
 intro pins s σ H D I h
 obtain⟨h1,h2⟩:=h
 refine wpAny_Try_except ?_
 let XE:Value->Shared->Prop:=λ e s'=>∃ (σ:St) (H:Hp) (s:Shared) (ea:Addr) (cls a0:Value) (H':Hp) (B:Heap),e=.ref ea/\Inv X pins σ H s/\s'.os=s.os/\AllBare s'.gens/\Fly X.prog X.w X.stack H s.heap ea cls a0 H' s'.heap B/\EX cls none H'
 have hpass:kQ (uJ X.prog X.w) (X.within (X.pn++pins) XE) EX:=by
  intro p2 σ H s e s' J hx
  obtain⟨ea,cls,a0,H',B,rfl,os,bare,F,hE⟩:=hx
  exact⟨σ,H,s,ea,cls,a0,H',B,rfl,J.unwithin,os,bare,F,hE⟩
 refine wpAny_mono (hb (X.pn++pins) XE hpass [] s σ H D I.within h1) (λ f ai hf=>?_) λ e ai hx=>?_
 ·cases f with
  | next=>
   obtain⟨ac,H',J,q⟩:=hf
   exact bL pins ai ac H' D J.unwithin q
  | brk=>obtain⟨ac,H',J,q⟩:=hf;exact⟨ac,H',J.unwithin,q⟩
  | cont=>obtain⟨ac,H',J,q⟩:=hf;exact⟨ac,H',J.unwithin,q⟩
  | ret u=>obtain⟨v,ac,H',J,r,q⟩:=hf;exact⟨v,ac,H',J.unwithin,r,q⟩
 ·obtain⟨ac,H0,s0,ea,cls,a0,H',B,rfl,J,os,bare,F,hE⟩:=hx
  have fr:X.A.frames=some (X.env::X.outer):=by rw[<- hstk];exact I.ok.frames
  have again:∀ h',Heap.FlyingW B X.stack ea cls a0 h'->ai.heap.UpToSlots h'->Fly X.prog X.w X.stack H0 s0.heap ea cls a0 H' h' B:=λ h' fl sm=>
   ⟨fl,F.keep,λ b o e n hb=>by
    obtain⟨sl,e1⟩:=F.slot b o e n hb
    obtain⟨_,o',ho',hd⟩:=J.stack.mem hb
    rw[e] at ho'
    cases ho'
    obtain⟨sl',e2⟩:=sm b _ e1 hd
    exact⟨sl',e2⟩,F.free,F.there,F.tups,F.frzs,F.tbls,F.hok⟩
  refine wpAny_looks_onW fr hfr (by rw[<- hstk];exact F.fl) λ ap fi fb=>?_
  refine wpAny_landsW fi λ be dw fc=>?_
  have F5:=again be (by rw[hstk];exact dw) (fb.trans fc)
  obtain⟨hea,J5⟩:=J.caught (s':={ ai with heap:=be }) os bare F5
  have hlen:ac.length=X.N.length:=J.len
  obtain⟨hmat,hts⟩:=h2 cls H' ea ac hE hlen hea
  refine wpAny_handleBy_cons (codeAny_handlers_test (lM (X:=X.caughtIn ea) J5.mark hg hm ?_ hd)) (by intro q;cases q)
  obtain⟨ob,hob,hobc⟩:=dw.there
  have LT0:PySem.W.Looks (model X.prog X.w) be (typeOf (.ref ea)) ob.cls:=(PySem.W.Looks.ld hob).andThen .now
  have LT:PySem.W.Looks (model X.prog X.w) be (typeOf (.ref ea)) cls:=by rw[<- hobc];exact LT0
  refine (PySem.W.exm_one (M:=model X.prog X.w) J5.kIn LT hmat).here ?_
  refine codeAny_handlers_suite_as (lands_againW dw λ cb fl₆ sm₆=>?_)
  have F6:=again cb (by rw[hstk];exact fl₆) ((fb.trans fc).trans sm₆)
  obtain⟨_,J6⟩:=J.caught (s':={ ai with heap:=cb }) os bare F6
  refine eU (X:=X.caughtIn ea) J6.mark hN hi (.inl hk) (v:=.ref ea) rfl (λ s7 J7=>?_) (.inr hk)
  refine wpAny_mono (hs ea pins s7 _ _ _ J7 hts) (λ f s8 hf=>?_) λ _ _ z=>False.elim z
  cases f with
  | next=>
   obtain⟨bu,H8,J8,q⟩:=hf
   exact AG (J8.unmark I.ok) hN hi hk λ s9 J9=>⟨_,_,J9,q⟩
  | brk=>obtain⟨_,_,_,q⟩:=hf;exact False.elim q
  | cont=>obtain⟨_,_,_,q⟩:=hf;exact False.elim q
  | ret u=>obtain⟨_,_,_,_,_,q⟩:=hf;exact False.elim q
end
end L2
namespace L2
open PySem PySem.Spec PyProof.Rows TwZ PySem.Builtin PySem.Builtin.ObjectAttr PySem.Builtin.Getset_descriptor
structure ExcKit (K:aaa) (D:Addr):Prop where
 ga:PySem.W.findIn K (.ref D) "__getattribute__" = some (some (.builtin "BaseException.__getattribute__"))
 gt:PySem.W.findIn K (.ref D) "__getattr__" = some none
 ca:PySem.W.findIn K (.ref D) "__class__" = some (some (.builtin "object.__class__"))
 gg:PySem.W.specialIn K (.builtin "object.__class__") "__get__" = some (some (.builtin "getset_descriptor.__get__"))
 tk:PySem.W.takesIn K (.builtin "object.__class__")=some true
 mo:PySem.W.mroIn K D (.type "object")=some true
 mb:PySem.W.mroIn K D (.type "BaseException")=some true
noncomputable def wX (x D:Addr) (h:Heap):Prop:=∃ o,h.get? x=some o/\o.cls=.ref D
theorem wX.ty {x D:Addr}{h:Heap} (p:wX x D h) (M:Model):PySem.W.Looks M h (typeOf (.ref x)) (.ref D):=by
 obtain⟨o,h1,h2⟩:=p
 exact h2 ▸ (PySem.W.Looks.ld h1).andThen .now
section
variable {prog:Program}{w:World}{K:aaa}{x D:Addr}
theorem BN {M:Model}{A:Around}{E:Value->Shared->Prop}{s:Shared} (nameV:Value) {Q:Unit->Shared->Prop} (L0:PySem.W.Looks M s.heap (typeOf (.ref x)) (.ref D)) (LB:PySem.W.Looks M s.heap (isSubtype (.ref D) (.type "BaseException")) true) (hq:Q () s) :
  wpAny M A (checkBuiltinCall "BaseException.__getattribute__" ⟨[.ref x,nameV],[]⟩) Q E s:=by
 obtain⟨h,g,d,t,os⟩:=s
 have hk:builtinKind "BaseException.__getattribute__" = some .slot:=by decide +kernel
 have hsplit:splitId "BaseException.__getattribute__" = some ("BaseException","__getattribute__"):=by decide +kernel
 have ha:=PySem.F.args_bexc_ga (.ref x) nameV
 simp only [checkBuiltinCall,hk,hsplit]
 refine wpAny_bind ?_
 unfold isInstance
 repeat (first | with_reducible refine L0.at ?_ | with_reducible refine LB.at ?_ | wp_step)
 exact hq
theorem xZ {A:Around}{E:Value->Shared->Prop}{s:Shared}{Q:Option Value->Shared->Prop} (Z:ExcKit K D) (X:K.In s.heap) (p:wX x D s.heap) (hq:Q (some (.ref D)) { s with toks:=s.toks+1 }):wpAny (model prog w) A (getAttr? (.ref x) "__class__") Q E s:=by
 obtain⟨hh,g,d,t,os⟩:=s
 have L0:=p.ty (model prog w)
 have L1:=PySem.W.looks_findIn (M:=model prog w) X Z.ga
 have L2:=PySem.W.looks_findIn (M:=model prog w) X Z.gt
 have L3:=PySem.W.looks_findIn (M:=model prog w) X Z.ca
 have L4:PySem.W.Looks (model prog w) hh (getOf (some (.builtin "object.__class__"))) (some (.builtin "getset_descriptor.__get__")):=PySem.W.looks_specialIn X Z.gg
 have L5:=PySem.W.looks_takesIn (M:=model prog w) X Z.tk
 have L6:=PySem.W.looks_mroIn (M:=model prog w) X Z.mo
 have LF:PySem.W.Looks (model prog w) hh (find (.ref x) (.ref D) "__class__") (.bind (.builtin "getset_descriptor.__get__") (.builtin "object.__class__")):=
  L3.andThen (L4.andThen ((show PySem.W.Looks (model prog w) hh (dataDescriptor? (some (.builtin "object.__class__")) (some (.builtin "getset_descriptor.__get__"))) (some (.builtin "getset_descriptor.__get__",.builtin "object.__class__")) from L5.andThen .now).andThen (PySem.W.Looks.tag .now)))
 have LB:=PySem.W.looks_mroIn (M:=model prog w) X Z.mb
 have hk:builtinKind "BaseException.__getattribute__" = some .slot:=by decide +kernel
 have hsplit:splitId "BaseException.__getattribute__" = some ("BaseException","__getattribute__"):=by decide +kernel
 have hx2:(Value.builtin "BaseException.__getattribute__" == Value.builtin "object.__getattribute__")=false:=by decide +kernel
 unfold getAttr? getAttrBy? getAttrBy;refine wpAny_bind (wpAny_mkText (wpAny_bind (wpAny_attempt (wpAny_holding (wpAny_bind (L0.at (wpAny_bind (L1.at ?_))))))))
 simp only [hx2,Bool.and_false,Bool.false_eq_true,if_false]
 unfold getAttrByItsOwn hookBefore
 refine wpAny_bind ?_
 rw[show onTheHeap (Value.ref D)=true from rfl,if_pos rfl]
 refine L2.at (wpAny_bind (wpAny_attempt (wpAny_holding ?_)))
 unfold callGetattribute boundAndCalled
 rw[if_neg (by decide)]
 refine wpAny_bind (wpAny_of_eq (PySem.F.excAttr_ValueError.ga.bind (.ref x)) ?_)
 show wpAny _ _ (call (.builtin "BaseException.__getattribute__") [.ref x,.str "__class__" t]) _ _ _
 refine wpAny_call (codeAny_call_builtin PySem.F.excAttr_ValueError.ga.plain PySem.F.entry_bexc_ga ?_)
 refine BN (.str "__class__" t) L0 LB ?_
 unfold Builtin.«object.__getattribute__»
 refine wpAny_bind (wpAny_pure ?_)
 refine wpAny_bind (wpAny_pure ?_)
 refine wpAny_bind (L0.at (wpAny_bind (LF.at ?_)))
 show wpAny _ _ (holding [.builtin "object.__class__"] (call (.builtin "getset_descriptor.__get__") [.builtin "object.__class__",.ref x,.ref D]) >>= ret) _ _ _
 refine wpAny_bind (wpAny_holding (wpAny_call ?_))
 refine codeAny_call_builtin PySem.W.KF.slot_gs.plain PySem.W.KF.entry_gs (PySem.W.KF.slot_gs.check _ _ _ _ _ _ _ _ PySem.W.KF.type_class (PySem.W.KF.args_gs _ _ _) ?_)
 unfold Builtin.«getset_descriptor.__get__» descrGet;rw[PySem.W.dga_obj];refine wpAny_bind (wpAny_pure ?_)
 unfold descrGetter descrCheckInstance descrNameAndClass isInstance;simp only [PySem.W.KF.owner_class];repeat lk
 refine⟨Code.quiet_builtin _ (by decide +kernel),codeAny_builtin PySem.W.KF.entry_class ?_⟩;unfold Builtin.«object.__class__» shownTypeOf;repeat lk
 exact hq
theorem AH (Z:ExcKit K D) (hcl:∃ c d cd sl,K.lookup D=some ⟨c,d,.cls cd,sl⟩):PySem.W.KitX K (.ref x) (.ref D) (wX x D) where
 ty:=λ M _ _ p=>p.ty M
 it:=λ _ _ X _=>by
  obtain⟨c',d',cd',sl',ho⟩:=hcl
  intro A' Q' E' s' k q
  unfold isType loadHead;exact wpAny_bind (wpAny_loadPart (k _ _ (X _ _ ho)) (wpAny_pure q))
 ne:=λ _ _ _ _ _ _ X htp=>by
  obtain⟨c',d',cd',sl',ho⟩:=hcl
  refine Bool.eq_false_iff.mpr λ q=>?_;have e:=Value.ref.inj (beq_iff_eq.mp q)
  rw[<- e,X _ _ ho] at htp;cases htp
 ca:=λ X p k=>xZ Z X p k
end
noncomputable def DZ (K:aaa):List V->Hp->VK->Prop:=λ xs H Q=>∃ (ea D:Addr) (c:V) (cv:Value) (b:Bool),xs=[.ref ea,c]/\bN c cv/\H ea=some (y4 ea (.ref D))/\ExcKit K D/\(∃ c d cd sl,K.lookup D=some ⟨c,d,.cls cd,sl⟩)/\PySem.W.kitOne K (.ref D) cv=some b/\(∀ u,bN c u->u=cv)/\Q (.bl b) H
section
variable {X:Cx}
theorem yF:eN X (.builtin "isinstance") (DZ X.K):=by
 intro pins s σ H xs us Q I r h
 obtain⟨ea,D,c,cv,b,rfl,rc,he,Z,hcl,e,hu,q⟩:=h
 obtain⟨u,v,rfl,ru,rv⟩:=r.two
 cases (show u=Value.ref ea from ru)
 have:=hu v rv
 subst this
 obtain⟨p,_,_⟩:=(show cC X.prog X.w H s.heap ea (y4 ea (.ref D)) from I.hok ea _ he)
 exact PySem.W.kia_one (AH Z hcl) I.kIn p e (λ z=>nomatch z) λ tk=>⟨.bl b,H,I.tok tk,rfl,q⟩
theorem dH {K:aaa} (hK:X.K=K):eN X (.builtin "isinstance") (DZ K):=by subst hK;exact yF
noncomputable def CQ:V->List V->Hp->VK->Prop:=λ x vs H Q=>∃ (l:Addr) (bs:List Bool),x=.ref l/\vs=[.bl true]/\H l=some (.lst (bs.map V.bl))/\Q (.int (bs.countP id:Nat)) H
theorem xO:MtM X "list.count" CQ:=by
 intro pins s σ H x vs v us Q I rx rv h
 obtain⟨l,bs,rfl,rfl,hH,q⟩:=h
 cases rx
 obtain⟨u,rfl,ru⟩:=rv.one
 cases ru
 obtain⟨z,its,n,r,hl,e⟩:=I.lstM hH
 have key:∀ (bs:List Bool) (its:List Value),bP (bs.map V.bl) its->its=bs.map Value.bool:=by
  intro bs
  induction bs with
  | nil=>intro its r;cases r;rfl
  | cons b bs ih=>intro its r;cases r with | cons r1 r2=>cases r1;rw[ih _ r2];rfl
 have ek:=key bs its r
 subst ek
 refine call_meets F.slot_list_count ⟨_,e,rfl⟩ F.entry_list_count (F.args_list_count_2 _ _) (SeqAt.list_countAt l (bs.map Value.bool).toArray n none #[] (.bool true) (λ v=>match v with | .bool b=>b | _=>false)) ⟨e,λ y hy=>?_,?_⟩
 ·obtain⟨b,_,rfl⟩:=abf.1 (show y∈bs.map Value.bool by simpa using hy)
  cases b
  ·exact SeqAt.EqAt.bool_bool false true
  ·exact SeqAt.EqAt.same _
 ·have ec:(List.countP (λ v=>match v with | Value.bool b=>b | _=>false) (bs.map Value.bool).toArray.toList)=bs.countP id:=by
   rw[List.toList_toArray,List.countP_map];rfl
  rw[ec]
  exact⟨.int _,H,I.tok _,⟨_,rfl⟩,q⟩
end
end L2
namespace L2
open PySem PySem.Spec PyProof.Rows TwZ
section
variable {X:Cx}{K:aaa}
noncomputable def zT (K:aaa):R2:=λ x y H Q=>∃ a b xs ys,x=.ref a/\y=.ref b/\bD K H a xs/\bD K H b ys/\xs.length+ys.length<=sizeLine/\∀ p H',aF H H'->bD K H' p (xs++ys)->Q (.ref p) H'
theorem AB:iN X (binaryOp .Add) (zT X.K):=by
 intro pins s σ H x y v u Q I rx ry h
 obtain⟨a,b,xs,ys,rfl,rfl,ha,hb,hz,q⟩:=h
 by_cases hx:xs=[]
 ·subst hx
  cases rx
  cases ry
  obtain⟨its,r1,p1,_⟩:=I.tuple ha
  obtain⟨its2,r2,p2,_⟩:=I.tuple hb
  cases r1
  obtain⟨⟨cls,dd,data,sl⟩,ho,hc,n,hd⟩:=id p1
  obtain⟨⟨cls2,dd2,data2,sl2⟩,ho2,hc2,n2,hd2⟩:=id p2
  simp only at hc hd hc2 hd2
  subst hc hd hc2 hd2
  exact concat_meets ⟨_,ho,rfl⟩ ⟨_,ho2,rfl⟩ noFill_tuple_add seq_tuple_add PySem.F.slot_tuple_add PySem.F.entry_tuple_add (PySem.F.args_tuple_add_2 _ _) (tuple_addW0 a b _ its2.toArray n n2 dd dd2 sl sl2 (by simp)) ⟨ho,ho2,⟨.ref b,H,I,rfl,q b H (aF.refl H) hb⟩⟩
 ·refine wI pins s σ H _ _ v u Q I rx ry ⟨a,b,xs,ys,rfl,rfl,ha,hb,hx,hz,λ e=>?_,λ _ p hp=>?_⟩
  ·subst e
   exact q a H (aF.refl H) (by rw[abt];exact ha)
  ·exact q p _ (aF.new hp) (bD.of aB)
theorem eE (hK:X.K=K):iN X (binaryOp .Add) (zT K):=by subst hK;exact AB
theorem tD (hK:X.K=K):IE X (HC K):=by subst hK;exact CM
end
end L2
namespace L2
open PySem PySem.Spec PyProof.Rows TwZ
section
variable {P:Program}{w:World}{K:aaa}{mg:Str->Option Value}{base:Heap}
end
structure CalleeR (P:Program) (w:World) (K:aaa) (mg:Str->Option Value) (base:Heap) (x:Str) (ps:List Str) (k:Nat) (sp:Sp) (f:Addr) (fd:FuncData):Prop where
 ok:FnOk P w K mg base (uJ P w) k f fd ps sp
 mg:mg x=some (.ref f)
 kp:PySem.W.keepIn K (.ref f)=true
 bd:mC K fd ps []
structure ExC (K:aaa) (x:Str) (C:Addr):Prop where
 ns:PySem.W.nsIn K mainGlobals x=some (some (.ref C))
 exc:PySem.W.excIn K C [.type "ValueError",.type "Exception",.type "BaseException",.type "object"] "ValueError.__new__" = true
theorem D8 {X:Cx}{a1 a2 a3 a4 a5 a6 a7 a8:Str}{k1 k2 k3 k4 k5 k6 k7 k8:Nat}{p1 p2 p3 p4 p5 p6 p7 p8:Pos} :
  PA X [.Constant (.str a1) k1 p1,.Constant (.str a2) k2 p2,.Constant (.str a3) k3 p3,.Constant (.str a4) k4 p4,.Constant (.str a5) k5 p5,.Constant (.str a6) k6 p6,.Constant (.str a7) k7 p7,.Constant (.str a8) k8 p8]
   (d0 (tC (.str a1)) (d0 (tC (.str a2)) (d0 (tC (.str a3)) (d0 (tC (.str a4)) (d0 (tC (.str a5)) (d0 (tC (.str a6)) (d0 (tC (.str a7)) (d0 (tC (.str a8)) mD)))))))):=
 have h8:=aA (X:=X) (cH (x:=a8)) aC
 have h7:=aA (cH (x:=a7)) h8
 have h6:=aA (cH (x:=a6)) h7
 have h5:=aA (cH (x:=a5)) h6
 have h4:=aA (cH (x:=a4)) h5
 have h3:=aA (cH (x:=a3)) h4
 have h2:=aA (cH (x:=a2)) h3
 aA (cH (x:=a1)) h2
theorem pS:bootBuiltins "ValueError" = some (.type "ValueError"):=by decide +kernel
end L2
namespace Tw
open PySem L2
theorem y8 (i:Str):(L2.D.str i).depth=0:=by rw[L2.D.depth] <;> intros <;> (first | rfl | (intro z;cases z) | (rename_i z;cases z))
structure TxtW (mg:Str->Option Value) (c_TipError c_NoNet c_NoVessel c_TooLong c_TooMany c_TooMuch c_Nothing c_NoText c_NoRow:Addr):Prop where
 m_TipError:mg "TipError" = some (.ref c_TipError)
 m_NoNet:mg "NoNet" = some (.ref c_NoNet)
 m_NoVessel:mg "NoVessel" = some (.ref c_NoVessel)
 m_TooLong:mg "TooLong" = some (.ref c_TooLong)
 m_TooMany:mg "TooMany" = some (.ref c_TooMany)
 m_TooMuch:mg "TooMuch" = some (.ref c_TooMuch)
 m_Nothing:mg "Nothing" = some (.ref c_Nothing)
 m_NoText:mg "NoText" = some (.ref c_NoText)
 m_NoRow:mg "NoRow" = some (.ref c_NoRow)
 b_ValueError:mg "ValueError" = none
structure KindOf (K:aaa) (c_NoNet c_NoVessel c_TooLong c_TooMany c_TooMuch c_Nothing c_NoText c_NoRow:Addr) (D:Addr) (bs:List Bool):Prop where
 kit:ExcKit K D
 cl:∃ c d cd sl,K.lookup D=some ⟨c,d,.cls cd,sl⟩
 val:PySem.W.kitOne K (.ref D) (.type "ValueError")=some true
 ks:∃ b0 b1 b2 b3 b4 b5 b6 b7,bs=[b0,b1,b2,b3,b4,b5,b6,b7]/\PySem.W.kitOne K (.ref D) (.ref c_NoNet)=some b0/\PySem.W.kitOne K (.ref D) (.ref c_NoVessel)=some b1/\PySem.W.kitOne K (.ref D) (.ref c_TooLong)=some b2/\
  PySem.W.kitOne K (.ref D) (.ref c_TooMany)=some b3/\PySem.W.kitOne K (.ref D) (.ref c_TooMuch)=some b4/\PySem.W.kitOne K (.ref D) (.ref c_Nothing)=some b5/\PySem.W.kitOne K (.ref D) (.ref c_NoText)=some b6/\PySem.W.kitOne K (.ref D) (.ref c_NoRow)=some b7
section
variable {P:Program}{w:World}{K:aaa}{mg:Str->Option Value}{base:Heap}{C c_TipError c_NoNet c_NoVessel c_TooLong c_TooMany c_TooMuch c_Nothing c_NoText c_NoRow:Addr}
noncomputable def DQ:List Str:=["net","vessel","long","many","much","nothing","text","row"]
noncomputable def uR (K:aaa) (c_NoNet c_NoVessel c_TooLong c_TooMany c_TooMuch c_Nothing c_NoText c_NoRow:Addr):Sp:=λ vs H Q _=>∃ (ea D:Addr) (bs:List Bool) (j:Nat) (wd:Str),vs=[.ref ea]/\H ea=some (y4 ea (.ref D))/\
 KindOf K c_NoNet c_NoVessel c_TooLong c_TooMany c_TooMuch c_Nothing c_NoText c_NoRow D bs/\bs.countP id=1/\bs[j]? = some true/\(∀ i b,i < j->bs[i]? = some b->b=false)/\DQ[j]? = some wd/\∀ p H',aF H H'->bD K H' p [.str wd]->Q (.ref p) H'
theorem kY:FnScope ["error","kinds"] ["error"] (aM (bK 28)):=⟨rfl,rfl,rfl,by decide +kernel,rfl,by decide +kernel,by decide +kernel⟩
theorem rR {f:Addr}{fd:FuncData} (F:Fun K "_law_word" "_law_word" (bK 28) f fd) (T:Txt mg) (W:TxtW mg c_TipError c_NoNet c_NoVessel c_TooLong c_TooMany c_TooMuch c_Nothing c_NoText c_NoRow) :
  FnOk P w K mg base iM 1 f fd ["error"] (uR K c_NoNet c_NoVessel c_TooLong c_TooMany c_TooMuch c_Nothing c_NoText c_NoRow):=by
 refine F.ok kY (λ vs H Q E h=>?_) (λ cdv A outer s H vs Q E hr h=>?_)
 ·obtain⟨ea,D,bs,j,wd,rfl,_⟩:=h;rfl
 ·obtain⟨ea,D,bs,j,wd,rfl,he,kd,hc,hj,hlt,hw,k⟩:=h
  have sc:=kY
  refine⟨_,(aD (aP (i:=1) sc.nd rfl (Or.inl rfl) (bG (aA (aR (dH (K:=K) rfl) rfl T.b_isinstance dB (aA (pv 0) (aA (eX (v:=.ref c_NoNet) rfl ⟨_,W.m_NoNet,rfl⟩) aC))) (aA (aR (dH (K:=K) rfl) rfl T.b_isinstance dB (aA (pv 0) (aA (eX (v:=.ref c_NoVessel) rfl ⟨_,W.m_NoVessel,rfl⟩) aC))) (aA (aR (dH (K:=K) rfl) rfl T.b_isinstance dB (aA (pv 0) (aA (eX (v:=.ref c_TooLong) rfl ⟨_,W.m_TooLong,rfl⟩) aC))) aC)))))
   (aD (aP (i:=1) sc.nd rfl (Or.inl rfl) (aU kG (pv 1) (bG (aA (aR (dH (K:=K) rfl) rfl T.b_isinstance dB (aA (pv 0) (aA (eX (v:=.ref c_TooMany) rfl ⟨_,W.m_TooMany,rfl⟩) aC))) (aA (aR (dH (K:=K) rfl) rfl T.b_isinstance dB (aA (pv 0) (aA (eX (v:=.ref c_TooMuch) rfl ⟨_,W.m_TooMuch,rfl⟩) aC))) (aA (aR (dH (K:=K) rfl) rfl T.b_isinstance dB (aA (pv 0) (aA (eX (v:=.ref c_Nothing) rfl ⟨_,W.m_Nothing,rfl⟩) aC))) aC))))))
   (aD (aP (i:=1) sc.nd rfl (Or.inl rfl) (aU kG (pv 1) (bG (aA (aR (dH (K:=K) rfl) rfl T.b_isinstance dB (aA (pv 0) (aA (eX (v:=.ref c_NoText) rfl ⟨_,W.m_NoText,rfl⟩) aC))) (aA (aR (dH (K:=K) rfl) rfl T.b_isinstance dB (aA (pv 0) (aA (eX (v:=.ref c_NoRow) rfl ⟨_,W.m_NoRow,rfl⟩) aC))) aC)))))
   (aD (cF (PW.pt (n4 (kF (fQ (aR (dH (K:=K) rfl) rfl T.b_isinstance dB (aA (pv 0) (aA (lI (v:=.ty "ValueError") rfl W.b_ValueError pS rfl) aC))))) (mK (bB jX (eA (K:=K) rfl aas PySem.F.slot_list_count PySem.F.type_list_count xO (pv 1) (aA eF aC)) aE (bH _))))) (aK (bC (aV (aA cH aC)))) bL)
   (aK (bC (aV (aA (aQ (aJ (K:=K) rfl) (bG D8) (eA (K:=K) rfl aas PySem.F.slot_list_index PySem.F.type_list_index tP (pv 1) (aA eF aC)) (λ _ _=>rfl)) aC)))))))),?_⟩
  obtain⟨b0,b1,b2,b3,b4,b5,b6,b7,rfl,k0,k1,k2,k3,k4,k5,k6,k7⟩:=kd.ks
  refine⟨_,rfl,ea,D,_,_,b0,rfl,rfl,he,kd.kit,kd.cl,k0,λ u h=>h,?_⟩
  refine⟨_,rfl,ea,D,_,_,b1,rfl,rfl,he,kd.kit,kd.cl,k1,λ u h=>h,?_⟩
  refine⟨_,rfl,ea,D,_,_,b2,rfl,rfl,he,kd.kit,kd.cl,k2,λ u h=>h,(show 3<=sizeLine by decide),λ l1 h1=>?_⟩
  have he1:=aF.new (o:=HO.lst [.bl b0,.bl b1,.bl b2]) h1 _ _ he
  refine⟨_,rfl,_,rfl,ea,D,_,_,b3,rfl,rfl,he1,kd.kit,kd.cl,k3,λ u h=>h,?_⟩
  refine⟨_,rfl,ea,D,_,_,b4,rfl,rfl,he1,kd.kit,kd.cl,k4,λ u h=>h,?_⟩
  refine⟨_,rfl,ea,D,_,_,b5,rfl,rfl,he1,kd.kit,kd.cl,k5,λ u h=>h,(show 3<=sizeLine by decide),λ l2 h2=>?_⟩
  have s2:=aF.new (o:=HO.lst [.bl b3,.bl b4,.bl b5]) h2
  refine⟨l1,l2,_,_,rfl,rfl,s2 _ _ aB,aB,(show 6<=sizeLine by decide),λ l3 h3=>?_⟩
  have s3:=aF.new (o:=HO.lst ([.bl b0,.bl b1,.bl b2]++[.bl b3,.bl b4,.bl b5])) h3
  have he3:=s3 _ _ (s2 _ _ he1)
  refine⟨_,rfl,_,rfl,ea,D,_,_,b6,rfl,rfl,he3,kd.kit,kd.cl,k6,λ u h=>h,?_⟩
  refine⟨_,rfl,ea,D,_,_,b7,rfl,rfl,he3,kd.kit,kd.cl,k7,λ u h=>h,(show 2<=sizeLine by decide),λ l4 h4=>?_⟩
  have s4:=aF.new (o:=HO.lst [.bl b6,.bl b7]) h4
  refine⟨l3,l4,_,_,rfl,rfl,s4 _ _ aB,aB,(show 8<=sizeLine by decide),λ l5 h5=>?_⟩
  have s5:=aF.new (o:=HO.lst ([.bl b0,.bl b1,.bl b2]++[.bl b3,.bl b4,.bl b5]++[.bl b6,.bl b7])) h5
  have sH:aF H _:=((((aF.new h1).trans s2).trans s3).trans s4).trans s5
  have he5:=s5 _ _ (s4 _ _ he3)
  refine⟨_,rfl,ea,D,_,_,true,rfl,rfl,he5,kd.kit,kd.cl,kd.val,λ u h=>h,_,rfl,dP ?_⟩
  refine⟨_,rfl,.inl ⟨rfl,_,bT.of aB⟩,l5,[b0,b1,b2,b3,b4,b5,b6,b7],rfl,rfl,aB,rfl,_,rfl,HR (by rw[hc];rfl) ?_⟩
  refine⟨(show 8<=sizeLine by decide),λ l6 h6=>?_⟩
  have s6:=aF.new (o:=HO.lst [.str "net",.str "vessel",.str "long",.str "many",.str "much",.str "nothing",.str "text",.str "row"]) h6
  have hj8:j < 8:=(aad.mp hj).1
  refine⟨_,rfl,.inl ⟨rfl,_,bT.of (s6 _ _ aB)⟩,l5,_,_,j,rfl,rfl,s6 _ _ aB,rfl,rfl,hj8,λ z hz=>?_,λ i z hi hz=>?_,?_⟩
  ·have:([b0,b1,b2,b3,b4,b5,b6,b7].map V.bl)[j]? = some z:=hz
   rw[aah,hj] at this
   cases this
   rfl
  ·have:([b0,b1,b2,b3,b4,b5,b6,b7].map V.bl)[i]? = some z:=hz
   rw[aah] at this
   obtain⟨b,hb,rfl⟩:=aaq.mp this
   rw[hlt i b hi hb]
   rfl
  ·refine .inl ⟨l6,_,(j:Int),_,rfl,rfl,bT.of aB,bZ (show (DQ.map V.str)[j]? = some (.str wd) by rw[aah,hw];rfl),(show 1<=sizeLine by decide),λ p hp=>?_⟩
   exact k p _ ((sH.trans s6).trans (aF.new hp)) (bD.of aB)
end
end Tw
namespace L2
open PySem PySem.Spec PyProof.Rows TwZ
mutual
noncomputable def eT (h:Heap):D->Value->Prop
 | .int i,v=>∃ t,v=.int i t
 | .bl b,v=>v=.bool b
 | .tup ds,v=>∃ a o items n,v=.ref a/\h.get? a=some o/\o.cls=.type "tuple" /\ o.data=.seq items n/\dQ h ds items.toList
 | .non,_=>False
 | .str _,_=>False
noncomputable def dQ (h:Heap):List D->List Value->Prop
 | [],vs=>vs=[]
 | d::ds,vs=>∃ v r,vs=v::r/\eT h d v/\dQ h ds r
end
mutual
noncomputable def sh:D->D
 | .int _=>.int 0
 | .bl _=>.bl false
 | .tup ds=>.tup (jO ds)
 | d=>d
noncomputable def jO:List D->List D
 | []=>[]
 | d::ds=>sh d::jO ds
end
mutual
noncomputable def oT:D->Int
 | .int i=>hashInt i
 | .bl b=>hashInt (if b=true then 1 else 0)
 | .tup ds=>reduceHash (Builtin.Tuple.tupleHashOf (eC ds))
 | _=>0
noncomputable def eC:List D->List Int
 | []=>[]
 | d::ds=>oT d::eC ds
end
mutual
noncomputable def kK:D->Nat
 | .tup ds=>dW ds+1
 | _=>1
noncomputable def dW:List D->Nat
 | []=>0
 | d::ds=>kK d+dW ds
end
mutual
theorem eT.inj {h:Heap}:∀ {x y:D}{v:Value},sh x=sh y->eT h x v->eT h y v->x=y
 | .int i,.int j,v,_,hx,hy=>by
  rw[eT] at hx hy
  obtain⟨t,rfl⟩:=hx
  obtain⟨t',e⟩:=hy
  injection e with e _
  rw[e]
 | .bl i,.bl j,v,_,hx,hy=>by
  rw[eT] at hx hy
  subst hx
  injection hy with e
  rw[e]
 | .tup ds,.tup es,v,hs,hx,hy=>by
  rw[eT] at hx hy
  obtain⟨a,o,items,n,rfl,h1,h2,h3,l1⟩:=hx
  obtain⟨a',o',items',n',e,h1',h2',h3',l2⟩:=hy
  cases e
  rw[h1] at h1'
  cases h1'
  rw[h3] at h3'
  cases h3'
  rw[sh,sh] at hs
  injection hs with hs
  rw[dQ.inj hs l1 l2]
 | .non,_,_,_,hx,_=>by rw[eT] at hx;exact hx.elim
 | .str _,_,_,_,hx,_=>by rw[eT] at hx;exact hx.elim
 | .int _,.bl _,_,hs,_,_=>by rw[sh,sh] at hs;cases hs
 | .int _,.tup _,_,hs,_,_=>by rw[sh,sh] at hs;cases hs
 | .int _,.non,_,_,_,hy=>by rw[eT] at hy;exact hy.elim
 | .int _,.str _,_,_,_,hy=>by rw[eT] at hy;exact hy.elim
 | .bl _,.int _,_,hs,_,_=>by rw[sh,sh] at hs;cases hs
 | .bl _,.tup _,_,hs,_,_=>by rw[sh,sh] at hs;cases hs
 | .bl _,.non,_,_,_,hy=>by rw[eT] at hy;exact hy.elim
 | .bl _,.str _,_,_,_,hy=>by rw[eT] at hy;exact hy.elim
 | .tup _,.int _,_,hs,_,_=>by rw[sh,sh] at hs;cases hs
 | .tup _,.bl _,_,hs,_,_=>by rw[sh,sh] at hs;cases hs
 | .tup _,.non,_,_,_,hy=>by rw[eT] at hy;exact hy.elim
 | .tup _,.str _,_,_,_,hy=>by rw[eT] at hy;exact hy.elim
theorem dQ.inj {h:Heap}:∀ {x y:List D}{vs:List Value},jO x=jO y->dQ h x vs->dQ h y vs->x=y
 | [],[],_,_,_,_=>rfl
 | [],_::_,_,hs,_,_=>by rw[jO,jO] at hs;cases hs
 | _::_,[],_,hs,_,_=>by rw[jO,jO] at hs;cases hs
 | x::xs,y::ys,vs,hs,hx,hy=>by
  rw[dQ] at hx hy
  obtain⟨v,r,rfl,h1,l1⟩:=hx
  obtain⟨v',r',e,h2,l2⟩:=hy
  cases e
  rw[jO,jO] at hs
  injection hs with e1 e2
  rw[eT.inj e1 h1 h2,dQ.inj e2 l1 l2]
end
mutual
theorem eT.keeps {h h':Heap} (k:∀ a o items n,h.get? a=some o->o.data=.seq items n->h'.get? a=some o):∀ {x:D}{v:Value},eT h x v->eT h' x v
 | .int i,v,hx=>by rw[eT] at hx ⊢;exact hx
 | .bl i,v,hx=>by rw[eT] at hx ⊢;exact hx
 | .tup ds,v,hx=>by
  rw[eT] at hx ⊢
  obtain⟨a,o,items,n,e,h1,h2,h3,l1⟩:=hx
  exact⟨a,o,items,n,e,k a o items n h1 h3,h2,h3,dQ.keeps k l1⟩
 | .non,_,hx=>by rw[eT] at hx;exact hx.elim
 | .str _,_,hx=>by rw[eT] at hx;exact hx.elim
theorem dQ.keeps {h h':Heap} (k:∀ a o items n,h.get? a=some o->o.data=.seq items n->h'.get? a=some o):∀ {x:List D}{vs:List Value},dQ h x vs->dQ h' x vs
 | [],_,hx=>by rw[dQ] at hx ⊢;exact hx
 | x::xs,vs,hx=>by
  rw[dQ] at hx ⊢
  obtain⟨v,r,e,h1,l1⟩:=hx
  exact⟨v,r,e,eT.keeps k h1,dQ.keeps k l1⟩
end
theorem dQ.length {h:Heap}:∀ {x:List D}{vs:List Value},dQ h x vs->vs.length=x.length
 | [],_,hx=>by rw[dQ] at hx;subst hx;rfl
 | x::xs,vs,hx=>by
  rw[dQ] at hx
  obtain⟨v,r,rfl,_,l⟩:=hx
  rw[abi,abi,dQ.length l]
theorem dQ.get {h:Heap}:∀ {x:List D}{vs:List Value}{j:Nat}{d:D}{v:Value},dQ h x vs->x[j]? = some d->vs[j]? = some v->eT h d v
 | [],_,_,_,_,_,e,_=>by simp at e
 | d::ds,vs,0,d',v,hx,e1,e2=>by
  rw[dQ] at hx
  obtain⟨v',r,rfl,h1,_⟩:=hx
  simp at e1 e2
  subst e1 e2
  exact h1
 | d::ds,vs,j+1,d',v,hx,e1,e2=>by
  rw[dQ] at hx
  obtain⟨v',r,rfl,_,l⟩:=hx
  exact dQ.get l (by simpa using e1) (by simpa using e2)
section
variable {prog:Program}{w:World}
theorem kT {A:Around}{E:Value->Shared->Prop}{s:Shared}{b:Bool}{Q:Int->Shared->Prop} (h:Q (hashInt (if b=true then 1 else 0)) { s with toks:=s.toks+1 }):wpAny (model prog w) A (pyHash (.bool b)) Q E s:=by
 have hT:s.TypeIs (.bool b) "bool" := rfl
 have hr:=rawHash_range (if b=true then 1 else 0)
 unfold pyHash;have hv:[Value.bool b].any Value.onHeap=false:=rfl
 refine wpAny_bind ?_;rw[cRoomFor,if_neg (by rw[hv];exact aaf)];refine wpAny_pure (wpAny_bind (wpAny_specialOf hT F.slot_bool_hash.lookup ?_))
 show wpAny _ _ (if (some (Value.builtin "int.__hash__") == some Value.none)=true then _ else _) Q E s;rw[if_neg (by rw[beq_builtin_none];exact aaf)]
 refine wpAny_bind (wpAny_specialOf hT F.slot_bool_hash.lookup ?_);show wpAny _ _ (callSpecialIfBoundUnlessNone? (.bool b) "__hash__" _ >>= _) Q E s
 refine wpAny_bind (wpAny_callSpecialIfBoundUnlessNone?_slot hT F.slot_bool_hash (wpAny_call_entry F.slot_bool_hash hT F.entry_int_hash (show wpAny _ _ (do ret (<- mkInt (rawHash (if b=true then 1 else 0)))) _ _ s from wpAny_ret_mkInt ?_) (F.args_int_hash_1 _)))
 show wpAny _ _ (if (decide (-(2:Int) ^ 63<=rawHash (if b=true then 1 else 0)) && decide (rawHash (if b=true then 1 else 0) < 2 ^ 63))=true then _ else _) Q E _;rw[if_pos (by rw[decide_eq_true hr.1,decide_eq_true hr.2];rfl)]
 exact wpAny_pure h
theorem jY:∀ (a b:List D),eC (a++b)=eC a++eC b
 | [],b=>by rw[eC];rfl
 | d::a,b=>by rw[List.cons_append,eC,eC,jY a b];rfl
theorem j9:∀ (a b:List D),dW (a++b)=dW a+dW b
 | [],b=>by rw[dW,List.nil_append,Nat.zero_add]
 | d::a,b=>by rw[List.cons_append,dW,dW,j9 a b,Nat.add_assoc]
theorem mR:∀ (ds:List D) (d:D),d∈ds->d.depth<=cE ds:=by
 intro ds
 induction ds with
 | nil=>intro d h;cases h
 | cons e r ih=>
  intro d h
  rw[cE]
  rcases List.mem_cons.1 h with rfl | h
  ·omega
  ·have:=ih d h;omega
noncomputable def BX (prog:Program) (w:World) (d:D):Prop:=∀ (A:Around) (E:Value->Shared->Prop) (s:Shared) (v:Value) (Q:Int->Shared->Prop),A.units+d.depth < cLine->eT s.heap d v->Q (oT d) { s with toks:=s.toks+kK d }->wpAny (model prog w) A (pyHash v) Q E s
mutual
theorem AV:∀ (d:D),BX prog w d
 | .int i=>λ A E s v Q _ hx h=>by
  rw[eT] at hx
  obtain⟨t,rfl⟩:=hx
  rw[oT,kK] at h
  ·exact wpAny_pyHash_int h
  ·intros;contradiction
 | .bl b=>λ A E s v Q _ hx h=>by
  rw[eT] at hx
  subst hx
  rw[oT,kK] at h
  ·exact kT h
  ·intros;contradiction
 | .tup ds=>λ A E s v Q hu hx h=>by
  have all:=wM ds
  rw[eT] at hx
  obtain⟨a,o,items,n,rfl,ho,hc,hd,hi⟩:=hx
  have hT:s.TypeIs (.ref a) "tuple" := ⟨o,ho,hc⟩
  have hdep:D.depth (.tup ds)=cE ds+1:=by rw[D.depth]
  rw[hdep] at hu
  rw[oT,kK] at h
  unfold pyHash
  first | unfold pyHashByItsType | skip
  first | refine wpAny_bind (wpAny_cRoomFor_or (.inr (by omega)) ?_) | skip
  refine wpAny_bind (wpAny_specialOf hT F.slot_tuple_hash.lookup ?_);show wpAny _ _ (if (some (Value.builtin "tuple.__hash__") == some Value.none)=true then _ else _) Q E s
  rw[if_neg (by rw[beq_builtin_none];exact aaf)];refine wpAny_bind (wpAny_specialOf hT F.slot_tuple_hash.lookup ?_)
  show wpAny _ _ (callSpecialIfBoundUnlessNone? (.ref a) "__hash__" _ >>= _) Q E s;refine wpAny_bind (wpAny_callSpecialIfBoundUnlessNone?_slot hT F.slot_tuple_hash (wpAny_call_entry F.slot_tuple_hash hT F.entry_tuple_hash ?_ (F.args_tuple_hash_1 _)))
  show wpAny _ _ (Builtin.Tuple.tupleItemsOf (.ref a) >>= _) _ _ s;refine wpAny_bind (wpAny_tupleItemsOf ho hd (wpAny_bind ?_))
  rw[<- Array.forIn_toList]
  refine wpAny_forIn_list _ (λ rest (b:Array Int) s'=>∃ done left,ds=done++left/\dQ s.heap left rest/\b.toList=eC done/\s'={ s with toks:=s.toks+dW done }) _ ?_ ?_ _ _ ⟨[],ds,rfl,hi,by rw[eC],by rw[dW];rfl⟩
  ·rintro x rest b s' ⟨done,left,rfl,hl,hb,rfl⟩
   cases left with
   | nil=>rw[dQ] at hl;cases hl
   | cons k ks'=>
    rw[dQ] at hl
    obtain⟨v',r',e,h1,l1⟩:=hl
    cases e
    have hk:=all k (by simp)
    have hdk:=mR (done++k::ks') k (by simp)
    have fin:∃ done' left',done++k::ks'=done'++left'/\dQ s.heap left' rest/\(b.push (oT k)).toList=eC done'/\({ s with toks:=s.toks+dW done+kK k }:Shared)={ s with toks:=s.toks+dW done' }:=
     ⟨done++[k],ks',by simp,l1,by rw[Array.toList_push,hb,jY,eC,eC],by rw[j9,dW,dW,Nat.add_zero,Nat.add_assoc]⟩
    refine wpAny_bind (hk _ _ _ _ _ ?_ h1 ?_)
    ·have hin:A.in1.units=A.units+1:=rfl
     omega
    ·first
      | exact wpAny_pure fin
      | exact wpAny_bind (wpAny_pure (wpAny_pure fin))
  ·rintro b s' ⟨done,left,rfl,hl,hb,rfl⟩
   cases left with
   | cons k ks'=>rw[dQ] at hl;obtain⟨_,_,e,_⟩:=hl;cases e
   | nil=>
    rw[abt] at h
    show wpAny _ _ (retInt (Builtin.Tuple.tupleHashOf b.toList)) _ _ _;rw[hb];refine wpAny_ret_mkInt ?_
    show wpAny _ _ (if (decide (-(2:Int) ^ 63<=Builtin.Tuple.tupleHashOf (eC done)) && decide (Builtin.Tuple.tupleHashOf (eC done) < 2 ^ 63))=true then _ else _) Q E _
    unfold reduceHash at h
    by_cases hr:(decide (-(2:Int) ^ 63<=Builtin.Tuple.tupleHashOf (eC done)) && decide (Builtin.Tuple.tupleHashOf (eC done) < 2 ^ 63))=true
    ·rw[if_pos hr] at h ⊢;exact wpAny_pure (by simpa [Nat.add_assoc] using h)
    ·rw[if_neg hr] at h ⊢;exact wpAny_bind (wpAny_rule (wpAny_pure (by simpa [Nat.add_assoc] using h)))
 | .non=>λ _ _ _ _ _ _ hx _=>by rw[eT] at hx;exact hx.elim
 | .str _=>λ _ _ _ _ _ _ hx _=>by rw[eT] at hx;exact hx.elim
theorem wM:∀ (ds:List D),∀ d∈ds,BX prog w d
 | [],_,h=>(nomatch h)
 | e::es,d,h=>by
  have h0:=AV e
  have h1:=wM es
  rcases List.mem_cons.1 h with z | z
  ·rw[z];exact h0
  ·exact h1 d z
end
end
noncomputable instance decD:DecidableEq D:=λ a b=>Classical.propDecidable (a=b)
mutual
theorem BH:∀ (d:D),(sh d).depth=d.depth
 | .int _=>by rw[sh,D.depth,D.depth] <;> (intros;contradiction)
 | .bl _=>by rw[sh,D.depth,D.depth] <;> (intros;contradiction)
 | .tup ds=>by rw[sh,D.depth,D.depth,qJ ds]
 | .non=>by rw[sh] <;> (intros;contradiction)
 | .str _=>by rw[sh] <;> (intros;contradiction)
theorem qJ:∀ (ds:List D),cE (jO ds)=cE ds
 | []=>by rw[jO]
 | d::ds=>by rw[jO,cE,cE,BH d,qJ ds]
end
theorem rG:∀ (ds:List D),(jO ds).length=ds.length
 | []=>by rw[jO]
 | d::ds=>by rw[jO,abi,abi,rG ds]
noncomputable def II (x y:D):Prop:=∀ (A:Around) (s:Shared) (u v:Value),A.units+x.depth < cLine->eT s.heap x u->eT s.heap y v->SeqAt.EqAt A s u v (decide (x=y))
mutual
theorem HZ:∀ (x y:D),sh x=sh y->II x y
 | .int i,.int j,_=>λ A s u v _ hx hy=>by
  rw[eT] at hx hy
  obtain⟨t,rfl⟩:=hx
  obtain⟨t',rfl⟩:=hy
  have:=SeqAt.EqAt.int_int (A:=A) (s:=s) i t j t'
  have e:decide (D.int i=D.int j)=(i == j):=by
   rw[Bool.eq_iff_iff,decide_eq_true_eq,beq_iff_eq,D.int.injEq]
  rw[e];exact this
 | .bl i,.bl j,_=>λ A s u v _ hx hy=>by
  rw[eT] at hx hy
  subst hx hy
  have:=SeqAt.EqAt.bool_bool (A:=A) (s:=s) i j
  have e:decide (D.bl i=D.bl j)=(i == j):=by
   rw[Bool.eq_iff_iff,decide_eq_true_eq,beq_iff_eq,D.bl.injEq]
  rw[e];exact this
 | .tup ds,.tup es,hs=>λ A s u v hu hx hy=>by
  rw[sh,sh] at hs
  injection hs with hs
  have all:=ED ds es hs
  have hl:ds.length=es.length:=by rw[<- rG ds,hs,rG]
  have hinj:=λ (a:Value) (h1:eT s.heap (.tup ds) a) (h2:eT s.heap (.tup es) a)=>eT.inj (by rw[sh,sh,hs]) h1 h2
  have hx0:=hx
  have hy0:=hy
  rw[eT] at hx hy
  obtain⟨a,o,items,n,rfl,h1,h2,h3,l1⟩:=hx
  obtain⟨b,o',items',n',rfl,h1',h2',h3',l2⟩:=hy
  by_cases hab:a=b
  ·subst hab
   rw[decide_eq_true (hinj _ hx0 hy0)]
   exact SeqAt.EqAt.same _
  ·have hdep:D.depth (.tup ds)=cE ds+1:=by rw[D.depth]
   rw[hdep] at hu
   have hin:A.in1.units=A.units+1:=rfl
   have k1:=l1.length
   have k2:=l2.length
   have z1:items.size=ds.length:=by rw[<- k1];simp
   have z2:items'.size=es.length:=by rw[<- k2];simp
   have:=SeqAt.RcAt.tuples (A:=A) (s:=s) (e:=λ j=>match ds[j]?,es[j]? with | some x,some y=>decide (x=y) | _,_=>true) (show s.heap.IsTuple a items from ⟨o,h1,h2,n,h3⟩) (show s.heap.IsTuple b items' from ⟨o',h1',h2',n',h3'⟩) (by omega) λ j j1 j2=>by
    have i1:j < ds.length:=by omega
    have i2:j < es.length:=by omega
    rw[abh i1,abh i2]
    have hd:=mR ds ds[j] (abu i1)
    exact all j ds[j] es[j] (by simp) (by simp) A.in1 s items[j] items'[j] (by omega) (dQ.get (j:=j) l1 (by simp) (by simp)) (dQ.get (j:=j) l2 (by simp) (by simp))
   have e5:((List.range (min items.size items'.size)).all (λ j=>match ds[j]?,es[j]? with | some x,some y=>decide (x=y) | _,_=>true) && items.size == items'.size)=decide (D.tup ds=D.tup es):=by
    have e0:(items.size == items'.size)=true:=by rw[beq_iff_eq];omega
    rw[e0,Bool.and_true,Bool.eq_iff_iff,decide_eq_true_eq,abl,D.tup.injEq]
    constructor
    ·intro h
     apply List.ext_getElem hl
     intro j j1 j2
     have:=h j (abw.mpr (by omega))
     rw[abh j1,abh j2] at this
     exact of_decide_eq_true this
    ·rintro rfl j hj
     cases ds[j]? with
     | none=>rfl
     | some x=>exact decide_eq_true rfl
   rw[e5] at this
   exact SeqAt.EqAt.of_refs hab this
 | .non,_,_=>λ _ _ _ _ _ hx _=>by rw[eT] at hx;exact hx.elim
 | .str _,_,_=>λ _ _ _ _ _ hx _=>by rw[eT] at hx;exact hx.elim
 | .int _,.bl _,hs=>by rw[sh,sh] at hs;cases hs
 | .int _,.tup _,hs=>by rw[sh,sh] at hs;cases hs
 | .int _,.non,_=>λ _ _ _ _ _ _ hy=>by rw[eT] at hy;exact hy.elim
 | .int _,.str _,_=>λ _ _ _ _ _ _ hy=>by rw[eT] at hy;exact hy.elim
 | .bl _,.int _,hs=>by rw[sh,sh] at hs;cases hs
 | .bl _,.tup _,hs=>by rw[sh,sh] at hs;cases hs
 | .bl _,.non,_=>λ _ _ _ _ _ _ hy=>by rw[eT] at hy;exact hy.elim
 | .bl _,.str _,_=>λ _ _ _ _ _ _ hy=>by rw[eT] at hy;exact hy.elim
 | .tup _,.int _,hs=>by rw[sh,sh] at hs;cases hs
 | .tup _,.bl _,hs=>by rw[sh,sh] at hs;cases hs
 | .tup _,.non,_=>λ _ _ _ _ _ _ hy=>by rw[eT] at hy;exact hy.elim
 | .tup _,.str _,_=>λ _ _ _ _ _ _ hy=>by rw[eT] at hy;exact hy.elim
theorem ED:∀ (ds es:List D),jO ds=jO es->∀ (j:Nat) (x y:D),ds[j]? = some x->es[j]? = some y->II x y
 | [],_,_,j,x,y,h,_=>by simp at h
 | _::_,[],_,j,x,y,_,h=>by simp at h
 | d::ds,e::es,hs,j,x,y,h1,h2=>by
  rw[jO,jO] at hs
  injection hs with s1 s2
  have k0:=HZ d e s1
  have k1:=ED ds es s2
  cases j with
  | zero=>simp at h1 h2;rw[<- h1,<- h2];exact k0
  | succ j=>exact k1 j x y (by simpa using h1) (by simpa using h2)
end
noncomputable def wU (prog:Program) (w:World) (d:D):Prop:=∀ (n:Nat) (A:Around) (E:Value->Shared->Prop) (s:Shared) (v:Value) (Q:Bool->Shared->Prop),d.depth<=n->eT s.heap d v->Q true s->wpAny (model prog w) A (eqIsQuiet n v) Q E s
section
variable {prog:Program}{w:World}
mutual
theorem wF:∀ (d:D),wU prog w d
 | .int i=>λ n A E s v Q _ hx h=>by
  rw[eT] at hx
  obtain⟨t,rfl⟩:=hx
  rw[eqIsQuiet_byValue n (v:=.int i t) rfl]
  exact wpAny_pure h
 | .bl b=>λ n A E s v Q _ hx h=>by
  rw[eT] at hx
  subst hx
  rw[eqIsQuiet_byValue n (v:=.bool b) rfl]
  exact wpAny_pure h
 | .tup ds=>λ n A E s v Q hn hx h=>by
  have all:=tJ ds
  have hdep:D.depth (.tup ds)=cE ds+1:=by rw[D.depth]
  rw[hdep] at hn
  rw[eT] at hx
  obtain⟨a,o,items,m,rfl,ho,hc,hd,hi⟩:=hx
  have hT:s.TypeIs (.ref a) "tuple" := ⟨o,ho,hc⟩
  obtain⟨n',rfl⟩:∃ n',n=n'+1:=⟨n - 1,by omega⟩
  unfold eqIsQuiet
  refine wpAny_bind (wpAny_specialOf hT F.slot_tuple_eq.lookup ?_);show wpAny _ _ (isInstance (.ref a) (.type "tuple") >>= _) _ _ s
  refine wpAny_bind (wpAny_isInstance hT isSubtype_tuple_tuple ?_);simp only [Bool.not_true,Bool.false_eq_true,if_false]
  refine wpAny_bind (wpAny_seqItems ho hd (wpAny_bind ?_));show wpAny _ _ (forIn items _ _) _ _ s
  rw[<- Array.forIn_toList]
  refine wpAny_forIn_list _ (λ rest r s'=>r.1=none/\s'=s/\∃ left,dQ s.heap left rest/\∀ d∈left,d∈ds) _ ?_ ?_ _ _ ⟨rfl,rfl,ds,hi,λ _ z=>z⟩
  ·rintro v rest r s' ⟨hr,rfl,left,hl,hsub⟩
   cases left with
   | nil=>rw[dQ] at hl;cases hl
   | cons k ks=>
    rw[dQ] at hl
    obtain⟨v',r',e,h1,l1⟩:=hl
    cases e
    have hk:=hsub k (by simp)
    refine wpAny_bind (all k hk n' _ _ _ _ _ (by have:=mR ds k hk;omega) h1 ?_)
    simp only [Bool.not_true,Bool.false_eq_true,if_false]
    exact wpAny_pure ⟨rfl,rfl,ks,l1,λ d hd=>hsub d (aay _ hd)⟩
  ·rintro⟨r1,r2⟩ s' ⟨hr,rfl,_⟩
   simp only at hr
   subst hr
   exact wpAny_pure h
 | .non=>λ _ _ _ _ _ _ _ hx _=>by rw[eT] at hx;exact hx.elim
 | .str _=>λ _ _ _ _ _ _ _ hx _=>by rw[eT] at hx;exact hx.elim
theorem tJ:∀ (ds:List D),∀ d∈ds,wU prog w d
 | [],_,h=>(nomatch h)
 | e::es,d,h=>by
  have h0:=wF e
  have h1:=tJ es
  rcases List.mem_cons.1 h with z | z
  ·rw[z];exact h0
  ·exact h1 d z
end
noncomputable def eR (prog:Program) (w:World) (S:D):HeapKind prog w D where
 is:=λ h d a=>sh d=S/\d.depth<=7/\eT h d (.ref a)
 hash:=oT
 draws:=kK
 room:=λ A=>A.units+8 < cLine
 inj:=λ hx hy=>eT.inj (hx.1.trans hy.1.symm) hx.2.2 hy.2.2
 keeps:=λ {h h' k a d o es ep} x ho hd hs=>⟨x.1,x.2.1,eT.keeps (λ a' o' items n h1 h3=>by
  by_cases e:a'=d
  ·subst e
   rw[ho] at h1
   cases h1
   rw[hd] at h3
   cases h3
  ·exact (hs.2 a' e).trans h1) x.2.2⟩
 pyHash:=λ {A E s k a Q} hu hk h=>AV k A E s _ Q (by have:=hk.2.1;omega) hk.2.2 h
 eqBool:=λ {A E s x y a b Q} hu hx hy h=>HZ x y (hx.1.trans hy.1.symm) A s _ _ (by have:=hx.2.1;omega) hx.2.2 hy.2.2 prog w E Q h
 quiet:=λ {A E s k a Q} hk h=>wF k 8 A E s _ Q (by have:=hk.2.1;omega) hk.2.2 h
end
end L2
namespace L2
open PySem PySem.Spec PyProof.Rows TwZ
mutual
noncomputable def eJ:D->Prop
 | .int _=>True
 | .bl _=>True
 | .tup ds=>cX ds
 | .non=>False
 | .str _=>False
noncomputable def cX:List D->Prop
 | []=>True
 | d::ds=>eJ d/\cX ds
end
section
variable {X:Cx}{pins:List (Addr×Obj)}{σ:St}{H:Hp}{s:Shared}
mutual
theorem Is.toU (I:Inv X pins σ H s):∀ (d:D) (v:V) (u:Value),eJ d->Is X.K H d v->bN v u->eT s.heap d u
 | .int i,v,u,_,h,r=>by rw[Is] at h;subst h;rw[eT];exact r
 | .bl b,v,u,_,h,r=>by rw[Is] at h;subst h;rw[eT];exact r
 | .tup ds,v,u,p,h,r=>by
  rw[Is] at h
  obtain⟨a,xs,rfl,q,l⟩:=h
  cases r
  obtain⟨its,rv,⟨o,e,c,n,d⟩,_⟩:=I.tuple q
  rw[eT]
  exact⟨a,o,its.toArray,n,rfl,e,c,d,by simpa using IsL.toU I ds xs its (by rw[eJ] at p;exact p) l rv⟩
 | .non,_,_,p,_,_=>by rw[eJ] at p;exact p.elim
 | .str _,_,_,p,_,_=>by rw[eJ] at p;exact p.elim
theorem IsL.toU (I:Inv X pins σ H s):∀ (ds:List D) (vs:List V) (us:List Value),cX ds->IsL X.K H ds vs->bP vs us->dQ s.heap ds us
 | [],vs,us,_,h,r=>by rw[IsL] at h;subst h;cases r;rw[dQ]
 | d::ds,vs,us,p,h,r=>by
  rw[IsL] at h
  obtain⟨x,xs,rfl,h1,h2⟩:=h
  rw[cX] at p
  cases r with
  | cons r1 r2=>
   rw[dQ]
   exact⟨_,_,rfl,Is.toU I d x _ p.1 h1 r1,IsL.toU I ds xs _ p.2 h2 r2⟩
end
end
structure KeyD (K:aaa) (H:Hp) (S:D) (k:D) (v:V):Prop where
 sh:sh k=S
 dp:k.depth<=7
 pl:eJ k
 is:Is K H k v
 tup:∃ b,v=.ref b
theorem KeyD.mono {K:aaa}{H H':Hp}{S k:D}{v:V} (h:KeyD K H S k v) (t:bV K H H'):KeyD K H' S k v:=⟨h.sh,h.dp,h.pl,Is.mono t _ _ h.is,h.tup⟩
noncomputable def qI (P:Program) (w:World) (S:D) (a:Addr) (xs:List (D×Addr×Value)) (h:Heap):Prop:=
 ∃ o es ep,h.get? a=some o/\o.ExactDict/\o.data=.dict es ep/\es.toList=xs.map (entryOfKey (eR P w S))/\(xs.map (·.1)).Nodup
noncomputable abbrev KD (K:aaa) (H:Hp) (S:D):List (D×V)->List (D×Addr×Value)->Prop:=Paired λ p q=>p.1=q.1/\KeyD K H S p.1 (.ref q.2.1)/\bN p.2 q.2.2
noncomputable def dC (P:Program) (w:World) (K:aaa) (H:Hp) (a:Addr) (S:D) (kvs:List (D×V)):Prop:=
 (H a=some (.dK [])/\kvs=[])\/∃ xs,H a=some (.ext (qI P w S a xs))/\(a == sysModules)=false/\kvs.length<=sizeLine/\KD K H S kvs xs
section
variable {P:Program}{w:World}{K:aaa}{H H':Hp}{a:Addr}{S:D}{kvs:List (D×V)}
theorem KD.mono {xs:List (D×Addr×Value)} (h:KD K H S kvs xs) (t:bV K H H'):KD K H' S kvs xs:=Paired.mapP h λ p q z=>⟨z.1,z.2.1.mono t,z.2.2⟩
theorem dC.mono (h:dC P w K H a S kvs) (t:bV K H H') (e:∀ o,H a=some o->H' a=some o):dC P w K H' a S kvs:=by
 rcases h with ⟨h,z⟩ | ⟨xs,h,y,z,p⟩
 ·exact .inl ⟨e _ h,z⟩
 ·exact .inr ⟨xs,e _ h,y,z,KD.mono p t⟩
theorem dC.same (h:dC P w K H a S kvs) (m:aF H H'):dC P w K H' a S kvs:=h.mono m.ts λ o e=>m _ _ e
theorem dC.mut (h:dC P w K H a S kvs):kR (H a):=by
 rcases h with ⟨h,_⟩ | ⟨_,h,_⟩ <;> (rw[h];exact trivial)
theorem dC.new (h:H a=Option.some (.dK [])):dC P w K H a S []:=.inl ⟨h,rfl⟩
theorem KD.val {xs:List (D×Addr×Value)} (k:D):∀ {kvs:List (D×V)},KD K H S kvs xs->mV (dM kvs k) ((atKey xs k).map (·.2))
 | [],h=>by cases h;exact trivial
 | p::r,h=>by
  cases h with
  | cons h1 h2=>
   rename_i q m
   by_cases e:p.1=k
   ·rw[dI e]
    have:atKey (q::m) k=Option.some q.2:=by unfold atKey;rw[List.find?_cons_of_pos (by rw[<- h1.1];exact decide_eq_true e)];rfl
    rw[this];exact h1.2.2
   ·rw[dJ e]
    have:atKey (q::m) k=atKey m k:=by unfold atKey;rw[List.find?_cons_of_neg (by rw[<- h1.1];simpa using e)]
    rw[this];exact KD.val k h2
theorem KD.put {xs:List (D×Addr×Value)}{k:D}{v:V}{b:Addr}{u:Value} (h:KD K H S kvs xs) (hk:KeyD K H S k (.ref b)) (r:bN v u):KD K H S (gW kvs k v) (storedH xs k b u):=by
 unfold gW storedH
 have e:(kvs.any λ kv=>decide (kv.1=k))=(atKey xs k).isSome:=by
  rw[gQ,(KD.val k h).isSome_eq,Option.isSome_map]
 rw[e]
 by_cases c:(atKey xs k).isSome=true
 ·rw[if_pos c,if_pos c]
  clear e c
  induction h with
  | nil=>exact .nil
  | cons h1 h2 ih=>
   rename_i p q l m
   refine .cons ?_ ih
   unfold putAt
   dsimp only
   by_cases z:p.1=k
   ·rw[if_pos z,if_pos (by rw[<- h1.1];exact z)];exact⟨h1.1,h1.2.1,r⟩
   ·rw[if_neg z,if_neg (by rw[<- h1.1];exact z)];exact h1
 ·rw[if_neg c,if_neg c]
  clear e c
  induction h with
  | nil=>exact .cons ⟨rfl,hk,r⟩ .nil
  | cons h1 h2 ih=>exact .cons h1 ih
end
section
variable {X:Cx}{pins:List (Addr×Obj)}{σ:St}{H:Hp}{s:Shared}{a:Addr}{S:D}{kvs:List (D×V)}
theorem KD.keys (I:Inv X pins σ H s):∀ {kvs:List (D×V)}{xs:List (D×Addr×Value)},KD X.K H S kvs xs->∀ x∈xs,(eR X.prog X.w S).is s.heap x.1 x.2.1
 | _,_,.nil,x,hx=>by simp at hx
 | _,_,.cons h1 h2,x,hx=>by
  rcases List.mem_cons.mp hx with e | hx
  ·subst e
   have k:=h1.2.1
   rw[h1.1] at k
   exact⟨k.sh,k.dp,Is.toU I _ _ _ k.pl k.is rfl⟩
  ·exact KD.keys I h2 x hx
theorem dC.at (I:Inv X pins σ H s) (g:dC X.prog X.w X.K H a S kvs):(a == sysModules)=false/\kvs.length<=sizeLine/\∃ xs,KD X.K H S kvs xs/\s.heap.DictOfH (eR X.prog X.w S) a xs:=by
 rcases g with ⟨e,rfl⟩ | ⟨xs,e,y,z,p⟩
 ·obtain⟨z,hd,vs,rel,o,es,ep,h1,h2,h3,_,h4,_⟩:=EE I.hok e
  cases rel
  have e0:es.toList=[]:=by
   revert h4
   generalize es.toList=l
   intro h4
   cases h4
   rfl
  exact⟨hd,Nat.zero_le _,[],.nil,o,es,ep,h1,h2,h3,by rw[e0];rfl,λ x hx=>(nomatch hx),List.nodup_nil⟩
 ·obtain⟨⟨o,es,ep,h1,h2,h3,h4,h5⟩,_⟩:=(show cC X.prog X.w H s.heap a (.ext (qI X.prog X.w S a xs)) from I.hok a _ e)
  exact⟨y,z,xs,p,o,es,ep,h1,h2,h3,h4,KD.keys I p,h5⟩
theorem KeyD.at (I:Inv X pins σ H s) {k:D}{b:Addr} (h:KeyD X.K H S k (.ref b)):(eR X.prog X.w S).is s.heap k b:=⟨h.sh,h.dp,Is.toU I _ _ _ h.pl h.is rfl⟩
noncomputable def HH (P:Program) (w:World) (K:aaa):R2:=λ x y H Q=>∃ a S kvs k v,x=.ref a/\dC P w K H a S kvs/\KeyD K H S k y/\dM kvs k=some v/\Q v H
theorem ix_D (hu:X.A.units+64 < cLine):yQ X (HH X.prog X.w X.K):=by
 intro value slice pins s σ H x y v u Q I rx ry h hs
 obtain⟨a,S,kvs,k,z,rfl,g,hk,hv,q⟩:=h
 obtain⟨b,rfl⟩:=hk.tup
 cases rx
 cases ry
 obtain⟨hd,hz,xs,p,dd⟩:=g.at I
 obtain⟨w',hw,rw'⟩:=mV.some_of (v:=z) (o:=(atKey xs k).map (·.2)) (by rw[<- hv];exact KD.val k p)
 obtain⟨pp,hp,hp2⟩:=aaq.mp hw
 refine subscriptTail_builtinR (x:=w') dd.typeIs PySem.F.slot_dict_getitem.lookup
  (wpAny_getItem_heap (knd:=eR X.prog X.w S) (Q:=λ r s'=>r=w'/\EP X pins σ Q r s') (show X.A.in1.units+8 < cLine by show X.A.units+1+8 < cLine;omega) (hk.at I) dd hp ⟨hp2,?_⟩) hs
 rw[hp2]
 exact⟨z,H,I.tok _,rw',q⟩
noncomputable def zM (P:Program) (w:World) (K:aaa) (td ty tv:TE):TS:=λ D σ H=>tv σ H λ v H1=>td σ H1 λ x H2=>ty σ H2 λ y H3=>∃ a S kvs k,x=.ref a/\dC P w K H3 a S kvs/\KeyD K H3 S k y/\kvs.length < sizeLine/\
 ∀ H4,cP a H3 H4->dC P w K H4 a S (gW kvs k v)->D.nx σ H4
theorem zW {o i value:Expr}{pos pos':Pos}{td ty tv:TE} (hu:X.A.units+64 < cLine) (ho:PE X o td) (hi:PE X i ty) (hv:PE X value tv) (hs:swapsWith value (some (.Subscript o i pos')) pos.line X.env=pure false) :
  PS X (.Assign [.Subscript o i pos'] value pos) (zM X.prog X.w X.K td ty tv):=by
 intro pins s σ H D I h
 refine wpAny_Assign_Subscript (cQ (hv pins s σ H _ I h) λ r s1 ⟨v,H1,I1,rv,q1⟩=>cQ (ho pins s1 σ H1 _ I1 q1) λ u s2 ⟨x,H2,I2,rx,q2⟩=>cQ (hi pins s2 σ H2 _ I2 q2) λ iv s3 ⟨y,H3,I3,ry,a,S,kvs,k,ex,g,hk,hl,q3⟩=>?_) hs
 subst ex
 obtain rfl:u=Value.ref a:=rx
 obtain⟨b,rfl⟩:=hk.tup
 cases ry
 obtain⟨hd,hz,xs,p,dd⟩:=g.at I3
 have hz':xs.length<=sizeLine:=by rw[<- Paired.length p];exact hz
 have hlp:(gW kvs k v).length<=sizeLine:=by have:=fM kvs k v;omega
 refine wpAny_setItem_heap (knd:=eR X.prog X.w S) (hsz:=hz') (show X.A.in1.units+8 < cLine by show X.A.units+1+8 < cLine;omega) (hk.at I3) dd λ h' dd' hsb=>?_
 obtain⟨qo,es,ep,hq,h2,h3,h4,_,h5⟩:=dd'
 have mu:=g.mut
 have bt:cP a H3 (upd H3 a (.ext (qI X.prog X.w S a (storedH xs k b r)))):=cP.upd
 have ts:=bt.ts (K:=X.K) mu
 refine⟨σ,_,nK I3 mu hsb ⟨qo,hq⟩ (ob:=.ext (qI X.prog X.w S a (storedH xs k b r))) ⟨⟨qo,es,ep,hq,h2,h3,h4,h5⟩,⟨qo,hq⟩,λ h1 h2' ⟨o',es',ep',z1,z⟩ kk=>⟨o',es',ep',kk _ z1,z⟩⟩,q3 _ bt (.inr ⟨_,aB,hd,hlp,KD.mono (KD.put p hk rv) ts⟩)⟩
theorem AO {P:Program}{w:World}{K:aaa} (hP:X.prog=P) (hw:X.w=w) (hK:X.K=K) (hu:X.A.units+64 < cLine):yQ X (HH P w K):=by subst hP hw hK;exact ix_D hu
theorem mL {P:Program}{w:World}{K:aaa}{o i value:Expr}{pos pos':Pos}{td ty tv:TE} (hP:X.prog=P) (hw:X.w=w) (hK:X.K=K) (hu:X.A.units+64 < cLine) (ho:PE X o td) (hi:PE X i ty) (hv:PE X value tv)
  (hs:swapsWith value (some (.Subscript o i pos')) pos.line X.env=pure false):PS X (.Assign [.Subscript o i pos'] value pos) (zM P w K td ty tv):=by subst hP hw hK;exact zW hu ho hi hv hs
end
end L2
namespace Tw
open PySem L2
structure Sta where
 held:List Int
 coming:List Int
 doors:List Bool
noncomputable def cR (net:Net):Sta:=⟨gH net.vs.length,gH net.vs.length,net.sps.map (·.2.2)⟩
noncomputable def dO (s:Sta):L2.D:=CA s.held s.coming s.doors
theorem qR (n:Nat):(gH n).length=n:=by simp [gH]
noncomputable def shN (net:Net):L2.D:=.tup [.tup (List.replicate net.vs.length (.int 0)),.tup (List.replicate net.vs.length (.int 0)),.tup (List.replicate net.sps.length (.bl false))]
theorem o7:∀ xs:List Int,jO (xs.map L2.D.int)=List.replicate xs.length (.int 0)
 | []=>by rw[List.map_nil,jO];rfl
 | x::xs=>by rw[abb,jO,sh,o7 xs];rfl
theorem wA:∀ xs:List Bool,jO (xs.map L2.D.bl)=List.replicate xs.length (.bl false)
 | []=>by rw[List.map_nil,jO];rfl
 | x::xs=>by rw[abb,jO,sh,wA xs];rfl
theorem iX:∀ xs:List Int,cX (xs.map L2.D.int)
 | []=>by rw[List.map_nil,cX];trivial
 | x::xs=>by rw[abb,cX,eJ];exact⟨trivial,iX xs⟩
theorem oD:∀ xs:List Bool,cX (xs.map L2.D.bl)
 | []=>by rw[List.map_nil,cX];trivial
 | x::xs=>by rw[abb,cX,eJ];exact⟨trivial,oD xs⟩
theorem zK {net:Net}{s:Sta} (ok:StOk net s.held s.coming s.doors):sh (dO s)=shN net:=by
 show sh (.tup [.tup (s.held.map L2.D.int),.tup (s.coming.map L2.D.int),.tup (s.doors.map L2.D.bl)])=_
 rw[sh,jO,jO,jO,jO,sh,sh,sh,o7,o7,wA,ok.h,ok.c,ok.d];rfl
theorem qC (s:Sta):eJ (dO s):=by
 show eJ (.tup [.tup (s.held.map L2.D.int),.tup (s.coming.map L2.D.int),.tup (s.doors.map L2.D.bl)])
 rw[eJ,cX,cX,cX,cX,eJ,eJ,eJ]
 exact⟨iX _,iX _,oD _,trivial⟩
end Tw
namespace Tw
open PySem L2
noncomputable abbrev Fs (af:Type):=List (af×List Int)
inductive BRes (af:Type) where
 | ends (row:List Int) (fs:Fs af)
 | many
 | on (fs:Fs af)
section
variable {af:Type} (dD:af->L2.D) (nxt:af->Int->af) (fin:af->Int->Bool) (most lim:Nat)
noncomputable def dA (fs:Fs af) (k:L2.D):Option (List Int):=(fs.find? λ p=>decide (dD p.1=k)).map (·.2)
noncomputable def pD (d:af) (r:List Int):Nat->Int->Fs af->BRes af
 | 0,_,fs=>.on fs
 | l+1,a,fs=>if fin d a=true then .ends (r++[a]) fs else if (dA dD fs (dD (nxt d a))).isSome=true then pD d r l (a+1) fs else if lim<=fs.length then .many else pD d r l (a+1) (fs++[(nxt d a,r++[a])])
noncomputable def iF:Nat->Nat->Fs af->BRes af
 | 0,_,fs=>.on fs
 | n+1,p,fs=>match fs[p]? with
  | none=>.on fs
  | some d=>match pD dD nxt fin lim d.1 ((dA dD fs (dD d.1)).getD []) (most+1) 0 fs with
   | .on fs'=>iF n (p+1) fs'
   | r=>r
noncomputable def CB (first:af):BRes af:=iF dD nxt fin most lim (lim+1) 0 [(first,[])]
noncomputable def BR (p:Nat):BRes af->BRes af
 | .on fs=>iF dD nxt fin most lim (lim - p) (p+1) fs
 | r=>r
variable {dD nxt fin most lim}
theorem pW {fs:Fs af}{k:L2.D}{r:List Int} (q:af×List Int) (h:dA dD fs k=some r):dA dD (fs++[q]) k=some r:=by
 unfold dA at h ⊢
 rw[List.find?_append]
 cases e:fs.find? λ p=>decide (dD p.1=k) with
 | none=>rw[e] at h;cases h
 | some x=>rw[e] at h;exact h
theorem fX {fs:Fs af}{d:af}{r:List Int} (h:(d,r)∈fs):(dA dD fs (dD d)).isSome=true:=by
 unfold dA
 rw[Option.isSome_map,List.find?_isSome]
 exact⟨_,h,by simp⟩
theorem jD {fs:Fs af}{k:L2.D} (h:(dA dD fs k).isSome=true):∃ q∈fs,dD q.1=k:=by
 unfold dA at h
 rw[Option.isSome_map,List.find?_isSome] at h
 obtain⟨q,hq,e⟩:=h
 exact⟨q,hq,by simpa using e⟩
theorem nQ {d:af}{r:List Int}{l:Nat}{a:Int}{fs:Fs af} (h:fin d a=true):pD dD nxt fin lim d r (l+1) a fs=.ends (r++[a]) fs:=if_pos h
theorem nO {d:af}{r:List Int}{l:Nat}{a:Int}{fs:Fs af} (h:fin d a=false) (h2:(dA dD fs (dD (nxt d a))).isSome=true):pD dD nxt fin lim d r (l+1) a fs=pD dD nxt fin lim d r l (a+1) fs:=by
 rw[pD,if_neg (by rw[h];decide),if_pos h2]
theorem lZ {d:af}{r:List Int}{l:Nat}{a:Int}{fs:Fs af} (h:fin d a=false) (h2:(dA dD fs (dD (nxt d a))).isSome=false) (h3:lim<=fs.length):pD dD nxt fin lim d r (l+1) a fs=.many:=by
 rw[pD,if_neg (by rw[h];decide),if_neg (by rw[h2];decide),if_pos h3]
theorem nP {d:af}{r:List Int}{l:Nat}{a:Int}{fs:Fs af} (h:fin d a=false) (h2:(dA dD fs (dD (nxt d a))).isSome=false) (h3:fs.length < lim):pD dD nxt fin lim d r (l+1) a fs=pD dD nxt fin lim d r l (a+1) (fs++[(nxt d a,r++[a])]):=by
 rw[pD,if_neg (by rw[h];decide),if_neg (by rw[h2];decide),if_neg (by omega)]
theorem qP {n p:Nat}{fs:Fs af} (h:fs.length<=p):iF dD nxt fin most lim n p fs=.on fs:=by
 cases n with
 | zero=>rfl
 | succ n=>rw[iF,abx h]
theorem qQ {n p:Nat}{fs:Fs af}{d:af}{r r0:List Int} (h:fs[p]? = some (d,r0)) (hr:dA dD fs (dD d)=some r) (hn:n=lim - p):iF dD nxt fin most lim (n+1) p fs=BR dD nxt fin most lim p (pD dD nxt fin lim d r (most+1) 0 fs):=by
 subst hn
 rw[iF,h]
 dsimp only
 rw[hr]
 show (match pD dD nxt fin lim d r (most+1) 0 fs with | .on fs'=>_ | r=>r)=_
 cases pD dD nxt fin lim d r (most+1) 0 fs <;> rfl
noncomputable def IG (first:af) (fs:Fs af):Prop:=(∃ q∈fs,dD q.1=dD first)/\∀ q∈fs,∀ a:Nat,a<=most->fin q.1 a=false/\(dA dD fs (dD (nxt q.1 a))).isSome=true
theorem GB {d:af}{r:List Int}:∀ (l:Nat) (a:Nat) (fs fs':Fs af),pD dD nxt fin lim d r l a fs=.on fs'->(∃ more,fs'=fs++more)/\(fs.length<=lim->fs'.length<=lim)/\∀ b:Nat,a<=b->b < a+l->fin d b=false/\(dA dD fs' (dD (nxt d b))).isSome=true:=by
 intro l
 induction l with
 | zero=>
  intro a fs fs' h
  cases h
  exact⟨⟨[],by simp⟩,id,λ b h1 h2=>by omega⟩
 | succ l ih=>
  intro a fs fs' h
  cases hf:fin d a with
  | true=>rw[nQ hf] at h;cases h
  | false=>
   have grow:∀ {fs1:Fs af}{k:L2.D},(dA dD fs1 k).isSome=true->(∃ more,fs'=fs1++more)->(dA dD fs' k).isSome=true:=λ {fs1 k} h1 ⟨more,e⟩=>by
    subst e
    obtain⟨q,hq,e⟩:=jD h1
    have:=fX (dD:=dD) (d:=q.1) (r:=q.2) (fs:=fs1++more) (abm _ hq)
    rw[e] at this;exact this
   cases hv:(dA dD fs (dD (nxt d a))).isSome with
   | true=>
    rw[nO hf hv] at h
    obtain⟨m,hl,hb⟩:=ih (a+1) fs fs' h
    refine⟨m,hl,λ b h1 h2=>?_⟩
    rcases (show b=a\/a+1<=b by omega) with rfl | h3
    ·exact⟨hf,grow hv m⟩
    ·exact hb b h3 (by omega)
   | false=>
    by_cases hl:lim<=fs.length
    ·rw[lZ hf hv hl] at h;cases h
    ·rw[nP hf hv (by omega)] at h
     obtain⟨⟨more,m⟩,hl',hb⟩:=ih (a+1) _ fs' h
     refine⟨⟨_,by rw[m,abr]⟩,λ _=>hl' (by simp;omega),λ b h1 h2=>?_⟩
     rcases (show b=a\/a+1<=b by omega) with rfl | h3
     ·refine⟨hf,grow (fs1:=fs++[(nxt d b,r++[(b:Int)])]) (fX (r:=r++[(b:Int)]) (by simp)) ⟨more,m⟩⟩
     ·exact hb b h3 (by omega)
theorem DM:∀ (n p:Nat) (fs fs':Fs af),lim < p+n->p<=fs.length->fs.length<=lim->(∀ (i:Nat) q,i < p->fs[i]? = some q->∀ a:Nat,a<=most->fin q.1 a=false/\(dA dD fs (dD (nxt q.1 a))).isSome=true)->
  iF dD nxt fin most lim n p fs=.on fs'->(∃ more,fs'=fs++more)/\∀ q∈fs',∀ a:Nat,a<=most->fin q.1 a=false/\(dA dD fs' (dD (nxt q.1 a))).isSome=true:=by
 intro n
 induction n with
 | zero=>intro p fs fs' h1 h2 h3 _ _;omega
 | succ n ih=>
  intro p fs fs' h1 h2 h3 hi h
  rw[iF] at h
  cases hd:fs[p]? with
  | none=>
   rw[hd] at h
   cases h
   have hp:=List.getElem?_eq_none_iff.mp hd
   refine⟨⟨[],by simp⟩,λ q hq=>?_⟩
   obtain⟨i,hi'⟩:=abo.1 hq
   have:=(aad.mp hi').1
   exact hi i q (by omega) hi'
  | some d=>
   rw[hd] at h
   dsimp only at h
   cases hb:pD dD nxt fin lim d.1 ((dA dD fs (dD d.1)).getD []) (most+1) 0 fs with
   | many=>rw[hb] at h;cases h
   | ends row f=>rw[hb] at h;cases h
   | on fs1=>
    rw[hb] at h
    obtain⟨⟨more,m⟩,hl,hq⟩:=GB (most+1) 0 fs fs1 hb
    have hpl:=(aad.mp hd).1
    have grow:∀ {k:L2.D},(dA dD fs k).isSome=true->(dA dD fs1 k).isSome=true:=λ {k} h1=>by
     subst m
     obtain⟨q,hq,e⟩:=jD h1
     have:=fX (dD:=dD) (d:=q.1) (r:=q.2) (fs:=fs++more) (abm _ hq)
     rw[e] at this;exact this
    have key:∀ (i:Nat) q,i < p+1->fs1[i]? = some q->∀ a:Nat,a<=most->fin q.1 a=false/\(dA dD fs1 (dD (nxt q.1 a))).isSome=true:=λ i q h4 h5 a ha=>by
     rcases (show i < p\/i=p by omega) with h6 | rfl
     ·rw[m,aba (by omega)] at h5
      obtain⟨h7,h8⟩:=hi i q h6 h5 a ha
      exact⟨h7,grow h8⟩
     ·rw[m,aba hpl,hd] at h5
      cases h5
      exact hq a (Nat.zero_le _) (by omega)
    obtain⟨⟨more2,m2⟩,hc⟩:=ih (p+1) fs1 fs' (by omega) (by rw[m,aak];omega) (hl h3) key h
    exact⟨⟨more++more2,by rw[m2,m,abr]⟩,hc⟩
theorem BQ {first:af}{fs:Fs af} (h1:1<=lim) (h:CB dD nxt fin most lim first=.on fs):IG (dD:=dD) (nxt:=nxt) (fin:=fin) (most:=most) first fs:=by
 obtain⟨⟨more,m⟩,hc⟩:=DM (lim+1) 0 [(first,[])] fs (by omega) (by simp) (by simpa using h1) (λ i q h=>absurd h (Nat.not_lt_zero _)) h
 exact⟨⟨(first,[]),by rw[m];simp,rfl⟩,hc⟩
end
end Tw
namespace L2
open PySem PySem.Spec PyProof.Rows TwZ
section
variable {X:Cx}
noncomputable def DY (P:Program) (w:World) (K:aaa):R2:=λ x y H Q=>∃ a S kvs k,y=.ref a/\dC P w K H a S kvs/\KeyD K H S k x/\Q (.bl (!(dM kvs k).isSome)) H
theorem DA (hu:X.A.units+64 < cLine):iN X (compareOp .NotIn) (DY X.prog X.w X.K):=by
 intro pins s σ H x y v u Q I rx ry h
 obtain⟨a,S,kvs,k,rfl,g,hk,q⟩:=h
 obtain⟨b,rfl⟩:=hk.tup
 cases rx
 cases ry
 obtain⟨hd,hz,xs,p,dd⟩:=g.at I
 refine wpAny_notIn_heap (knd:=eR X.prog X.w S) (show X.A.in1.units+8 < cLine by show X.A.units+1+8 < cLine;omega) (hk.at I) hd dd ?_
 have e:=(KD.val k p).isSome_eq
 rw[Option.isSome_map] at e
 rw[<- e]
 exact⟨.bl _,H,I.tok _,rfl,q⟩
theorem iY {P:Program}{w:World}{K:aaa} (hP:X.prog=P) (hw:X.w=w) (hK:X.K=K) (hu:X.A.units+64 < cLine):iN X (compareOp .NotIn) (DY P w K):=by subst hP hw hK;exact DA hu
noncomputable def one1 (R:V->V->Hp->Prop):List (V×V)->Hp->Prop
 | [(x,v)],H=>R x v H
 | _,_=>False
noncomputable def zC (P:Program) (w:World) (K:aaa) (tk tv:TE):TE:=λ σ H Q=>∀ p,H p=none->tk σ (upd H p (.dK [])) λ x H1=>tv σ H1 λ v H2=>H2 p=some (.dK [])/\∃ S k,KeyD K H2 S k x/\∀ H3,cP p H2 H3->dC P w K H3 p S [(k,v)]->Q (.ref p) H3
theorem A5 {k v:Expr}{pos:Pos}{tk tv:TE} (hu:X.A.units+64 < cLine) (hk:PE X k tk) (hv:PE X v tv):PE X (.Dict [some k] [v] pos) (zC X.prog X.w X.K tk tv):=by
 intro pins s σ H Q I q
 have hn:=I.hok.fresh (Nat.le_refl s.heap.objs.size)
 have I1:=I.laid (a:=s.heap.objs.size) (o:=.dK []) (h':=s.heap.push { cls:=.type "dict",data:=.dict #[] }) (t':=s.toks) (λ _ _ q=>aab _ q) (Nat.le_refl _) (uB s.heap I.big)
 have hp:PPs X pos [some k] [v] [(tk,tv)]:=zY hk hv CY
 refine wpAny_Dict_any rfl rfl (by simp) (show 1<=15 by decide) (cQ (hp pins _ σ _ (one1 λ x v H2=>H2 s.heap.objs.size=some (.dK [])/\∃ S k,KeyD X.K H2 S k x/\∀ H3,cP s.heap.objs.size H2 H3->dC X.prog X.w X.K H3 s.heap.objs.size S [(k,v)]->Q (.ref s.heap.objs.size) H3) I1 (q _ hn)) λ ws s2 ⟨ps,H2,I2,rel,h⟩=>?_)
 obtain _ | ⟨⟨x,y⟩,_ | ⟨_,_⟩⟩:=ps
 ·exact h.elim
 ·obtain⟨e0,S,k',hk',q2⟩:=h
  cases rel with
  | @cons _ wv _ _ r0 r1=>
   cases r1
   obtain⟨u,r⟩:=wv
   obtain⟨b,rfl⟩:=hk'.tup
   have ru:bN (.ref b) u:=r0.1
   have rr:bN y r:=r0.2
   cases ru
   have g:dC X.prog X.w X.K H2 s.heap.objs.size S []:=dC.new e0
   obtain⟨hd,hz,xs,p,dd⟩:=g.at I2
   cases p
   refine wpAny_bind (wpAny_bind (wpAny_dictSet_heap (knd:=eR X.prog X.w S) (hsz:=Nat.zero_le _) (show X.A.units+8 < cLine by omega) (hk'.at I2) dd λ h' dd' hsb=>wpAny_pure ?_))
   obtain⟨qo,es,ep,hq,h2,h3,h4,_,h5⟩:=dd'
   have mu:=g.mut
   have bt:cP s.heap.objs.size H2 (upd H2 s.heap.objs.size (.ext (qI X.prog X.w S s.heap.objs.size (storedH [] k' b r)))):=cP.upd
   have ts:=bt.ts (K:=X.K) mu
   refine wpAny_pure (show EP X pins σ Q _ _ from ⟨.ref s.heap.objs.size,_,nK I2 mu hsb ⟨qo,hq⟩ (ob:=.ext (qI X.prog X.w S s.heap.objs.size (storedH [] k' b r))) ⟨⟨qo,es,ep,hq,h2,h3,h4,h5⟩,⟨qo,hq⟩,λ h1 h2' ⟨o',es',ep',z1,z⟩ kk=>⟨o',es',ep',kk _ z1,z⟩⟩,rfl,q2 _ bt (.inr ⟨_,aB,hd,(by rw[sizeLine_eq];show 1<=_;decide),KD.mono (KD.put (kvs:=[]) .nil hk' rr) ts⟩)⟩)
 ·exact h.elim
theorem qD {P:Program}{w:World}{K:aaa}{k v:Expr}{pos:Pos}{tk tv:TE} (hP:X.prog=P) (hw:X.w=w) (hK:X.K=K) (hu:X.A.units+64 < cLine) (hk:PE X k tk) (hv:PE X v tv):PE X (.Dict [some k] [v] pos) (zC P w K tk tv):=by subst hP hw hK;exact A5 hu hk hv
noncomputable def GV (i j k:Nat) (ta:TA):TS:=λ D σ H=>ta σ H λ vs H1=>∃ v w z,vs=[v,w,z]/\D.nx (((σ.set i (some v)).set j (some w)).set k (some z)) H1
theorem CU {i j k:Nat}{x y z:Str}{a b c:Expr}{ta:TA}{pos px py pz pt:Pos}{kt k2 pt2} (hc:X.calm=true) (hN:X.N.Nodup) (hi:X.N[i]? = some x) (hj:X.N[j]? = some y) (hk:X.N[k]? = some z) (hij:i≠j) (hik:i≠k) (hjk:j≠k)
  (hx:X.env.scope.names.lookup x=some .local) (hy:X.env.scope.names.lookup y=some .local) (hz:X.env.scope.names.lookup z=some .local) (ha:PA X [a,b,c] ta)
  (hw:swappedStores [.Tuple [.Name x px,.Name y py,.Name z pz] kt pt] (.Tuple [a,b,c] k2 pt2) X.env=pure (some [x,y,z]))
  (hs:swapsWithSole [.Tuple [.Name x px,.Name y py,.Name z pz] kt pt] (.Tuple [a,b,c] k2 pt2) pos.line X.env=pure false:=by rfl) :
  PS X (.Assign [.Tuple [.Name x px,.Name y py,.Name z pz] kt pt] (.Tuple [a,b,c] k2 pt2) pos) (GV i j k ta):=by
 intro pins s σ H D I h
 rw[exec_Assign_arm]
 refine wpAny_bind (wpAny_standAt ?_)
 rw[hs]
 refine wpAny_bind (wpAny_pure ?_)
 rw[if_neg (by decide)]
 refine wpAny_bind (Tuple_ (cQ (ha _ pins s σ H _ I h) λ us s1 ⟨vs,H1,I1,r1,q1⟩=>?_))
 obtain⟨v,w,w2,e1,q1⟩:=q1
 subst e1
 obtain⟨u1,u2,u3,rfl,rv,rw',rz⟩:∃ u1 u2 u3,us=[u1,u2,u3]/\bN v u1/\bN w u2/\bN w2 u3:=by
  cases r1 with
  | cons p q=>
   cases q with
   | cons p' q'=>
    cases q' with
    | cons p2 q2=>
     cases q2
     exact⟨_,_,_,rfl,p,p',p2⟩
 refine wpAny_newObj_type ?_ (by show 3<=sizeLine;decide)
 have I2:Inv X pins σ H1 { s1 with heap:=s1.heap.push { cls:=.type "tuple",data:=.seq [u1,u2,u3].toArray } }:=I1.kept (t':=s1.toks) λ b o e=>aab _ e
 rw[hw]
 refine wpAny_bind (wpAny_pure ?_)
 show wpAny (model X.prog X.w) X.A (do rule "assign.swapped-stores";let items <- unpackItems (.ref s1.heap.objs.size) 3 none;assignInOrder [λ v=>bindName X.env z v,λ v=>bindName X.env y v,λ v=>bindName X.env x v] items.reverse;pure Flow.next) _ _ _
 refine wpAny_bind (wpAny_rule (wpAny_bind (unpackItems_tuple (items:=#[u1,u2,u3]) (I.ok.hd hc) (IsTup.new s1.heap _) λ h' hx'=>?_)))
 have I3:=I2.kept (h':=h') (t':=s1.toks) λ b o e=>hx' b o (aat (aai e)) e
 show wpAny _ _ (assignInOrder [λ v=>bindName X.env z v,λ v=>bindName X.env y v,λ v=>bindName X.env x v] [u3,u2,u1] >>= λ _=>pure Flow.next) _ _ _
 refine wpAny_bind (assignInOrder_cons (wpAny_bindName (eU I3 hN hk (.inl hz) rz (λ s2 I4=>?_) (.inr hz))))
 refine assignInOrder_cons (wpAny_bindName (eU I4 hN hj (.inl hy) rw' (λ s3 I5=>?_) (.inr hy)))
 refine assignInOrder_cons (wpAny_bindName (eU I5 hN hi (.inl hx) rv (λ s4 I6=>assignInOrder_nil (wpAny_pure ?_)) (.inr hx)))
 have e6:((σ.set k (some w2)).set j (some w)).set i (some v)=((σ.set i (some v)).set j (some w)).set k (some w2):=by
  rw[List.set_comm _ _ (Ne.symm hij),List.set_comm (some w2) (some v) (Ne.symm hik),List.set_comm (some w2) (some w) (Ne.symm hjk)]
 rw[e6] at I6
 exact⟨_,H1,I6,q1⟩
end
end L2
namespace L2
open PySem PySem.Spec PyProof.Rows TwZ
section
variable {X:Cx}
end
end L2
namespace L2
open PySem PySem.Spec PyProof.Rows TwZ
noncomputable abbrev GC:=Shared->List Env->Sp
structure FnOkS (P:Program) (w:World) (K:aaa) (mg:Str->Option Value) (base:Heap) (CX:vW) (k:Nat) (f:Addr) (fd:FuncData) (ps:List Str) (sp:GC):Prop where
 len:∀ s o vs H Q E,sp s o vs H Q E->vs.length=ps.length
 run:∀ (A:Around) (outer:List Env) (s:Shared) (H:Hp) (args:Args) (us:List Value) (vs:List V) (Q:VK) (E:XK),Room k A->Env0 P w K mg base A outer s H->BindsTo s fd args (ps.zip us)->bP vs us->sp s outer vs H Q E->
  codeAny (model P w) A (.call (.ref f) args) (CR CX outer P w H s Q E) s
theorem G0 {CX:vW}{P:Program}{w:World}{K:aaa}{mg:Str->Option Value}{base:Heap}{k:Nat}{f:Addr}{name qual:Str}{params:Arguments}{body:List Stmt}{scope:Scope}{dV kV doc pm cdv ct oc:Value}{an od:Option Addr}
  {osl:Array (Option Value)}{N ps:List Str}{sp:GC} (lk:K.lookup f=some ⟨oc,od,.func (PySem.W.fnOf name qual params body scope dV kV doc pm an cdv ct),osl⟩) (hcd:PySem.W.codeIn K cdv qual=true) (S:FnScope N ps scope)
  (len:∀ s o vs H Q E,sp s o vs H Q E->vs.length=ps.length)
  (hbody:∀ (A:Around) (outer:List Env) (s:Shared) (H:Hp) (vs:List V) (Q:VK) (E:XK),Room k (A.deeper (envOfC qual scope s.heap.objs.size f cdv))->Env0 P w K mg base A outer s H->sp s outer vs H Q E->
   ∃ t,sR (lU CX P w K mg base N qual scope f cdv A outer s H E) body t/\t { nx:=λ _ H'=>Q .non H',rt:=Q } (start N vs) H) :
  FnOkS P w K mg base CX (k+1) f (PySem.W.fnOf name qual params body scope dV kV doc pm an cdv ct) ps sp:=by
 refine⟨len,λ A outer s H args us vs Q E hr e0 hb r hsp=>?_⟩
 have hl:=len _ _ _ _ _ _ hsp
 have KX:K.In s.heap:=e0.mod.kin.keeps λ b o e=>(e0.bs b o e).1
 have lim:s.heap.NoLimit:=e0.mod.nolimit.keeps λ b o e=>(e0.bs b o e).1
 have hkind:∀ y∈ps.zip us,scope.names.lookup y.1=some .local\/(scope.names.lookup y.1=some .cell/\((cellsFrom (s.heap.objs.size+1) scope.names []).lookup y.1).isSome=true):=λ ⟨n,v⟩ hy=>by
  rcases S.par n (List.of_mem_zip hy).1 with q | q
  ·exact .inl q
  ·exact .inr ⟨q,PySem.W.cellsFrom_some _ _ _ (.inl q)⟩
 refine codeAny_call_function hr.depth (KX _ _ lk) rfl S.co S.gen rfl (PySem.W.codeRec_of KX hcd) (hb _ _ _ _ ?_)
 refine wpAny_newFunctionEnv_cells S.kind hkind λ env he s1 x=>?_
 subst he
 refine⟨lim.keeps x.toInCall.keep,codeAny_func ?_⟩
 obtain⟨t,ht,hq⟩:=hbody A outer s H vs Q E (hr.deeper _) e0 hsp
 have I:Inv (lU CX P w K mg base N qual scope f cdv A outer s H E) [] (start N vs) H s1:=qH S hr.hd e0 hl r x
 refine wpAny_mono (ht [] s1 (start N vs) H _ I hq) (λ fl s' hs=>?_) λ e s' hs=>hs
 have fin:∀ {ac:St}{H':Hp}{v:V}{u:Value},Inv (lU CX P w K mg base N qual scope f cdv A outer s H E) [] ac H' s'->bN v u->Q v H'->CE outer P w H s Q u s':=
  λ {ac H' v u} J rv q=>⟨v,H',J.os,J.bare,J.base,J.hok,rv,q⟩
 cases fl with
 | ret u=>
  obtain⟨v,ac,H',J,rv,q⟩:=hs
  exact fin J rv q
 | next=>
  obtain⟨ac,H',J,q⟩:=hs
  exact fin (v:=V.non) (u:=Value.none) J rfl q
 | brk=>
  obtain⟨_,_,_,q⟩:=hs
  exact False.elim q
 | cont=>
  obtain⟨_,_,_,q⟩:=hs
  exact False.elim q
structure FnH (H:Hp) (f c:Addr) (ob oc:Obj):Prop where
 fn:H f=some (.frz ob (.own f))
 cd:H c=some (.frz oc (.own c))
theorem FnH.same {H H':Hp}{f c:Addr}{ob oc:Obj} (h:FnH H f c ob oc) (s:aF H H'):FnH H' f c ob oc:=⟨s _ _ h.fn,s _ _ h.cd⟩
structure CellsK (cl:List (Str×Addr)) (s s':Shared) (H':Hp) (outer:List Env):Prop where
 keep:∀ c∈cl.map (·.2),∀ o,s.heap.get? c=some o->s'.heap.get? c=some o
 free:∀ c∈cl.map (·.2),H' c=none
 out:∀ c∈cl.map (·.2),c∉hJ outer
noncomputable def BW (P:Program) (w:World) (K:aaa) (mg:Str->Option Value) (base:Heap) (k:Nat) (f c:Addr) (ob oc:Obj) (cl:List (Str×Addr)) (sp:Sp) (s:Shared):Prop:=
 ∀ (A:Around) (outer:List Env) (s':Shared) (H':Hp) (us:List Value) (vs:List V) (Q:VK),Room k A->Env0 P w K mg base A outer s' H'->FnH H' f c ob oc->CellsK cl s s' H' outer->bP vs us->sp vs H' Q E0->
  codeAny (model P w) A (.call (.ref f) ⟨us,[]⟩) (CR iM outer P w H' s' Q E0) s'
section
variable {X:Cx}{k:Nat}{f c:Addr}{ob oc:Obj}{cl:List (Str×Addr)}{sp:Sp}{x:Str}{p pos:Pos}{e:Expr}{es:List Expr}{t:TA}{i:Nat}
noncomputable def ER (i:Nat) (f c:Addr) (ob oc:Obj) (sp:Sp) (t:TA):TE:=λ σ H Q=>σ[i]? = some (some (.ref f))/\FnH H f c ob oc/\t σ H λ vs H1=>FnH H1 f c ob oc/\sp vs H1 Q E0
theorem A6 (R:BW X.prog X.w X.K X.mg X.base k f c ob oc cl sp X.s₀) (hfn:∃ cls od fd sl,ob=⟨cls,od,.func fd,sl⟩) (hr:Room k X.A)
  (hc:∀ c∈cl.map (·.2),X.H₀ c=none/\c∉X.fs/\c∉X.ex/\c < X.s₀.heap.objs.size/\∃ o,X.s₀.heap.get? c=some o)
  (hN:X.N[i]? = some x) (hv:IC X.env.scope x) (ha:PA X (e::es) t) (hstk:X.stack=X.env::X.outer)
  (hfr:X.env.frame=some X.env.locals)
  (hd:(x == ("__debug__" : Str))=false:=by decide) (hcd:(x == ("__classdict__" : Str))=false:=by decide) (he:starEach (e::es) X.env=(false,eval e X.env)::starEach es X.env:=by rfl) (hpl:(backTo pos (starEach es X.env)).any (·.1)=false:=by rfl) :
  PE X (.Call (.Name x p) (e::es) [] pos) (ER i f c ob oc sp t):=by
 intro pins s σ H Q I h
 obtain⟨bq,hf,h⟩:=h
 have fnAt:∀ {s':Shared}{H':Hp},Inv X pins σ H' s'->FnH H' f c ob oc->PySem.W.FnAt f s'.heap:=λ I' hf'=>by
  obtain⟨cls,od,fd,sl,rfl⟩:=hfn
  obtain⟨e1,_⟩:=(show cC X.prog X.w _ _ f (.frz _ (.own f)) from I'.hok f _ hf'.fn)
  exact⟨cls,od,fd,sl,e1⟩
 refine wpAny_Call_Name_kw ?_
 refine cQ ((A4 hN hv hd hcd) pins s σ H (λ v H'=>v=V.ref f/\H'=H) I ⟨_,bq,rfl,rfl⟩) λ u s0 ⟨v,H0,I0,rv,q⟩=>?_
 obtain⟨rfl,rfl⟩:=q
 obtain rfl:u=Value.ref f:=rv
 refine PySem.W.callWith_F (fnAt I0 hf) (cQ (ha pos pins s0 σ H0 _ I0 h) λ us s1 ⟨vs,H1,I1,r,hf1,q⟩=>⟨fnAt I1 hf1,?_⟩) he hpl
 refine wpAny_call (codeAny_mono (R X.A X.stack s1 H1 us vs Q hr I1.env0 hf1 ⟨λ c' hc' o ho=>?_,λ c' hc'=>?_,λ c' hc' z=>?_⟩ r q) λ r s' hq=>?_)
 ·obtain⟨h1,h2,h3,_⟩:=hc c' hc'
  exact I1.base.keep c' o ho h1 h2 h3
 ·obtain⟨h1,h2,h3,_,o,ho⟩:=hc c' hc'
  exact I1.base.free c' o ho h1 h3
 ·obtain⟨h1,h2,h3,h4,_⟩:=hc c' hc'
  rw[hstk] at z
  have z':c'∈hJ (X.env::X.outer):=z
  unfold hJ at z'
  rw[List.filterMap_cons_some hfr] at z'
  rcases List.mem_cons.1 z' with z' | z'
  ·have:=I1.ok.above
   rw[<- z'] at this
   exact absurd (aal h4 this) (abj _)
  ·exact h2 z'
 ·cases r with
  | error e=>exact hq.elim
  | ok fl=>
   cases fl with
   | ret u=>exact I1.after hq
   | next=>exact False.elim hq
   | brk=>exact False.elim hq
   | cont=>exact False.elim hq
end
end L2
namespace L2
open PySem PySem.Spec PyProof.Rows TwZ
open PySem.W (envX kla_obj kla_fn)
noncomputable def BL (P:Program) (w:World) (K:aaa) (mg:Str->Option Value) (base:Heap) (N:List Str) (qual:Str) (scope:Scope) (f:Addr) (cd:Value) (cl:List (Str×Addr)) (A:Around) (outer:List Env) (s:Shared) (H:Hp):Cx where
 prog:=P
 w:=w
 K:=K
 mg:=mg
 base:=base
 A:=A.deeper (envX qual scope s.heap.objs.size f cd cl)
 N:=N
 s₀:=s
 H₀:=H
 env:=envX qual scope s.heap.objs.size f cd cl
 outer:=outer
 stack:=envX qual scope s.heap.objs.size f cd cl::outer
 ex:=[]
 calm:=true
 fn:=λ _=>false
 pn:=[]
 xe:=λ _ _=>False
structure LamScope (N ps:List Str) (sc:Scope) (cl:List (Str×Addr)):Prop where
 kind:sc.kind=.function
 co:sc.isCoroutine=false
 gen:sc.isGenerator=false
 nd:N.Nodup
 pre:N.take ps.length=ps
 par:∀ x∈ps,sc.names.lookup x=some .local
 nocell:∀ y∈sc.names,y.2≠.cell
 frees:∀ y,sc.names.lookup y=some .free->∃ c,cl.lookup y=some c
 apart:cl.Pairwise λ x y=>x.2≠y.2
theorem oP:∀ {P:List Str}{us:List Value}{i:Nat}{x:Str}{u:Value},P.Nodup->P[i]? = some x->us[i]? = some u->((P.zip us).reverse).lookup x=some u:=by
 intro P us i x u nd h1 h2
 have hm:(x,u)∈(P.zip us).reverse:=by
  rw[List.mem_reverse]
  exact abo.2 ⟨i,by rw[List.getElem?_zip_eq_some];exact⟨h1,h2⟩⟩
 have hu:∀ v,(x,v)∈(P.zip us).reverse->v=u:=λ v hv=>by
  rw[List.mem_reverse] at hv
  obtain⟨j,hj⟩:=abo.1 hv
  rw[List.getElem?_zip_eq_some] at hj
  have e1:=aad.mp h1
  have e2:=aad.mp hj.1
  have:j=i:=(List.getElem_inj (h₀:=e2.1) (h₁:=e1.1) nd).1 (by rw[e2.2,e1.2])
  subst this
  rw[h2] at hj
  exact (abe hj.2).symm
 generalize (P.zip us).reverse=l at hm hu
 clear h1 h2 nd
 induction l with
 | nil=>exact absurd hm (by simp)
 | cons q l ih=>
  obtain⟨y,v⟩:=q
  rw[List.lookup_cons]
  by_cases c:x=y
  ·subst c
   have:=hu v abk
   subst this
   simp
  ·have:(x == y)=false:=by simpa using c
   rw[this]
   refine ih ?_ λ v hv=>hu v (aay _ hv)
   rcases List.mem_cons.1 hm with z | z
   ·injection z with z1 z2;exact absurd z1 c
   ·exact z
section
variable {P:Program}{w:World}{K:aaa}{mg:Str->Option Value}{base:Heap}{k:Nat}{f c:Addr}{name qual:Str}{params:Arguments}{body:Expr}{scope:Scope}{cl:List (Str×Addr)}{pm ctv:Value}{oc:Obj}{sp:Sp}{s:Shared}{N ps:List Str}{fv:List V}
end
end L2
namespace L2
open PySem PySem.Spec PyProof.Rows TwZ
open PySem.W (envX kla_obj kla_fn CodeHd tabObj)
structure NestB (mg:Str->Option Value) (base:Heap) (c Pt:Addr):Prop where
 hd:CodeHd base c Pt
 bm:∃ bm ob,mg "__builtins__" = some (.ref bm)/\bm≠builtinsNs/\bm≠mainGlobals/\base.get? bm=some ob/\ob.cls=.type "module" /\ ob.dict=some builtinsNs/\ob.data=.plain
noncomputable def dX (H:Hp) (Pt:Addr) (pos:Pos) (q:Str):Prop:=H Pt=some (.tbl #[])\/∃ (c:Addr) (oc:Obj) (vs:Array Value) (t:Tok),H Pt=some (.tbl #[rawInt pos.line,rawInt pos.col,.ref c])/\H c=some (.frz oc (.own c))/\oc.data=.fields vs/\vs[1]? = some (.str q t)
noncomputable def IK (Pt:Addr) (H H':Hp):Prop:=∀ b o,b≠Pt->H b=some o->H' b=some o
theorem dX.same {H H':Hp}{Pt:Addr}{pos:Pos}{q:Str} (h:dX H Pt pos q) (s:aF H H'):dX H' Pt pos q:=by
 rcases h with h | ⟨c,oc,vs,t,h1,h2,h3⟩
 ·exact .inl (s _ _ h)
 ·exact .inr ⟨c,oc,vs,t,s _ _ h1,s _ _ h2,h3⟩
theorem dX.some {H:Hp}{Pt:Addr}{pos:Pos}{q:Str} (h:dX H Pt pos q):∃ ps,H Pt=some (.tbl ps):=by
 rcases h with h | ⟨c,oc,vs,t,h1,_⟩
 ·exact⟨_,h⟩
 ·exact⟨_,h1⟩
section
variable {X:Cx}
theorem Inv.frzNew {pins:List (Addr×Obj)}{σ:St}{H:Hp}{s:Shared} (I:Inv X pins σ H s) {h':Heap}{tk:Nat}{ob:Obj} (k:∀ b o,s.heap.get? b=some o->h'.get? b=some o) (hsz:s.heap.objs.size<=h'.objs.size) (hfr:ob.isFreed=false:=by rfl) :
  Inv X pins σ (upd H h'.objs.size (.frz ob (.own h'.objs.size))) { s with heap:=h'.push ob,toks:=tk }:=
 I.laid (t':=tk) (a:=h'.objs.size) (λ b o e=>aab _ (k b o e)) hsz (show cC X.prog X.w _ _ _ (.frz ob (.own h'.objs.size)) from ⟨aag _ hfr,ob,aag _ hfr⟩)
end
end L2
namespace L2
open PySem PySem.Spec PyProof.Rows TwZ
open PySem.W (envX kla_obj kla_fn CodeHd tabObj)
structure CellF (X:Cx) (σ:St) (H:Hp) (s:Shared):Prop where
 val:∀ (i:Nat) (x:Str) (v:V),X.N[i]? = some x->σ[i]? = some (some v)->X.env.scope.names.lookup x=some .cell->∃ c u,X.env.cells.lookup x=some c/\s.heap.IsCell c (some u)/\bN v u
 cell:∀ x c,X.env.cells.lookup x=some c->∃ v,s.heap.IsCell c v
 out:∀ x c,X.env.cells.lookup x=some c->H c=none/\c∉hJ X.stack/\c < s.heap.objs.size
 inj:∀ x y c,X.env.cells.lookup x=some c->X.env.cells.lookup y=some c->x=y
section
variable {X:Cx}{CX:vW}{k:Nat}{f:Addr}{fd:FuncData}{ps:List Str}{sp:GC}{E:XK}{x:Str}{p pos:Pos}{e:Expr}{es:List Expr}{t:TA}
theorem Inv.cellF {pins:List (Addr×Obj)}{σ:St}{H:Hp}{s:Shared} (I:Inv X pins σ H s) (hstk:X.stack=X.env::X.outer) (hfr:X.env.frame=some X.env.locals) (hfn:∀ x,X.fn x=true):CellF X σ H s:=by
 refine⟨λ i x v h1 h2 h3=>?_,I.cell,λ x c hc=>⟨I.freeC x c hc,λ z=>?_,?_⟩,I.ok.inj⟩
 ·obtain⟨m,hn,hl⟩:=I.loc
  obtain⟨u,r,l⟩:=hl i x v h1 h2 (.inr (.inl h3))
  rcases l with ⟨hk,_⟩ | ⟨_,c,hc,hcell⟩
  ·have hk:X.env.scope.names.lookup x=some .local:=hk
   rw[h3] at hk;cases hk
  ·exact⟨c,u,hc,hcell,r⟩
 ·obtain⟨v,o,e1,e2⟩:=I.cell x c hc
  rw[hstk] at z
  unfold hJ at z
  rw[List.filterMap_cons_some hfr] at z
  rcases List.mem_cons.1 z with z | z
  ·obtain⟨m,⟨oL,es,ep,eL,dL,_⟩,_⟩:=I.loc
   rw[<- z,e1] at eL
   cases eL
   rw[e2] at dL;cases dL
  ·have h1:=I.ok.cab x c (hfn x) hc
   obtain⟨_,⟨ob,hb,_⟩⟩:=I.ok.funs.mem (show c∈hJ X.outer from z)
   exact absurd (aal (aai hb) h1) (abj _)
 ·obtain⟨v,o,e1,e2⟩:=I.cell x c hc
  exact aai e1
noncomputable def ES (X:Cx) (sp:GC) (E:XK) (t:TA):TE:=λ σ H Q=>t σ H λ vs H1=>∀ s1:Shared,CellF X σ H1 s1->sp s1 X.stack vs H1 Q E
theorem A7 (F:FnOkS X.prog X.w X.K X.mg X.base CX k f fd ps sp) (hr:Room k X.A) (hg:Gl X x) (hm:X.mg x=some (.ref f)) (hk:PySem.W.keepIn X.K (.ref f)=true) (hb:mC X.K fd ps []) (hx:kQ CX X E)
  (hstk:X.stack=X.env::X.outer) (hfr:X.env.frame=some X.env.locals) (hfn:∀ x,X.fn x=true)
  (ha:PA X (e::es) t) (hdb:(x == ("__debug__" : Str))=false:=by decide) (he:starEach (e::es) X.env=(false,eval e X.env)::starEach es X.env:=by rfl) (hpl:(backTo pos (starEach es X.env)).any (·.1)=false:=by rfl) :
  PE X (.Call (.Name x p) (e::es) [] pos) (ES X sp E t):=by
 intro pins s σ H Q I h
 refine wpAny_Call_Name_kw (lM I hg hm ?_ hdb)
 refine PySem.W.callWith_K (h₀:=X.base) I.ok.mod.kin hk (cQ (ha pos pins s σ H _ I h) λ us s1 ⟨vs,H1,I1,r,q⟩=>⟨I1.kIn,?_⟩) he hpl
 have q1:=q s1 (I1.cellF hstk hfr hfn)
 have hl:us.length=ps.length:=by rw[<- r.length];exact F.len _ _ _ _ _ _ q1
 have hb1:=hb s1 us I1.kIn (by rw[abt];exact hl)
 rw[abt] at hb1
 refine wpAny_call (codeAny_mono (F.run X.A X.stack s1 H1 ⟨us,[]⟩ us vs Q E hr I1.env0 hb1 r q1) λ r s' hq=>?_)
 cases r with
 | error e=>exact hx pins σ H1 s1 e s' I1 hq
 | ok fl=>
  cases fl with
  | ret u=>exact I1.after hq
  | next=>exact False.elim hq
  | brk=>exact False.elim hq
  | cont=>exact False.elim hq
end
structure CalleeS (P:Program) (w:World) (K:aaa) (mg:Str->Option Value) (base:Heap) (x:Str) (ps:List Str) (k:Nat) (sp:GC) (f:Addr) (fd:FuncData):Prop where
 ok:FnOkS P w K mg base (uJ P w) k f fd ps sp
 mg:mg x=some (.ref f)
 kp:PySem.W.keepIn K (.ref f)=true
 bd:mC K fd ps []
section
variable {P:Program}{w:World}{K:aaa}{mg:Str->Option Value}{base:Heap}
theorem Fun.okS {x qual:Str}{st:Stmt}{f:Addr}{fd:FuncData}{N ps:List Str}{k:Nat}{sp:GC} (F:Fun K x qual st f fd) (S:FnScope N ps (aM st)) (len:∀ s o vs H Q E,sp s o vs H Q E->vs.length=ps.length)
  (hbody:∀ (cdv:Value) (A:Around) (outer:List Env) (s:Shared) (H:Hp) (vs:List V) (Q:VK) (E:XK),Room k (A.deeper (envOfC qual (aM st) s.heap.objs.size f cdv))->Env0 P w K mg base A outer s H->sp s outer vs H Q E->
   Leaves (lU (uJ P w) P w K mg base N qual (aM st) f cdv A outer s H E) E->
   ∃ t,sR (lU (uJ P w) P w K mg base N qual (aM st) f cdv A outer s H E) (bE st) t/\t { nx:=λ _ H'=>Q .non H',rt:=Q } (start N vs) H):FnOkS P w K mg base (uJ P w) (k+1) f fd ps sp:=by
 obtain⟨oc,od,kV,doc,pm,an,cdv,ct,osl,rfl,lk,hcd⟩:=F.ex
 exact G0 lk hcd S len λ A outer s H vs Q E hr e0 hsp=>hbody cdv A outer s H vs Q E hr e0 hsp ⟨rfl,rfl,rfl,λ _ _ h=>h⟩
end
end L2
namespace L2
open PySem PySem.Spec PyProof.Rows TwZ
open PySem.W (CodeHd tabObj OpenLaw)
noncomputable def wV (tabs:List (Addr×Addr)) (H:Hp):Prop:=∀ b,H b=none\/(∃ o xs,H b=some (.frz o (.lst xs)))\/∃ q∈tabs,b=q.2
theorem xR {P:Program}{w:World}{K:aaa}{mg mb:Str->Option Value}{CX:vW}{k:Nat}{fa a:Addr}{fd:FuncData}{x:Str}{sp:Sp}{ai:Shared}{vs:List Value}{ns:List Int}{tabs:List (Addr×Addr)}
  (KX:K.In ai.heap) (hns:ai.heap.Ns mainGlobals mg) (hb:ai.heap.Ns builtinsNs mb) (hbb:∀ x:Str,x ≠ "__name__" -> mb x=bootBuiltins x) (hlim:ai.heap.NoLimit) (hg:ai.gens = #[])
  (hbm:∃ bm ob,mg "__builtins__" = some (.ref bm)/\bm≠builtinsNs/\ai.heap.get? bm=some ob/\ob.cls=.type "module" /\ ob.dict=some builtinsNs/\ob.data=.plain)
  (hT:∀ q∈tabs,ai.heap.get? q.2=some (tabObj #[])) (hC:∀ q∈tabs,CodeHd ai.heap q.1 q.2) (hKt:∀ q∈tabs,K.lookup q.2=none)
  (ha:ai.heap.get? a=some { cls:=.type "list",data:=.seq vs.toArray }) (hi:IntsAre vs ns) (hl:ns.length<=sizeLine) (hr:Room k callerA)
  (F:∀ base:Heap,K.In base->base.Ns mainGlobals mg->(∀ q∈tabs,NestB mg base q.1 q.2)->FnOk P w K mg base CX k fa fd [x] sp) (hbind:∀ (s:Shared) (u:Value),BindsTo s fd ⟨[u],[]⟩ [(x,u)])
  (hsp:∀ H:Hp,wV tabs H->bT K H a (ns.map V.int)->(∀ q∈tabs,H q.2=some (.tbl #[]))->sp [.ref a] H (λ v _=>v=.bl true) λ _ _ _=>False)
  (hCX:∀ H e s',CX [] H ai (λ _ _ _=>False) e s'->False) :
  codeAny (model P w) callerA (.call (.ref fa) ⟨[.ref a],[]⟩) (λ r s'=>r=.ok (.ret (.bool true))/\OldK ai.heap s'.heap/\s'.os=ai.os/\AllBare s'.gens) ai:=by
 have rv:=pU hi
 have lenV:=hi.length
 have aT:∀ q∈tabs,q.2≠a:=λ q hq z=>by
  have:=hT q hq
  rw[z,ha] at this;cases this
 have core:∀ H:Hp,wV tabs H->bT K H a (ns.map V.int)->kA P w H ai.heap->(∀ b,H b≠none->b=a\/∃ q∈tabs,b=q.2)->(H a≠none->K.lookup a=none)->(∀ q∈tabs,H q.2=some (.tbl #[]))->
   codeAny (model P w) callerA (.call (.ref fa) ⟨[.ref a],[]⟩) (λ r s'=>r=.ok (.ret (.bool true))/\OldK ai.heap s'.heap/\s'.os=ai.os/\AllBare s'.gens) ai:=by
  intro H hO hS hok hA hK hTb
  have base_of:∀ {b:Addr}{o:Obj},ai.heap.get? b=some o->H b=none->(pP ai.heap H).get? b=some o:=λ e n=>AT e n
  have noO:∀ {b:Addr}{o:Obj},ai.heap.get? b=some o->o≠{ cls:=.type "list",data:=.seq vs.toArray }->o≠tabObj #[]->H b=none:=λ {b o} e d1 d2=>by
   cases q:H b with
   | none=>rfl
   | some u=>
    rcases hA b (by rw[q];simp) with e' | ⟨q',hq',e'⟩
    ·subst e'
     rw[ha] at e;exact absurd (abe e).symm d1
    ·subst e'
     rw[hT q' hq'] at e;exact absurd (abe e).symm d2
  have nsK:∀ {b:Addr}{m:Str->Option Value},ai.heap.Ns b m->(pP ai.heap H).Ns b m:=λ {b m} ⟨o,es,ep,e,d,r⟩=>⟨o,es,ep,base_of e (noO e (λ z=>by rw[z] at d;cases d) (λ z=>by rw[z] at d;cases d)),d,r⟩
  have hKb:K.In (pP ai.heap H):=λ b o e=>base_of (KX b o e) (by
   cases q:H b with
   | none=>rfl
   | some u=>
    rcases hA b (by rw[q];simp) with e' | ⟨q',hq',e'⟩
    ·subst e'
     rw[hK (by rw[q];simp)] at e;cases e
    ·subst e'
     rw[hKt q' hq'] at e;cases e)
  have hM:Mod K mg (pP ai.heap H):=⟨hKb,nsK hns,⟨mb,nsK hb,hbb⟩,let ⟨mc,h1,h2⟩:=hlim;⟨mc,nsK h1,h2⟩⟩
  have e0:Env0 P w K mg (pP ai.heap H) callerA [] ai H:=⟨rfl,hM,λ b o e=>DD e,Nat.le_of_eq (xV _ _),trivial,λ b hb=>absurd (show b∈([]:List Addr) from hb) (by simp),hok,.of_eq hg⟩
  have hN:∀ q∈tabs,NestB mg (pP ai.heap H) q.1 q.2:=λ q hq=>by
   obtain⟨o,vs',file,tf,flags,tg,inF,text,tt,e1,r1,r2,r3,r4,r5,r6,r7,r8,hne⟩:=hC q hq
   obtain⟨bm,ob,b1,b2,b3,b4,b5,b6⟩:=hbm
   refine⟨⟨o,vs',file,tf,flags,tg,inF,text,tt,base_of e1 (noO e1 (λ z=>absurd (r1.symm.trans (congrArg Obj.cls z)) (by show ¬ (Value.type "code" = Value.type "list");decide)) (λ z=>absurd (r1.symm.trans (congrArg Obj.cls z)) (by decide))),r1,r2,r3,r4,r5,r6,r7,r8,hne⟩,bm,ob,b1,b2,λ z=>?_,base_of b3 (noO b3 (λ z=>absurd (b4.symm.trans (congrArg Obj.cls z)) (by show ¬ (Value.type "module" = Value.type "list");decide)) (λ z=>absurd (b4.symm.trans (congrArg Obj.cls z)) (by decide))),b4,b5,b6⟩
   obtain⟨og,es,ep,eg,dg,_⟩:=hns
   rw[z,eg] at b3;cases b3
   rw[dg] at b6;cases b6
  refine codeAny_mono ((F _ hKb (nsK hns) hN).run callerA [] ai H ⟨[.ref a],[]⟩ [.ref a] [.ref a] _ _ hr e0 (hbind ai (.ref a)) (.cons rfl .nil) (hsp H hO hS hTb)) λ r s' h=>?_
  cases r with
  | error e=>exact (hCX H e s' h).elim
  | ok fl=>
   cases fl with
   | next=>exact False.elim h
   | brk=>exact False.elim h
   | cont=>exact False.elim h
   | ret u=>
    obtain⟨v,H',os,bare,un,hok',r',q⟩:=h
    have q':v=.bl true:=q
    subst q'
    obtain rfl:u=Value.bool true:=r'
    have nofs:∀ b:Addr,b∉hJ ([]:List Env):=λ b z=>absurd (show b∈([]:List Addr) from z) (by simp)
    have fin:∀ b o,ai.heap.get? b=some o->s'.heap.get? b=some o\/∃ q∈tabs,b=q.2/\o=tabObj #[]/\∃ ps,s'.heap.get? b=some (tabObj ps):=λ b o e=>by
     cases q:H b with
     | none=>exact .inl (un.keep b o e q (nofs b) (by simp))
     | some u=>
      rcases hO b with z | ⟨ob,xs,z⟩ | ⟨q',hq',e'⟩
      ·rw[q] at z;cases z
      ·have z2:=un.frzs b ob _ z
       obtain⟨e1,_⟩:=hok b _ z
       obtain⟨e2,_⟩:=hok' b _ z2
       rw[e] at e1;cases e1
       exact .inl e2
      ·subst e'
       obtain⟨more,z2⟩:=un.tbls _ _ (hTb q' hq')
       have e2:s'.heap.get? q'.2=some (tabObj (#[]++more)):=hok' _ _ z2
       rw[hT q' hq'] at e
       exact .inr ⟨q',hq',rfl,(abe e).symm,_,e2⟩
    refine⟨rfl,⟨λ b o e=>?_,λ b o e=>?_⟩,os,bare⟩
    ·rcases fin b o e with z | ⟨q',hq',rfl,rfl,ps,z⟩
     ·exact .inl z
     ·exact .inr (.inl ⟨((hC q' hq').tab (hT q' hq')).isCodeTable,rfl,#[],ps,rfl,by rw[Array.empty_append];exact z⟩)
    ·rcases fin b o e with z | ⟨q',hq',rfl,rfl,ps,z⟩
     ·exact⟨o,z⟩
     ·exact⟨_,z⟩
 have tb:∀ (G:Hp),(∀ b u,G b=some u->cC P w G ai.heap b u)->(∀ b,G b≠none->b=a)->(G a≠none->∃ o xs,G a=some (.frz o (.lst xs)))->
   kA P w (λ b=>if b∈tabs.map (·.2) then some (.tbl #[]) else G b) ai.heap:=λ G hG hA hL b u z=>by
  by_cases hb':b∈tabs.map (·.2)
  ·have z':some (HO.tbl #[])=some u:=by rw[<- z];exact (if_pos hb').symm
   cases z'
   obtain⟨q,hq,rfl⟩:=abf.1 hb'
   exact hT q hq
  ·have z':G b=some u:=by rw[<- z];exact (if_neg hb').symm
   have e':=hA b (by rw[z'];simp)
   subst e'
   obtain⟨o,xs,e2⟩:=hL (by rw[z'];simp)
   rw[z'] at e2
   cases e2
   exact hG b _ z'
 have tIn:∀ q∈tabs,q.2∈tabs.map (·.2):=λ q hq=>abf.2 ⟨q,hq,rfl⟩
 have aN:a∉tabs.map (·.2):=λ z=>by
  obtain⟨q,hq,e⟩:=abf.1 z
  exact aT q hq e
 cases hk:K.lookup a with
 | some o=>
  have e:=KX a o hk
  rw[ha] at e
  cases e
  refine core (λ b=>if b∈tabs.map (·.2) then some (.tbl #[]) else none) (λ b=>?_) (.inr ⟨_,vs.toArray,_,hk,rfl,rfl,rfl,by rw[aam,lenV];exact hl,by simpa using rv⟩) (tb (λ _=>none) (λ b u z=>by have z':(none:Option HO)=some u:=z;cases z') (λ b z=>absurd rfl z) λ z=>absurd rfl z) (λ b z=>?_) (λ z=>absurd (if_neg aN) z) λ q hq=>if_pos (tIn q hq)
  ·by_cases hb':b∈tabs.map (·.2)
   ·obtain⟨q,hq,e⟩:=abf.1 hb'
    exact .inr (.inr ⟨q,hq,e.symm⟩)
   ·exact .inl (if_neg hb')
  ·by_cases hb':b∈tabs.map (·.2)
   ·obtain⟨q,hq,e⟩:=abf.1 hb'
    exact .inr ⟨q,hq,e.symm⟩
   ·exact absurd (if_neg hb') z
 | none=>
  refine core (λ b=>if b∈tabs.map (·.2) then some (.tbl #[]) else if b=a then some (.frz { cls:=.type "list",data:=.seq vs.toArray } (.lst (ns.map V.int))) else none) (λ b=>?_) (.inl (.inr ⟨{ cls:=.type "list",data:=.seq vs.toArray },(if_neg aN).trans (if_pos rfl)⟩))
   (tb (λ b=>if b=a then some (.frz { cls:=.type "list",data:=.seq vs.toArray } (.lst (ns.map V.int))) else none) (λ b u z=>?_) (λ b z=>?_) λ _=>⟨_,_,if_pos rfl⟩) (λ b z=>?_) (λ _=>hk) λ q hq=>if_pos (tIn q hq)
  ·by_cases hb':b∈tabs.map (·.2)
   ·obtain⟨q,hq,e⟩:=abf.1 hb'
    exact .inr (.inr ⟨q,hq,e.symm⟩)
   ·by_cases hb2:b=a
    ·exact .inr (.inl ⟨_,_,(if_neg hb').trans (if_pos hb2)⟩)
    ·exact .inl ((if_neg hb').trans (if_neg hb2))
  ·by_cases hb2:b=a
   ·have z':=(if_pos hb2).symm.trans z
    cases z'
    subst hb2
    exact⟨ha,by rw[aac];exact hl,vs,_,rv,ha⟩
   ·have z':=(if_neg hb2).symm.trans z
    cases z'
  ·by_cases hb2:b=a
   ·exact hb2
   ·exact absurd (if_neg hb2) z
  ·by_cases hb':b∈tabs.map (·.2)
   ·obtain⟨q,hq,e⟩:=abf.1 hb'
    exact .inr ⟨q,hq,e.symm⟩
   ·by_cases hb2:b=a
    ·exact .inl hb2
    ·exact absurd ((if_neg hb').trans (if_neg hb2)) z
theorem walk_ofT {l:OpenLaw}{n k:Nat}{q:Program}{loose:List Str}{XP:(Str->Option Value)->Heap->Prop}{YP:World->Heap->Prop}{d:DefRec}{K:Params->aaa}{sp:aaa->List (Addr×Addr)->Sp}{x:Str}{ts:List Addr}
  (hn:l.most=some n) (hn2:n<=sizeLine) (hdf:d.params.defaults=[]) (hr:Room k callerA)
  (hY:∀ (w:World) (h:Heap),YP w h->(K w.params).In h) (hYt:∀ (w:World) (h:Heap),YP w h->∀ P∈ts,h.get? P=some (tabObj #[]))
  (F:∀ (w:World) (mg:Str->Option Value) (fa:Addr) (h:Heap),(K w.params).In h->h.Ns mainGlobals mg->mg d.name=some (.ref fa)->
   ∃ (fd:FuncData) (tabs:List (Addr×Addr)),(∀ q∈tabs,q.2∈ts/\(K w.params).lookup q.2=none/\PySem.W.codeHdIn (K w.params) q.1 q.2=true)/\(∀ (s:Shared) (u:Value),BindsTo s fd ⟨[u],[]⟩ [(x,u)])/\
    ∀ base:Heap,(K w.params).In base->base.Ns mainGlobals mg->(∀ q∈tabs,NestB mg base q.1 q.2)->FnOk l.prog w (K w.params) mg base iM k fa fd [x] (sp (K w.params) tabs))
  (hsp:∀ (K:aaa) (tabs:List (Addr×Addr)) (H:Hp) (a:Addr) (ns:List Int),ns.length<=n->wV tabs H->bT K H a (ns.map V.int)->(∀ q∈tabs,H q.2=some (.tbl #[]))->sp K tabs [.ref a] H (λ v _=>v=.bl true) λ _ _ _=>False) :
  PySem.W.WalkO q loose XP YP l.row.toRowW d [] (λ f vs=>PySem.call f vs):=by
 refine Att.attach_call hn hdf λ w s₀ ai mg mb fa o pm cd doc a vs ns G Y ho hd hcd hmg hobj hints hlen hg=>?_
 have KX:=hY w _ Y
 obtain⟨fd,tabs,ht,hb,hF⟩:=F w mg fa _ KX G.T.g hmg
 exact xR KX G.T.g G.T.b G.T.builtins G.T.nolimit hg G.T.bmain (λ q hq=>hYt w _ Y q.2 (ht q hq).1) (λ q hq=>PySem.W.codeHd_of_K KX (ht q hq).2.2) (λ q hq=>(ht q hq).2.1) hobj hints (abp hlen hn2) hr hF hb
  (λ H hO hS hT=>hsp _ tabs H a ns hlen hO hS hT) λ H e s' z=>z
end L2
namespace Tw
open PySem L2
section
variable {P:Program}{w:World}{K:aaa}{af:Type}{dD:af->L2.D}{S:L2.D}
structure BfsAt (P:Program) (w:World) (K:aaa) (dD:af->L2.D) (S:L2.D) (H:Hp) (fl sd:Addr) (us:List V) (kvs:List (L2.D×V)) (fs:Fs af):Prop where
 lst:H fl=some (.lst us)
 its:Paired (λ (p:af×List Int) v=>KeyD K H S (dD p.1) v) fs us
 dic:dC P w K H sd S kvs
 row:Paired (λ (p:af×List Int) (q:L2.D×V)=>dD p.1=q.1/\∃ a,q.2=.ref a/\a≠fl/\H a=some (.lst (p.2.map V.int))) fs kvs
variable {H H':Hp}{fl sd:Addr}{us:List V}{kvs:List (L2.D×V)}{fs:Fs af}
theorem BfsAt.ne (B:BfsAt P w K dD S H fl sd us kvs fs):fl≠sd:=λ z=>by
 have h:=B.lst
 rcases B.dic with ⟨e,_⟩ | ⟨xs,e,_⟩
 ·rw[z,e] at h;cases h
 ·rw[z,e] at h;cases h
theorem BfsAt.rne (B:BfsAt P w K dD S H fl sd us kvs fs) {a:Addr}{xs:List V} (h:H a=some (.lst xs)):a≠sd:=λ z=>by
 rcases B.dic with ⟨e,_⟩ | ⟨xs,e,_⟩
 ·rw[z,e] at h;cases h
 ·rw[z,e] at h;cases h
theorem BfsAt.same (B:BfsAt P w K dD S H fl sd us kvs fs) (s:aF H H'):BfsAt P w K dD S H' fl sd us kvs fs:=
 ⟨s _ _ B.lst,Paired.mapP B.its λ _ _ h=>h.mono s.ts,B.dic.same s,Paired.mapP B.row λ _ _ ⟨h1,a,h2,h3,h4⟩=>⟨h1,a,h2,h3,s _ _ h4⟩⟩
theorem Paired.get' {af cq:Type}{F:af->cq->Prop}:∀ {bj:List af}{bn:List cq},Paired F bj bn->∀ {i:Nat}{a:af},bj[i]? = some a->∃ b,bn[i]? = some b/\F a b:=by
 intro bj bn r
 induction r with
 | nil=>intro i a h;simp at h
 | cons h t ih=>
  intro i a e
  cases i with
  | zero=>cases e;exact⟨_,rfl,h⟩
  | succ i=>exact ih e
theorem Paired.snoc {af cq:Type}{F:af->cq->Prop}{bj:List af}{bn:List cq}{a:af}{b:cq} (r:Paired F bj bn) (h:F a b):Paired F (bj++[a]) (bn++[b]):=by
 induction r with
 | nil=>exact .cons h .nil
 | cons h' t ih=>exact .cons h' ih
theorem BfsAt.val (B:BfsAt P w K dD S H fl sd us kvs fs) (k:L2.D):(dA dD fs k=none/\dM kvs k=none)\/∃ r a,dA dD fs k=some r/\dM kvs k=some (.ref a)/\a≠fl/\H a=some (.lst (r.map V.int)):=by
 have r:=B.row
 clear B
 unfold dA dM
 induction r with
 | nil=>exact .inl ⟨rfl,rfl⟩
 | @cons p q ps qs h t ih=>
  obtain⟨e,a,e2,n,hl⟩:=h
  by_cases c:dD p.1=k
  ·refine .inr ⟨p.2,a,?_,?_,n,hl⟩
   ·rw[List.find?_cons_of_pos (by simpa using c)];rfl
   ·rw[List.find?_cons_of_pos (by simpa using e ▸ c)];rw[Option.map_some,e2]
  ·rw[List.find?_cons_of_neg (by simpa using c),List.find?_cons_of_neg (by rw[<- e];simpa using c)]
   exact ih
theorem BfsAt.isSome (B:BfsAt P w K dD S H fl sd us kvs fs) (k:L2.D):(dM kvs k).isSome=(dA dD fs k).isSome:=by
 rcases B.val k with ⟨h1,h2⟩ | ⟨r,a,h1,h2,_⟩
 ·rw[h1,h2];rfl
 ·rw[h1,h2];rfl
theorem BfsAt.lenU (B:BfsAt P w K dD S H fl sd us kvs fs):us.length=fs.length:=(Paired.length B.its).symm
theorem BfsAt.lenK (B:BfsAt P w K dD S H fl sd us kvs fs):kvs.length=fs.length:=(Paired.length B.row).symm
theorem BfsAt.put {d:af}{r:List Int}{v:V}{ra:Addr} (B:BfsAt P w K dD S H fl sd us kvs fs) (hn:(dA dD fs (dD d)).isSome=false) (hk:KeyD K H S (dD d) v) (hr:H ra=some (.lst (r.map V.int))) (hne:ra≠fl) (bt:cP sd H H') (dd:dC P w K H' sd S (gW kvs (dD d) (.ref ra))) :
  BfsAt P w K dD S (upd H' fl (.lst (us++[v]))) fl sd (us++[v]) (kvs++[(dD d,.ref ra)]) (fs++[(d,r)])/\kR (H' fl):=by
 have mu:=B.dic.mut
 have ts1:=bt.ts (K:=K) mu
 have e1:H' fl=some (.lst us):=bt _ _ B.ne B.lst
 have mu2:kR (H' fl):=by rw[e1];exact trivial
 have b2:cP fl H' (upd H' fl (.lst (us++[v]))):=cP.upd
 have ts2:=b2.ts (K:=K) mu2
 have hv:dM kvs (dD d)=none:=by
  have:=B.isSome (dD d)
  rw[hn] at this
  cases q:dM kvs (dD d) with
  | none=>rfl
  | some _=>rw[q] at this;cases this
 rw[zU _ hv] at dd
 refine⟨⟨aB,Paired.snoc (Paired.mapP B.its λ _ _ h=>(h.mono ts1).mono ts2) ((hk.mono ts1).mono ts2),dd.mono ts2 λ o e=>b2 _ _ (Ne.symm B.ne) e,Paired.snoc (Paired.mapP B.row λ p q ⟨h1,a,h2,h3,h4⟩=>⟨h1,a,h2,h3,b2 _ _ h3 (bt _ _ (B.rne h4) h4)⟩) ⟨rfl,ra,rfl,hne,b2 _ _ hne (bt _ _ (B.rne hr) hr)⟩⟩,mu2⟩
end
end Tw
namespace Tw
open PySem L2
theorem gR {n:Nat} (h:n<=10000000):n < sizeLine:=by rw[sizeLine_eq];omega
end Tw
namespace Tw
open PySem L2
section
variable {P:Program}{w:World}{K:aaa}{mg:Str->Option Value}{base:Heap}{c_TipError c_NoNet c_NoVessel c_TooLong c_TooMany c_TooMuch c_Nothing c_NoText c_NoRow:Addr}
variable {af:Type}{dD:af->L2.D}{nxt:af->Int->af}{fin:af->Int->Bool}{ok:af->Prop}{G:Hp->Prop}{S:L2.D}
noncomputable def ET (K:aaa) (dD:af->L2.D) (nxt:af->Int->af) (fin:af->Int->Bool) (ok:af->Prop) (G:Hp->Prop) (most:Nat):Sp:=λ vs H Q _=>∃ (x:V) (d:af) (a:Nat),vs=[x,.int a]/\Is K H (dD d) x/\ok d/\a<=most/\G H/\
 ∀ p y H',aF H H'->bD K H' p [y,.bl (fin d a)]->Is K H' (dD (nxt d a)) y->Q (.ref p) H'
structure Goes (K:aaa) (dD:af->L2.D) (nxt:af->Int->af) (ok:af->Prop) (G:Hp->Prop) (S:L2.D) (most:Nat):Prop where
 next:∀ d (a:Nat),ok d->a<=most->ok (nxt d a)
 key:∀ d,ok d->∀ H v,Is K H (dD d) v->KeyD K H S (dD d) v
 stay:∀ H H',bV K H H'->G H->G H'
noncomputable def zG (P:Program) (w:World) (K:aaa) (mg:Str->Option Value) (base:Heap) (cT:Addr) (dD:af->L2.D):GC:=λ s outer vs H Q E=>∃ (nxt:af->Int->af) (fin:af->Int->Bool) (ok:af->Prop) (G:Hp->Prop) (S:L2.D) (x:V) (f c:Addr) (ob oc:Obj) (cl:List (Str×Addr)) (most lim:Nat) (first:af),
 vs=[x,.ref f,.int most,.int lim]/\1<=lim/\lim<=1000/\most<=1000/\Is K H (dD first) x/\ok first/\Goes K dD nxt ok G S most/\G H/\FnH H f c ob oc/\(∃ cls od fd sl,ob=⟨cls,od,.func fd,sl⟩)/\BW P w K mg base 6 f c ob oc cl (ET K dD nxt fin ok G most) s/\
 (∀ c∈cl.map (·.2),H c=none/\c∉hJ outer/\c < s.heap.objs.size/\∃ o,s.heap.get? c=some o)/\
 (∀ row fs,CB dD nxt fin most lim first=.ends row fs->∀ p rl fl H',aF H H'->bD K H' p [.ref rl,.ref fl]->H' rl=some (.lst (row.map V.int))->H rl=none->row.length<=2000->Q (.ref p) H')/\
 (CB dD nxt fin most lim first=.many->∀ H',aF H H'->E (.ref cT) none H')/\
 (∀ fs,CB dD nxt fin most lim first=.on fs->∀ p fl us H',aF H H'->bD K H' p [.non,.ref fl]->H' fl=some (.lst us)->H fl=none->Paired (λ (p:af×List Int) v=>KeyD K H' S (dD p.1) v) fs us->(∀ q∈fs,ok q.1)->fs.length<=lim->Q (.ref p) H')
theorem jQ:FnScope ["first","step","most","limit","found","rows","place","here","amount","row","behind","is_end"] ["first","step","most","limit"] (aM (bK 21)):=⟨rfl,rfl,rfl,by decide +kernel,rfl,by decide +kernel,by decide +kernel⟩
theorem pH {f:Addr}{fd:FuncData} (F:Fun K "go_through" "go_through" (bK 21) f fd) (T:Txt mg) (XC_TooMany:ExC K "TooMany" c_TooMany) :
  FnOkS P w K mg base (uJ P w) 7 f fd ["first","step","most","limit"] (zG P w K mg base c_TooMany dD):=by
 refine F.okS jQ (λ s o vs H Q E h=>?_) (λ cdv A outer s H vs Q E hr e0 h L=>?_)
 ·obtain⟨nxt,fin,ok,G,S,x,f,c,ob,oc,cl,most,lim,first,rfl,_⟩:=h;rfl
 ·obtain⟨nxt,fin,ok,G,S,x,f',c,ob,oc,cl,most,lim,first,rfl,hl1,hl2,hm,hx,hok,gs,hG,hF,RF,RS,hc,kE,kM,kO⟩:=h
  have sc:=jQ
  have RC:∀ c∈cl.map (·.2),H c=none/\c∉hJ outer/\c∉([]:List Addr)/\c < s.heap.objs.size/\∃ o,s.heap.get? c=some o:=λ c hc'=>by
   obtain⟨h1,h2,h3⟩:=hc c hc'
   exact⟨h1,h2,by simp,h3⟩
  refine⟨_,(aD (CU (i:=4) (j:=5) (k:=6) rfl sc.nd rfl rfl rfl (by decide) (by decide) (by decide) rfl rfl rfl (aA (bG (aA (pv 0) aC)) (aA (qD (P:=P) (w:=w) (K:=K) rfl rfl rfl hr.units (pv 0) (bG aC)) (aA aE aC))) rfl)
   (aD (tK PassesOwn.leaving (bB oH (pv 6) (aR (bA (K:=K) rfl) rfl T.b_len aar (aA (pv 4) aC)) (bH _)) (aD (aP (i:=7) sc.nd rfl (Or.inl rfl) (aQ (aJ (K:=K) rfl) (pv 4) (pv 6) (λ _ _=>rfl)))
   (aD (cS PassesOwn.leaving rfl (cK rfl T.b_range (aA (aU cB (pv 2) aE) aC)) (aH (i:=8) sc.nd rfl (Or.inl rfl)) (aD (aP (i:=9) sc.nd rfl (Or.inl rfl) (aU kG (aQ (AO (P:=P) (w:=w) (K:=K) rfl rfl rfl hr.units) (pv 5) (pv 7) (λ _ _=>rfl)) (bG (aA (pv 8) aC))))
   (aD (cN (A6 RS RF (hr.mono (by decide)) RC (i:=1) rfl (.inl rfl) (aA (pv 7) (aA (pv 8) aC)) rfl rfl) (bJ (K:=K) (n:=2) rfl rfl (aG (aH (i:=10) sc.nd rfl (Or.inl rfl)) (aG (aH (i:=11) sc.nd rfl (Or.inl rfl)) bF))))
   (aD (cF (fQ (pv 11)) (aK (bC (aV (aA (pv 9) (aA (pv 4) aC))))) bL)
   (aK (cF (bB (iY (P:=P) (w:=w) (K:=K) rfl rfl rfl hr.units) (pv 10) (pv 5) (by rfl)) (aD (cF (bB A9 (aR (bA (K:=K) rfl) rfl T.b_len aar (aA (pv 4) aC)) (pv 3) (bH _)) (aK (zV L rfl rfl XC_TooMany.exc XC_TooMany.ns PySem.F.excBase_ValueError (aA cH aC))) bL)
   (aD (mL (P:=P) (w:=w) (K:=K) rfl rfl rfl hr.units (pv 5) (pv 10) (pv 9) rfl)
   (aK (cV (eA (K:=K) rfl aas aau aav cD (pv 4) (aA (pv 10) aC)))))) bL))))))
   (aK (zX (i:=6) sc.nd rfl (Or.inl rfl) aE AR)))))
   (aK (bC (aV (aA eQ (aA (pv 4) aC))))))),?_⟩
  refine⟨_,rfl,(show 1<=sizeLine by decide),λ fl hfl=>λ sd hsd=>⟨_,rfl,Nat.zero_le _,λ r0 hr0=>?_⟩⟩
  have nfs:fl≠sd:=aL (show upd H fl (.lst [x]) fl=_ from aB) hsd
  have nsr:sd≠r0:=aL (show upd (upd H fl (.lst [x])) sd (.dK []) sd=_ from aB) hr0
  have nfr:fl≠r0:=aL (show upd (upd H fl (.lst [x])) sd (.dK []) fl=_ by rw[aO nfs];exact aB) hr0
  have s1:aF H (upd (upd (upd H fl (.lst [x])) sd (.dK [])) r0 (.lst [])):=((aF.new hfl).trans (aF.new hsd)).trans (aF.new hr0)
  have ff:H fl=none:=hfl
  have fsd:H sd=none:=(aF.new hfl).free hsd
  have g1:upd (upd (upd H fl (.lst [x])) sd (.dK [])) r0 (.lst []) fl=some (.lst [x]):=by rw[aO nfr,aO nfs];exact aB
  have g2:upd (upd (upd H fl (.lst [x])) sd (.dK [])) r0 (.lst []) sd=some (.dK []):=by rw[aO nsr];exact aB
  have g3:upd (upd (upd H fl (.lst [x])) sd (.dK [])) r0 (.lst []) r0=some (.lst []):=aB
  generalize upd (upd (upd H fl (.lst [x])) sd (.dK [])) r0 (.lst [])=H1 at s1 g1 g2 g3 ⊢
  have key1:=gs.key first hok H1 x (Is.mono s1.ts _ _ hx)
  refine⟨g2,S,dD first,key1,λ H3 b3 d3=>⟨_,_,_,rfl,?_⟩⟩
  have mu2:kR (H1 sd):=by rw[g2];exact trivial
  have ts3:=b3.ts (K:=K) mu2
  have B3:BfsAt P w K dD S H3 fl sd [x] [(dD first,.ref r0)] [(first,[])]:=⟨b3 _ _ nfs g1,.cons (key1.mono ts3) .nil,d3,.cons ⟨rfl,r0,rfl,Ne.symm nfr,b3 _ _ (Ne.symm nsr) g3⟩ .nil⟩
  have s3:aF H H3:=λ b o e=>b3 b o (aL e fsd) (s1 b o e)
  have F3:FnH H3 f' c ob oc:=hF.same s3
  have G3:G H3:=gs.stay _ _ s3.ts hG
  clear g1 g2 g3
  refine⟨λ m ac H'=>aF H H'/\∃ (p:Nat) (fs:Fs af) (us:List V) (kvs:List (L2.D×V)) (v7 v8 v9 v10 v11:Option V),m=lim+1 - p/\BfsAt P w K dD S H' fl sd us kvs fs/\p<=fs.length/\fs.length<=lim/\(∀ q∈fs,ok q.1/\q.2.length < fs.length)/\iF dD nxt fin most lim (lim+1 - p) p fs=CB dD nxt fin most lim first/\
    ac=[some x,some (.ref f'),some (.int most),some (.int lim),some (.ref fl),some (.ref sd),some (.int (p:Int)),v7,v8,v9,v10,v11],
   ⟨_,s3,0,_,_,_,_,_,_,_,_,rfl,B3,Nat.zero_le _,by simpa using hl1,λ q hq=>by rw[aaw] at hq;subst hq;exact⟨hok,(show 0 < 1 by decide)⟩,rfl,rfl⟩,?_⟩
  clear B3 F3 G3 d3 ts3 b3 mu2
  rintro m ac H4 ⟨s4,p,fs,us,kvs,v7,v8,v9,v10,v11,rfl,B4,hp,hlf,hoks,hb,rfl⟩
  have eul:=B4.lenU
  have lm:lim<=10000000:=by omega
  refine⟨_,rfl,_,rfl,fl,us,rfl,.inl (bT.of B4.lst),_,_,rfl,rfl,_,rfl,eM (λ hT=>?_) λ hN=>?_⟩
  ·have hT:(p:Int) < us.length:=by simpa using hT
   have hpl:p < fs.length:=by omega
   refine⟨λ ac H'=>aF H H'/\∃ (p':Nat) (fs:Fs af) (us:List V) (kvs:List (L2.D×V)) (v7 v8 v9 v10 v11:Option V),p'=p+1/\BfsAt P w K dD S H' fl sd us kvs fs/\p'<=fs.length/\fs.length<=lim/\(∀ q∈fs,ok q.1/\q.2.length < fs.length)/\iF dD nxt fin most lim (lim+1 - p') p' fs=CB dD nxt fin most lim first/\
    ac=[some x,some (.ref f'),some (.int most),some (.int lim),some (.ref fl),some (.ref sd),some (.int (p':Int)),v7,v8,v9,v10,v11],λ ac H' ⟨h1,p',fs',us',kvs',w7,w8,w9,w10,w11,h2,h⟩=>⟨lim+1 - p',by omega,h1,p',fs',us',kvs',w7,w8,w9,w10,w11,rfl,h⟩,?_⟩
   obtain⟨⟨d,r0'⟩,hq⟩:∃ q,fs[p]? = some q:=⟨_,abh hpl⟩
   obtain⟨v,hv,kv⟩:=Paired.get' B4.its hq
   have okd:ok d:=(hoks _ (aan hq)).1
   obtain⟨r,er⟩:=Option.isSome_iff_exists.mp (fX (dD:=dD) (aan hq))
   refine⟨_,rfl,_,rfl,.inl ⟨fl,us,(p:Int),v,rfl,rfl,bT.of B4.lst,bZ hv,?_⟩⟩
   refine⟨_,rfl,_,_,rfl,rfl,_,rfl,by omega,by omega,?_⟩
   rw[show ((most:Int)+1).toNat=most+1 by omega]
   refine dS (lo:=0) (n:=most+1) (λ i ac H'=>aF H H'/\∃ (fs:Fs af) (us:List V) (kvs:List (L2.D×V)) (v8 v9 v10 v11:Option V),BfsAt P w K dD S H' fl sd us kvs fs/\p < fs.length/\fs.length<=lim/\(∀ q∈fs,ok q.1/\q.2.length < fs.length)/\dA dD fs (dD d)=some r/\r.length < fs.length/\
    BR dD nxt fin most lim p (pD dD nxt fin lim d r (most+1 - i) (i:Nat) fs)=CB dD nxt fin most lim first/\KeyD K H' S (dD d) v/\
    ac=[some x,some (.ref f'),some (.int most),some (.int lim),some (.ref fl),some (.ref sd),some (.int (p:Int)),some v,v8,v9,v10,v11]) ?_ ?_ ?_
   ·refine⟨s4,fs,us,kvs,_,_,_,_,B4,hpl,hlf,hoks,er,?_,?_,kv,rfl⟩
    ·obtain⟨q,hq1,hq2⟩:∃ q∈fs,q.2=r:=by
      unfold dA at er
      obtain⟨q,e1,e2⟩:=aaq.mp er
      exact⟨q,List.mem_of_find?_eq_some e1,e2⟩
     rw[<- hq2];exact (hoks q hq1).2
    ·rw[<- hb,show lim+1 - p=(lim - p)+1 by omega]
     exact (qQ hq er rfl).symm
   ·rintro i ac H5 hi ⟨s5,fs,us,kvs,w8,w9,w10,w11,B5,hpl5,hlf5,hoks5,er5,hrl,hb5,kv5,rfl⟩
    rw[Int.zero_add]
    have eul5:=B5.lenU
    dsimp only [eP]
    rcases B5.val (dD d) with ⟨z,_⟩ | ⟨r',ra0,z1,z2,z3,z4⟩
    ·rw[er5] at z;cases z
    rw[er5] at z1;cases z1
    refine⟨_,rfl,_,rfl,sd,S,kvs,dD d,.ref ra0,rfl,B5.dic,kv5,z2,_,rfl,(show 1<=sizeLine by decide),λ la hla=>⟨ra0,la,r.map V.int,[.int i],rfl,rfl,aF.new hla _ _ z4,aB,by rw[aac,sizeLine_eq];show r.length+1<=_;omega,λ ra hra=>?_⟩⟩
    have s6:aF H5 (upd (upd H5 la (.lst [.int i])) ra (.lst (r.map V.int++[.int i]))):=(aF.new hla).trans (aF.new hra)
    have g6:upd (upd H5 la (.lst [.int i])) ra (.lst (r.map V.int++[.int i])) ra=some (.lst ((r++[(i:Int)]).map V.int)):=by rw[aB,aae];rfl
    have nra:ra≠fl:=λ z=>by
     have:=(aF.new hla).free hra
     rw[z,B5.lst] at this;cases this
    have fra:H ra=none:=(s5.trans (aF.new hla)).free hra
    generalize upd (upd H5 la (.lst [.int i])) ra (.lst (r.map V.int++[.int i]))=H6 at s6 g6 ⊢
    have B6:=B5.same s6
    have F6:FnH H6 f' c ob oc:=hF.same (s5.trans s6)
    refine⟨rfl,F6,_,rfl,_,rfl,F6,v,d,i,rfl,(kv5.mono s6.ts).is,okd,by omega,gs.stay _ _ (s5.trans s6).ts hG,λ pp y H7 s7 qp iy=>?_⟩
    refine⟨pp,_,rfl,qp,rfl,_,_,rfl,_,_,rfl,rfl,?_⟩
    have B7:=B6.same s7
    have ok':ok (nxt d i):=gs.next d i okd (by omega)
    have ky:=gs.key _ ok' H7 y iy
    have hla1:most+1 - i=(most - i)+1:=by omega
    rw[hla1] at hb5
    refine⟨_,rfl,_,rfl,?_⟩
    cases hf:fin d i with
    | true=>
     refine gF ?_
     rw[nQ hf] at hb5
     have e5:CB dD nxt fin most lim first=.ends (r++[(i:Int)]) fs:=hb5.symm
     refine⟨_,rfl,_,rfl,(show 2<=sizeLine by decide),λ tp htp=>?_⟩
     have s8:=aF.new (o:=HO.tup [.ref ra,.ref fl]) htp
     exact kE _ _ e5 tp ra fl _ (((s5.trans s6).trans s7).trans s8) (bD.of aB) (s8 _ _ (s7 _ _ g6)) fra (by rw[aak,List.length_singleton];omega)
    | false=>
     refine dP ?_
     refine⟨_,rfl,_,rfl,sd,S,kvs,dD (nxt d i),rfl,B7.dic,ky,_,rfl,?_⟩
     rw[B7.isSome]
     cases hv':(dA dD fs (dD (nxt d i))).isSome with
     | true=>
      refine dP ?_
      rw[nO hf hv'] at hb5
      exact⟨(s5.trans s6).trans s7,fs,us,kvs,_,_,_,_,B7,hpl5,hlf5,hoks5,er5,hrl,by rw[show most+1 - (i+1)=most - i by omega];exact hb5,kv5.mono (s6.trans s7).ts,rfl⟩
     | false=>
      refine gF ?_
      refine⟨_,rfl,fl,us,rfl,.inl (bT.of B7.lst),_,rfl,_,_,rfl,rfl,_,rfl,eM (λ hT2=>?_) λ hN2=>?_⟩
      ·have hT2:(us.length:Int) ≥ lim:=by simpa using hT2
       rw[lZ hf hv' (by omega)] at hb5
       exact⟨by show 1<=100;decide,kM hb5.symm _ ((s5.trans s6).trans s7)⟩
      ·have hN2:¬ (us.length:Int) ≥ lim:=by simpa using hN2
       have hlt:fs.length < lim:=by omega
       rw[nP hf hv' hlt] at hb5
       refine⟨_,rfl,_,rfl,_,rfl,sd,S,kvs,dD (nxt d i),rfl,B7.dic,ky,gR (by rw[B7.lenK];omega),λ H8 b8 d8=>?_⟩
       obtain⟨B9,mu8⟩:=B7.put hv' ky (s7 _ _ g6) nra b8 d8
       have hfl8:H8 fl=some (.lst us):=b8 _ _ B7.ne B7.lst
       refine⟨_,rfl,.inl ⟨rfl,_,bT.of hfl8⟩,_,rfl,fl,us,_,rfl,rfl,hfl8,gR (by omega),?_⟩
       have s8:aF H H8:=λ b o e=>b8 b o (aL e fsd) (((s5.trans s6).trans s7) b o e)
       have bt9:cP fl H8 (upd H8 fl (.lst (us++[y]))):=cP.upd
       refine⟨s8.put ff,_,_,_,_,_,_,_,B9,by rw[aak];omega,by rw[aak,List.length_singleton];omega,λ q hq=>?_,pW _ er5,by rw[aak];omega,by rw[show most+1 - (i+1)=most - i by omega];exact hb5,((kv5.mono (s6.trans s7).ts).mono (b8.ts B7.dic.mut)).mono (bt9.ts mu8),rfl⟩
       rw[aak,List.length_singleton]
       rcases abd.1 hq with hq | hq
       ·obtain⟨h1,h2⟩:=hoks5 q hq
        exact⟨h1,by omega⟩
       ·rw[aaw] at hq
        subst hq
        exact⟨ok',by show (r++[(i:Int)]).length < _;rw[aak,List.length_singleton];omega⟩
   ·
    rintro ac H5 ⟨s5,fs,us,kvs,w8,w9,w10,w11,B5,hpl5,hlf5,hoks5,er5,hrl,hb5,kv5,rfl⟩
    rw[Nat.sub_self] at hb5
    refine⟨_,rfl,_,_,rfl,rfl,s5,p+1,fs,us,kvs,_,_,_,_,_,rfl,B5,hpl5,hlf5,hoks5,?_,rfl⟩
    rw[<- hb5]
    show iF dD nxt fin most lim (lim+1 - (p+1)) (p+1) fs=iF dD nxt fin most lim (lim - p) (p+1) fs
    rw[show lim+1 - (p+1)=lim - p by omega]
  ·
   have hN:¬ (p:Int) < us.length:=by simpa using hN
   rw[qP (by omega)] at hb
   refine⟨_,rfl,(show 2<=sizeLine by decide),λ tp htp=>?_⟩
   have s8:=aF.new (o:=HO.tup [.non,.ref fl]) htp
   have B8:=B4.same s8
   exact kO fs hb.symm tp fl us _ (s4.trans s8) (bD.of aB) B8.lst ff B8.its (λ q hq=>(hoks q hq).1) hlf
end
end Tw
namespace L2
open PySem PySem.Spec PyProof.Rows TwZ
section
variable {X:Cx}{pins:List (Addr×Obj)}{σ:St}{H:Hp}{s:Shared}
end
section
variable {X:Cx}{pins:List (Addr×Obj)}{σ:St}{H:Hp}{s:Shared}
end
section
variable {K:aaa}{H:Hp}
end
end L2
namespace L2
open PySem PySem.Spec PyProof.Rows TwZ
section
variable {X:Cx}
end
end L2
namespace L2
open PySem PySem.Spec PyProof.Rows TwZ
section
variable {X:Cx}{K:aaa}
noncomputable def Pl (H:Hp) (a:Addr) (xs:List V):Prop:=∃ o:Obj,H a=some (.frz o (.tup xs))/\o.dict=none
theorem Pl.sq {H:Hp}{a:Addr}{xs:List V} (h:Pl H a xs):bD K H a xs:=by obtain⟨o,h,_⟩:=h;exact .inl (.inr ⟨o,h⟩)
noncomputable def DV (K:aaa):List V->Hp->VK->Prop:=λ xs H Q=>∃ p ys,xs=[.ref p]/\bT K H p ys/\∀ (l:Addr) (o:Obj),H l=none->o.dict=none->Q (.ref l) (upd H l (.frz o (.tup ys)))
theorem yD:eN X (.type "tuple") (DV X.K):=by
 intro pins s σ H xs us Q I r h
 obtain⟨p,ys,rfl,hq,q⟩:=h
 obtain⟨u,rfl,rx⟩:=nU r
 cases rx
 obtain⟨its,r',pl,hz⟩:=I.list hq
 have hlen:=r'.length
 refine call_tuple_list pl.isList (λ h' kp=>?_) (by simp only [aam] <;> omega)
 have I1:Inv X pins σ H { s with heap:=h' }:=I.kept (t':=s.toks) kp
 have I2:Inv X pins σ (upd H h'.objs.size (.frz { cls:=.type "tuple",data:=.seq its.toArray } (.tup ys))) { s with heap:=h'.push { cls:=.type "tuple",data:=.seq its.toArray } }:=
  I1.laid (t':=s.toks) (λ b o e=>aab _ e) (Nat.le_refl _) (show cC X.prog X.w _ _ _ (.frz _ (.tup ys)) from ⟨aag _ rfl,hz,its,r',IsTup.new _ _⟩)
 exact⟨.ref h'.objs.size,_,I2,rfl,q _ _ (I1.hok.fresh (Nat.le_refl _)) rfl⟩
theorem vQ (hK:X.K=K):eN X (.type "tuple") (DV K):=by subst hK;exact yD
end
end L2
namespace Tw
open PySem L2
section
variable {P:Program}{w:World}{K:aaa}{mg:Str->Option Value}{base:Heap}
noncomputable def ID (K:aaa) (H:Hp) (t:Tick) (v:V):Prop:=∃ (f:Addr) (st:V) (tp:Addr),v=.ref f/\bD K H f [st,.ref tp,.int t.ground]/\Is K H (CA t.held t.coming t.doors) st/\Pl H tp (t.tip.map λ (j:Nat)=>V.int (j:Int))
noncomputable def qX (K:aaa):Sp:=λ args H Q _=>∃ (x y:V) (z:Addr) (net:Net) (held coming poured:List Int) (doors:List Bool),args=[x,y,.ref z]/\Is K H (dY net) x/\Is K H (CA held coming doors) y/\bD K H z (poured.map V.int)/\
 NetOk net/\StOk net held coming doors/\poured.length=net.vs.length/\∀ (v:V) H',aF H H'->ID K H' (kC net held coming poured doors) v->Q v H'
theorem nA {f fF fS fD:Addr}{fd fdF fdS fdD:FuncData} (F:Fun K "tick_behind" "tick_behind" (bK 13) f fd) (T:Txt mg) (G_filled:Callee P w K mg base "filled" ["spouts","state","poured"] 1 (o4 K) fF fdF)
  (G_settle:Callee P w K mg base "settle" ["vessel","has","sent"] 3 (o0 K) fS fdS) (G_doors_behind:Callee P w K mg base "doors_behind" ["vessels","doors","tipped"] 1 (rD K) fD fdD):FnOk P w K mg base iM 4 f fd ["net","state","poured"] (qX K):=by
 refine F.ok iR (λ vs H Q E h=>?_) (λ cdv A outer s H vs Q E hr h=>?_)
 ·obtain⟨x,y,z,net,held,coming,poured,doors,rfl,_⟩:=h;rfl
 ·obtain⟨x,y,z,net,held,coming,poured,doors,rfl,hx,hy,qz,nok,sok,lp,k⟩:=h
  have sc:=iR
  have hu:=EB hr
  refine⟨_,(aD (cN (pv 0) (bJ (K:=K) (n:=2) rfl rfl (aG (aH (i:=3) sc.nd rfl (Or.inl rfl)) (aG (aH (i:=4) sc.nd rfl (Or.inl rfl)) bF))))
   (aD (cN (aV (aA (bG aC) (aA (bG aC) (aA tL aC)))) (bJ (K:=K) (n:=3) rfl rfl (aG (aH (i:=5) sc.nd rfl (Or.inl rfl)) (aG (aH (i:=6) sc.nd rfl (Or.inl rfl)) (aG (aH (i:=7) sc.nd rfl (Or.inr rfl)) bF)))))
   (aD (cS PassesOwn.never rfl (A3 (K:=K) rfl rfl T.b_enumerate (aA (d5 G_filled hr (aA (pv 4) (aA (pv 1) (aA (pv 2) aC)))) aC)) (bJ (K:=K) (n:=2) rfl rfl (aG (aH (i:=8) sc.nd rfl (Or.inl rfl)) (aG (aH (i:=9) sc.nd rfl (Or.inl rfl)) bF))) (aD (cN (d5 G_settle hr (aA (aQ (aJ (K:=K) rfl) (pv 3) (pv 8) (λ _ _=>rfl)) (aA (pv 9) (aA (pv 7) aC)))) (bJ (K:=K) (n:=2) rfl rfl (aG (aH (i:=10) sc.nd rfl (Or.inl rfl)) (aG (aH (i:=11) sc.nd rfl (Or.inl rfl)) bF))))
   (aD (cV (eA (K:=K) rfl aas aau aav cD (pv 5) (aA (pv 10) aC)))
   (aK (cF (fQ (pv 11)) (aK (cV (eA (K:=K) rfl aas aau aav cD (pv 6) (aA (pv 8) aC)))) bL)))))
   (aD (jG (i:=12) sc.nd rfl rfl (λ _ _ h=>h) rfl (LcOk.mk (N':=["number","sent"]) (fr:=[none,some 7]) rfl ⟨rfl,trivial⟩ rfl rfl rfl rfl rfl ⟨⟨_,rfl,rfl,rfl,rfl⟩,trivial⟩) (cK rfl T.b_range (aA (aR (bA (K:=K) rfl) rfl T.b_len aar (aA (pv 3) aC)) aC)) (λ _ _ _=>(aH (i:=0) (show (["number","sent"]:List Str).Nodup by decide +kernel) rfl (Or.inl rfl) (Or.inr rfl))) (λ _ _ _=>d6) (λ _ _ _=>(oF hu (pv 1) (pv 0) aE ⟨rfl,rfl,rfl,rfl⟩)))
   (aD (aP (i:=13) sc.nd rfl (Or.inl rfl) (d5 G_doors_behind hr (aA (pv 3) (aA (aQ (aJ (K:=K) rfl) (pv 1) aE (λ _ _=>rfl)) (aA (pv 6) aC)))))
   (aK (bC (aV (aA (aV (aA (aZ (bO (K:=K) rfl) rfl T.b_tuple bR (aA (pv 5) aC)) (aA (aZ (bO (K:=K) rfl) rfl T.b_tuple bR (aA (pv 12) aC)) (aA (pv 13) aC)))) (aA (aZ (vQ (K:=K) rfl) rfl T.b_tuple bR (aA (pv 6) aC)) (aA (oF hu (pv 7) eQ aE ⟨rfl,rfl,rfl,rfl⟩) aC))))))))))),?_⟩
  obtain⟨ax,av,as,xs,ys,rfl,qx,qv,lv,qs,ls⟩:=fA hx
  obtain⟨ay,b1,b2,b3,rfl,qy,q1,q2,q3⟩:=vY hy
  have exl:xs.length=net.vs.length:=by rw[lv.length,aac]
  refine⟨_,rfl,ax,_,rfl,qx,rfl,_,_,rfl,_,_,rfl,rfl,?_⟩
  refine⟨Nat.zero_le _,λ hl hhl=>⟨Nat.zero_le _,λ tl htl=>λ sd hsd=>⟨(show 3<=sizeLine by decide),λ tp htp=>⟨tp,_,rfl,bD.of aB,rfl,_,_,rfl,_,_,rfl,_,_,rfl,rfl,?_⟩⟩⟩⟩
  have n1:hl≠tl:=aL (show upd H hl (.lst []) hl=_ from aB) htl
  have fh:H hl=none:=hhl
  have ft:H tl=none:=aF.free (aF.new hhl) htl
  have fs:H sd=none:=aF.free ((aF.new hhl).trans (aF.new htl)) hsd
  have n2:hl≠sd:=aL (by rw[aO n1];exact aB) hsd
  have n3:tl≠sd:=aL (show upd (upd H hl (.lst [])) tl (.lst []) tl=_ from aB) hsd
  have sm0:aF H (upd (upd (upd (upd H hl (.lst [])) tl (.lst [])) sd (.dK [])) tp (.tup [.ref hl,.ref tl,.ref sd])):=(((aF.new hhl).trans (aF.new htl)).trans (aF.new hsd)).trans (aF.new htp)
  have g1:upd (upd (upd (upd H hl (.lst [])) tl (.lst [])) sd (.dK [])) tp (.tup [.ref hl,.ref tl,.ref sd]) hl=some (.lst []):=aF.new htp _ _ (by rw[aO n2,aO n1];exact aB)
  have g2:upd (upd (upd (upd H hl (.lst [])) tl (.lst [])) sd (.dK [])) tp (.tup [.ref hl,.ref tl,.ref sd]) tl=some (.lst []):=aF.new htp _ _ (by rw[aO n3];exact aB)
  have g3:upd (upd (upd (upd H hl (.lst [])) tl (.lst [])) sd (.dK [])) tp (.tup [.ref hl,.ref tl,.ref sd]) sd=some (.dK []):=aF.new htp _ _ aB
  generalize upd (upd (upd (upd H hl (.lst [])) tl (.lst [])) sd (.dK [])) tp (.tup [.ref hl,.ref tl,.ref sd])=H0 at sm0 g1 g2 g3 ⊢
  refine⟨_,rfl,_,rfl,_,rfl,.ref as,.ref ay,z,net.sps,held,coming,poured,doors,net.vs.length,rfl,Is.tupOf (sm0.tup qs) (IsL.mono sm0.ts _ _ ls),Is.mono sm0.ts _ _ hy,sm0.tup qz,sok.h,sok.c,lp,sok.d,nok.hi,nok.sps,λ ha H1 sm1 fha hha=>?_⟩
  have hsl:(aS net held coming poured doors).length=net.vs.length:=by
   unfold aS;rw[fU,h9 sok.h sok.c lp]
  have g1':=sm1 _ _ g1
  have g2':=sm1 _ _ g2
  have g3':=sm1 _ _ g3
  have na1:hl≠ha:=aL g1 fha
  have na2:tl≠ha:=aL g2 fha
  have na3:sd≠ha:=aL g3 fha
  have fa:H ha=none:=sm0.free fha
  refine⟨false,ha,rfl,⟨_,bT.of hha⟩,BD (K:=K) (t:=false) (a:=ha) (xs:=(aS net held coming poured doors).map V.int)
   (λ i ac H'=>aF H H'/\H' ha=some (.lst ((aS net held coming poured doors).map V.int))/\H' hl=some (.lst ((dF (net.vs.take i) ((aS net held coming poured doors).take i)).map V.int))/\
    H' tl=some (.lst ((bS 0 (net.vs.take i) ((aS net held coming poured doors).take i)).map λ (j:Nat)=>V.int (j:Int)))/\iJ H' sd (cG (net.vs.take i) ((aS net held coming poured doors).take i))/\
    ∃ v8 v9 v10 v11,ac=[some (.ref ax),some (.ref ay),some (.ref z),some (.ref av),some (.ref as),some (.ref hl),some (.ref tl),some (.ref sd),v8,v9,v10,v11,none,none])
   (λ i ac H' p=>bT.of p.2.1) ⟨sm0.trans sm1,hha,by simpa [dF] using g1',by simpa [bS] using g2',⟨[],g3',by simp,λ k=>rfl⟩,none,none,none,none,rfl⟩ ?_ ?_⟩
  rotate_left
  ·rintro i x0 ac H2 Tt hx0 ⟨sm2,p1,p2,p3,p4,v8,v9,v10,v11,rfl⟩ hT
   rw[aah] at hx0
   obtain⟨hi,hhi,rfl⟩:=aaq.mp hx0
   have hil:i < net.vs.length:=by rw[<- hsl];exact (aad.mp hhi).1
   have hv:net.vs[i]? = some net.vs[i]:=by simp [hil]
   have vok:=nok.vs _ (abu hil)
   obtain⟨xv,hxv,ixv⟩:=lv.get (i:=i) (d:=jM net.vs[i]) (by rw[aah,hv];rfl)
   have smT:=aF.new (o:=HO.tup [.int (i:Int),.int hi]) hT
   refine⟨Tt,_,rfl,bD.of aB,rfl,_,_,rfl,_,_,rfl,rfl,?_⟩
   have sm3:aF H (upd H2 Tt (.tup [.int (i:Int),.int hi])):=sm2.trans smT
   obtain⟨kvs,d1,d2,d3⟩:=p4
   have hgl:=jH (net.vs.take i) ((aS net held coming poured doors).take i) λ v hv'=>nok.vs v (List.mem_of_mem_take hv')
   have htk:(net.vs.take i).length<=12:=by rw[aaj];have:=nok.hi;omega
   refine⟨_,rfl,_,rfl,.inr (.inl ⟨av,xs,i,_,rfl,rfl,sm3.tup qv,bZ hxv,_,rfl,_,rfl,xv,sd,hi,net.vs[i],_,_,_,rfl,Is.mono sm3.ts _ _ ixv,⟨kvs,smT _ _ d1,d2,d3⟩,by omega,vok,λ p H3 bt dg qp=>?_⟩)⟩
   refine⟨p,_,rfl,qp,rfl,_,_,rfl,_,_,rfl,rfl,?_⟩
   have e1:=bt hl _ n2 (smT _ _ p2)
   have e2:=bt tl _ n3 (smT _ _ p3)
   have e3:=bt ha _ (Ne.symm na3) (smT _ _ p1)
   have sm4:aF H H3:=λ b o e=>bt b o (aL e fs) (sm3 b o e)
   have stl:(dF (net.vs.take i) ((aS net held coming poured doors).take i)).length<=12:=by
    rw[hV _ _ (by rw[aaj,aaj,hsl])];exact htk
   have tpl:=jE (net.vs.take i) ((aS net held coming poured doors).take i) 0
   refine⟨_,rfl,.inl ⟨rfl,_,bT.of e1⟩,_,rfl,hl,_,_,rfl,rfl,e1,aY (by simp;omega),?_⟩
   have f1:upd H3 hl (.lst ((dF (net.vs.take i) ((aS net held coming poured doors).take i)).map V.int++[.int (fK net.vs[i] hi)])) tl=some (.lst ((bS 0 (net.vs.take i) ((aS net held coming poured doors).take i)).map λ (j:Nat)=>V.int (j:Int))):=by rw[aO (Ne.symm n1)];exact e2
   have s1:=iQ net.vs (aS net held coming poured doors) i _ _ hv hhi
   have s2:=kB net.vs (aS net held coming poured doors) i 0 _ _ hv hhi
   have s3:=kI net.vs (aS net held coming poured doors) i _ _ hv hhi
   have dgo:∀ {Hx:Hp},Hx sd=H3 sd->iJ Hx sd (cG (net.vs.take (i+1)) ((aS net held coming poured doors).take (i+1))):=λ {Hx} e=>by
    obtain⟨kv,a1,a2,a3⟩:=dg
    rw[s3]
    exact⟨kv,e.trans a1,a2,a3⟩
   refine⟨_,rfl,_,rfl,?_⟩
   cases ht:iP net.vs[i] hi with
   | false=>
    refine dP ?_
    rw[ht] at s2
    refine⟨sm4.put fh,by rw[aO (Ne.symm na1)];exact e3,by rw[aB,s1,aae];rfl,by rw[s2];simpa using f1,dgo (by rw[aO (Ne.symm n2)]),_,_,_,_,rfl⟩
   | true=>
    refine gF ?_
    rw[ht] at s2
    refine⟨_,rfl,.inl ⟨rfl,_,bT.of f1⟩,_,rfl,tl,_,_,rfl,rfl,f1,aY (by simp;omega),?_⟩
    refine⟨(sm4.put fh).put ft,by rw[aO (Ne.symm na2),aO (Ne.symm na1)];exact e3,by rw[aO n1,aB,s1,aae];rfl,?_,dgo (by rw[aO (Ne.symm n3),aO (Ne.symm n2)]),_,_,_,_,rfl⟩
    rw[aB,s2]
    simp
  ·rintro ac H2 ⟨sm2,p1,p2,p3,p4,v8,v9,v10,v11,rfl⟩
   rw[aac,hsl] at p2 p3 p4
   have ek:net.vs.take net.vs.length=net.vs:=aao
   have ek2:(aS net held coming poured doors).take net.vs.length=aS net held coming poured doors:=by rw[<- hsl,aao]
   rw[ek,ek2] at p2 p3 p4
   obtain⟨kvs,d1,d2,d3⟩:=p4
   refine⟨_,rfl,av,xs,rfl,.inr (sm2.tup qv),_,rfl,by omega,by have:=nok.hi;omega,?_⟩
   have hn:((xs.length:Nat):Int).toNat=net.vs.length:=by rw[exl];simp
   rw[hn]
   refine lN (n:=net.vs.length) (λ D i r ac H'=>H2 D=none/\aF H2 H'/\H' D=some (.lst r)/\r=((eB net.vs.length (cG net.vs (aS net held coming poured doors))).take i).map V.int/\∃ v,ac=[v,some (.ref sd)])
    (λ D hD=>⟨hD,aF.new hD,aB,by simp,none,rfl⟩) ?_ ?_
   rotate_left
   ·rintro D i r ac H' hi ⟨hD,sm,hDl,rfl,v,rfl⟩
    refine g9 ?_
    have hg:=vV.k (k:=lP (some (i:Int))) (sm _ _ d1)
    refine⟨_,rfl,sd,rfl,.inl ⟨kvs,.inl (sm _ _ d1)⟩,_,rfl,_,hg,hDl,aY (by simp [eB];have:=nok.hi;omega),hD,sm.put hD,aB,?_,_,rfl⟩
    have e:(eB net.vs.length (cG net.vs (aS net held coming poured doors)))[i]? = some (cY (some (i:Int)) (cG net.vs (aS net held coming poured doors))):=by
     unfold eB;simp [hi]
    rw[bI e,aae]
    show _++[(dM kvs (lP (some (i:Int)))).getD (.int 0)]=_
    rw[d3];rfl
   ·rintro D r ac H3 ⟨hD,sm,hDl,rfl,_⟩
    have ll:(eB net.vs.length (cG net.vs (aS net held coming poured doors))).length=net.vs.length:=by unfold eB;simp
    rw[List.take_of_length_le (Nat.le_of_eq ll)] at hDl
    have sm3:aF H H3:=sm2.trans sm
    refine⟨_,rfl,_,rfl,.inr (.inl ⟨ay,_,2,_,rfl,rfl,sm3.tup qy,rfl,_,rfl,.ref av,.ref b3,tl,net.vs,doors,bS 0 net.vs (aS net held coming poured doors),net.vs.length,rfl,Is.tupOf (sm3.tup qv) (IsL.mono sm3.ts _ _ lv),Is.tupOf (sm3.tup q3) (IsL.of_bools _),bT.of (sm _ _ p3),λ j hj=>by have:=nY _ _ _ _ hj;omega,λ v hv=>by rw[sok.d];exact nok.vs v hv,by rw[sok.d];exact nok.sp,λ dp H4 sm4 hdp=>?_⟩)⟩
    obtain⟨da,dxs,rfl,qd,ld⟩:=hdp.un
    have c1:=sm4 _ _ (sm _ _ p2)
    have c2:=sm4 _ _ hDl
    have c3:=sm4 _ _ (sm _ _ p3)
    have c4:=sm4 _ _ (sm _ _ d1)
    refine⟨_,rfl,hl,_,rfl,.inl ⟨bT.of c1,λ t1 ht1=>?_⟩⟩
    have m1:=aF.new (o:=HO.tup ((dF net.vs (aS net held coming poured doors)).map V.int)) ht1
    refine⟨_,rfl,D,_,rfl,.inl ⟨bT.of (m1 _ _ c2),λ t2 ht2=>?_⟩⟩
    have m2:=aF.new (o:=HO.tup ((eB net.vs.length (cG net.vs (aS net held coming poured doors))).map V.int)) ht2
    refine⟨_,rfl,(show 3<=sizeLine by decide),λ t3 ht3=>?_⟩
    have m3:=aF.new (o:=HO.tup [.ref t1,.ref t2,.ref da]) ht3
    refine⟨_,rfl,tl,_,rfl,bT.of (m3 _ _ (m2 _ _ (m1 _ _ c3))),λ t4 ob ht4 hob=>?_⟩
    have m4:=aF.new (o:=HO.frz ob (.tup ((bS 0 net.vs (aS net held coming poured doors)).map λ (j:Nat)=>V.int (j:Int)))) ht4
    have c4':=m4 _ _ (m3 _ _ (m2 _ _ (m1 _ _ c4)))
    have hg:=vV.k (k:=lP none) c4'
    refine⟨_,rfl,sd,rfl,.inl ⟨kvs,.inl c4'⟩,_,hg,(show 3<=sizeLine by decide),λ t5 ht5=>?_⟩
    have m5:aF _ _:=aF.new (o:=HO.tup [.ref t3,.ref t4,(dM kvs (lP none)).getD (.int 0)]) ht5
    have eg:(dM kvs (lP none)).getD (.int 0)=.int (cY none (cG net.vs (aS net held coming poured doors))):=d3 none
    rw[eg] at m5 ⊢
    have e1:((bS 0 net.vs (aS net held coming poured doors)).map λ (i:Nat)=>L2.D.int (i:Int))=((bS 0 net.vs (aS net held coming poured doors)).map λ (i:Nat)=>(i:Int)).map L2.D.int:=by rw[abz];rfl
    refine k _ _ ((((((sm3.trans sm4).trans m1).trans m2).trans m3).trans m4).trans m5) ⟨t5,.ref t3,t4,rfl,bD.of aB,?_,ob,m5 _ _ aB,hob⟩
    exact Is.mono m5.ts _ _ (Is.mono m4.ts _ _ (vZ (bD.of aB) (m3.tup (m2.tup (bD.of aB))) (m3.tup (bD.of aB)) (by
      have:=ld.bools;rw[this] at qd;exact m3.tup (m2.tup (m1.tup qd)))))
end
end Tw
namespace Tw
open PySem L2
section
variable {P:Program}{w:World}{K:aaa}{mg:Str->Option Value}{base:Heap}
noncomputable def GO (K:aaa) (H:Hp) (a:Addr) (xs:List V):Prop:=bD K H a xs\/bT K H a xs
theorem GO.same {H H':Hp}{a:Addr}{xs:List V} (h:GO K H a xs) (s:aF H H'):GO K H' a xs:=h.elim (λ h=>.inl (s.tup h)) λ h=>.inr (s.seq h)
theorem FW {H:Hp}{z:Addr}{xs:List V}{i:Int}{v:V}{Q:VK} (h:GO K H z xs) (e:BS xs i=some v) (k:Q v H):uX K (.ref z) (.int i) H Q:=h.elim (λ h=>.inr (.inl ⟨z,xs,i,v,rfl,rfl,h,e,k⟩)) λ h=>.inl ⟨z,xs,i,v,rfl,rfl,h,e,k⟩
noncomputable def mH (K:aaa):Sp:=λ args H Q _=>∃ (x y:V) (z:Addr) (net:Net) (held coming poured:List Int) (doors:List Bool),args=[x,y,.ref z]/\Is K H (dY net) x/\Is K H (CA held coming doors) y/\GO K H z (poured.map V.int)/\
 NetOk net/\StOk net held coming doors/\poured.length=net.vs.length/\∀ p H',aF H H'->H p=none->H' p=some (.lst ((aS net held coming poured doors).map V.int))->Q (.ref p) H'
theorem iU:FnScope ["net","state","poured","has","k"] ["net","state","poured"] (aM (bK 33)):=⟨rfl,rfl,rfl,by decide +kernel,rfl,by decide +kernel,by decide +kernel⟩
theorem oK {f:Addr}{fd:FuncData} (F:Fun K "_law_filled" "_law_filled" (bK 33) f fd) (T:Txt mg):FnOk P w K mg base iM 1 f fd ["net","state","poured"] (mH K):=by
 refine F.ok iU (λ vs H Q E h=>?_) (λ cdv A outer s H vs Q E hr h=>?_)
 ·obtain⟨x,y,z,net,held,coming,poured,doors,rfl,_⟩:=h;rfl
 ·obtain⟨x,y,z,net,held,coming,poured,doors,rfl,hx,hy,qz,nok,sok,hpl,k⟩:=h
  have sc:=iU
  refine⟨_,(aD (jG (i:=3) sc.nd rfl rfl (λ _ _ h=>h) rfl (LcOk.mk (N':=["k","poured","state"]) (fr:=[none,some 2,some 1]) rfl ⟨rfl,rfl,trivial⟩ rfl rfl rfl rfl rfl ⟨⟨_,rfl,rfl,rfl,rfl⟩,⟨_,rfl,rfl,rfl,rfl⟩,trivial⟩) (cK rfl T.b_range (aA (aR (bA (K:=K) rfl) rfl T.b_len aar (aA (aQ (aJ (K:=K) rfl) (pv 0) aE (λ _ _=>rfl)) aC)) aC)) (λ _ _ _=>(aH (i:=0) (show (["k","poured","state"]:List Str).Nodup by decide +kernel) rfl (Or.inl rfl) (Or.inr rfl))) (λ _ _ _=>d6) (λ _ _ _=>(aU cB (aU cB (aQ (aJ (K:=K) rfl) (aQ (aJ (K:=K) rfl) (pv 2) aE (λ _ _=>rfl)) (pv 0) (λ _ _=>rfl)) (aQ (aJ (K:=K) rfl) (aQ (aJ (K:=K) rfl) (pv 2) aE (λ _ _=>rfl)) (pv 0) (λ _ _=>rfl))) (aQ (aJ (K:=K) rfl) (pv 1) (pv 0) (λ _ _=>rfl)))))
   (aD (cS PassesOwn.never rfl (cK rfl T.b_range (aA (aR (bA (K:=K) rfl) rfl T.b_len aar (aA (aQ (aJ (K:=K) rfl) (pv 0) aE (λ _ _=>rfl)) aC)) aC)) (aH (i:=4) sc.nd rfl (Or.inl rfl)) (aK (cF (fQ (aQ (aJ (K:=K) rfl) (aQ (aJ (K:=K) rfl) (pv 1) aE (λ _ _=>rfl)) (pv 4) (λ _ _=>rfl))) (aK (cN (aU cB (aQ (aJ (K:=K) rfl) (pv 3) (aQ (aJ (K:=K) rfl) (aQ (aJ (K:=K) rfl) (aQ (aJ (K:=K) rfl) (pv 0) aE (λ _ _=>rfl)) (pv 4) (λ _ _=>rfl)) aE (λ _ _=>rfl)) (λ _ _=>rfl)) (aQ (aJ (K:=K) rfl) (aQ (aJ (K:=K) rfl) (aQ (aJ (K:=K) rfl) (pv 0) aE (λ _ _=>rfl)) (pv 4) (λ _ _=>rfl)) aE (λ _ _=>rfl))) (mO (pv 3) (aQ (aJ (K:=K) rfl) (aQ (aJ (K:=K) rfl) (aQ (aJ (K:=K) rfl) (pv 0) aE (λ _ _=>rfl)) (pv 4) (λ _ _=>rfl)) aE (λ _ _=>rfl)) fZ))) bL)))
   (aK (bC (pv 3))))),?_⟩
  obtain⟨a,b,c,xs,ys,rfl,q,q1,l1,q2,l2⟩:=fA hx
  obtain⟨ay,a1,a2,a3,rfl,qy,p1,p2,p3⟩:=vY hy
  have exl:xs.length=net.vs.length:=by rw[l1.length,aac]
  have eyl:ys.length=net.sps.length:=by rw[l2.length,aac]
  have n1:=nok.lo
  have n2:=nok.hi
  have n3:=nok.sp
  have la:=h9 sok.h sok.c hpl
  refine⟨_,rfl,.inr (.inl ⟨a,_,0,_,rfl,rfl,q,rfl,b,xs,rfl,.inr q1,_,rfl,by omega,by omega,?_⟩)⟩
  have hn:((xs.length:Nat):Int).toNat=net.vs.length:=by rw[exl];simp
  rw[hn]
  refine lN (n:=net.vs.length) (λ D i r ac H'=>H D=none/\aF H H'/\H' D=some (.lst r)/\r=((gG held coming poured).take i).map V.int/\∃ v,ac=[v,some (.ref z),some (.ref ay)])
   (λ D hD=>⟨hD,aF.new hD,aB,by simp,none,rfl⟩) ?_ ?_
  rotate_left
  ·rintro D i r ac H' hi ⟨hD,sm,hDl,rfl,v,rfl⟩
   refine g9 ?_
   have g1:held[i]? = some (held[i]'(by rw[sok.h];exact hi)):=by simp
   have g2:coming[i]? = some (coming[i]'(by rw[sok.c];exact hi)):=by simp
   have g3:poured[i]? = some (poured[i]'(by rw[hpl];exact hi)):=by simp
   have g4:=oZ g1 g2 g3
   have m1:∀ {l:List Int}{u:Int},l[i]? = some u->(l.map V.int)[i]? = some (.int u):=λ e=>by rw[aah,e];rfl
   refine⟨_,rfl,.inr (.inl ⟨ay,_,0,_,rfl,rfl,sm.tup qy,rfl,_,rfl,.inr (.inl ⟨a1,_,(i:Int),_,rfl,rfl,sm.tup p1,bZ (m1 g1),?_⟩)⟩)⟩
   refine⟨_,rfl,.inr (.inl ⟨ay,_,1,_,rfl,rfl,sm.tup qy,rfl,_,rfl,.inr (.inl ⟨a2,_,(i:Int),_,rfl,rfl,sm.tup p2,bZ (m1 g2),?_⟩)⟩)⟩
   refine⟨_,_,rfl,rfl,_,rfl,_,rfl,FW (qz.same sm) (bZ (m1 g3)) ⟨_,_,rfl,rfl,hDl,aY (by simp;omega),hD,sm.put hD,aB,?_,_,rfl⟩⟩
   rw[bI g4,aae];rfl
  rintro D r ac H1 ⟨hD,sm,hDl,rfl,_⟩
  rw[<- la,aao] at hDl
  refine⟨_,rfl,.inr (.inl ⟨a,_,1,_,rfl,rfl,sm.tup q,rfl,c,ys,rfl,.inr (sm.tup q2),_,rfl,by omega,by omega,?_⟩)⟩
  have hm:((ys.length:Nat):Int).toNat=net.sps.length:=by rw[eyl];simp
  rw[hm]
  refine dS (lo:=0) (n:=net.sps.length) (λ i ac H'=>aF H H'/\H' D=some (.lst ((eS (gG held coming poured) (net.sps.take i) (doors.take i)).map V.int))/\
   ∃ v4,ac=[some (.ref a),some (.ref ay),some (.ref z),some (.ref D),v4]) ⟨sm,by cases net.sps <;> exact hDl,none,rfl⟩ ?_ ?_
  ·rintro i ac H2 hi ⟨sm2,h2,v4,rfl⟩
   rw[Int.zero_add]
   have hsi:net.sps[i]? = some net.sps[i]:=by simp [hi]
   have hdi:doors[i]? = some (doors[i]'(by rw[sok.d];exact hi)):=by simp
   obtain⟨xv,hxv,ixv⟩:=l2.get (i:=i) (d:=pC net.sps[i]) (by rw[aah,hsi];rfl)
   obtain⟨sp,hsi',sa,rfl,qs⟩:=mF l2 hxv
   rw[hsi] at hsi'
   cases hsi'
   have snoc:=kJ net.sps doors i (gG held coming poured) _ _ hsi hdi
   have hs:=nok.sps net.sps[i] (abu hi)
   have hdm:(doors.map V.bl)[i]? = some (.bl (doors[i]'(by rw[sok.d];exact hi))):=by rw[aah,hdi];rfl
   refine⟨_,rfl,.inr (.inl ⟨ay,_,2,_,rfl,rfl,sm2.tup qy,rfl,_,rfl,.inr (.inl ⟨a3,_,(i:Int),_,rfl,rfl,sm2.tup p3,bZ hdm,_,rfl,?_⟩)⟩)⟩
   cases hdr:(doors[i]'(by rw[sok.d];exact hi)) with
   | false=>
    rw[hdr] at snoc
    refine dP ?_
    exact⟨sm2,by rw[snoc];exact h2,_,rfl⟩
   | true=>
    rw[hdr] at snoc
    refine gF ?_
    have hlen:(eS (gG held coming poured) (net.sps.take i) (doors.take i)).length=net.vs.length:=by rw[fU,la]
    have hlt:net.sps[i].1.toNat < (eS (gG held coming poured) (net.sps.take i) (doors.take i)).length:=by rw[hlen];omega
    have hg:((eS (gG held coming poured) (net.sps.take i) (doors.take i)).map V.int)[net.sps[i].1.toNat]? = some (.int ((eS (gG held coming poured) (net.sps.take i) (doors.take i)).getD net.sps[i].1.toNat 0)):=by
     rw[aah,abv];simp [hlt]
    refine⟨_,rfl,_,rfl,.inr (.inl ⟨a,_,1,_,rfl,rfl,sm2.tup q,rfl,_,rfl,.inr (.inl ⟨c,ys,(i:Int),_,rfl,rfl,sm2.tup q2,bZ hxv,.inr (.inl ⟨sa,_,0,_,rfl,rfl,sm2.tup qs,rfl,.inl ⟨D,_,_,_,rfl,rfl,bT.of h2,nR hs.1 hg,?_⟩⟩)⟩)⟩)⟩
    refine⟨_,rfl,.inr (.inl ⟨a,_,1,_,rfl,rfl,sm2.tup q,rfl,_,rfl,.inr (.inl ⟨c,ys,(i:Int),_,rfl,rfl,sm2.tup q2,bZ hxv,.inr (.inl ⟨sa,_,1,_,rfl,rfl,sm2.tup qs,rfl,_,_,rfl,rfl,?_⟩)⟩)⟩)⟩
    refine⟨_,rfl,_,rfl,.inr (.inl ⟨a,_,1,_,rfl,rfl,sm2.tup q,rfl,_,rfl,.inr (.inl ⟨c,ys,(i:Int),_,rfl,rfl,sm2.tup q2,bZ hxv,.inr (.inl ⟨sa,_,0,_,rfl,rfl,sm2.tup qs,rfl,D,_,_,net.sps[i].1.toNat,rfl,rfl,h2,nH hs.1 (by rw[aac,hlen];omega),?_⟩)⟩)⟩)⟩
    refine⟨sm2.put hD,?_,_,rfl⟩
    rw[aB,snoc,oW,if_pos rfl,List.map_set]
  ·rintro ac H2 ⟨sm2,h2,v4,rfl⟩
   rw[<- sok.d,aao,sok.d,aao] at h2
   exact⟨_,rfl,k D H2 sm2 hD h2⟩
end
end Tw
namespace L2
open PySem PySem.Spec PyProof.Rows
theorem BO:∀ (names:List (Str×NameKind)) (h:Heap) (acc:List (Str×Addr)) (x:Str) (c:Addr),(cellsFrom h.objs.size names acc).lookup x=some c->
  (h.objs.size<=c/\(x,NameKind.cell)∈names/\(pushCells h names).IsCell c none)\/acc.lookup x=some c
 | [],h,acc,x,c,e=>.inr e
 | (name,kind)::r,h,acc,x,c,e=>by
  unfold cellsFrom at e
  unfold pushCells
  cases hk:kind == NameKind.cell with
  | true=>
   rw[hk,if_pos rfl] at e
   rw[if_pos rfl]
   have hk':kind=.cell:=by simpa using hk
   have ih:=BO r (h.push { cls:=.type "cell",data:=.cell none }) ((name,h.objs.size)::acc) x c (by rw[abg];exact e)
   rw[abg] at ih
   rcases ih with ⟨a,b,d⟩ | ih
   ·exact .inl ⟨Nat.le_of_succ_le a,aay _ b,d⟩
   ·cases hx:x == name with
    | true=>
     simp only [List.lookup_cons,hx] at ih
     cases ih
     have e':x=name:=by simpa using hx
     subst e' hk'
     exact .inl ⟨Nat.le_refl _,abk,_,pushCells_keeps _ _ _ _ (aag _ rfl),rfl⟩
    | false=>
     simp only [List.lookup_cons,hx] at ih
     exact .inr ih
  | false=>
   rw[hk,if_neg aaf] at e
   rw[if_neg aaf]
   rcases BO r h acc x c e with ⟨a,b,d⟩ | ih
   ·exact .inl ⟨a,aay _ b,d⟩
   ·exact .inr ih
theorem sK:∀ (names:List (Str×NameKind)) (n m:Nat) (acc:List (Str×Addr)) (x:Str),m<=n->((x,NameKind.cell)∈names\/∃ c,m<=c/\acc.lookup x=some c)->∃ c,m<=c/\(cellsFrom n names acc).lookup x=some c
 | [],n,m,acc,x,_,h=>by
  rcases h with h | h
  ·simp at h
  ·exact h
 | (name,kind)::r,n,m,acc,x,hm,h=>by
  unfold cellsFrom
  cases hk:kind == NameKind.cell with
  | true=>
   rw[if_pos rfl]
   have hk':kind=.cell:=by simpa using hk
   refine sK r (n+1) m _ x (by omega) ?_
   cases hx:x == name with
   | true=>exact .inr ⟨n,hm,by simp only [List.lookup_cons,hx]⟩
   | false=>
    have ne:x≠name:=λ z=>by rw[z] at hx;simp at hx
    rcases h with h | ⟨c,h1,h2⟩
    ·rcases List.mem_cons.mp h with h | h
     ·exact absurd (by injection h) ne
     ·exact .inl h
    ·exact .inr ⟨c,h1,by simp only [List.lookup_cons,hx];exact h2⟩
  | false=>
   rw[if_neg aaf]
   refine sK r n m _ x hm ?_
   rcases h with h | h
   ·rcases List.mem_cons.mp h with h | h
    ·injection h with h1 h2
     rw[<- h2] at hk;simp at hk
    ·exact .inl h
   ·exact .inr h
theorem sM:∀ (names:List (Str×NameKind)) (n:Nat) (acc:List (Str×Addr)) (x:Str),(x,NameKind.cell)∉names->(cellsFrom n names acc).lookup x=acc.lookup x
 | [],_,_,_,_=>rfl
 | (name,kind)::r,n,acc,x,h=>by
  unfold cellsFrom
  have hr:(x,NameKind.cell)∉r:=λ z=>h (aay _ z)
  cases hk:kind == NameKind.cell with
  | true=>
   rw[if_pos rfl,sM r (n+1) _ x hr]
   have hk':kind=.cell:=by simpa using hk
   have hx:(x == name)=false:=by
    cases hx:x == name with
    | false=>rfl
    | true=>
     have e':x=name:=by simpa using hx
     subst e' hk'
     exact absurd abk h
   simp only [List.lookup_cons,hx]
  | false=>rw[if_neg aaf,sM r n _ x hr]
theorem vP:∀ (names:List (Str×NameKind)) (n:Nat) (acc:List (Str×Addr)),(∀ x y c,acc.lookup x=some c->acc.lookup y=some c->x=y)->(∀ x c,acc.lookup x=some c->c < n)->
  ∀ x y c,(cellsFrom n names acc).lookup x=some c->(cellsFrom n names acc).lookup y=some c->x=y
 | [],_,_,h,_=>h
 | (name,kind)::r,n,acc,h,hb=>by
  unfold cellsFrom
  split
  ·refine vP r (n+1) _ (λ x y c e1 e2=>?_) λ x c e=>?_
   ·cases hx:x == name <;> cases hy:y == name <;> simp only [List.lookup_cons,hx,hy] at e1 e2
    ·exact h x y c e1 e2
    ·cases e2;exact absurd (hb x _ e1) (abj _)
    ·cases e1;exact absurd (hb y _ e2) (abj _)
    ·have a:x=name:=by simpa using hx
     have b:y=name:=by simpa using hy
     rw[a,b]
   ·cases hx:x == name <;> simp only [List.lookup_cons,hx] at e
    ·exact Nat.lt_succ_of_lt (hb x c e)
    ·cases e;exact Nat.lt_succ_self _
  ·exact vP r n acc h hb
section
variable {M:Model}{A:Around}{E:Value->Shared->Prop}{s:Shared}
theorem pE {scope:Scope}{globals:Addr}{cl:List (Str×Addr)}{qual:Str}{func:Option Addr}{code:Value}{env:Env}{builtins:Addr}{Q:Env->Shared->Prop}
  (h:Q { scope,locals:=s.heap.objs.size,globals,cells:=cellsFrom (s.heap.objs.size+1) scope.names cl,qual,func,code:=env.code,frame:=env.frame,builtins:=env.builtins }
   { s with heap:=pushCells (s.heap.push { cls:=.type "dict",data:=.dict #[] }) scope.names }):wpAny M A (newFunctionEnv scope globals cl [] qual func code (some env) builtins) Q E s:=by
 simp only [newFunctionEnv,Option.isSome_some,if_true]
 refine wpAny_bind (wpAny_alloc ?_)
 refine wpAny_bind (wpAny_layCells _ (λ name kind cells=>by cases hkc:kind == NameKind.cell <;> simp [hkc]) _ _ _ _ ?_)
 rw[show ({ s with heap:=s.heap.push { cls:=.type "dict",data:=.dict #[] } }:Shared).heap.objs.size=s.heap.objs.size+1 from abg ..]
 rw[List.forIn_nil]
 exact wpAny_bind (wpAny_pure (wpAny_pure h))
end
structure LcOk2 (X:Cx) (scope:Scope) (cl:List (Str×Addr)) (N':List Str) (fr:List (Option Nat)):Prop where
 clos:closureFor scope X.env=pure cl
 cls:yM X.env cl
 kind:scope.kind=.function
 owns:(scope.names.all λ p=>p.2 != NameKind.cell || scope.names.lookup p.1 == some NameKind.cell)=true
 locs:(scope.names.all λ p=>p.2 != NameKind.local || scope.names.lookup p.1 == some NameKind.local)=true
 frees:(scope.names.all λ p=>p.2 != NameKind.free || (cl.lookup p.1).isSome)=true
 len:fr.length=N'.length
 fr:sS X scope N' fr 0
noncomputable def vO (X:Cx) (N':List Str) (scope:Scope) (cl:List (Str×Addr)) (fp:List Addr) (s:Shared) (H:Hp):Cx:=
 { X with N:=N',s₀:=s,H₀:=H,env:=compEnvC scope (cellsFrom (s.heap.objs.size+1) scope.names cl) s.heap.objs.size X.env,outer:=X.stack,ex:=fp,fn:=λ x=>scope.names.lookup x == some .cell,pn:=[] }
section
variable {X:Cx}
theorem LcOk2.cells {scope:Scope}{cl:List (Str×Addr)}{N':List Str}{fr:List (Option Nat)} (S:LcOk2 X scope cl N' fr) {s:Shared}{o:Obj}{x:Str}{c:Addr} (e:(cellsFrom (s.heap.objs.size+1) scope.names cl).lookup x=some c) :
  (s.heap.objs.size < c/\(x,NameKind.cell)∈scope.names/\(pushCells (s.heap.push o) scope.names).IsCell c none)\/X.env.cells.lookup x=some c:=by
 have:=BO scope.names (s.heap.push o) cl x c (by rw[abg];exact e)
 rw[abg] at this
 rcases this with ⟨a,b,d⟩ | h
 ·exact .inl ⟨a,b,d⟩
 ·exact .inr (S.cls.get x c h)
theorem LcOk2.invC {scope:Scope}{cl:List (Str×Addr)}{N':List Str}{fr:List (Option Nat)}{pins:List (Addr×Obj)}{σ:St}{H:Hp}{s:Shared}{o:Obj}{fp:List Addr}{m1:Str->Option Value}{tk:Nat}
  (S:LcOk2 X scope cl N' fr) (I:Inv X pins σ H s) (hf:∀ b∈fp,gP X pins H b) (hfo:∀ b∈fp,b < s.heap.objs.size)
  (hn:(pushCells (s.heap.push o) scope.names).Ns s.heap.objs.size m1):Inv (vO X N' scope cl fp s H) [] (uI fr σ) H { s with heap:=pushCells (s.heap.push o) scope.names,toks:=tk }:=by
 have hfree:=S.frees
 have hown:=S.owns
 rw[abl] at hfree hown
 have k:∀ b o',s.heap.get? b=some o'->(pushCells (s.heap.push o) scope.names).get? b=some o':=λ b o' e=>pushCells_keeps _ _ b o' (aab _ e)
 have fresh:H s.heap.objs.size=none:=I.hok.fresh (Nat.le_refl _)
 have clg:=S.cls.get
 have cg:=λ x c e=>S.cells (s:=s) (o:=o) (x:=x) (c:=c) e
 have clt:∀ x c,cl.lookup x=some c->c < s.heap.objs.size:=λ x c e=>by
  obtain⟨v,oc,hoc,hd⟩:=I.cell x c (clg x c e)
  exact aai hoc
 have notown:∀ x,scope.names.lookup x=some .free->(x,NameKind.cell)∉scope.names:=λ x e hm=>by
  have:=hown _ hm
  simp only [bne_self_eq_false,Bool.false_or,beq_iff_eq] at this
  rw[e] at this;cases this
 refine⟨⟨I.ok.mod,S.kind,I.ok.glob,I.ok.blt,Nat.le_refl _,vP scope.names _ cl (λ x y c e1 e2=>I.ok.inj x y c (clg x c e1) (clg y c e2)) (λ x c e=>Nat.lt_succ_of_lt (clt x c e)),λ x hx=>?_,λ x c e1 e2=>?_,I.ok.hd,I.ok.frames,.inl rfl,λ b hb=>⟨aat (hfo b hb),λ x c e=>?_⟩,
  I.bs,abp I.ok.bsz I.sz,λ b o e hb=>?_,λ b hb hz=>?_,I.stack,I.stkFree⟩,rfl,I.bare,Un.kept k,⟨m1,hn,λ i x v e1 e2 e3=>?_⟩,λ x c e=>?_,fresh,λ x c e=>?_,λ p hp=>absurd (show p∈([]:List (Addr×Obj)) from hp) (by simp),I.hok.kept k,?_⟩
 ·
  have hm:∃ k',(x,k')∈scope.names/\(k'=NameKind.free\/k'=NameKind.cell):=by
   have hx':(relabel scope X.env).names.lookup x=some .cell\/(relabel scope X.env).names.lookup x=some .free:=hx
   obtain⟨k',e,hk'⟩:∃ k',(relabel scope X.env).names.lookup x=some k'/\(k'=.cell\/k'=.free):=by
    rcases hx' with e | e
    ·exact⟨_,e,.inl rfl⟩
    ·exact⟨_,e,.inr rfl⟩
   have hmem:=PySem.mem_of_lookup e
   obtain⟨⟨n,kn⟩,hp,he⟩:=abf.mp hmem
   dsimp only at he
   split at he
   ·rename_i hc
    cases he
    have:kn=.free:=by
     simp only [Bool.and_eq_true,beq_iff_eq] at hc
     exact hc.1.1
    exact⟨kn,hp,.inl this⟩
   ·cases he
    rcases hk' with e' | e'
    ·exact⟨_,hp,.inr e'⟩
    ·exact⟨_,hp,.inl e'⟩
  obtain⟨k',hp,hk'⟩:=hm
  by_cases hc:(x,NameKind.cell)∈scope.names
  ·obtain⟨c,_,e⟩:=sK scope.names (s.heap.objs.size+1) 0 cl x (Nat.zero_le _) (.inl hc)
   exact⟨c,e⟩
  ·rcases hk' with rfl | rfl
   ·have:=hfree _ hp
    simp only [bne_self_eq_false,Bool.false_or] at this
    obtain⟨c,e⟩:=Option.isSome_iff_exists.mp this
    exact⟨c,by show (cellsFrom _ _ _).lookup x=_;rw[sM _ _ _ _ hc];exact e⟩
   ·exact absurd hp hc
 ·have e1':scope.names.lookup x=some .cell:=by simpa using (show (scope.names.lookup x == some NameKind.cell)=true from e1)
  obtain⟨c',hc',e'⟩:=sK scope.names (s.heap.objs.size+1) (s.heap.objs.size+1) cl x (Nat.le_refl _) (.inl (PySem.mem_of_lookup e1'))
  have e2':(cellsFrom (s.heap.objs.size+1) scope.names cl).lookup x=some c:=e2
  rw[e'] at e2'
  cases e2'
  exact Nat.le_of_succ_le hc'
 ·rcases cg x c e with ⟨a,_⟩ | e'
  ·exact Ne.symm (aat (Nat.lt_trans (hfo b hb) a))
  ·exact (hf b hb).2.2.2.2.1 x c e'
 ·rcases (hf b hb).2.2.2.1 with z | z
  ·exact I.ok.noex b o e z
  ·have:=aai e
   exact absurd (aal this (abp I.ok.bsz z)) (abj _)
 ·obtain⟨_,f1,f2,_⟩:=hf b hb
  rcases List.mem_cons.mp (I.stkSub b hz) with e | e
  ·exact f1 e
  ·exact f2 e
 ·
  unfold uI at e2
  rw[aah] at e2
  cases ef:fr[i]? with
  | none=>rw[ef] at e2;cases e2
  | some o=>
   rw[ef] at e2
   cases o with
   | none=>simp at e2
   | some j=>
    have e2':(σ[j]?).join=some v:=by simpa using e2
    obtain⟨x',h1',h2',h3',h4'⟩:=S.fr.get i j ef
    rw[Nat.zero_add] at h1'
    have ex:x'=x:=by
     have:N'[i]? = some x:=e1
     rw[h1'] at this
     exact abe this
    subst ex
    have e2'':σ[j]? = some (some v):=by
     cases q:σ[j]? with
     | none=>rw[q] at e2';cases e2'
     | some z=>rw[q] at e2';simp at e2';rw[e2']
    obtain⟨m,hm,hl⟩:=I.loc
    obtain⟨u,r,lk⟩:=hl j x' v h2' e2'' (.inr (.inl h4'))
    refine⟨u,r,?_⟩
    rcases lk with ⟨q,_⟩ | ⟨_,c,hc,z⟩
    ·rw[h4'] at q;cases q
    ·have hcl:∃ c',cl.lookup x'=some c':=by
      have:=hfree _ (PySem.mem_of_lookup h3')
      simp only [bne_self_eq_false,Bool.false_or] at this
      exact Option.isSome_iff_exists.mp this
     obtain⟨c',hc'⟩:=hcl
     have e':=clg x' c' hc'
     rw[hc] at e'
     cases e'
     obtain⟨oc,hoc,hd⟩:=z
     refine .inr ⟨.inl ?_,c,?_,oc,k c oc hoc,hd⟩
     ·exact eI I.ok.kind h3' h4'
     ·show (cellsFrom _ _ _).lookup x'=_
      rw[sM _ _ _ _ (notown x' h3')];exact hc'
 ·rcases cg x c e with ⟨_,_,z⟩ | e'
  ·exact⟨_,z⟩
  ·obtain⟨v,oc,hoc,hd⟩:=I.cell x c e'
   exact⟨v,oc,k c oc hoc,hd⟩
 ·rcases cg x c e with ⟨a,_⟩ | e'
  ·exact I.hok.fresh (aca a)
  ·exact I.freeC x c e'
 ·show (uI fr σ).length=N'.length
  unfold uI
  rw[aac,S.len]
theorem Inv.outD {scope:Scope}{cl:List (Str×Addr)}{N':List Str}{pins pins':List (Addr×Obj)}{σ ac:St}{H H':Hp}{s s':Shared}{fp:List Addr} (I:Inv X pins σ H s) (J:Inv (vO X N' scope cl fp s H) pins' ac H' s')
  (hf:∀ b∈fp,gP X pins H b):Inv X pins σ H' s':=
 I.call' (ch:=fp) J.os J.base J.hok J.bare λ b hb=>by
  obtain⟨_,f1,_,f3,f4,f5⟩:=hf b hb
  exact⟨f3,f1,f4,f5⟩
theorem xQ {elt tg iter:Expr}{ifs:List Expr}{scope:Scope}{pos:Pos}{N':List Str}{fr:List (Option Nat)}{cl:List (Str×Addr)}{g:TG}{tc:TT}{te:TE}
  {pins:List (Addr×Obj)}{σ:St}{H:Hp}{s:Shared}{J:It}{fp:List Addr}{it:Addr}{tn:Nat->Heap->Prop}{Q:Addr->Hp->Prop}{RR:Value->Addr->Result->Shared->Prop}{E:Value->Shared->Prop}
  (hx:∀ e s,¬ X.xe e s) (hc:X.calm=true) (S:LcOk2 X scope cl N' fr)
  (hg:∀ fp s H,PG (vO X N' scope cl fp s H) tg g) (ht:∀ fp s H,GE (vO X N' scope cl fp s H) ifs tc) (he:∀ fp s H,PE (vO X N' scope cl fp s H) elt te)
  (I:Inv X pins σ H s) (T:Turn X.prog X.w X.K tg J fp it tn) (st:tn 0 s.heap) (hf:∀ b∈fp,gP X pins H b) (h:j3 J g tc te fr σ H Q)
  (hRR:∀ D C H' s' m',Inv X pins σ H' s'->Q D H'->s'.heap.Ns C m'->gP X pins H' C->RR (.ref D) C (.ok .next) s') :
  wpAny (model X.prog X.w) X.A (newList []) (λ acc bv=>wpAny (model X.prog X.w) X.A (newFunctionEnv scope X.env.globals cl [] X.env.qual none .none (some X.env)) (λ cenv cr=>
   codeAny (model X.prog X.w) X.A (.compStart (.ListComp elt [⟨tg,iter,ifs,0⟩] scope pos) 0 (.ref it) acc { cenv with scope:=relabel scope X.env }) (RR acc cenv.locals) cr) E bv) E s:=by
 refine wpAny_newObj_type (pE ?_)
 dsimp only
 have fresh:H s.heap.objs.size=none:=I.hok.fresh (Nat.le_refl _)
 have I3:Inv X pins σ (upd H s.heap.objs.size (.lst [])) { s with heap:=s.heap.push { cls:=.type "list",data:=.seq ([]:List Value).toArray },toks:=s.toks }:=I.lnew (ys:=[]) (its:=[]) .nil (Nat.zero_le _)
 have hf3:∀ b∈fp,gP X pins (upd H s.heap.objs.size (.lst [])) b:=λ b hb=>by
  obtain⟨o,ho,_⟩:=T.obj _ _ st b hb
  exact⟨by rw[aO (aat (aai ho))];exact (hf b hb).1,(hf b hb).2⟩
 generalize hs3:({ s with heap:=s.heap.push { cls:=.type "list",data:=.seq ([]:List Value).toArray },toks:=s.toks }:Shared)=s3 at I3
 have e3:s3.heap=s.heap.push { cls:=.type "list",dict:=none,data:=.seq ([]:List Value).toArray }:=by rw[<- hs3]
 have e3s:({ s with heap:=s.heap.push { cls:=.type "list",dict:=none,data:=.seq ([]:List Value).toArray } }:Shared)=s3:=hs3
 have hsz3:s3.heap.objs.size=s.heap.objs.size+1:=by rw[e3,abg]
 have hfo:∀ b∈fp,b < s3.heap.objs.size:=λ b hb=>by
  obtain⟨o,ho,_⟩:=T.obj _ _ st b hb
  rw[hsz3]
  exact Nat.lt_succ_of_lt (aai ho)
 rw[<- e3]
 generalize hh1:pushCells (s3.heap.push { cls:=.type "dict",data:=.dict #[] }) scope.names=h₁
 have bz:(pushCells (s3.heap.push { cls:=.type "dict",data:=.dict #[] }) scope.names).Ns s3.heap.objs.size (λ _=>none):=(Heap.Ns.new s3.heap (.type "dict")).keeps (pushCells_keeps _ _)
 have old3:∀ b o,s3.heap.get? b=some o->h₁.get? b=some o:=λ b o e=>by rw[<- hh1];exact pushCells_keeps _ _ b o (aab _ e)
 have old:∀ b o,s.heap.get? b=some o->s3.heap.get? b=some o:=λ b o e=>by rw[e3];exact aab _ e
 have I4:=S.invC (tk:=s3.toks) I3 hf3 hfo bz
 rw[hh1] at I4
 obtain⟨W,⟨m0,w0⟩,turn⟩:=h s.heap.objs.size fresh
 have stat:∀ {H':Hp},(∀ b∈fp,H' b=none)->∀ b∈fp,gP (vO X N' scope cl fp s3 (upd H s.heap.objs.size (.lst []))) [] H' b:=λ hn b hb=>by
  refine⟨hn b hb,aat (hfo b hb),?_,.inl hb,λ x c e=>?_,λ p hp=>absurd (show p∈([]:List (Addr×Obj)) from hp) (by simp)⟩
  ·intro hz
   obtain⟨_,f1,f2,_⟩:=hf b hb
   rcases List.mem_cons.mp (I.stkSub b hz) with e | e
   ·exact f1 e
   ·exact f2 e
  ·rcases S.cells (s:=s3) (o:={ cls:=.type "dict",data:=.dict #[] }) e with ⟨a,_⟩ | e'
   ·exact Ne.symm (aat (Nat.lt_trans (hfo b hb) a))
   ·exact (hf b hb).2.2.2.2.1 x c e'
 have loop:∀ s4:Shared,s4={ s3 with heap:=h₁,toks:=s3.toks }->
   codeAny (model X.prog X.w) X.A (.compLoop (.ListComp elt [⟨tg,iter,ifs,0⟩] scope pos) 0 (.ref it) (.ref s.heap.objs.size) (compEnvC scope (cellsFrom (s3.heap.objs.size+1) scope.names cl) s3.heap.objs.size X.env)) (RR (.ref s.heap.objs.size) s3.heap.objs.size) s4:=by
  intro s4 hs4
  refine lW (λ n s'=>∃ i ys ac H',Inv (vO X N' scope cl fp s3 (upd H s.heap.objs.size (.lst []))) [] ac H' s'/\tn i s'.heap/\(∀ b∈fp,H' b=none)/\W i n ys ac H') ?_ m0
   ⟨0,[],uI fr σ,_,by rw[hs4];exact I4,by rw[hs4];exact T.keep _ _ _ st λ b _ o e=>old3 b o (old b o e),λ b hb=>(hf3 b hb).1,w0⟩
  rintro n s5 ⟨i,ys,ci,H5,I5,st5,fr5,w5⟩
  rcases turn i n ys ci H5 w5 with ⟨stop,qn⟩ | ⟨go,N,hN,step⟩
  ·refine cQ (T.done (vO X N' scope cl fp s3 (upd H s.heap.objs.size (.lst []))) rfl rfl rfl hc i [] s5 ci H5 _ I5 (stat fr5) st5 stop) λ r s6 ⟨hr,I6⟩=>?_
   subst hr
   obtain⟨m',hm',_⟩:=I6.loc
   exact hRR _ _ H5 s6 m' (I3.outD I6 hf3) qn hm' (I3.fpOk (Nat.le_refl _) I6.free)
  ·refine cQ (T.item (vO X N' scope cl fp s3 (upd H s.heap.objs.size (.lst []))) rfl rfl rfl hc i [] s5 ci H5 _ I5 (stat fr5) st5 go) λ r s6 ⟨u,hr,h6⟩=>?_
   subst hr
   refine cQ h6 λ _ s7 ⟨x,H7,I7,r7,y7,st7,fr7⟩=>?_
   have I7':=I7.pinned (stat fr7) (T.obj _ _ st7)
   refine wpAny_mono (hg fp s3 _ _ s7 ci H7 x u _ I7' r7 (step x H7 y7)) (λ _ s8 ⟨bu,H8,I8,q8⟩=>?_) λ e s' z=>(hx e s' z).elim
   refine wpAny_mono (ht fp s3 _ _ s8 bu H8 _ I8 q8) (λ ok s9 ⟨H9,I9,q9⟩=>?_) λ e s' z=>(hx e s' z).elim
   have again:∀ {s10:Shared}{H10:Hp}{ys':List V},Inv (vO X N' scope cl fp s3 (upd H s.heap.objs.size (.lst []))) ([]++mM fp s7.heap) bu H10 s10->N ys' bu H10->
     ∃ m,m < n/\∃ i ys ac H',Inv (vO X N' scope cl fp s3 (upd H s.heap.objs.size (.lst []))) [] ac H' s10/\tn i s10.heap/\(∀ b∈fp,H' b=none)/\W i m ys ac H':=λ {s10 H10 ys'} I10 n10=>by
    obtain⟨m',hm,w10⟩:=hN ys' bu H10 n10
    refine⟨m',hm,i+1,ys',bu,H10,I10.unpinned,T.keep _ _ _ st7 λ b hb o e=>(I10.pin (b,o) (aax _ (aax _ (fB hb e)))).1,λ b hb=>?_,w10⟩
    obtain⟨o,e,d⟩:=T.obj _ _ st7 b hb
    exact (I10.pin (b,o) (aax _ (aax _ (fB hb e)))).2.1
   cases ok with
   | false=>
    rw[if_neg aaf] at q9 ⊢
    exact again I9 q9
   | true=>
    rw[if_pos rfl] at q9 ⊢
    refine wpAny_mono (he fp s3 _ _ s9 bu H9 _ I9 q9) (λ y s10 ⟨yv,H10,I10,r10,hD,hlen,q10⟩=>?_) λ e s' z=>(hx e s' z).elim
    refine wpAny_mono (cD (X:=vO X N' scope cl fp s3 (upd H s.heap.objs.size (.lst []))) _ s10 bu H10 (.ref s.heap.objs.size) [yv] (.ref s.heap.objs.size) [y] (λ _ H11=>H11=upd H10 s.heap.objs.size (.lst (ys++[yv]))) I10 rfl (.cons r10 .nil)
     ⟨_,ys,yv,rfl,rfl,hD,hlen,rfl⟩) (λ _ s11 ⟨_,H11,I11,_,e11⟩=>?_) λ e s' z=>(hx e s' z).elim
    subst e11
    exact again I11 q10
 exact codeAny_compStart_list (loop _ (by rw[<- e3s])) (T.self X.A 0 _ _ _ (T.keep _ _ _ st λ b _ o e=>old3 b o (old b o e)) (loop _ (by rw[<- e3s])))
theorem uZ {i:Nat}{y:Str}{py:Pos}{spos:Pos}{elt tg iter:Expr}{ifs:List Expr}{scope:Scope}{pos:Pos}{N':List Str}{fr:List (Option Nat)}{cl:List (Str×Addr)}{wi:TI}{g:TG}{tc:TT}{te:TE}
  (hN:X.N.Nodup) (hy:X.N[i]? = some y) (hk:X.env.scope.names.lookup y=some .local)
  (hx:∀ e s,¬ X.xe e s) (hc:X.calm=true) (S:LcOk2 X scope cl N' fr) (hi:PI X tg iter wi)
  (hg:∀ fp s H,PG (vO X N' scope cl fp s H) tg g) (ht:∀ fp s H,GE (vO X N' scope cl fp s H) ifs tc) (he:∀ fp s H,PE (vO X N' scope cl fp s H) elt te)
  (hsw:swapsWith (.ListComp elt [⟨tg,iter,ifs,0⟩] scope pos) (some (.Name y py)) spos.line X.env=pure true:=by rfl)
  (hs:∀ x,foldedSetIterable iter X.env x=pure x:=by intro _;rfl):PS X (.Assign [.Name y py] (.ListComp elt [⟨tg,iter,ifs,0⟩] scope pos) spos) (jN (tLC wi fr g tc te) (gE i)):=by
 intro pins s σ H D I h
 have hloc:=S.locs
 rw[abl] at hloc
 rw[exec_Assign_Name_used _ _ _ _ hsw]
 refine wpAny_bind (wpAny_standAt (wpAny_bind ?_))
 show wpAny _ X.A (do let _ <- comprehension (.ListComp elt [⟨tg,iter,ifs,0⟩] scope pos) scope X.env _ (newList []) false (eval iter X.env) (some (assign (.Name y py) X.env))) _ _ s
 refine wpAny_bind (wpAny_mono (wpAny_comprehension_free (use:=some (assign (.Name y py) X.env)) (Q:=λ _ s'=>SP X pins D .next s') rfl hs S.clos S.kind (λ x hx' hl=>by have:=hloc x hx';rw[hl] at this;simpa using this)
  (cQ (hi pins s σ H _ I h) λ v s1 h1=>cQ h1 λ itv s2 h2=>?_)) (λ _ s' hq=>wpAny_pure (wpAny_pure hq)) λ _ _ e=>e)
 obtain⟨it,fp,tn,J,H2,e,I2,T,st2,f2,rest⟩:=h2
 subst e
 refine xQ (RR:=λ acc C=>compPost (model X.prog X.w) X.A X.xe (some (assign (.Name y py) X.env)) (λ _ s'=>SP X pins D .next s') acc C) hx hc S hg ht he I2 T st2 f2 rest ?_
 intro Da C H' s' m' I' q hn f
 show wpAny _ X.A (assign (.Name y py) X.env (.ref Da)) _ _ _
 refine wpAny_assign_Name (mE I' hN hy (.inl hk) (v:=.ref Da) rfl (λ s'' I'' hch=>?_) (.inr hk))
 obtain⟨a,hsb,ha⟩:=hch
 have haC:a≠C:=by
  rcases ha with e | e
  ·rw[e];exact Ne.symm f.2.1
  ·exact f.2.2.2.2.1 _ _ e
 exact⟨m',hn.sameBut hsb (Ne.symm haC),λ h' hs'=>⟨_,H',I''.letgo f hs',q⟩⟩
end
end L2
namespace Tw
open PySem L2
noncomputable def oY (k:Option Int) (gs:List (Option Int×Int)):List Int:=(gs.filter λ g=>decide (g.1=k)).map (·.2)
theorem oX (k:Option Int):∀ gs:List (Option Int×Int),(oY k gs).sum=cY k gs
 | []=>rfl
 | g::r=>by
  have ih:=oX k r
  unfold oY at ih ⊢
  unfold cY
  by_cases h:g.1=k
  ·simp [h,<- ih]
  ·simp [h,<- ih]
theorem jK (k:Option Int) (gs:List (Option Int×Int)) (g:Option Int×Int):oY k (gs++[g])=oY k gs++(if g.1=k then [g.2] else []):=by
 unfold oY
 rw[List.filter_append,aae]
 by_cases h:g.1=k <;> simp [h]
theorem uG (k:Option Int) (gs:List (Option Int×Int)):(oY k gs).length<=gs.length:=by
 unfold oY;rw[aac];exact List.length_filter_le _ _
section
variable {P:Program}{w:World}{K:aaa}{mg:Str->Option Value}{base:Heap}
theorem CD {wd:Str} (h:wd = "open" \/ wd = "shut" \/ wd = "turn"):∃ j:Nat,j < 3/\(∀ z,[V.str "turn",V.str "open",V.str "shut"][j]? = some z->yN z (.str wd)=true)/\(∀ i z,i < j->[V.str "turn",V.str "open",V.str "shut"][i]? = some z->yN z (.str wd)=false)/\
  ∀ old:Bool,[V.bl (!old),V.bl true,V.bl false][j]? = some (.bl (if wd = "open" then true else if wd = "turn" then !old else false)):=by
 rcases h with rfl | rfl | rfl
 ·refine⟨1,by decide,λ z hz=>by cases hz;rfl,λ i z hi hz=>?_,λ old=>rfl⟩
  have:i=0:=by omega
  subst this;cases hz;rfl
 ·refine⟨2,by decide,λ z hz=>by cases hz;rfl,λ i z hi hz=>?_,λ old=>rfl⟩
  rcases (show i=0\/i=1 by omega) with rfl | rfl <;> cases hz <;> rfl
 ·exact⟨0,by decide,λ z hz=>by cases hz;rfl,λ i z hi hz=>absurd hi (Nat.not_lt_zero _),λ old=>rfl⟩
theorem IsL.append {H:Hp}:∀ {ds es:List L2.D}{xs ys:List V},L2.IsL K H ds xs->L2.IsL K H es ys->L2.IsL K H (ds++es) (xs++ys)
 | [],es,xs,ys,h1,h2=>by rw[h1.un0];exact h2
 | d::ds,es,xs,ys,h1,h2=>by
  obtain⟨x,r,rfl,hx,hr⟩:=h1.un
  exact .cons hx (IsL.append hr h2)
theorem tZ {H1 H2:Hp}{gl gq:Addr}{gs:List (Option Int×Int)}{gxs:List V} (sm:aF H1 H2) (fg:H1 gl=none) (hg:H2 gl=some (.lst gxs)) (ig:L2.IsL K H2 (gs.map outD) gxs) (hq:H2 gq=none) (t:Option Int) (n:Int) :
  aF H1 (upd (upd H2 gq (.tup [fR t,.int n])) gl (.lst (gxs++[.ref gq])))/\upd (upd H2 gq (.tup [fR t,.int n])) gl (.lst (gxs++[.ref gq])) gl=some (.lst (gxs++[.ref gq]))/\
  L2.IsL K (upd (upd H2 gq (.tup [fR t,.int n])) gl (.lst (gxs++[.ref gq]))) ((gs++[(t,n)]).map outD) (gxs++[.ref gq])/\∀ p o,p≠gl->H2 p=some o->upd (upd H2 gq (.tup [fR t,.int n])) gl (.lst (gxs++[.ref gq])) p=some o:=by
 have nq:gl≠gq:=aL hg hq
 have mt:kR (upd H2 gq (.tup [fR t,.int n]) gl):=by rw[aO nq,hg];exact trivial
 refine⟨λ b o e=>by rw[aO (aL e fg)];exact aF.new hq b o (sm b o e),aB,?_,λ p o hp e=>by rw[aO hp];exact aF.new hq p o e⟩
 rw[aae]
 exact L2.IsL.snoc (Is.tupOf (ds:=[uN t,.int n]) (bV.put (bV.refl _) (.inr mt) _ _ (bD.of aB)) (.cons (Is.tgOf _) (.cons (Is.i _) .nil))) (L2.IsL.mono (bV.put (aF.new hq).ts (.inr mt)) _ _ ig)
noncomputable def qY (K:aaa):Sp:=λ args H Q _=>∃ (x y:V) (z:Addr) (net:Net) (held coming poured:List Int) (doors:List Bool),args=[x,y,.ref z,.non]/\Is K H (dY net) x/\Is K H (CA held coming doors) y/\GO K H z (poured.map V.int)/\
 NetOk net/\StOk net held coming doors/\poured.length=net.vs.length/\∀ (l:Addr) (p1 p2:V) H',aF H H'->H' l=some (.lst [p1,p2,.int (kC net held coming poured doors).ground])->
  Is K H' (CA (kC net held coming poured doors).held (kC net held coming poured doors).coming (kC net held coming poured doors).doors) p1->
  Is K H' (.tup ((kC net held coming poured doors).tip.map λ (i:Nat)=>D.int (i:Int))) p2->Q (.ref l) H'
theorem lC:FnScope ["net","state","poured","fast","has","goes","tipped","stays","number","size","brim","outs","holds","spill","acts","here","whole","doors","word","spout","later","ground"] ["net","state","poured","fast"] (aM (bK 34)):=⟨rfl,rfl,rfl,by decide +kernel,rfl,by decide +kernel,by decide +kernel⟩
theorem rV {f fF:Addr}{fd fdF:FuncData} (F:Fun K "_law_tick" "_law_tick" (bK 34) f fd) (T:Txt mg) (G__law_filled:Callee P w K mg base "_law_filled" ["net","state","poured"] 1 (mH K) fF fdF):FnOk P w K mg base iM 2 f fd ["net","state","poured","fast"] (qY K):=by
 refine F.ok lC (λ vs H Q E h=>?_) (λ cdv A outer s H vs Q E hr h=>?_)
 ·obtain⟨x,y,z,net,held,coming,poured,doors,rfl,_⟩:=h;rfl
 ·obtain⟨x,y,z,net,held,coming,poured,doors,rfl,hx,hy,qz,nok,sok,hpl,k⟩:=h
  have sc:=lC
  refine⟨_,(aD (aP (i:=4) sc.nd rfl (Or.inl rfl) (d5 G__law_filled hr (aA (pv 0) (aA (pv 1) (aA (pv 2) aC)))))
   (aD (aP (i:=5) sc.nd rfl (Or.inr rfl) (bG aC))
   (aD (aP (i:=6) sc.nd rfl (Or.inl rfl) (bG aC))
   (aD (aP (i:=7) sc.nd rfl (Or.inl rfl) (bG aC))
   (aD (cS PassesOwn.never rfl (cK rfl T.b_range (aA (aR (bA (K:=K) rfl) rfl T.b_len aar (aA (aQ (aJ (K:=K) rfl) (pv 0) aE (λ _ _=>rfl)) aC)) aC)) (aH (i:=8) sc.nd rfl (Or.inl rfl)) (aD (cN (aQ (aJ (K:=K) rfl) (aQ (aJ (K:=K) rfl) (pv 0) aE (λ _ _=>rfl)) (pv 8) (λ _ _=>rfl)) (bJ (K:=K) (n:=6) rfl rfl (aG (aH (i:=9) sc.nd rfl (Or.inl rfl)) (aG (aH (i:=10) sc.nd rfl (Or.inl rfl)) (aG (aH (i:=11) sc.nd rfl (Or.inl rfl)) (aG (aH (i:=12) sc.nd rfl (Or.inl rfl)) (aG (aH (i:=13) sc.nd rfl (Or.inl rfl)) (aG (aH (i:=14) sc.nd rfl (Or.inl rfl)) bF))))))))
   (aD (aP (i:=15) sc.nd rfl (Or.inr rfl) (aR (mT rfl) rfl T.b_min PyProof.Rows.boot_min (aA (aQ (aJ (K:=K) rfl) (pv 4) (pv 8) (λ _ _=>rfl)) (aA (pv 10) aC))))
   (aD (cV (eA (K:=K) rfl aas aau aav cD (pv 5) (aA (aV (aA (pv 13) (aA (aU eY (aQ (aJ (K:=K) rfl) (pv 4) (pv 8) (λ _ _=>rfl)) (pv 15)) aC))) aC)))
   (aD (cF (PW.pt (uY (bB A9 (pv 15) (pv 9) (bH _)) (rM (bB jX (pv 8) (pv 3) (bH _))))) (aD (aP (i:=16) sc.nd rfl (Or.inr rfl) (aR (gZ (K:=K) rfl rfl) rfl T.b_sum PyProof.Rows.boot_sum (aA (gL (λ _ _ h=>h) rfl (LcOk.mk (N':=["target","parts"]) (fr:=[none,none]) rfl trivial rfl rfl rfl rfl rfl trivial) (cW (K:=K) rfl (pv 11)) (λ _ _ _=>(bJ (K:=K) (n:=2) rfl rfl (aG (aH (i:=0) (show (["target","parts"]:List Str).Nodup by decide +kernel) rfl (Or.inl rfl) (Or.inr rfl)) (aG (aH (i:=1) (show (["target","parts"]:List Str).Nodup by decide +kernel) rfl (Or.inl rfl) (Or.inr rfl)) bF)))) (λ _ _ _=>d6) (λ _ _ _=>(pv 1))) aC)))
   (aD (aP (i:=5) sc.nd rfl (Or.inr rfl) (aU kG (pv 5) (gL (λ _ _ h=>h) rfl (LcOk.mk (N':=["target","parts","here","whole"]) (fr:=[none,none,some 15,some 16]) rfl ⟨rfl,rfl,trivial⟩ rfl rfl rfl rfl rfl ⟨⟨_,rfl,rfl,rfl,rfl⟩,⟨_,rfl,rfl,rfl,rfl⟩,trivial⟩) (cW (K:=K) rfl (pv 11)) (λ _ _ _=>(bJ (K:=K) (n:=2) rfl rfl (aG (aH (i:=0) (show (["target","parts","here","whole"]:List Str).Nodup by decide +kernel) rfl (Or.inl rfl) (Or.inr rfl)) (aG (aH (i:=1) (show (["target","parts","here","whole"]:List Str).Nodup by decide +kernel) rfl (Or.inl rfl) (Or.inr rfl)) bF)))) (λ _ _ _=>d6) (λ _ _ _=>(aV (aA (pv 0) (aA (aU iB (aU gM (pv 2) (pv 3)) (pv 1)) aC)))))))
   (aD (aP (i:=15) sc.nd rfl (Or.inr rfl) (aU iC (pv 15) (pv 16)))
   (aD (cV (eA (K:=K) rfl aas aau aav cD (pv 6) (aA (pv 8) aC)))
   (aK (cF (kF (fQ (pv 12))) (aD (cV (eA (K:=K) rfl aas aau aav cD (pv 5) (aA (aV (aA eQ (aA (pv 15) aC))) aC)))
   (aK (aP (i:=15) sc.nd rfl (Or.inr rfl) aE))) bL)))))) bL)
   (aK (cV (eA (K:=K) rfl aas aau aav cD (pv 7) (aA (pv 15) aC)))))))))
   (aD (aP (i:=17) sc.nd rfl (Or.inl rfl) (aZ (mU (K:=K) rfl) rfl T.b_list nN (aA (aQ (aJ (K:=K) rfl) (pv 1) aE (λ _ _=>rfl)) aC)))
   (aD (cS PassesOwn.never rfl (g0 (K:=K) rfl (pv 6)) (aH (i:=8) sc.nd rfl (Or.inl rfl)) (aK (cS PassesOwn.never rfl (cW (K:=K) rfl (aQ (aJ (K:=K) rfl) (aQ (aJ (K:=K) rfl) (aQ (aJ (K:=K) rfl) (pv 0) aE (λ _ _=>rfl)) (pv 8) (λ _ _=>rfl)) aE (λ _ _=>rfl))) (bJ (K:=K) (n:=2) rfl rfl (aG (aH (i:=18) sc.nd rfl (Or.inl rfl)) (aG (aH (i:=19) sc.nd rfl (Or.inl rfl)) bF))) (aK (cN (aQ (aJ (K:=K) rfl) (bG (aA (oE (aQ (aJ (K:=K) rfl) (pv 17) (pv 19) (λ _ _=>rfl))) (aA eF (aA eF aC)))) (eA (K:=K) rfl aas PySem.F.slot_list_index PySem.F.type_list_index tP (bG (aA cH (aA cH (aA cH aC)))) (aA (pv 18) aC)) (λ _ _=>rfl)) (mO (pv 17) (pv 19) fZ))))))
   (aD (uZ (i:=20) sc.nd rfl rfl (λ _ _ h=>h) rfl (LcOk2.mk (N':=["k","goes"]) (fr:=[none,some 5]) rfl ⟨rfl,trivial⟩ rfl rfl rfl rfl rfl ⟨⟨_,rfl,rfl,rfl,rfl⟩,trivial⟩) (cK rfl T.b_range (aA (aR (bA (K:=K) rfl) rfl T.b_len aar (aA (aQ (aJ (K:=K) rfl) (pv 0) aE (λ _ _=>rfl)) aC)) aC)) (λ _ _ _=>(aH (i:=0) (show (["k","goes"]:List Str).Nodup by decide +kernel) rfl (Or.inr rfl) (Or.inl rfl))) (λ _ _ _=>d6) (λ _ _ _=>(aR (gZ (K:=K) rfl rfl) rfl T.b_sum PyProof.Rows.boot_sum (aA (gL (λ _ _ h=>h) rfl (LcOk.mk (N':=["target","amount","k"]) (fr:=[none,none,some 0]) rfl ⟨rfl,trivial⟩ rfl rfl rfl rfl rfl ⟨⟨_,rfl,rfl,rfl,rfl⟩,trivial⟩) (g0 (K:=K) rfl (pv 1)) (λ _ _ _=>(bJ (K:=K) (n:=2) rfl rfl (aG (aH (i:=0) (show (["target","amount","k"]:List Str).Nodup by decide +kernel) rfl (Or.inl rfl) (Or.inr rfl)) (aG (aH (i:=1) (show (["target","amount","k"]:List Str).Nodup by decide +kernel) rfl (Or.inl rfl) (Or.inr rfl)) bF)))) (λ _ _ _=>rN (bB g7 (pv 0) (pv 2) (bH _))) (λ _ _ _=>(pv 1))) aC))))
   (aD (aP (i:=21) sc.nd rfl (Or.inl rfl) (aR (gZ (K:=K) rfl rfl) rfl T.b_sum PyProof.Rows.boot_sum (aA (gL (λ _ _ h=>h) rfl (LcOk.mk (N':=["target","amount"]) (fr:=[none,none]) rfl trivial rfl rfl rfl rfl rfl trivial) (g0 (K:=K) rfl (pv 5)) (λ _ _ _=>(bJ (K:=K) (n:=2) rfl rfl (aG (aH (i:=0) (show (["target","amount"]:List Str).Nodup by decide +kernel) rfl (Or.inl rfl) (Or.inr rfl)) (aG (aH (i:=1) (show (["target","amount"]:List Str).Nodup by decide +kernel) rfl (Or.inl rfl) (Or.inr rfl)) bF)))) (λ _ _ _=>rN (bB rP (pv 0) eQ (bH _))) (λ _ _ _=>(pv 1))) aC)))
   (aK (bC (bG (aA (aV (aA (aZ (bO (K:=K) rfl) rfl T.b_tuple bR (aA (pv 7) aC)) (aA (aZ (bO (K:=K) rfl) rfl T.b_tuple bR (aA (pv 20) aC)) (aA (aZ (bO (K:=K) rfl) rfl T.b_tuple bR (aA (pv 17) aC)) aC)))) (aA (aZ (bO (K:=K) rfl) rfl T.b_tuple bR (aA (pv 6) aC)) (aA (pv 21) aC))))))))))))))),?_⟩
  obtain⟨a,b,c,xs,ys,rfl,q,q1,l1,q2,l2⟩:=fA hx
  obtain⟨ay,a1,a2,a3,rfl,qy,p1,p2,p3⟩:=vY hy
  have exl:xs.length=net.vs.length:=by rw[l1.length,aac]
  have n1:=nok.lo
  have n2:=nok.hi
  have n3:=nok.sp
  have hn:((xs.length:Nat):Int).toNat=net.vs.length:=by rw[exl];simp
  have hsl:(aS net held coming poured doors).length=net.vs.length:=by
   unfold aS;rw[fU,h9 sok.h sok.c hpl]
  have hgl60:(cG net.vs (aS net held coming poured doors)).length<=60:=by
   have:=jH net.vs (aS net held coming poured doors) nok.vs;omega
  have hgt:∀ i,(cG (net.vs.take i) ((aS net held coming poured doors).take i)).length<=60:=λ i=>by
   have h1:=jH (net.vs.take i) ((aS net held coming poured doors).take i) λ v hv=>nok.vs v (List.mem_of_mem_take hv)
   have h2:(net.vs.take i).length<=12:=by rw[aaj];omega
   omega
  have htt:∀ i,(bS 0 (net.vs.take i) ((aS net held coming poured doors).take i)).length<=12:=λ i=>by
   have h1:=jE (net.vs.take i) ((aS net held coming poured doors).take i) 0
   have h2:(net.vs.take i).length<=12:=by rw[aaj];omega
   omega
  have hst:∀ i,(dF (net.vs.take i) ((aS net held coming poured doors).take i)).length<=12:=λ i=>by
   rw[hV _ _ (by rw[aaj,aaj,hsl]),aaj];omega
  refine⟨_,rfl,_,rfl,_,rfl,.ref a,.ref ay,z,net,held,coming,poured,doors,rfl,hx,hy,qz,nok,sok,hpl,λ hl H1 sm1 fr1 hH1=>?_⟩
  refine⟨Nat.zero_le _,λ gl hgl=>⟨Nat.zero_le _,λ tl htl=>⟨Nat.zero_le _,λ sl hsl'=>?_⟩⟩⟩
  have ft:H1 tl=none:=aF.free (aF.new hgl) htl
  have fs:H1 sl=none:=aF.free (aF.new hgl) (aF.free (aF.new htl) hsl')
  have nts:tl≠sl:=aL (show upd _ tl (.lst []) tl=_ from aB) hsl'
  have ngt:gl≠tl:=aL (show upd H1 gl (.lst []) gl=_ from aB) htl
  have ngs:gl≠sl:=aL (show upd (upd H1 gl (.lst [])) tl (.lst []) gl=some (.lst []) by rw[aO ngt];exact aB) hsl'
  refine⟨_,rfl,.inr (.inl ⟨a,_,0,_,rfl,rfl,((((sm1.trans (aF.new hgl)).trans (aF.new htl)).trans (aF.new hsl')).tup q),rfl,b,xs,rfl,.inr ((((sm1.trans (aF.new hgl)).trans (aF.new htl)).trans (aF.new hsl')).tup q1),_,rfl,by omega,by omega,?_⟩)⟩
  rw[hn]
  refine dS (lo:=0) (n:=net.vs.length) (λ i ac H'=>aF H1 H'/\H' tl=some (.lst ((bS 0 (net.vs.take i) ((aS net held coming poured doors).take i)).map λ (j:Nat)=>V.int (j:Int)))/\
   H' sl=some (.lst ((dF (net.vs.take i) ((aS net held coming poured doors).take i)).map V.int))/\∃ (gl:Addr) (gxs:List V),H1 gl=none/\gl≠tl/\gl≠sl/\H' gl=some (.lst gxs)/\L2.IsL K H' ((cG (net.vs.take i) ((aS net held coming poured doors).take i)).map outD) gxs/\
   ∃ v8 v9 v10 v11 v12 v13 v14 v15 v16,ac=[some (.ref a),some (.ref ay),some (.ref z),some .non,some (.ref hl),some (.ref gl),some (.ref tl),some (.ref sl),v8,v9,v10,v11,v12,v13,v14,v15,v16,none,none,none,none,none]) ?_ ?_ ?_
  ·refine⟨((aF.new hgl).trans (aF.new htl)).trans (aF.new hsl'),by rw[aO nts,aB];simp [bS],by rw[aB];simp [dF],gl,[],hgl,ngt,ngs,by rw[aO ngs,aO ngt,aB],?_,none,none,none,none,none,none,none,none,none,rfl⟩
   simp only [List.take_zero,cG,List.map_nil];exact .nil
  ·rintro i ac H2 hi ⟨sm,ht2,hs2,gl,gxs,fg,ngt,ngs,hg2,ig2,v8,v9,v10,v11,v12,v13,v14,v15,v16,rfl⟩
   rw[Int.zero_add]
   have hv:net.vs[i]? = some net.vs[i]:=by simp [hi]
   have vok:=nok.vs net.vs[i] (abu hi)
   have hil:i < (aS net held coming poured doors).length:=by rw[hsl];exact hi
   have hhi:(aS net held coming poured doors)[i]? = some ((aS net held coming poured doors)[i]'hil):=by simp
   generalize hh:(aS net held coming poured doors)[i]'hil=h at hhi
   have hhm:((aS net held coming poured doors).map V.int)[i]? = some (.int h):=by rw[aah,hhi];rfl
   have sA:aF H H2:=sm1.trans sm
   have s1:=iQ net.vs (aS net held coming poured doors) i _ _ hv hhi
   have s2:=kB net.vs (aS net held coming poured doors) i 0 _ _ hv hhi
   have s3:=kI net.vs (aS net held coming poured doors) i _ _ hv hhi
   generalize hvv:net.vs[i]=v at hv vok s1 s2 s3
   obtain⟨xv,hxv,ixv⟩:=l1.get (i:=i) (d:=jM v) (by rw[aah,hv];rfl)
   obtain⟨va,o,cc,rfl,qv,ho,hc⟩:=kU ixv
   obtain⟨oa,os,rfl,qo,lo⟩:=ho.un
   have eol:os.length=v.outs.length:=by rw[lo.length,aac]
   have hw1:=pT vok.ne vok.outs
   have hw2:=nS vok.outs
   have ho3:=vok.o3
   refine⟨_,rfl,.inr (.inl ⟨a,_,0,_,rfl,rfl,sA.tup q,rfl,_,rfl,.inr (.inl ⟨b,xs,(i:Int),_,rfl,rfl,sA.tup q1,bZ hxv,va,_,rfl,sA.tup qv,rfl,_,_,rfl,_,_,rfl,_,_,rfl,_,_,rfl,_,_,rfl,_,_,rfl,rfl,?_⟩)⟩)⟩
   refine⟨_,rfl,_,rfl,.inl ⟨hl,_,(i:Int),_,rfl,rfl,bT.of (sm _ _ hH1),bZ hhm,_,rfl,_,_,rfl,?_⟩⟩
   have eh:(if v.brim < h then v.brim else h)=bU v h:=by unfold bU;split <;> omega
   rw[eh]
   refine⟨_,rfl,.inl ⟨rfl,_,bT.of hg2⟩,_,rfl,_,rfl,_,rfl,.inl ⟨hl,_,(i:Int),_,rfl,rfl,bT.of (sm _ _ hH1),bZ hhm,_,rfl,_,_,rfl,rfl,(show 2<=sizeLine by decide),λ gq hgq=>?_⟩⟩
   have ngq:gl≠gq:=aL hg2 hgq
   have hgxl:gxs.length=(cG (net.vs.take i) ((aS net held coming poured doors).take i)).length:=by rw[ig2.length,aac]
   have hg60:=hgt i
   refine⟨gl,gxs,_,rfl,rfl,by rw[aO ngq];exact hg2,aY (by omega),?_⟩
   obtain⟨sm3,hg3,ig3,kp3⟩:=tZ sm fg hg2 ig2 hgq v.spill (h - bU v h)
   have ht3:=kp3 tl _ (Ne.symm ngt) ht2
   have hs3:=kp3 sl _ (Ne.symm ngs) hs2
   generalize upd (upd H2 gq (.tup [fR v.spill,.int (h - bU v h)])) gl (.lst (gxs++[.ref gq]))=H3 at sm3 hg3 ig3 kp3 ht3 hs3 ⊢
   have sA3:aF H H3:=sm1.trans sm3
   dsimp only [eP,jN,tC,gE]
   refine wL (λ ac H'=>aF H1 H'/\H' tl=some (.lst ((bS 0 (net.vs.take (i+1)) ((aS net held coming poured doors).take (i+1))).map λ (j:Nat)=>V.int (j:Int)))/\
    H' sl=some (.lst ((dF (net.vs.take i) ((aS net held coming poured doors).take i)).map V.int))/\∃ (gl:Addr) (gxs:List V),H1 gl=none/\gl≠tl/\gl≠sl/\H' gl=some (.lst gxs)/\L2.IsL K H' ((cG (net.vs.take (i+1)) ((aS net held coming poured doors).take (i+1))).map outD) gxs/\
    ∃ v8 v9 v10 v11 v12 v13 v14 v16,ac=[some (.ref a),some (.ref ay),some (.ref z),some .non,some (.ref hl),some (.ref gl),some (.ref tl),some (.ref sl),v8,v9,v10,v11,v12,v13,v14,some (.int (fK v h)),v16,none,none,none,none,none]) (λ D' hD=>?_) ?_
   ·refine⟨_,rfl,_,rfl,_,_,rfl,rfl,_,rfl,?_⟩
    refine eM (λ hge=>?_) (λ hlt=>dP ?_)
    ·have tips:iP v h=true:=hge
     refine⟨_,rfl,_,rfl,rfl,_,rfl,?_⟩
     refine eM (λ _=>?_) (λ hne=>absurd (by simp) hne)
     refine⟨_,rfl,oa,rfl,⟨_,sA3.tup qo⟩,gA (K:=K) (a:=oa) (xs:=os) (λ D j ys ac H'=>H3 D=none/\aF H3 H'/\H' D=some (.lst ys)/\ys=(v.outs.take j).map (λ x=>V.int x.2)/\∃ x y,ac=[x,y])
      (λ D j ys ac H' p=>p.2.1.tup (sA3.tup qo)) (λ D hD=>⟨hD,aF.new hD,aB,by simp,none,none,rfl⟩) ?_ ?_⟩
     rotate_left
     ·rintro D j x ys ac H' hx ⟨hD,smx,hDl,rfl,v1,v2,rfl⟩
      obtain⟨ot,hot,oq,rfl,qa⟩:=i9 lo hx
      have hjl:=(aad.mp hot).1
      refine⟨oq,_,rfl,smx.tup (sA3.tup qa),rfl,_,_,rfl,_,_,rfl,rfl,?_⟩
      refine gN ⟨_,rfl,hDl,aY (by simp;omega),hD,smx.put hD,aB,?_,_,_,rfl⟩
      rw[bI hot];simp
     rintro D ys ac H4 ⟨hD4,sm4,hDl,rfl,_⟩
     rw[eol,aao] at hDl
     refine⟨false,D,v.outs.map (·.2),rfl,bT.of (by rw[abz];exact hDl),?_⟩
     have ew:(v.outs.map (·.2)).sum=whole v.outs:=rfl
     rw[ew]
     have sA4:aF H H4:=sA3.trans sm4
     refine⟨_,rfl,_,rfl,oa,rfl,⟨_,sA4.tup qo⟩,gA (K:=K) (a:=oa) (xs:=os) (λ D j ys ac H'=>H4 D=none/\aF H4 H'/\H' D=some (.lst ys)/\L2.IsL K H' (((eZ v (bU v h)).take j).map outD) ys/\∃ x y,ac=[x,y,some (.int (bU v h)),some (.int (whole v.outs))])
      (λ D j ys ac H' p=>p.2.1.tup (sA4.tup qo)) (λ D hD=>⟨hD,aF.new hD,aB,by simp only [List.take_zero,List.map_nil];exact .nil,none,none,rfl⟩) ?_ ?_⟩
     rotate_left
     ·rintro D j x ys ac H' hx ⟨hD,smx,hDl,hys,v1,v2,rfl⟩
      obtain⟨ot,hot,oq,rfl,qa⟩:=i9 lo hx
      have hjl:=(aad.mp hot).1
      have hom:=vok.outs ot (aan hot)
      refine⟨oq,_,rfl,smx.tup (sA4.tup qa),rfl,_,_,rfl,_,_,rfl,rfl,?_⟩
      refine gN ⟨_,rfl,_,rfl,_,rfl,_,_,rfl,rfl,⟨by omega,by omega⟩,_,rfl,_,_,rfl,rfl,.inr ⟨by have:=hom.lo;omega,by have:=hom.hi;omega⟩,(show 2<=sizeLine by decide),λ tq htq=>?_⟩
      have nD:D≠tq:=aL hDl htq
      have hysl:ys.length<=3:=by rw[hys.length,aac,aaj];unfold eZ;rw[aac];omega
      have mt:kR (upd H' tq (.tup [fR ot.1,.int (bU v h / whole v.outs * ot.2)]) D):=by rw[aO nD,hDl];exact trivial
      have hsh:(eZ v (bU v h))[j]? = some (ot.1,bU v h / whole v.outs * ot.2):=by unfold eZ;rw[aah,hot];rfl
      refine⟨by rw[aO nD];exact hDl,aY (by omega),hD,λ b o e=>by rw[aO (aL e hD)];exact aF.new htq b o (smx b o e),aB,?_,_,_,rfl⟩
      rw[bI hsh,aae]
      exact L2.IsL.snoc (Is.tupOf (ds:=[uN ot.1,.int (bU v h / whole v.outs * ot.2)]) (bV.put (bV.refl _) (.inr mt) _ _ (bD.of aB)) (.cons (Is.tgOf _) (.cons (Is.i _) .nil))) (L2.IsL.mono (bV.put (aF.new htq).ts (.inr mt)) _ _ hys)
     rintro D2 ys ac H5 ⟨hD5,sm5,hD5l,hys,_⟩
     have esh:(eZ v (bU v h)).length=os.length:=by unfold eZ;rw[aac,eol]
     rw[List.take_of_length_le (Nat.le_of_eq esh)] at hys
     have hysl:ys.length<=3:=by rw[hys.length,aac,esh,eol];exact ho3
     have hg5:=sm5 _ _ (sm4 _ _ hg3)
     refine⟨gl,D2,gxs++[.ref gq],ys,rfl,rfl,hg5,hD5l,aca (aY (by simp;omega)),λ gl2 hgl2=>?_⟩
     have fg2:H1 gl2=none:=aF.free (sm3.trans (sm4.trans sm5)) hgl2
     have ht5:=sm5 _ _ (sm4 _ _ ht3)
     have hs5:=sm5 _ _ (sm4 _ _ hs3)
     have ngt2:gl2≠tl:=Ne.symm (aL ht5 hgl2)
     have ngs2:gl2≠sl:=Ne.symm (aL hs5 hgl2)
     have m6:aF H5 (upd H5 gl2 (.lst (gxs++[.ref gq]++ys))):=aF.new hgl2
     have ig6:L2.IsL K (upd H5 gl2 (.lst (gxs++[.ref gq]++ys))) ((cG (net.vs.take i) ((aS net held coming poured doors).take i)++[(v.spill,h - bU v h)]++eZ v (bU v h)).map outD) (gxs++[.ref gq]++ys):=by
      rw[aae]
      exact IsL.append (L2.IsL.mono m6.ts _ _ (L2.IsL.mono sm5.ts _ _ (L2.IsL.mono sm4.ts _ _ ig3))) (L2.IsL.mono m6.ts _ _ hys)
     have hg6:upd H5 gl2 (.lst (gxs++[.ref gq]++ys)) gl2=some (.lst (gxs++[.ref gq]++ys)):=aB
     have sm6:aF H1 (upd H5 gl2 (.lst (gxs++[.ref gq]++ys))):=(sm3.trans (sm4.trans sm5)).trans m6
     have ht6:=m6 _ _ ht5
     have hs6:=m6 _ _ hs5
     generalize upd H5 gl2 (.lst (gxs++[.ref gq]++ys))=H6 at sm6 hg6 ig6 ht6 hs6 ⊢
     refine⟨_,rfl,_,rfl,_,_,rfl,rfl,(show 0 < whole v.outs by omega),?_⟩
     have htl:=htt i
     refine⟨_,rfl,.inl ⟨rfl,_,bT.of ht6⟩,_,rfl,tl,_,_,rfl,rfl,ht6,aY (by rw[aac];omega),?_⟩
     have mtt:kR (H6 tl):=by rw[ht6];exact trivial
     rw[tips,if_pos rfl,Nat.zero_add] at s2
     have hg7:upd H6 tl (.lst (((bS 0 (net.vs.take i) ((aS net held coming poured doors).take i)).map λ (j:Nat)=>V.int (j:Int))++[.int (i:Int)])) gl2=some (.lst (gxs++[.ref gq]++ys)):=by rw[aO ngt2];exact hg6
     have ig7:=L2.IsL.mono (bV.put (o:=HO.lst (((bS 0 (net.vs.take i) ((aS net held coming poured doors).take i)).map λ (j:Nat)=>V.int (j:Int))++[.int (i:Int)])) (bV.refl H6) (.inr mtt)) _ _ ig6
     have sm7:aF H1 (upd H6 tl (.lst (((bS 0 (net.vs.take i) ((aS net held coming poured doors).take i)).map λ (j:Nat)=>V.int (j:Int))++[.int (i:Int)]))):=sm6.put ft
     have ht7:upd H6 tl (.lst (((bS 0 (net.vs.take i) ((aS net held coming poured doors).take i)).map λ (j:Nat)=>V.int (j:Int))++[.int (i:Int)])) tl=some (.lst ((bS 0 (net.vs.take (i+1)) ((aS net held coming poured doors).take (i+1))).map λ (j:Nat)=>V.int (j:Int))):=by
      rw[aB,s2,aae];rfl
     have hs7:upd H6 tl (.lst (((bS 0 (net.vs.take i) ((aS net held coming poured doors).take i)).map λ (j:Nat)=>V.int (j:Int))++[.int (i:Int)])) sl=_:=(aO (Ne.symm nts)).trans hs6
     generalize upd H6 tl (.lst (((bS 0 (net.vs.take i) ((aS net held coming poured doors).take i)).map λ (j:Nat)=>V.int (j:Int))++[.int (i:Int)]))=H7 at hg7 ig7 sm7 ht7 hs7 ⊢
     refine⟨_,rfl,_,rfl,?_⟩
     cases hhd:v.holds with
     | true=>
      refine dP ?_
      have es:bU v h % whole v.outs=fK v h:=by unfold fK;rw[tips,hhd];rfl
      refine hD _ _ ⟨sm7,ht7,hs7,gl2,_,fg2,ngt2,ngs2,hg7,?_,_,_,_,_,_,_,_,_,by rw[<- es];rfl⟩
      have eg:fL v h=[(v.spill,h - bU v h)]++eZ v (bU v h):=by unfold fL;rw[tips,hhd];simp
      rw[s3,eg,<- abr]
      exact ig7
     | false=>
      refine gF ?_
      refine⟨_,rfl,.inl ⟨rfl,_,bT.of hg7⟩,_,rfl,(show 2<=sizeLine by decide),λ gq2 hgq2=>?_⟩
      have ngq2:gl2≠gq2:=aL hg7 hgq2
      refine⟨gl2,_,_,rfl,rfl,by rw[aO ngq2];exact hg7,aY (by simp;omega),?_⟩
      obtain⟨sm8,hg8,ig8,kp8⟩:=tZ sm7 fg2 hg7 ig7 hgq2 none (bU v h % whole v.outs)
      have es:fK v h=0:=by unfold fK;rw[tips,hhd];rfl
      refine hD _ _ ⟨sm8,kp8 tl _ (Ne.symm ngt2) ht7,kp8 sl _ (Ne.symm ngs2) hs7,gl2,_,fg2,ngt2,ngs2,hg8,?_,_,_,_,_,_,_,_,_,by rw[es];rfl⟩
      have eg:fL v h=[(v.spill,h - bU v h)]++eZ v (bU v h)++[(none,bU v h % whole v.outs)]:=by unfold fL;rw[tips,hhd];simp
      rw[s3,eg,<- abr,<- abr]
      exact ig8
    ·have tips:iP v h=false:=by
      cases e:iP v h with
      | false=>rfl
      | true=>exact absurd e hlt
     have es:bU v h=fK v h:=by unfold fK;rw[tips];rfl
     have eg:fL v h=[(v.spill,h - bU v h)]:=by unfold fL;rw[tips];rfl
     rw[tips,if_neg aaf,abt] at s2
     refine hD _ _ ⟨sm3,by rw[s2];exact ht3,hs3,gl,_,fg,ngt,ngs,hg3,by rw[s3,eg];exact ig3,_,_,_,_,_,_,_,_,by rw[<- es];rfl⟩
   rintro ao H4 ⟨sm4,ht4,hs4,gl,gxs,fg,ngt,ngs,hg4,ig4,v8,v9,v10,v11,v12,v13,v14,v16,rfl⟩
   have hsl2:=hst i
   refine⟨_,rfl,.inl ⟨rfl,_,bT.of hs4⟩,_,rfl,sl,_,_,rfl,rfl,hs4,aY (by rw[aac];omega),?_⟩
   refine⟨sm4.put fs,by rw[aO nts];exact ht4,by rw[aB,s1,aae];rfl,gl,gxs,fg,ngt,ngs,by rw[aO ngs];exact hg4,L2.IsL.mono (bV.put (bV.refl _) (.inr (by rw[hs4];exact trivial))) _ _ ig4,_,_,_,_,_,_,_,_,_,rfl⟩
  ·rintro ac H2 ⟨sm,ht2,hs2,gl,gxs,fg,ngt,ngs,hg2,ig2,v8,v9,v10,v11,v12,v13,v14,v15,v16,rfl⟩
   have ek:net.vs.take net.vs.length=net.vs:=aao
   have ek2:(aS net held coming poured doors).take net.vs.length=aS net held coming poured doors:=by rw[<- hsl,aao]
   rw[ek,ek2] at ht2 hs2 ig2
   have sA:aF H H2:=sm1.trans sm
   have etl:(bS 0 net.vs (aS net held coming poured doors)).length<=12:=by have:=jE net.vs (aS net held coming poured doors) 0;omega
   refine⟨_,rfl,.inr (.inl ⟨ay,_,2,_,rfl,rfl,sA.tup qy,rfl,a3,_,rfl,.inr (sA.tup p3),λ dl hdl=>?_⟩)⟩
   have m3:aF H2 (upd H2 dl (.lst (doors.map V.bl))):=aF.new hdl
   refine⟨_,rfl,tl,rfl,⟨_,bT.of (m3 _ _ ht2)⟩,lT (K:=K) (a:=tl) (xs:=(bS 0 net.vs (aS net held coming poured doors)).map λ (j:Nat)=>V.int (j:Int))
    (λ i ac H'=>aF H2 H'/\H' dl=some (.lst ((cJ net.vs doors ((bS 0 net.vs (aS net held coming poured doors)).take i)).map V.bl))/\
     ∃ v8 v9 v10 v11 v12 v13 v14 v15 v16 v18 v19,ac=[some (.ref a),some (.ref ay),some (.ref z),some .non,some (.ref hl),some (.ref gl),some (.ref tl),some (.ref sl),v8,v9,v10,v11,v12,v13,v14,v15,v16,some (.ref dl),v18,v19,none,none])
    ⟨m3,aB,_,_,_,_,_,_,_,_,_,_,_,rfl⟩ (λ i ac H' _ p=>bT.of (p.1 _ _ ht2)) ?_ ?_⟩
   ·rintro i x ac H3 hx' ⟨sm3,hd3,v8,v9,v10,v11,v12,v13,v14,v15,v16,v18,v19,rfl⟩
    rw[aah] at hx'
    obtain⟨j,hj,rfl⟩:=aaq.mp hx'
    have hjv:j < net.vs.length:=by have:=nY _ _ _ _ (aan hj);omega
    have hv:net.vs[j]? = some net.vs[j]:=by simp [hjv]
    have vok:=nok.vs net.vs[j] (abu hjv)
    have dsn:=n6 net.vs doors ((bS 0 net.vs (aS net held coming poured doors)).take i) j net.vs[j] hv
    generalize hvv:net.vs[j]=v at hv vok dsn
    obtain⟨xv,hxv,ixv⟩:=l1.get (i:=j) (d:=jM v) (by rw[aah,hv];rfl)
    obtain⟨va,o,cc,rfl,qv,ho,hc⟩:=kU ixv
    obtain⟨ca,cs,rfl,qc,lc⟩:=hc.un
    have ecs:cs.length=v.acts.length:=by rw[lc.length,aac]
    have sA3:aF H H3:=sA.trans sm3
    refine⟨_,rfl,.inr (.inl ⟨a,_,0,_,rfl,rfl,sA3.tup q,rfl,_,rfl,.inr (.inl ⟨b,xs,(j:Int),_,rfl,rfl,sA3.tup q1,bZ hxv,.inr (.inl ⟨va,_,5,_,rfl,rfl,sA3.tup qv,rfl,ca,rfl,⟨_,sA3.tup qc⟩,jI (K:=K) (a:=ca) (xs:=cs)
     (λ l ac H'=>aF H2 H'/\H' dl=some (.lst ((eG (cJ net.vs doors ((bS 0 net.vs (aS net held coming poured doors)).take i)) (v.acts.take l)).map V.bl))/\
      ∃ v8 v9 v10 v11 v12 v13 v14 v15 v16 v18 v19,ac=[some (.ref a),some (.ref ay),some (.ref z),some .non,some (.ref hl),some (.ref gl),some (.ref tl),some (.ref sl),v8,v9,v10,v11,v12,v13,v14,v15,v16,some (.ref dl),v18,v19,none,none])
     ⟨sm3,hd3,_,_,_,_,_,_,_,_,_,_,_,rfl⟩ (λ l ac H' _ p=>(sA.trans p.1).tup qc) ?_ ?_⟩)⟩)⟩)⟩
    ·rintro l x ac H4 hl' ⟨sm4,hd4,v8,v9,v10,v11,v12,v13,v14,v15,v16,v18,v19,rfl⟩
     obtain⟨at',hat,aa,rfl,qa⟩:=mB lc hl'
     have aok:=vok.acts at' (aan hat)
     refine⟨aa,_,rfl,(sA.trans sm4).tup qa,rfl,_,_,rfl,_,_,rfl,rfl,?_⟩
     have asn:=pA (cJ net.vs doors ((bS 0 net.vs (aS net held coming poured doors)).take i)) (v.acts.take l) at'
     have hdl':(eG (cJ net.vs doors ((bS 0 net.vs (aS net held coming poured doors)).take i)) (v.acts.take l)).length=doors.length:=by rw[jL,iE]
     generalize eG (cJ net.vs doors ((bS 0 net.vs (aS net held coming poured doors)).take i)) (v.acts.take l)=DS at hd4 asn hdl'
     have hsp:at'.2.toNat < DS.length:=by rw[hdl',sok.d];have:=aok.lo;have:=aok.hi;omega
     have hg:(DS.map V.bl)[at'.2.toNat]? = some (.bl (DS.getD at'.2.toNat false)):=by
      rw[aah,abv];simp [hsp]
     obtain⟨jj,hj3,w1,w2,w3⟩:=CD aok.word
     refine⟨_,rfl,_,rfl,.inl ⟨dl,_,at'.2,_,rfl,rfl,bT.of hd4,nR aok.lo hg,_,rfl,(show 3<=sizeLine by decide),λ b1 hb1=>⟨(show 3<=sizeLine by decide),λ b2 hb2=>⟨.inl ⟨rfl,_,bT.of aB⟩,_,rfl,?_⟩⟩⟩⟩
     have m5:aF H4 (upd H4 b1 (.lst [.bl (!DS.getD at'.2.toNat false),.bl true,.bl false])):=aF.new hb1
     have m6:aF (upd H4 b1 (.lst [.bl (!DS.getD at'.2.toNat false),.bl true,.bl false])) (upd (upd H4 b1 (.lst [.bl (!DS.getD at'.2.toNat false),.bl true,.bl false])) b2 (.lst [.str "turn",.str "open",.str "shut"])):=aF.new hb2
     refine⟨b2,_,_,jj,rfl,rfl,aB,rfl,rfl,hj3,w1,w2,.inl ⟨b1,_,(jj:Int),_,rfl,rfl,bT.of (m6 _ _ aB),bZ (w3 _),?_⟩⟩
     refine⟨_,rfl,_,rfl,dl,_,at'.2,at'.2.toNat,rfl,rfl,m6 _ _ (m5 _ _ hd4),nH aok.lo (by rw[aac];have:=aok.lo;omega),?_⟩
     refine⟨((sm4.trans m5).trans m6).put hdl,?_,_,_,_,_,_,_,_,_,_,_,_,rfl⟩
     rw[aB,bI hat,asn,vU,List.map_set]
    ·rintro ac H4 ⟨sm4,hd4,v8,v9,v10,v11,v12,v13,v14,v15,v16,v18,v19,rfl⟩
     rw[ecs,aao] at hd4
     refine⟨sm4,?_,_,_,_,_,_,_,_,_,_,_,_,rfl⟩
     rw[bI hj,dsn]
     exact hd4
   ·rintro ac H3 ⟨sm3,hd3,v8,v9,v10,v11,v12,v13,v14,v15,v16,v18,v19,rfl⟩
    rw[aac,aao] at hd3
    have sA3:aF H H3:=sA.trans sm3
    have hg3:=sm3 _ _ hg2
    have ig3:=L2.IsL.mono sm3.ts _ _ ig2
    have hgxl:gxs.length=(cG net.vs (aS net held coming poured doors)).length:=by rw[ig2.length,aac]
    refine⟨_,rfl,.inr (.inl ⟨a,_,0,_,rfl,rfl,sA3.tup q,rfl,b,xs,rfl,.inr (sA3.tup q1),_,rfl,by omega,by omega,?_⟩)⟩
    rw[hn]
    refine lN (n:=net.vs.length) (λ D i r ac H'=>H3 D=none/\aF H3 H'/\H' D=some (.lst r)/\r=((eB net.vs.length (cG net.vs (aS net held coming poured doors))).take i).map V.int/\∃ v,ac=[v,some (.ref gl)])
     (λ D hD=>⟨hD,aF.new hD,aB,by simp,none,rfl⟩) ?_ ?_
    rotate_left
    ·rintro D i r ac H4 hi ⟨hD,sm4,hDl,rfl,v,rfl⟩
     refine g9 ?_
     refine⟨_,rfl,gl,rfl,⟨_,bT.of (sm4 _ _ hg3)⟩,sC (K:=K) (a:=gl) (xs:=gxs) (λ D' j r' ac H'=>H4 D'=none/\aF H4 H'/\H' D'=some (.lst r')/\r'=(oY (some (i:Int)) ((cG net.vs (aS net held coming poured doors)).take j)).map V.int/\∃ u1 u2,ac=[u1,u2,some (.int (i:Int))])
      (λ D' j r' ac H' p=>bT.of (p.2.1 _ _ (sm4 _ _ hg3))) (λ D' hD'=>⟨hD',aF.new hD',aB,by simp [oY],none,none,rfl⟩) ?_ ?_⟩
     rotate_left
     ·rintro D' j x r' ac H5 hx' ⟨hD',sm5,hD'l,rfl,u1,u2,rfl⟩
      obtain⟨g,hg,ga,rfl,qg⟩:=i9 (L2.IsL.mono sm4.ts _ _ ig3) hx'
      refine⟨ga,_,rfl,sm5.tup qg,rfl,_,_,rfl,_,_,rfl,rfl,?_⟩
      have hsc:EV (fR g.1) (.int (i:Int))=true:=by cases g.1 <;> rfl
      have hiff:fR g.1=.int (i:Int)↔g.1=some (i:Int):=by cases g.1 <;> simp [fR]
      have hal:=uG (some (i:Int)) ((cG net.vs (aS net held coming poured doors)).take j)
      rw[aaj] at hal
      refine⟨_,rfl,_,rfl,hsc,_,rfl,?_⟩
      refine eM (λ ht=>?_) (λ hf=>?_)
      ·refine⟨_,rfl,hD'l,aY (by rw[aac];omega),hD',sm5.put hD',aB,?_,_,_,rfl⟩
       rw[bI hg,jK,if_pos (hiff.mp (of_decide_eq_true ht)),aae];rfl
      ·refine⟨hD',sm5,hD'l,?_,_,_,rfl⟩
       rw[bI hg,jK,if_neg (λ e=>hf (decide_eq_true (hiff.mpr e))),abt]
     rintro D' r' ac H5 ⟨hD',sm5,hD'l,rfl,_⟩
     rw[hgxl,aao] at hD'l
     refine⟨false,D',_,rfl,bT.of hD'l,sm5 _ _ hDl,aY (by simp [eB];omega),hD,(sm4.trans sm5).put hD,aB,?_,_,rfl⟩
     have e:(eB net.vs.length (cG net.vs (aS net held coming poured doors)))[i]? = some (cY (some (i:Int)) (cG net.vs (aS net held coming poured doors))):=by
      unfold eB;simp [hi]
     rw[bI e,aae,oX];rfl
    rintro D r ac H4 ⟨hD,sm4,hDl,rfl,_⟩
    have ll:(eB net.vs.length (cG net.vs (aS net held coming poured doors))).length=net.vs.length:=by unfold eB;simp
    rw[List.take_of_length_le (Nat.le_of_eq ll)] at hDl
    refine⟨_,rfl,gl,rfl,⟨_,bT.of (sm4 _ _ hg3)⟩,sC (K:=K) (a:=gl) (xs:=gxs) (λ D' j r' ac H'=>H4 D'=none/\aF H4 H'/\H' D'=some (.lst r')/\r'=(oY none ((cG net.vs (aS net held coming poured doors)).take j)).map V.int/\∃ u1 u2,ac=[u1,u2])
     (λ D' j r' ac H' p=>bT.of (p.2.1 _ _ (sm4 _ _ hg3))) (λ D' hD'=>⟨hD',aF.new hD',aB,by simp [oY],none,none,rfl⟩) ?_ ?_⟩
    rotate_left
    ·rintro D' j x r' ac H5 hx' ⟨hD',sm5,hD'l,rfl,u1,u2,rfl⟩
     obtain⟨g,hg,ga,rfl,qg⟩:=i9 (L2.IsL.mono sm4.ts _ _ ig3) hx'
     refine⟨ga,_,rfl,sm5.tup qg,rfl,_,_,rfl,_,_,rfl,rfl,?_⟩
     have hiff:fR g.1=.non↔g.1=none:=by cases g.1 <;> simp [fR]
     have hal:=uG none ((cG net.vs (aS net held coming poured doors)).take j)
     rw[aaj] at hal
     refine⟨_,rfl,rfl,_,rfl,?_⟩
     refine eM (λ ht=>?_) (λ hf=>?_)
     ·refine⟨_,rfl,hD'l,aY (by rw[aac];omega),hD',sm5.put hD',aB,?_,_,_,rfl⟩
      rw[bI hg,jK,if_pos (hiff.mp (of_decide_eq_true ht)),aae];rfl
     ·refine⟨hD',sm5,hD'l,?_,_,_,rfl⟩
      rw[bI hg,jK,if_neg (λ e=>hf (decide_eq_true (hiff.mpr e))),abt]
    rintro D' r' ac H5 ⟨hD',sm5,hD'l,rfl,_⟩
    rw[hgxl,aao] at hD'l
    refine⟨false,D',_,rfl,bT.of hD'l,?_⟩
    rw[oX]
    have c1:=sm5 _ _ (sm4 _ _ (sm3 _ _ hs2))
    have c2:=sm5 _ _ hDl
    have c3:=sm5 _ _ (sm4 _ _ hd3)
    have c4:=sm5 _ _ (sm4 _ _ (sm3 _ _ ht2))
    refine⟨_,rfl,sl,_,rfl,.inl ⟨bT.of c1,λ t1 ht1=>?_⟩⟩
    have m1:=aF.new (o:=HO.tup ((dF net.vs (aS net held coming poured doors)).map V.int)) ht1
    refine⟨_,rfl,D,_,rfl,.inl ⟨bT.of (m1 _ _ c2),λ t2 ht2=>?_⟩⟩
    have m2:=aF.new (o:=HO.tup ((eB net.vs.length (cG net.vs (aS net held coming poured doors))).map V.int)) ht2
    refine⟨_,rfl,dl,_,rfl,.inl ⟨bT.of (m2 _ _ (m1 _ _ c3)),λ t3 ht3=>?_⟩⟩
    have m3:=aF.new (o:=HO.tup ((cJ net.vs doors (bS 0 net.vs (aS net held coming poured doors))).map V.bl)) ht3
    refine⟨(show 3<=sizeLine by decide),λ t4 ht4=>?_⟩
    have m4:=aF.new (o:=HO.tup [.ref t1,.ref t2,.ref t3]) ht4
    refine⟨_,rfl,tl,_,rfl,.inl ⟨bT.of (m4 _ _ (m3 _ _ (m2 _ _ (m1 _ _ c4)))),λ t5 ht5=>?_⟩⟩
    have m5:=aF.new (o:=HO.tup ((bS 0 net.vs (aS net held coming poured doors)).map λ (j:Nat)=>V.int (j:Int))) ht5
    refine⟨_,rfl,(show 3<=sizeLine by decide),λ t6 ht6=>?_⟩
    have m6:aF _ _:=aF.new (o:=HO.lst [.ref t4,.ref t5,.int (cY none (cG net.vs (aS net held coming poured doors)))]) ht6
    refine k t6 (.ref t4) (.ref t5) _ (((((((((sA3.trans sm4).trans sm5).trans m1).trans m2).trans m3).trans m4).trans m5)).trans m6) aB ?_ ?_
    ·exact Is.mono m6.ts _ _ (Is.mono m5.ts _ _ (vZ (bD.of aB) (m4.tup (m3.tup (m2.tup (bD.of aB)))) (m4.tup (m3.tup (bD.of aB))) (m4.tup (bD.of aB))))
    ·refine Is.mono m6.ts _ _ (Is.tupOf (bD.of aB) ?_)
     show L2.IsL K _ ((bS 0 net.vs (aS net held coming poured doors)).map λ (i:Nat)=>L2.D.int (i:Int)) _
     have e1:((bS 0 net.vs (aS net held coming poured doors)).map λ (i:Nat)=>L2.D.int (i:Int))=((bS 0 net.vs (aS net held coming poured doors)).map λ (i:Nat)=>(i:Int)).map L2.D.int:=by rw[abz];rfl
     have e2:((bS 0 net.vs (aS net held coming poured doors)).map λ (i:Nat)=>V.int (i:Int))=((bS 0 net.vs (aS net held coming poured doors)).map λ (i:Nat)=>(i:Int)).map V.int:=by rw[abz];rfl
     rw[e1,e2]
     exact L2.IsL.of_ints _
end
end Tw
namespace Tw
open PySem L2
section
variable {P:Program}{w:World}{K:aaa}{mg:Str->Option Value}{base:Heap}
end
end Tw
namespace L2
open PySem PySem.Spec PyProof.Rows TwZ
section
variable {X:Cx}{K:aaa}
end
end L2
namespace Tw
open PySem L2
theorem uA (l:List Nat):(l.map λ (i:Nat)=>V.int (i:Int)).all iH=true:=by
 rw[abl]
 intro z hz
 obtain⟨i,_,rfl⟩:=abf.1 hz
 rfl
end Tw
namespace Tw
open PySem L2
noncomputable def Sta.tkA (net:Net) (s:Sta) (a:Int):Tick:=kC net s.held s.coming (a::gH (net.vs.length - 1)) s.doors
noncomputable def Sta.nxA (net:Net) (s:Sta) (a:Int):Sta:=⟨(s.tkA net a).held,(s.tkA net a).coming,(s.tkA net a).doors⟩
noncomputable def xE (net:Net) (v:Int) (s:Sta) (a:Int):Bool:=inV (.int v) ((s.tkA net a).tip.map λ (j:Nat)=>V.int (j:Int))
noncomputable def pB (net:Net) (s:Sta):Prop:=StOk net s.held s.coming s.doors
theorem oC {net:Net} (nok:NetOk net) (a:Int):(a::gH (net.vs.length - 1)).length=net.vs.length:=by
 rw[abi,qR];have:=nok.lo;omega
theorem fE (net:Net):pB net (cR net):=⟨qR _,qR _,by show (net.sps.map _).length=_;rw[aac]⟩
theorem iZ {net:Net} (nok:NetOk net) {s:Sta} (ih:pB net s) (a:Int):pB net (s.nxA net a):=by
 have hs:(aS net s.held s.coming (a::gH (net.vs.length - 1)) s.doors).length=net.vs.length:=by
  unfold aS;rw[fU,h9 ih.h ih.c (oC nok a)]
 exact⟨hV _ _ hs.symm,by show (eB _ _).length=_;unfold eB;simp,by show (cJ _ _ _).length=_;rw[iE];exact ih.d⟩
section
variable {P:Program}{w:World}{K:aaa}{mg:Str->Option Value}{base:Heap}{c_TipError c_NoNet c_NoVessel c_TooLong c_TooMany c_TooMuch c_Nothing c_NoText c_NoRow:Addr}
noncomputable def qV (K:aaa):Sp:=λ vs H Q _=>∃ (x y:V) (net:Net) (s:Sta) (v a:Int),vs=[x,y,.int v,.int a]/\Is K H (dY net) x/\Is K H (dO s) y/\NetOk net/\pB net s/\
 ∀ p b H',aF H H'->bD K H' p [b,.bl (xE net v s a)]->Is K H' (dO (s.nxA net a)) b->Q (.ref p) H'
theorem tE:FnScope ["net","state","vessel","amount","behind","tipped","grounded"] ["net","state","vessel","amount"] (aM (bK 20)):=⟨rfl,rfl,rfl,by decide +kernel,rfl,by decide +kernel,by decide +kernel⟩
theorem AD {f f2 f3:Addr}{fd fd2 fd3:FuncData} (F:Fun K "watch" "watch" (bK 20) f fd) (T:Txt mg)
  (G_pouring:Callee P w K mg base "pouring" ["net","amount"] 1 (mG K) f2 fd2) (G_tick_behind:Callee P w K mg base "tick_behind" ["net","state","poured"] 4 (qX K) f3 fd3) :
  FnOk P w K mg base iM 5 f fd ["net","state","vessel","amount"] (qV K):=by
 refine F.ok tE (λ vs H Q E h=>?_) (λ cdv A outer s H vs Q E hr h=>?_)
 ·obtain⟨x,y,net,s,v,a,rfl,_⟩:=h;rfl
 ·obtain⟨x,y,net,st,v,a,rfl,hx,hy,nok,sok,k⟩:=h
  have sc:=tE
  refine⟨_,(aD (cN (d5 G_tick_behind hr (aA (pv 0) (aA (pv 1) (aA (d5 G_pouring hr (aA (pv 0) (aA (pv 3) aC))) aC)))) (bJ (K:=K) (n:=3) rfl rfl (aG (aH (i:=4) sc.nd rfl (Or.inl rfl)) (aG (aH (i:=5) sc.nd rfl (Or.inl rfl)) (aG (aH (i:=6) sc.nd rfl (Or.inl rfl)) bF)))))
   (aK (bC (aV (aA (pv 4) (aA (eD (A8 (K:=K) rfl) (pv 2) (pv 5) (by rfl)) aC)))))),?_⟩
  refine⟨_,rfl,_,rfl,_,rfl,_,rfl,x,net,a,rfl,hx,nok,λ z H1 s1 qz=>?_⟩
  refine⟨x,y,z,net,st.held,st.coming,a::gH (net.vs.length - 1),st.doors,rfl,Is.mono s1.ts _ _ hx,Is.mono s1.ts _ _ hy,qz,nok,sok,oC nok a,λ r H2 s2 tp=>?_⟩
  obtain⟨f,y1,tpa,rfl,qf,j1,pla⟩:=tp
  refine⟨f,_,rfl,qf,rfl,_,_,rfl,_,_,rfl,_,_,rfl,rfl,?_⟩
  refine⟨_,rfl,_,rfl,_,rfl,tpa,_,rfl,.inr pla.sq,rfl,uA _,(show 2<=sizeLine by decide),λ p hp=>?_⟩
  have s3:=aF.new (o:=HO.tup [y1,.bl (xE net v st a)]) hp
  exact k p y1 _ ((s1.trans s2).trans s3) (bD.of aB) (Is.mono s3.ts _ _ j1)
end
end Tw
namespace Tw
open PySem L2
structure SmT (Pt:Addr) (pos:Pos) (q:Str) (H H':Hp):Prop where
 but:IK Pt H H'
 t1:dX H Pt pos q
 t2:dX H' Pt pos q
theorem dX.of {H H':Hp}{Pt:Addr}{pos:Pos}{q:Str} (h:dX H Pt pos q) (s:aF H H'):SmT Pt pos q H H':=⟨λ b o _ e=>s b o e,h,h.same s⟩
theorem SmT.trans {H H' H'':Hp}{Pt:Addr}{pos:Pos}{q:Str} (a:SmT Pt pos q H H') (b:SmT Pt pos q H' H''):SmT Pt pos q H H'':=⟨λ c o n e=>b.but c o n (a.but c o n e),a.t1,b.t2⟩
theorem SmT.step {H H' H'':Hp}{Pt:Addr}{pos:Pos}{q:Str} (a:SmT Pt pos q H H') (b:aF H' H''):SmT Pt pos q H H'':=a.trans (dX.of a.t2 b)
theorem SmT.get {H H':Hp}{Pt:Addr}{pos:Pos}{q:Str} (a:SmT Pt pos q H H') {b:Addr}{o:HO} (e:H b=some o) (hn:∀ ps,o≠.tbl ps):H' b=some o:=a.but b o (λ z=>by
 obtain⟨ps,h⟩:=a.t1.some
 rw[z,h] at e
 exact hn ps (abe e).symm) e
theorem SmT.free {H H':Hp}{Pt:Addr}{pos:Pos}{q:Str} (a:SmT Pt pos q H H') {b:Addr} (h:H' b=none):H b=none:=by
 cases e:H b with
 | none=>rfl
 | some o=>
  by_cases hb:b=Pt
  ·obtain⟨ps,h2⟩:=a.t2.some
   rw[hb,h2] at h;cases h
  ·rw[a.but b o hb e] at h;cases h
theorem SmT.ts {K:aaa}{H H':Hp}{Pt:Addr}{pos:Pos}{q:Str} (a:SmT Pt pos q H H'):bV K H H':=λ b xs h=>by
 rcases h with (h | ⟨o,h⟩) | h
 ·exact .inl (.inl (a.get h λ ps z=>by cases z))
 ·exact .inl (.inr ⟨o,a.get h λ ps z=>by cases z⟩)
 ·exact .inr h
section
variable {P:Program}{w:World}{K:aaa}{mg:Str->Option Value}{base:Heap}
theorem Fun.okRC {x qual:Str}{st:Stmt}{f c:Addr}{fd:FuncData}{N ps:List Str}{k:Nat}{sp:Sp} (F:Fun K x qual st f fd) (hc:fd.code=.ref c) (S:FnScope N ps (aM st)) (len:∀ vs H Q E,sp vs H Q E->vs.length=ps.length)
  (hbody:∀ (A:Around) (outer:List Env) (s:Shared) (H:Hp) (vs:List V) (Q:VK) (E:XK),Room k (A.deeper (PyProof.Rows.envOfC qual (aM st) s.heap.objs.size f (.ref c)))->sp vs H Q E->
   Leaves (lU (uJ P w) P w K mg base N qual (aM st) f (.ref c) A outer s H E) E->
   ∃ t,sR (lU (uJ P w) P w K mg base N qual (aM st) f (.ref c) A outer s H E) (bE st) t/\t { nx:=λ _ H'=>Q .non H',rt:=Q } (start N vs) H):FnOk P w K mg base (uJ P w) (k+1) f fd ps sp:=by
 obtain⟨oc,od,kV,doc,pm,an,cdv,ct,osl,rfl,lk,hcd⟩:=F.ex
 obtain rfl:cdv=.ref c:=hc
 exact EC lk hcd S len λ A outer s H vs Q E hr hsp=>hbody A outer s H vs Q E hr hsp ⟨rfl,rfl,rfl,λ _ _ h=>h⟩
end
theorem eO {H H':Hp}{t Pt:Addr}{pos:Pos}{q:Str} (h:dX H Pt pos q) (b:cP t H H') (hm:kR (H t)):dX H' Pt pos q:=by
 rcases h with h | ⟨c,oc,vs,tk,h1,h2,h3⟩
 ·exact .inl (b _ _ (λ z=>by rw[<- z,h] at hm;exact hm) h)
 ·exact .inr ⟨c,oc,vs,tk,b _ _ (λ z=>by rw[<- z,h1] at hm;exact hm) h1,b _ _ (λ z=>by rw[<- z,h2] at hm;exact hm) h2,h3⟩
theorem SmT.tape {H H':Hp}{Pt t sl:Addr}{pos:Pos}{q:Str} (a:SmT Pt pos q H H') (h:dU H t sl):dU H' t sl:=by
 obtain⟨ns,p,cell,e,f,g⟩:=h
 exact⟨ns,p,cell,a.get e (λ ps z=>by cases z),a.get f (λ ps z=>by cases z),g⟩
end Tw
namespace L2
open PySem PySem.Spec PyProof.Rows TwZ
open PySem.W (envX CodeHd tabObj)
section
variable {P:Program}{w:World}{K:aaa}{mg:Str->Option Value}{base:Heap}{k nl:Nat}{f c:Addr}{name qual:Str}{params:Arguments}{body:List Stmt}{scope:Scope}{cl:List (Str×Addr)}{pm ctv doc:Value}{oc:Obj}{sp:Sp}{s:Shared}{N ps:List Str}{fv:List V}
theorem BJ (S:LamScope N ps scope cl) (len:∀ vs H Q,sp vs H Q E0->vs.length=ps.length) (hl:N.length=ps.length+nl+fv.length)
  (hoc:∃ vs t,oc.data=.fields vs/\vs[1]? = some (.str qual t)) (hbind:∀ us:List Value,us.length=ps.length->bindArgs (PySem.W.fnX name qual params body scope cl .none .none doc pm none (.ref c) ctv) ⟨us,[]⟩=pure (ps.zip us))
  (hcells:∀ y c,cl.lookup y=some c->∃ v,s.heap.IsCell c v) (hfv:∀ (i:Nat) (y:Str) (v:V),N[ps.length+nl+i]? = some y->fv[i]? = some v->scope.names.lookup y=some .free/\∃ c u,cl.lookup y=some c/\s.heap.IsCell c (some u)/\bN v u)
  (hbody:∀ (A:Around) (outer:List Env) (s':Shared) (H':Hp) (vs:List V) (Q:VK),Room k (A.deeper (envX qual scope s'.heap.objs.size f (.ref c) cl))->sp vs H' Q E0->
   ∃ t,sR (BL P w K mg base N qual scope f (.ref c) cl A outer s' H') body t/\t { nx:=λ _ H''=>Q .non H'',rt:=Q } (vs.map some++(List.replicate nl none++fv.map some)) H') :
  BW P w K mg base (k+1) f c (PySem.W.fnMade name qual params body scope cl doc pm c ctv) oc cl sp s:=by
 intro A outer s' H' us vs Q hr e0 hf ck r hsp
 have hlen:=len _ _ _ hsp
 have hul:us.length=ps.length:=by rw[<- r.length];exact hlen
 obtain⟨ef,_⟩:=(show cC P w H' s'.heap f (.frz _ (.own f)) from e0.hok f _ hf.fn)
 obtain⟨ec,_⟩:=(show cC P w H' s'.heap c (.frz _ (.own c)) from e0.hok c _ hf.cd)
 have lim:s'.heap.NoLimit:=e0.mod.nolimit.keeps λ b o e=>(e0.bs b o e).1
 have cellK:∀ {y:Str}{a:Addr}{v:Option Value},cl.lookup y=some a->s.heap.IsCell a v->s'.heap.IsCell a v:=λ {y a v} h1 h2=>by
  have hm:a∈cl.map (·.2):=abf.2 ⟨(y,a),PySem.mem_of_lookup h1,rfl⟩
  obtain⟨o,e1,e2⟩:=h2
  exact⟨o,ck.keep a hm o e1,e2⟩
 obtain⟨vs0,t0,hd0,hv0⟩:=hoc
 refine codeAny_call_function hr.depth ef rfl S.co S.gen rfl ⟨c,oc,vs0,t0,rfl,ec,hd0,hv0⟩ ?_
 rw[hbind us hul]
 have ndP:ps.Nodup:=by rw[<- S.pre];exact S.nd.sublist (List.take_sublist _ _)
 refine wpAny_pure (wpAny_newFunctionEnv S.nocell (λ y hy=>S.par _ (List.of_mem_zip hy).1) (λ h₁ hns hsb=>⟨lim.fresh _ hsb,?_⟩) S.kind)
 show codeAny _ _ (.func body (envX qual scope s'.heap.objs.size f (.ref c) cl)) _ _
 refine codeAny_func ?_
 have cw:∀ b o,s'.heap.get? b=some o->h₁.get? b=some o:=λ b o e=>hsb.extBut b o (aat (aai e)) (aab _ e)
 obtain⟨te,hte,hq⟩:=hbody A outer s' H' vs Q (hr.deeper _) hsp
 have I:Inv (BL P w K mg base N qual scope f (.ref c) cl A outer s' H') [] (vs.map some++(List.replicate nl none++fv.map some)) H' { s' with heap:=h₁,toks:=s'.toks+(ps.zip us).length }:=by
  have noA:∀ b:Addr,b∉(BL P w K mg base N qual scope f (.ref c) cl A outer s' H').ex:=λ b z=>absurd (show b∈([]:List Addr) from z) (by simp)
  refine⟨⟨e0.mod,S.kind,rfl,rfl,Nat.le_refl _,λ y z a h1 h2=>?_,λ y hy=>?_,λ y a h _=>absurd (show (false:Bool)=true from h) aaf,λ _=>hr.hd,Around.frames_deeper e0.frames,.inr ⟨rfl,rfl⟩,λ b z=>absurd z (noA b),e0.bs,e0.bsz,λ b _ _=>noA b,λ b z=>absurd z (noA b),e0.funs,e0.frf⟩,
   rfl,e0.bare,Un.kept cw,⟨_,hns,λ i y v h1 h2 h3=>?_⟩,λ y a h=>?_,e0.hok.fresh (Nat.le_refl _),λ y a h=>?_,λ p hp=>absurd (show p∈([]:List (Addr×Obj)) from hp) (by simp),e0.hok.kept cw,?_⟩
  ·exact name_of_addr S.apart (PySem.mem_of_lookup h1) (PySem.mem_of_lookup h2)
  ·have hy:scope.names.lookup y=some .cell\/scope.names.lookup y=some .free:=hy
   rcases hy with hy | hy
   ·exact absurd rfl (S.nocell _ (PySem.mem_of_lookup hy))
   ·exact S.frees y hy
  ·by_cases hi:i < vs.length
   ·rw[aba (by simpa using hi),aah] at h2
    obtain⟨a,ha,e⟩:=aaq.mp h2
    cases e
    obtain⟨u,hu,rv⟩:=r.get ha
    have hp:ps[i]? = some y:=by
     rw[<- S.pre,List.getElem?_take_of_lt (by omega)];exact h1
    exact⟨u,rv,.inl ⟨S.par y (aan hp),oP ndP hp hu⟩⟩
   ·rw[abq (by simpa using hi),aac] at h2
    have hge:nl<=i - vs.length:=by
     rcases Nat.lt_or_ge (i - vs.length) nl with c | c
     ·rw[aba (by rw[abc];exact c),List.getElem?_replicate,if_pos c] at h2
      cases h2
     ·exact c
    rw[abq (by rw[abc];exact hge),abc,aah] at h2
    obtain⟨a,ha,e⟩:=aaq.mp h2
    cases e
    obtain⟨hk,a,u,h4,h5,rv⟩:=hfv (i - vs.length - nl) y v (by rw[show ps.length+nl+(i - vs.length - nl)=i by omega];exact h1) ha
    obtain⟨o,e1,e2⟩:=cellK h4 h5
    exact⟨u,rv,.inr ⟨.inr hk,a,h4,o,cw _ _ e1,e2⟩⟩
  ·obtain⟨v,hv⟩:=hcells y a h
   obtain⟨o,e1,e2⟩:=cellK h hv
   exact⟨v,o,cw _ _ e1,e2⟩
  ·exact ck.free a (abf.2 ⟨(y,a),PySem.mem_of_lookup h,rfl⟩)
  ·show _=N.length
   rw[aak,aak,abc,aac,aac]
   omega
 refine wpAny_mono (hte [] _ _ H' _ I hq) (λ fl s'' hs=>?_) λ e s'' z=>z.elim
 cases fl with
 | ret u=>
  obtain⟨v,ac,H'',J,rv,q⟩:=hs
  exact⟨v,H'',J.os,J.bare,J.base,J.hok,rv,q⟩
 | next=>
  obtain⟨ac,H'',J,q⟩:=hs
  exact⟨V.non,H'',J.os,J.bare,J.base,J.hok,rfl,q⟩
 | brk=>
  obtain⟨_,_,_,q⟩:=hs
  exact False.elim q
 | cont=>
  obtain⟨_,_,_,q⟩:=hs
  exact False.elim q
end
noncomputable def tDef (i:Nat) (Pt:Addr) (pos:Pos) (q:Str) (mk:Addr->Value->Value->Obj):TS:=λ D σ H=>dX H Pt pos q/\∀ (f c:Addr) (oc:Obj) (ctv doc:Value) (H':Hp),H f=none->IK Pt H H'->dX H' Pt pos q->FnH H' f c (mk c ctv doc) oc->(∃ vs t,oc.data=.fields vs/\vs[1]? = some (.str q t))->D.nx (σ.set i (some (.ref f))) H'
section
variable {X:Cx}
theorem FF {name:Str}{params:Arguments}{body:List Stmt}{scope:Scope}{pos:Pos}{c Pt:Addr}{clos:List (Str×Addr)}{i:Nat} (hN:X.N.Nodup) (hi:X.N[i]? = some name) (hloc:X.env.scope.names.lookup name=some .local) (hd1:params.defaults=[]) (hd2:params.kw_defaults=[]) (hd3:annTrees params none X.env=[]) (hcl:closureFor scope X.env=pure clos) (hcode:X.env.code=.ref c) (NB:NestB X.mg X.base c Pt) :
  PS X (.FunctionDef name params body [] none [] scope none name pos) (tDef i Pt pos (qualnameIn X.env name name) λ c' ctv doc=>PySem.W.fnMade name (qualnameIn X.env name name) params body scope clos doc ((X.mg "__name__").getD .none) c' ctv):=by
 intro pins s σ H D I h
 obtain⟨tab,h⟩:=h
 refine PySem.W.nestDef_K hd1 hd2 hd3 ?_
 have tf:∃ ps,H Pt=some (.tbl ps):=tab.some
 have neB:∀ b o,X.base.get? b=some o->b≠Pt:=λ b o e z=>by
  obtain⟨ps,hp⟩:=tf
  have:=(I.bs b o e).2
  rw[z,hp] at this;cases this
 have hgs:=I.mod.glob.keeps I.bk
 have hgP:mainGlobals≠Pt:=by
  obtain⟨o,es,ep,e,_⟩:=I.mod.glob
  exact neB _ _ e
 obtain⟨bm,ob,b1,b2,b3,b4,b5,b6,b7⟩:=NB.bm
 have hb:s.heap.BuiltinsAt X.mg Pt:=⟨bm,ob,b1,b2,b3,neB _ _ b4,I.bk _ _ b4,b5,b6,b7⟩
 rcases tab with e | ⟨c',oc,vs,t,e,ec,d1,d2⟩
 ·have hP:s.heap.get? Pt=some (tabObj #[]):=(show cC X.prog X.w H s.heap Pt (.tbl #[]) from I.hok Pt _ e)
  refine PySem.W.makeFunction_K (mg:=X.mg) hcl I.ok.glob hgs hcode (NB.hd.keeps I.bk) hP trivial rfl hgP hb λ c' ctv doc h' tk hx hge hlt hrec htb=>?_
  obtain⟨c2,oc,vs,t,e2,hoc,d1,d2⟩:=hrec
  cases e2
  have hcn:H c'=none:=I.hok.fresh hge
  have hPc:Pt≠c':=λ z=>by rw[<- z,e] at hcn;cases hcn
  have htb':h'.get? Pt=some (tabObj #[rawInt pos.line,rawInt pos.col,.ref c']):=by simpa using htb
  have J:Inv X pins σ (upd (upd H Pt (.tbl #[rawInt pos.line,rawInt pos.col,.ref c'])) c' (.frz oc (.own c'))) { s with heap:=h',toks:=tk }:=by
   have oth:∀ {b:Addr}{o:HO},H b=some o->b≠Pt->upd (upd H Pt (.tbl #[rawInt pos.line,rawInt pos.col,.ref c'])) c' (.frz oc (.own c')) b=some o:=λ {b o} q hb=>by
    rw[aO (aL q hcn),aO hb];exact q
   refine I.call (h':=h') (g':=s.gens) (d':=s.drawn) (t':=tk) (ch:=[]) ?_ ?_ I.bare (λ b z=>absurd z (by simp))
   ·refine⟨λ b o q n _ _=>hx b o (λ z=>by rw[z,e] at n;cases n) q,λ b o q n _ _=>⟨o.slots,hx b o (λ z=>by rw[z,e] at n;cases n) q⟩,λ b o q n _=>?_,λ b o q _=>?_,λ b xs q=>oth q (λ z=>by rw[z,e] at q;cases q),λ b o u q=>oth q (λ z=>by rw[z,e] at q;cases q),λ b ps q=>?_⟩
    ·rw[aO (aat (aal (aai q) hge)),aO (λ z=>by rw[z,e] at n;cases n)];exact n
    ·by_cases hb':b=Pt
     ·subst hb';exact⟨_,htb'⟩
     ·exact⟨o,hx b o hb' q⟩
    ·by_cases hb':b=Pt
     ·subst hb'
      rw[e] at q
      cases q
      exact⟨#[rawInt pos.line,rawInt pos.col,.ref c'],by rw[aO hPc,aB];simp⟩
     ·exact⟨#[],by rw[oth q hb'];simp⟩
   ·intro b u q
    by_cases hbc:b=c'
    ·subst hbc
     rw[aB] at q;cases q
     exact⟨hoc,oc,hoc⟩
    ·rw[aO hbc] at q
     by_cases hb':b=Pt
     ·subst hb'
      rw[aB] at q;cases q
      exact htb'
     ·rw[aO hb'] at q
      refine (I.hok b u q).stay (λ d o hd r=>hx d o (λ z=>?_) r) (λ d r=>oth r (λ z=>by rw[z,e] at r;cases r)) λ d xs r=>oth r (λ z=>by rw[z,e] at r;cases r)
      rcases hd with rfl | hd
      ·exact hb' z
      ·rw[z,e] at hd;cases hd
  have J2:=Inv.frzNew (tk:=tk) (ob:=PySem.W.fnMade name (qualnameIn X.env name name) params body scope clos doc ((X.mg "__name__").getD .none) c' ctv) J (h':=h') (λ b o q=>q) (Nat.le_refl _)
  have hfc:c'≠h'.objs.size:=aat hlt
  have hfP:Pt≠h'.objs.size:=aat (aai htb')
  have hfn:H h'.objs.size=none:=I.hok.fresh (abp hge (aca hlt))
  refine eU J2 hN hi (.inl hloc) (v:=.ref h'.objs.size) rfl (λ s3 J3=>⟨_,_,J3,h h'.objs.size c' oc ctv doc _ hfn (λ b o hb' q=>?_) (.inr ⟨c',oc,vs,t,?_,?_,d1,d2⟩) ⟨aB,?_⟩ ⟨vs,t,d1,d2⟩⟩) (.inr hloc)
  ·rw[aO (aL q hfn),aO (aL q hcn),aO hb'];exact q
  ·rw[aO hfP,aO hPc,aB]
  ·rw[aO hfc,aB]
  ·rw[aO hfc,aB]
 ·have hP:s.heap.get? Pt=some (tabObj #[rawInt pos.line,rawInt pos.col,.ref c']):=(show cC X.prog X.w H s.heap Pt (.tbl #[rawInt pos.line,rawInt pos.col,.ref c']) from I.hok Pt _ e)
  refine PySem.W.makeFunction_hit (mg:=X.mg) hcl I.ok.glob hgs hcode (NB.hd.keeps I.bk) hP (show TriplesOk [rawInt pos.line,rawInt pos.col,.ref c'] from trivial) (show codeAmong pos [rawInt pos.line,rawInt pos.col,.ref c']=some (.ref c') by simp [codeAmong,rawInt]) hb λ ctv doc h' tk hk hsz=>?_
  have J2:=Inv.frzNew (tk:=tk) (ob:=PySem.W.fnMade name (qualnameIn X.env name name) params body scope clos doc ((X.mg "__name__").getD .none) c' ctv) I (h':=h') hk hsz
  have hfn:H h'.objs.size=none:=I.hok.fresh hsz
  have s1:=aF.new (o:=HO.frz (PySem.W.fnMade name (qualnameIn X.env name name) params body scope clos doc ((X.mg "__name__").getD .none) c' ctv) (.own h'.objs.size)) hfn
  exact eU J2 hN hi (.inl hloc) (v:=.ref h'.objs.size) rfl (λ s3 J3=>⟨_,_,J3,h h'.objs.size c' oc ctv doc _ hfn (λ b o _ q=>s1 _ _ q) (.inr ⟨c',oc,vs,t,s1 _ _ e,s1 _ _ ec,d1,d2⟩) ⟨aB,s1 _ _ ec⟩ ⟨vs,t,d1,d2⟩⟩) (.inr hloc)
end
end L2
namespace Tw
open PySem L2
noncomputable abbrev iL:=Sta×Sta
noncomputable def cL (q:iL):L2.D:=.tup [dO q.1,dO q.2]
noncomputable def n5 (A B:Net) (q:iL) (a:Int):iL:=(q.1.nxA A a,q.2.nxA B a)
noncomputable def iK (A B:Net) (i j:Int) (q:iL) (a:Int):Bool:=!decide (V.bl (xE A i q.1 a)=V.bl (xE B j q.2 a))
noncomputable def yP (A B:Net) (q:iL):Prop:=pB A q.1/\pB B q.2
noncomputable def o8 (A B:Net):L2.D:=.tup [shN A,shN B]
theorem lO {K:aaa}{H:Hp}{A B:Net}{q:iL}{v:V} (ok:yP A B q) (h:Is K H (cL q) v):KeyD K H (o8 A B) (cL q) v:=by
 refine⟨?_,?_,?_,h,?_⟩
 ·show sh (.tup [dO q.1,dO q.2])=_
  rw[sh,jO,jO,jO,zK ok.1,zK ok.2];rfl
 ·show (L2.D.tup [.tup [.tup (q.1.held.map L2.D.int),.tup (q.1.coming.map L2.D.int),.tup (q.1.doors.map L2.D.bl)],.tup [.tup (q.2.held.map L2.D.int),.tup (q.2.coming.map L2.D.int),.tup (q.2.doors.map L2.D.bl)]]).depth<=7
  rw[L2.D.depth,cE,cE,cE,L2.D.depth,L2.D.depth,uC,uC];decide
 ·show eJ (.tup [dO q.1,dO q.2])
  rw[eJ,cX,cX,cX]
  exact⟨qC _,qC _,trivial⟩
 ·obtain⟨a,xs,rfl,_⟩:=(show Is K H (.tup [dO q.1,dO q.2]) v from h).un
  exact⟨a,rfl⟩
theorem uQ {K:aaa}{H:Hp}{q:iL}{v:V} (h:Is K H (cL q) v):∃ (a:Addr) (x y:V),v=.ref a/\bD K H a [x,y]/\Is K H (dO q.1) x/\Is K H (dO q.2) y:=by
 obtain⟨a,xs,rfl,hq,l⟩:=(show Is K H (.tup [dO q.1,dO q.2]) v from h).un
 rw[L2.IsL] at l
 obtain⟨x,r,rfl,h1,l⟩:=l
 rw[L2.IsL] at l
 obtain⟨y,r,rfl,h2,l⟩:=l
 rw[L2.IsL] at l
 subst l
 exact⟨a,x,y,rfl,hq,h1,h2⟩
noncomputable abbrev fC (A B:Net) (i j:Int) (most:Nat):BRes iL:=CB cL (n5 A B) (iK A B i j) most 300 (cR A,cR B)
structure NdP (N:List Str):Prop where
 nd:N.Nodup
structure TxtP (mg:Str->Option Value):Prop where
 g_MOST_PAIRS:∃ u,mg "MOST_PAIRS" = some u/\bN (.int 300) u
noncomputable def IB (i:Nat) (st:Stmt):Pos:=match (bE st)[i]? with
 | some (.FunctionDef _ _ _ _ _ _ _ _ _ p)=>p
 | _=>⟨0,0,0,0⟩
noncomputable def i6:Pos:=IB 0 (bK 24)
noncomputable def rL:Str:=(("alike" : Str)++(".<locals>." : Str))++("step" : Str)
section
variable {P:Program}{w:World}{K:aaa}{mg:Str->Option Value}{base:Heap}{c_TipError c_NoNet c_NoVessel c_TooLong c_TooMany c_TooMuch c_Nothing c_NoText c_NoRow:Addr}
noncomputable def rE (K:aaa) (Pt:Addr) (cM:Addr):Sp:=λ vs H Q E=>∃ (x y:V) (A B:Net) (i j:Int) (most:Nat),vs=[x,y,.int i,.int j,.int most]/\Is K H (dY A) x/\Is K H (dY B) y/\NetOk A/\NetOk B/\most<=1000/\dX H Pt i6 rL/\
  (∀ row fs,fC A B i j most=.ends row fs->∀ p rl H',SmT Pt i6 rL H H'->bD K H' p [.str "parted",.ref rl]->H' rl=some (.lst (row.map V.int))->H rl=none->row.length<=2000->Q (.ref p) H')/\
  (fC A B i j most=.many->∀ H',SmT Pt i6 rL H H'->E (.ref cM) none H')/\
  (∀ fs,fC A B i j most=.on fs->∀ p fl us H',SmT Pt i6 rL H H'->bD K H' p [.str "alike",.ref fl]->H' fl=some (.lst us)->H fl=none->Paired (λ (p:iL×List Int) v=>KeyD K H' (o8 A B) (cL p.1) v) fs us->(∀ q∈fs,yP A B q.1)->fs.length<=300->Q (.ref p) H')
theorem tF:FnScope ["net","other","one","two","most","step","row","pairs"] ["net","other","one","two","most"] (aM (bK 24)):=⟨rfl,rfl,rfl,by decide +kernel,rfl,by decide +kernel,by decide +kernel⟩
theorem AE {f f2 f3 f4 c Pt:Addr}{fd fd2 fd3 fd4:FuncData} (F:Fun K "alike" "alike" (bK 24) f fd) (T:Txt mg) (hcode:fd.code=.ref c) (NB_alike:NestB mg base c Pt) (U:TxtP mg)
  (G_first_state:Callee P w K mg base "first_state" ["net"] 1 (gI K) f2 fd2)
  (G_watch:Callee P w K mg base "watch" ["net","state","vessel","amount"] 5 (qV K) f3 fd3) (G_go_through:CalleeS P w K mg base "go_through" ["first","step","most","limit"] 7 (zG P w K mg base c_TooMany cL) f4 fd4) :
  FnOk P w K mg base (uJ P w) 8 f fd ["net","other","one","two","most"] (rE K Pt c_TooMany):=by
 refine Fun.okRC F hcode tF (λ vs H Q E h=>?_) (λ A outer s H vs Q E hr h L=>?_)
 ·obtain⟨x,y,N1,N2,i,j,most,rfl,_⟩:=h;rfl
 ·obtain⟨x,y,N1,N2,i,j,most,rfl,hx,hy,nok,mok,hm,tab,kE,kM,kO⟩:=h
  have sc:=tF
  refine⟨_,(aD (FF (i:=5) sc.nd rfl rfl rfl rfl rfl rfl rfl NB_alike)
   (aD (cN (A7 G_go_through.ok (hr.mono (by decide)) rfl G_go_through.mg G_go_through.kp G_go_through.bd (D7 L) rfl rfl (λ _=>rfl) (aA (aV (aA (d5 G_first_state hr (aA (pv 0) aC)) (aA (d5 G_first_state hr (aA (pv 1) aC)) aC))) (aA (pv 5) (aA (pv 4) (aA (eX rfl U.g_MOST_PAIRS) aC))))) (bJ (K:=K) (n:=2) rfl rfl (aG (aH (i:=6) sc.nd rfl (Or.inl rfl)) (aG (aH (i:=7) sc.nd rfl (Or.inl rfl)) bF))))
   (aD (cF (bB rP (pv 6) eQ (bH _)) (aK (bC (aV (aA cH (aA (pv 7) aC))))) bL)
   (aK (bC (aV (aA cH (aA (pv 6) aC)))))))),?_⟩
  refine⟨tab,λ fa ca oc ctv doc H2 hfa bt tab2 fnh hoc=>?_⟩
  have sT:SmT Pt i6 rL H H2:=⟨bt,tab,tab2⟩
  have hx2:=Is.mono sT.ts _ _ hx
  have hy2:=Is.mono sT.ts _ _ hy
  refine⟨_,rfl,x,N1,rfl,hx2,nok,λ s1 H3 m3 h3=>⟨_,rfl,y,N2,rfl,Is.mono m3.ts _ _ hy2,mok,λ s2 H4 m4 h4=>⟨(show 2<=sizeLine by decide),λ pp hpp=>⟨_,rfl,_,rfl,λ s1' cf=>?_⟩⟩⟩⟩
  have s24:=m3.trans (m4.trans (aF.new (o:=HO.tup [s1,s2]) hpp))
  have sT5:=sT.step s24
  have ipp:Is K (upd H4 pp (.tup [s1,s2])) (cL (cR N1,cR N2)) (.ref pp):=Is.tupOf (ds:=[dO (cR N1),dO (cR N2)]) (bD.of aB) (.cons (Is.mono (m4.trans (aF.new hpp)).ts _ _ h3) (.cons (Is.mono (aF.new hpp).ts _ _ h4) .nil))
  generalize upd H4 pp (.tup [s1,s2])=H5 at s24 sT5 ipp cf ⊢
  have fnh5:=fnh.same s24
  obtain⟨X,hX⟩:∃ X,X=lU (uJ P w) P w K mg base ["net","other","one","two","most","step","row","pairs"] "alike" (aM (bK 24)) f (.ref c) A outer s H E:=⟨_,rfl⟩
  rw[<- hX] at cf
  have c1:X.env.cells.lookup ("net" : Str)=some (s.heap.objs.size+1):=by rw[hX];rfl
  have c2:X.env.cells.lookup ("other" : Str)=some (s.heap.objs.size+1+1):=by rw[hX];rfl
  have c3:X.env.cells.lookup ("one" : Str)=some (s.heap.objs.size+1+1+1):=by rw[hX];rfl
  have c4:X.env.cells.lookup ("two" : Str)=some (s.heap.objs.size+1+1+1+1):=by rw[hX];rfl
  have val:∀ (n:Nat) (z:Str) (u:V) (a:Addr),X.N[n]? = some z->(L2.start ["net","other","one","two","most","step","row","pairs"] [x,y,.int i,.int j,.int most] |>.set 5 (some (.ref fa)))[n]? = some (some u)->X.env.scope.names.lookup z=some .cell->X.env.cells.lookup z=some a->∃ w',s1'.heap.IsCell a (some w')/\bN u w':=λ n z u a h1 h2 h3 h4=>by
   obtain⟨c',w',h5,h6,h7⟩:=cf.val n z u h1 h2 h3
   rw[h4] at h5;cases h5
   exact⟨w',h6,h7⟩
  refine⟨n5 N1 N2,iK N1 N2 i j,yP N1 N2,λ H=>Is K H (dY N1) x/\Is K H (dY N2) y,o8 N1 N2,.ref pp,fa,ca,_,oc,[("two",s.heap.objs.size+1+1+1+1),("other",s.heap.objs.size+1+1),("one",s.heap.objs.size+1+1+1),("net",s.heap.objs.size+1)],most,300,(cR N1,cR N2),rfl,by decide,by decide,hm,ipp,⟨fE N1,fE N2⟩,⟨λ d a h _=>⟨iZ nok h.1 a,iZ mok h.2 a⟩,λ d h H v e=>lO h e,λ H H' t h=>⟨Is.mono t _ _ h.1,Is.mono t _ _ h.2⟩⟩,⟨Is.mono s24.ts _ _ hx2,Is.mono s24.ts _ _ hy2⟩,fnh5,⟨_,_,_,_,rfl⟩,?_,?_,?_,?_,?_⟩
  ·have four:∀ (z:Str) (c':Addr),List.lookup z [(("two" : Str),s.heap.objs.size+1+1+1+1),(("other" : Str),s.heap.objs.size+1+1),(("one" : Str),s.heap.objs.size+1+1+1),(("net" : Str),s.heap.objs.size+1)]=some c'->X.env.cells.lookup z=some c':=λ z c' h=>by
    have:=PySem.mem_of_lookup h
    rcases List.mem_cons.1 this with q | this
    ·injection q with q1 q2;subst q1 q2;exact c4
    rcases List.mem_cons.1 this with q | this
    ·injection q with q1 q2;subst q1 q2;exact c2
    rcases List.mem_cons.1 this with q | this
    ·injection q with q1 q2;subst q1 q2;exact c3
    ·rw[aaw] at this;injection this with q1 q2;subst q1 q2;exact c1
   refine BJ (nl:=4) (N:=["pair","amount","state","tips","other_state","other_tips","net","one","other","two"]) (ps:=["pair","amount"]) (fv:=[x,.int i,y,.int j]) ⟨rfl,rfl,rfl,by decide +kernel,rfl,by decide +kernel,by decide +kernel,?_,?_⟩ ?_ rfl hoc ?_ ?_ ?_ ?_
   ·intro z hz
    have:=PySem.mem_of_lookup hz
    simp only [List.mem_cons,Prod.mk.injEq,reduceCtorEq,and_false,and_true,false_or,or_false,List.not_mem_nil] at this
    rcases this with rfl | rfl | rfl | rfl <;> exact⟨_,rfl⟩
   ·refine List.Pairwise.cons (λ z hz=>?_) (List.Pairwise.cons (λ z hz=>?_) (List.Pairwise.cons (λ z hz=>?_) (List.pairwise_singleton _ _)))
    ·show s.heap.objs.size+1+1+1+1≠z.2
     simp only [List.mem_cons,List.not_mem_nil,or_false] at hz
     rcases hz with rfl | rfl | rfl <;> (dsimp only;omega)
    ·show s.heap.objs.size+1+1≠z.2
     simp only [List.mem_cons,List.not_mem_nil,or_false] at hz
     rcases hz with rfl | rfl <;> (dsimp only;omega)
    ·show s.heap.objs.size+1+1+1≠z.2
     simp only [List.mem_cons,List.not_mem_nil,or_false] at hz
     subst hz;dsimp only;omega
   ·rintro vs H' Q' ⟨x',d,a,rfl,_⟩;rfl
   ·intro us hus
    obtain⟨u1,u2,rfl⟩:∃ u1 u2,us=[u1,u2]:=by
     match us,hus with
     | [u1,u2],_=>exact⟨u1,u2,rfl⟩
    rfl
   ·intro z c' h
    exact cf.cell _ _ (four z c' h)
   ·intro n z u h1 h2
    match n,h1,h2 with
    | 0,h1,h2=>
     cases h1;cases h2
     obtain⟨w',h4,h5⟩:=val 0 "net" x _ (by rw[hX];rfl) rfl (by rw[hX];rfl) c1
     exact⟨rfl,_,w',rfl,h4,h5⟩
    | 1,h1,h2=>
     cases h1;cases h2
     obtain⟨w',h4,h5⟩:=val 2 "one" (.int i) _ (by rw[hX];rfl) rfl (by rw[hX];rfl) c3
     exact⟨rfl,_,w',rfl,h4,h5⟩
    | 2,h1,h2=>
     cases h1;cases h2
     obtain⟨w',h4,h5⟩:=val 1 "other" y _ (by rw[hX];rfl) rfl (by rw[hX];rfl) c2
     exact⟨rfl,_,w',rfl,h4,h5⟩
    | 3,h1,h2=>
     cases h1;cases h2
     obtain⟨w',h4,h5⟩:=val 3 "two" (.int j) _ (by rw[hX];rfl) rfl (by rw[hX];rfl) c4
     exact⟨rfl,_,w',rfl,h4,h5⟩
    | n+4,h1,h2=>simp at h2
   ·rintro A' outer' s' H' vs Q' hr ⟨v,d,a,rfl,hv,okd,ha,⟨g1,g2⟩,kk⟩
    have sc:NdP ["pair","amount","state","tips","other_state","other_tips","net","one","other","two"]:=⟨by decide +kernel⟩
    refine⟨_,(aD (cN (d5 G_watch hr (aA (pv 6) (aA (aQ (aJ (K:=K) rfl) (pv 0) aE (λ _ _=>rfl)) (aA (pv 7) (aA (pv 1) aC))))) (bJ (K:=K) (n:=2) rfl rfl (aG (aH (i:=2) sc.nd rfl (Or.inl rfl)) (aG (aH (i:=3) sc.nd rfl (Or.inl rfl)) bF))))
   (aD (cN (d5 G_watch hr (aA (pv 8) (aA (aQ (aJ (K:=K) rfl) (pv 0) aE (λ _ _=>rfl)) (aA (pv 9) (aA (pv 1) aC))))) (bJ (K:=K) (n:=2) rfl rfl (aG (aH (i:=4) sc.nd rfl (Or.inl rfl)) (aG (aH (i:=5) sc.nd rfl (Or.inl rfl)) bF))))
   (aK (bC (aV (aA (aV (aA (pv 2) (aA (pv 4) aC))) (aA (eD jX (pv 3) (pv 5) (bH _)) aC))))))),?_⟩
    obtain⟨pa,x1,x2,rfl,qpa,i1,i2⟩:=uQ hv
    refine⟨_,rfl,_,rfl,.inr (.inl ⟨pa,_,0,_,rfl,rfl,qpa,rfl,_,rfl,_,rfl,x,x1,N1,d.1,i,a,rfl,g1,i1,nok,okd.1,λ p b H7 s7 q7 j7=>?_⟩)⟩
    refine⟨p,_,rfl,q7,rfl,_,_,rfl,_,_,rfl,rfl,?_⟩
    refine⟨_,rfl,_,rfl,.inr (.inl ⟨pa,_,1,_,rfl,rfl,s7.tup qpa,rfl,_,rfl,_,rfl,y,x2,N2,d.2,j,a,rfl,Is.mono s7.ts _ _ g2,Is.mono s7.ts _ _ i2,mok,okd.2,λ p' b' H8 s8 q8 j8=>?_⟩)⟩
    refine⟨p',_,rfl,q8,rfl,_,_,rfl,_,_,rfl,rfl,?_⟩
    refine⟨_,rfl,_,rfl,(show 2<=sizeLine by decide),λ p3 hp3=>⟨_,rfl,_,rfl,rfl,(show 2<=sizeLine by decide),λ p4 hp4=>?_⟩⟩
    have s9:=aF.new (o:=HO.tup [b,b']) hp3
    have s10:=aF.new (o:=HO.tup [.ref p3,.bl (iK N1 N2 i j d a)]) hp4
    refine kk p4 (.ref p3) _ (((s7.trans s8).trans s9).trans s10) (bD.of aB) ?_
    exact Is.tupOf (ds:=[dO (d.1.nxA N1 a),dO (d.2.nxA N2 a)]) (s10.tup (bD.of aB)) (.cons (Is.mono ((s8.trans s9).trans s10).ts _ _ j7) (.cons (Is.mono (s9.trans s10).ts _ _ j8) .nil))
  ·intro c' hc'
   have hc2:X.env.cells.lookup ("two" : Str)=some c'\/X.env.cells.lookup ("other" : Str)=some c'\/X.env.cells.lookup ("one" : Str)=some c'\/X.env.cells.lookup ("net" : Str)=some c':=by
    have:c'=s.heap.objs.size+1+1+1+1\/c'=s.heap.objs.size+1+1\/c'=s.heap.objs.size+1+1+1\/c'=s.heap.objs.size+1:=by simpa using hc'
    rcases this with rfl | rfl | rfl | rfl
    ·exact .inl c4
    ·exact .inr (.inl c2)
    ·exact .inr (.inr (.inl c3))
    ·exact .inr (.inr (.inr c1))
   have fin:∀ z:Str,X.env.cells.lookup z=some c'->H5 c'=none/\c'∉hJ X.stack/\c' < s1'.heap.objs.size/\∃ o,s1'.heap.get? c'=some o:=λ z hz=>by
    obtain⟨h1,h2,h3⟩:=cf.out _ _ hz
    obtain⟨u,o,h4,_⟩:=cf.cell _ _ hz
    exact⟨h1,h2,h3,o,h4⟩
   rw[hX] at fin
   rw[hX] at hc2
   rcases hc2 with h | h | h | h <;> exact fin _ h
  ·intro row fs e p rl fl H6 s6 qp hrl frl hlen
   refine⟨p,_,rfl,qp,rfl,_,_,rfl,_,_,rfl,rfl,?_⟩
   refine⟨_,rfl,rfl,_,rfl,dP ?_⟩
   refine⟨_,rfl,(show 2<=sizeLine by decide),λ tp htp=>?_⟩
   have s7:=aF.new (o:=HO.tup [.str "parted",.ref rl]) htp
   exact kE row fs e tp rl _ (sT5.step (s6.trans s7)) (bD.of aB) (s7 _ _ hrl) (sT5.free frl) hlen
  ·intro e H6 s6
   exact kM e H6 (sT5.step s6)
  ·intro fs e p fl us H6 s6 qp hfl ffl pr oks hlen
   refine⟨p,_,rfl,qp,rfl,_,_,rfl,_,_,rfl,rfl,?_⟩
   refine⟨_,rfl,rfl,_,rfl,gF ?_⟩
   refine⟨_,rfl,(show 2<=sizeLine by decide),λ tp htp=>?_⟩
   have s7:=aF.new (o:=HO.tup [.str "alike",.ref fl]) htp
   exact kO fs e tp fl us _ (sT5.step (s6.trans s7)) (bD.of aB) (s7 _ _ hfl) (sT5.free ffl) (L2.Paired.mapP pr λ _ _ h=>h.mono s7.ts) oks hlen
end
end Tw
namespace Tw
open PySem L2
section
variable {P:Program}{w:World}{K:aaa}{mg:Str->Option Value}{base:Heap}{c_TipError c_NoNet c_NoVessel c_TooLong c_TooMany c_TooMuch c_Nothing c_NoText c_NoRow:Addr}
noncomputable def kW (K:aaa):Sp:=λ vs H Q _=>∃ (x y:V) (net:Net) (s:Sta) (v a:Int),vs=[x,y,.int a,.int v]/\Is K H (dY net) x/\Is K H (dO s) y/\NetOk net/\pB net s/\
 ∀ p b H',aF H H'->bD K H' p [b,.bl (xE net v s a)]->Is K H' (dO (s.nxA net a)) b->Q (.ref p) H'
theorem lD:FnScope ["net","state","amount","watched","later","tipped","ground"] ["net","state","amount","watched"] (aM (bK 35)):=⟨rfl,rfl,rfl,by decide +kernel,rfl,by decide +kernel,by decide +kernel⟩
theorem rW {f f1:Addr}{fd fd1:FuncData} (F:Fun K "_law_step" "_law_step" (bK 35) f fd) (T:Txt mg) (G__law_tick:Callee P w K mg base "_law_tick" ["net","state","poured","fast"] 2 (qY K) f1 fd1) :
  FnOk P w K mg base iM 3 f fd ["net","state","amount","watched"] (kW K):=by
 refine F.ok lD (λ vs H Q E h=>?_) (λ cdv A outer s H vs Q E hr h=>?_)
 ·obtain⟨x,y,net,s,v,a,rfl,_⟩:=h;rfl
 ·obtain⟨x,y,net,st,v,a,rfl,hx,hy,nok,sok,k⟩:=h
  have sc:=lD
  refine⟨_,(aD (cN (d5 G__law_tick hr (aA (pv 0) (aA (pv 1) (aA (aU kG (bG (aA (pv 2) aC)) (aU FK (bG (aA aE aC)) (aU eY (aR (bA (K:=K) rfl) rfl T.b_len aar (aA (aQ (aJ (K:=K) rfl) (pv 0) aE (λ _ _=>rfl)) aC)) aE))) (aA eQ aC))))) (D5 (K:=K) (n:=3) rfl rfl (aG (aH (i:=4) sc.nd rfl (Or.inl rfl)) (aG (aH (i:=5) sc.nd rfl (Or.inl rfl)) (aG (aH (i:=6) sc.nd rfl (Or.inl rfl)) bF)))))
   (aK (bC (aV (aA (pv 4) (aA (eD (A8 (K:=K) rfl) (pv 3) (pv 5) (by rfl)) aC)))))),?_⟩
  obtain⟨ax,av,as,xs,ys,rfl,qx,qv,lv,qs,ls⟩:=fA hx
  have exl:xs.length=net.vs.length:=by rw[lv.length,aac]
  have nlo:=nok.lo
  have nhi:=nok.hi
  refine⟨_,rfl,_,rfl,_,rfl,(show 1<=sizeLine by decide),λ l1 h1=>⟨(show 1<=sizeLine by decide),λ l2 h2=>?_⟩⟩
  have s2:aF H (upd (upd H l1 (.lst [.int a])) l2 (.lst [.int 0])):=(aF.new h1).trans (aF.new h2)
  have n12:l1≠l2:=aL (show upd H l1 (.lst [.int a]) l1=_ from aB) h2
  have g1:upd (upd H l1 (.lst [.int a])) l2 (.lst [.int 0]) l1=some (.lst [.int a]):=by rw[aO n12];exact aB
  have g2:upd (upd H l1 (.lst [.int a])) l2 (.lst [.int 0]) l2=some (.lst [.int 0]):=aB
  generalize upd (upd H l1 (.lst [.int a])) l2 (.lst [.int 0])=H2 at s2 g1 g2 ⊢
  refine⟨_,rfl,.inr (.inl ⟨ax,_,0,_,rfl,rfl,s2.tup qx,rfl,av,xs,rfl,.inr (s2.tup qv),_,_,rfl,rfl,l2,_,[.int 0],rfl,rfl,g2,by omega,by omega,?_,λ l3 h3=>?_⟩)⟩
  ·rw[sizeLine_eq];show 1 * _<=_;omega
  ·have en:((xs.length:Int) - 1).toNat=net.vs.length - 1:=by omega
   rw[en,zN]
   have s3:aF H2 (upd H2 l3 (.lst ((List.replicate (net.vs.length - 1) (0:Int)).map V.int))):=aF.new h3
   refine⟨l1,l3,_,_,rfl,rfl,s3 _ _ g1,aB,?_,λ l4 h4=>?_⟩
   ·rw[aac,abc,sizeLine_eq];show 1+_<=_;omega
   ·have s4:=s3.trans (aF.new (o:=HO.lst ([.int a]++(List.replicate (net.vs.length - 1) (0:Int)).map V.int)) h4)
    have g4:upd (upd H2 l3 (.lst ((List.replicate (net.vs.length - 1) (0:Int)).map V.int))) l4 (.lst ([.int a]++(List.replicate (net.vs.length - 1) (0:Int)).map V.int)) l4=some (.lst ((a::gH (net.vs.length - 1)).map V.int)):=aB
    generalize upd (upd H2 l3 (.lst ((List.replicate (net.vs.length - 1) (0:Int)).map V.int))) l4 (.lst ([.int a]++(List.replicate (net.vs.length - 1) (0:Int)).map V.int))=H4 at s4 g4 ⊢
    have s24:=s2.trans s4
    refine⟨.ref ax,y,l4,net,st.held,st.coming,a::gH (net.vs.length - 1),st.doors,rfl,Is.mono s24.ts _ _ hx,Is.mono s24.ts _ _ hy,.inr (bT.of g4),nok,sok,oC nok a,λ l p1 p2 H5 s5 hl i1 i2=>?_⟩
    refine⟨l,_,rfl,bT.of hl,rfl,_,_,rfl,_,_,rfl,_,_,rfl,rfl,?_⟩
    obtain⟨tp,txs,rfl,qt,lt⟩:=i2.un
    have et:txs=(st.tkA net a).tip.map λ (j:Nat)=>V.int (j:Int):=by
     have e1:((st.tkA net a).tip.map λ (i:Nat)=>L2.D.int (i:Int))=((st.tkA net a).tip.map λ (i:Nat)=>(i:Int)).map L2.D.int:=by rw[abz];rfl
     have e2:((st.tkA net a).tip.map λ (i:Nat)=>V.int (i:Int))=((st.tkA net a).tip.map λ (i:Nat)=>(i:Int)).map V.int:=by rw[abz];rfl
     have lt':L2.IsL K H5 ((st.tkA net a).tip.map λ (i:Nat)=>L2.D.int (i:Int)) txs:=lt
     rw[e1] at lt'
     rw[e2]
     exact lt'.ints
    subst et
    refine⟨_,rfl,_,rfl,_,rfl,tp,_,rfl,.inr qt,rfl,uA _,(show 2<=sizeLine by decide),λ p hp=>?_⟩
    have s6:=aF.new (o:=HO.tup [p1,.bl (xE net v st a)]) hp
    exact k p p1 _ ((s24.trans s5).trans s6) (bD.of aB) (Is.mono s6.ts _ _ i1)
end
end Tw
namespace Tw
open PySem L2
section
variable {P:Program}{w:World}{K:aaa}{mg:Str->Option Value}{base:Heap}{c_TipError c_NoNet c_NoVessel c_TooLong c_TooMany c_TooMuch c_Nothing c_NoText c_NoRow:Addr}
noncomputable def rC (K:aaa):Sp:=λ vs H Q _=>∃ (x y:V) (N1 N2:Net) (v v':Int) (most:Nat),vs=[x,y,.int v,.int v',.int most]/\Is K H (dY N1) x/\Is K H (dY N2) y/\NetOk N1/\NetOk N2/\most<=1000/\
  (∀ row fs,fC N1 N2 v v' most=.ends row fs->∀ p rl H',aF H H'->H' p=some (.lst [.str "parted",.ref rl])->H' rl=some (.lst (row.map V.int))->Q (.ref p) H')/\
  (fC N1 N2 v v' most=.many->∀ p q H',aF H H'->H' p=some (.lst [.str "many",.ref q])->Q (.ref p) H')/\
  (∀ fs,fC N1 N2 v v' most=.on fs->∀ p q H',aF H H'->H' p=some (.lst [.str "alike",.ref q])->Q (.ref p) H')
theorem jV:FnScope ["net","other","one","two","most","pairs","rows","at","amount","left","right","later"] ["net","other","one","two","most"] (aM (bK 36)):=⟨rfl,rfl,rfl,by decide +kernel,rfl,by decide +kernel,by decide +kernel⟩
theorem pL {f f1 f2:Addr}{fd fd1 fd2:FuncData} (F:Fun K "_law_pairs" "_law_pairs" (bK 36) f fd) (T:Txt mg) (G__law_first:Callee P w K mg base "_law_first" ["net"] 1 (gI K) f1 fd1)
  (G__law_step:Callee P w K mg base "_law_step" ["net","state","amount","watched"] 3 (kW K) f2 fd2):FnOk P w K mg base iM 4 f fd ["net","other","one","two","most"] (rC K):=by
 refine F.ok jV (λ vs H Q E h=>?_) (λ cdv A outer s H vs Q E hr h=>?_)
 ·obtain⟨x,y,N1,N2,v,v',most,rfl,_⟩:=h;rfl
 ·obtain⟨x,y,N1,N2,v,v',most,rfl,hx,hy,nok,mok,hm,kE,kM,kO⟩:=h
  have sc:=jV
  refine⟨_,(aD (aP (i:=5) sc.nd rfl (Or.inl rfl) (bG (aA (aV (aA (d5 G__law_first hr (aA (pv 0) aC)) (aA (d5 G__law_first hr (aA (pv 1) aC)) aC))) aC)))
   (aD (aP (i:=6) sc.nd rfl (Or.inl rfl) (qD (P:=P) (w:=w) (K:=K) rfl rfl rfl hr.units (aQ (aJ (K:=K) rfl) (pv 5) aE (λ _ _=>rfl)) (bG aC)))
   (aD (aP (i:=7) sc.nd rfl (Or.inl rfl) aE)
   (aD (tK PassesOwn.never (bB oH (pv 7) (aR (bA (K:=K) rfl) rfl T.b_len aar (aA (pv 5) aC)) (bH _)) (aD (cS PassesOwn.never rfl (cK rfl T.b_range (aA (aU cB (pv 4) aE) aC)) (aH (i:=8) sc.nd rfl (Or.inl rfl)) (aD (aP (i:=9) sc.nd rfl (Or.inl rfl) (d5 G__law_step hr (aA (pv 0) (aA (aQ (aJ (K:=K) rfl) (aQ (aJ (K:=K) rfl) (pv 5) (pv 7) (λ _ _=>rfl)) aE (λ _ _=>rfl)) (aA (pv 8) (aA (pv 2) aC))))))
   (aD (aP (i:=10) sc.nd rfl (Or.inl rfl) (d5 G__law_step hr (aA (pv 1) (aA (aQ (aJ (K:=K) rfl) (aQ (aJ (K:=K) rfl) (pv 5) (pv 7) (λ _ _=>rfl)) aE (λ _ _=>rfl)) (aA (pv 8) (aA (pv 3) aC))))))
   (aD (cF (bB jX (aQ (aJ (K:=K) rfl) (pv 9) aE (λ _ _=>rfl)) (aQ (aJ (K:=K) rfl) (pv 10) aE (λ _ _=>rfl)) (bH _)) (aK (bC (bG (aA cH (aA (aU kG (aQ (AO (P:=P) (w:=w) (K:=K) rfl rfl rfl hr.units) (pv 6) (aQ (aJ (K:=K) rfl) (pv 5) (pv 7) (λ _ _=>rfl)) (λ _ _=>rfl)) (bG (aA (pv 8) aC))) aC))))) bL)
   (aD (aP (i:=11) sc.nd rfl (Or.inl rfl) (aV (aA (aQ (aJ (K:=K) rfl) (pv 9) aE (λ _ _=>rfl)) (aA (aQ (aJ (K:=K) rfl) (pv 10) aE (λ _ _=>rfl)) aC))))
   (aD (cF (PW.pt (uY (bB (iY (P:=P) (w:=w) (K:=K) rfl rfl rfl hr.units) (pv 11) (pv 6) (by rfl)) (rM (bB g7 (aR (bA (K:=K) rfl) rfl T.b_len aar (aA (pv 5) aC)) aE (bH _))))) (aK (bC (bG (aA cH (aA (bG aC) aC))))) bL)
   (aK (cF (bB (iY (P:=P) (w:=w) (K:=K) rfl rfl rfl hr.units) (pv 11) (pv 6) (by rfl)) (aD (mL (P:=P) (w:=w) (K:=K) rfl rfl rfl hr.units (pv 6) (pv 11) (aU kG (aQ (AO (P:=P) (w:=w) (K:=K) rfl rfl rfl hr.units) (pv 6) (aQ (aJ (K:=K) rfl) (pv 5) (pv 7) (λ _ _=>rfl)) (λ _ _=>rfl)) (bG (aA (pv 8) aC))) rfl)
   (aK (cV (eA (K:=K) rfl aas aau aav cD (pv 5) (aA (pv 11) aC))))) bL))))))))
   (aK (aP (i:=7) sc.nd rfl (Or.inl rfl) (aU cB (pv 7) aE)))))
   (aK (bC (bG (aA cH (aA (pv 5) aC))))))))),?_⟩
  refine⟨_,rfl,x,N1,rfl,hx,nok,λ st1 Ha sa hst1=>⟨_,rfl,y,N2,rfl,Is.mono sa.ts _ _ hy,mok,λ st2 Hb sb hst2=>⟨(show 2<=sizeLine by decide),λ pp hpp=>⟨(show 1<=sizeLine by decide),λ fl hfl=>?_⟩⟩⟩⟩
  have s0:aF H (upd Hb pp (.tup [st1,st2])):=(sa.trans sb).trans (aF.new hpp)
  have hst:Is K (upd Hb pp (.tup [st1,st2])) (cL (cR N1,cR N2)) (.ref pp):=Is.tupOf (ds:=[dO (cR N1),dO (cR N2)]) (bD.of aB) (.cons (Is.mono (sb.trans (aF.new hpp)).ts _ _ hst1) (.cons (Is.mono (aF.new hpp).ts _ _ hst2) .nil))
  obtain⟨st,est⟩:∃ st,st=V.ref pp:=⟨_,rfl⟩
  rw[<- est] at hst ⊢
  generalize upd Hb pp (.tup [st1,st2])=H0 at s0 hst hfl ⊢
  refine λ sd hsd=>⟨_,rfl,.inl ⟨fl,[st],0,st,rfl,rfl,bT.of (aF.new hsd _ _ aB),rfl,Nat.zero_le _,λ r0 hr0=>?_⟩⟩
  have nfs:fl≠sd:=aL (show upd H0 fl (.lst [st]) fl=_ from aB) hsd
  have nsr:sd≠r0:=aL (show upd (upd H0 fl (.lst [st])) sd (.dK []) sd=_ from aB) hr0
  have nfr:fl≠r0:=aL (show upd (upd H0 fl (.lst [st])) sd (.dK []) fl=_ by rw[aO nfs];exact aB) hr0
  have s1:aF H0 (upd (upd (upd H0 fl (.lst [st])) sd (.dK [])) r0 (.lst [])):=((aF.new hfl).trans (aF.new hsd)).trans (aF.new hr0)
  have ff:H fl=none:=s0.free hfl
  have fsd:H sd=none:=(s0.trans (aF.new hfl)).free hsd
  have g1:upd (upd (upd H0 fl (.lst [st])) sd (.dK [])) r0 (.lst []) fl=some (.lst [st]):=by rw[aO nfr,aO nfs];exact aB
  have g2:upd (upd (upd H0 fl (.lst [st])) sd (.dK [])) r0 (.lst []) sd=some (.dK []):=by rw[aO nsr];exact aB
  have g3:upd (upd (upd H0 fl (.lst [st])) sd (.dK [])) r0 (.lst []) r0=some (.lst []):=aB
  generalize upd (upd (upd H0 fl (.lst [st])) sd (.dK [])) r0 (.lst [])=H1 at s1 g1 g2 g3 ⊢
  have key1:KeyD K H1 (o8 N1 N2) (cL (cR N1,cR N2)) st:=lO ⟨fE N1,fE N2⟩ (Is.mono s1.ts _ _ hst)
  refine⟨g2,o8 N1 N2,cL (cR N1,cR N2),key1,λ H3 b3 d3=>?_⟩
  have mu2:kR (H1 sd):=by rw[g2];exact trivial
  have ts3:=b3.ts (K:=K) mu2
  have B3:BfsAt P w K cL (o8 N1 N2) H3 fl sd [st] [(cL (cR N1,cR N2),.ref r0)] [((cR N1,cR N2),[])]:=⟨b3 _ _ nfs g1,.cons (key1.mono ts3) .nil,d3,.cons ⟨rfl,r0,rfl,Ne.symm nfr,b3 _ _ (Ne.symm nsr) g3⟩ .nil⟩
  have s3:aF H H3:=λ b o e=>b3 b o (aL e fsd) (s1 b o (s0 b o e))
  clear g1 g2 g3
  refine⟨λ m ac H'=>aF H H'/\∃ (p:Nat) (fs:Fs iL) (us:List V) (kvs:List (L2.D×V)) (v6 v7 v8 v9:Option V),m=300+1 - p/\BfsAt P w K cL (o8 N1 N2) H' fl sd us kvs fs/\p<=fs.length/\fs.length<=300/\(∀ q∈fs,yP N1 N2 q.1/\q.2.length < fs.length)/\iF cL (n5 N1 N2) (iK N1 N2 v v') most 300 (300+1 - p) p fs=fC N1 N2 v v' most/\
    ac=[some x,some y,some (.int v),some (.int v'),some (.int most),some (.ref fl),some (.ref sd),some (.int (p:Int)),v6,v7,v8,v9],
   ⟨_,s3,0,_,_,_,_,_,_,_,rfl,B3,Nat.zero_le _,by show 1<=300;decide,λ q hq=>by rw[aaw] at hq;subst hq;exact⟨⟨fE N1,fE N2⟩,(show 0 < 1 by decide)⟩,rfl,rfl⟩,?_⟩
  clear B3 d3 ts3 b3 mu2
  rintro m ac H4 ⟨s4,p,fs,us,kvs,v6,v7,v8,v9,rfl,B4,hp,hlf,hoks,hb,rfl⟩
  have eul:=B4.lenU
  refine⟨_,rfl,_,rfl,fl,us,rfl,.inl (bT.of B4.lst),_,_,rfl,rfl,_,rfl,eM (λ hT=>?_) λ hN=>?_⟩
  ·have hT:(p:Int) < us.length:=by simpa using hT
   have hpl:p < fs.length:=by omega
   refine⟨λ ac H'=>aF H H'/\∃ (p':Nat) (fs:Fs iL) (us:List V) (kvs:List (L2.D×V)) (v6 v7 v8 v9:Option V),p'=p+1/\BfsAt P w K cL (o8 N1 N2) H' fl sd us kvs fs/\p'<=fs.length/\fs.length<=300/\(∀ q∈fs,yP N1 N2 q.1/\q.2.length < fs.length)/\iF cL (n5 N1 N2) (iK N1 N2 v v') most 300 (300+1 - p') p' fs=fC N1 N2 v v' most/\
    ac=[some x,some y,some (.int v),some (.int v'),some (.int most),some (.ref fl),some (.ref sd),some (.int (p':Int)),v6,v7,v8,v9],λ ac H' ⟨h1,p',fs',us',kvs',w6,w7,w8,w9,h2,h⟩=>⟨300+1 - p',by omega,h1,p',fs',us',kvs',w6,w7,w8,w9,rfl,h⟩,?_⟩
   obtain⟨⟨d,r0'⟩,hq⟩:∃ q,fs[p]? = some q:=⟨_,abh hpl⟩
   have okd:yP N1 N2 d:=(hoks _ (aan hq)).1
   obtain⟨r,er⟩:=Option.isSome_iff_exists.mp (fX (dD:=cL) (aan hq))
   refine⟨_,rfl,_,_,rfl,rfl,_,rfl,by omega,by omega,?_⟩
   rw[show ((most:Int)+1).toNat=most+1 by omega]
   refine dS (lo:=0) (n:=most+1) (λ i ac H'=>aF H H'/\∃ (fs:Fs iL) (us:List V) (kvs:List (L2.D×V)) (v6 v7 v8 v9:Option V),BfsAt P w K cL (o8 N1 N2) H' fl sd us kvs fs/\fs[p]? = some (d,r0')/\fs.length<=300/\(∀ q∈fs,yP N1 N2 q.1/\q.2.length < fs.length)/\dA cL fs (cL d)=some r/\r.length < fs.length/\
    BR cL (n5 N1 N2) (iK N1 N2 v v') most 300 p (pD cL (n5 N1 N2) (iK N1 N2 v v') 300 d r (most+1 - i) (i:Nat) fs)=fC N1 N2 v v' most/\
    ac=[some x,some y,some (.int v),some (.int v'),some (.int most),some (.ref fl),some (.ref sd),some (.int (p:Int)),v6,v7,v8,v9]) ?_ ?_ ?_
   ·refine⟨s4,fs,us,kvs,_,_,_,_,B4,hq,hlf,hoks,er,?_,?_,rfl⟩
    ·obtain⟨q,hq1,hq2⟩:∃ q∈fs,q.2=r:=by
      unfold dA at er
      obtain⟨q,e1,e2⟩:=aaq.mp er
      exact⟨q,List.mem_of_find?_eq_some e1,e2⟩
     rw[<- hq2];exact (hoks q hq1).2
    ·rw[<- hb,show 300+1 - p=(300 - p)+1 by omega]
     exact (qQ hq er rfl).symm
   ·rintro i ac H5 hi ⟨s5,fs,us,kvs,w6,w7,w8,w9,B5,hq5,hlf5,hoks5,er5,hrl,hb5,rfl⟩
    rw[Int.zero_add]
    have eul5:=B5.lenU
    obtain⟨u,hu,kv5⟩:=Paired.get' B5.its hq5
    have hpl5:=(aad.mp hq5).1
    dsimp only [eP]
    rcases B5.val (cL d) with ⟨z,_⟩ | ⟨r',ra0,z1,z2,z3,z4⟩
    ·rw[er5] at z;cases z
    rw[er5] at z1;cases z1
    obtain⟨ua,z1',z2',rfl,qua,ix1,FW⟩:=uQ kv5.is
    refine⟨_,rfl,_,rfl,_,rfl,.inl ⟨fl,us,(p:Int),.ref ua,rfl,rfl,bT.of B5.lst,bZ hu,.inr (.inl ⟨ua,_,0,_,rfl,rfl,qua,rfl,_,rfl,_,rfl,x,z1',N1,d.1,v,i,rfl,Is.mono s5.ts _ _ hx,ix1,nok,okd.1,λ pl yl Hl sl ql il=>?_⟩)⟩⟩
    have Bl:=B5.same sl
    refine⟨_,rfl,_,rfl,_,rfl,.inl ⟨fl,us,(p:Int),.ref ua,rfl,rfl,bT.of Bl.lst,bZ hu,.inr (.inl ⟨ua,_,1,_,rfl,rfl,sl.tup qua,rfl,_,rfl,_,rfl,y,z2',N2,d.2,v',i,rfl,Is.mono (s5.trans sl).ts _ _ hy,Is.mono sl.ts _ _ FW,mok,okd.2,λ pr yr Hr sr qr ir=>?_⟩)⟩⟩
    have ok':yP N1 N2 (n5 N1 N2 d i):=⟨iZ nok okd.1 i,iZ mok okd.2 i⟩
    have hla1:most+1 - i=(most - i)+1:=by omega
    rw[hla1] at hb5
    have s7:=sl.trans sr
    have B7:=B5.same s7
    have ql7:=sr.tup ql
    refine⟨_,rfl,.inr (.inl ⟨pl,_,1,_,rfl,rfl,ql7,rfl,_,rfl,.inr (.inl ⟨pr,_,1,_,rfl,rfl,qr,rfl,rfl,_,rfl,?_⟩)⟩)⟩
    show if iK N1 N2 v v' d i=true then _ else _
    cases hf:iK N1 N2 v v' d i with
    | true=>
     refine gF ?_
     rw[nQ hf] at hb5
     have e5:fC N1 N2 v v' most=.ends (r++[(i:Int)]) fs:=hb5.symm
     refine⟨_,rfl,_,rfl,_,rfl,.inl ⟨fl,us,(p:Int),.ref ua,rfl,rfl,bT.of B7.lst,bZ hu,sd,o8 N1 N2,kvs,cL d,.ref ra0,rfl,B7.dic,kv5.mono s7.ts,z2,_,rfl,(show 1<=sizeLine by decide),λ la hla=>⟨ra0,la,r.map V.int,[.int i],rfl,rfl,aF.new hla _ _ (s7 _ _ z4),aB,by rw[aac,sizeLine_eq];show r.length+1<=_;omega,λ ra hra=>⟨(show 2<=sizeLine by decide),λ tp htp=>?_⟩⟩⟩⟩
     have s8:=((aF.new (o:=HO.lst [.int i]) hla).trans (aF.new (o:=HO.lst (r.map V.int++[.int i])) hra)).trans (aF.new (o:=HO.lst [.str "parted",.ref ra]) htp)
     refine kE _ _ e5 tp ra _ ((s5.trans s7).trans s8) aB (aF.new htp _ _ ?_)
     rw[aB,aae];rfl
    | false=>
     refine dP ?_
     refine⟨_,rfl,.inr (.inl ⟨pl,_,0,_,rfl,rfl,ql7,rfl,_,rfl,.inr (.inl ⟨pr,_,0,_,rfl,rfl,qr,rfl,(show 2<=sizeLine by decide),λ lt hlt0=>?_⟩)⟩)⟩
     have sL:=aF.new (o:=HO.tup [yl,yr]) hlt0
     have iy:Is K (upd Hr lt (.tup [yl,yr])) (cL (n5 N1 N2 d i)) (.ref lt):=Is.tupOf (ds:=[dO (d.1.nxA N1 i),dO (d.2.nxA N2 i)]) (bD.of aB) (.cons (Is.mono (sr.trans sL).ts _ _ il) (.cons (Is.mono sL.ts _ _ ir) .nil))
     generalize upd Hr lt (.tup [yl,yr])=H7 at sL iy ⊢
     have s7:=s7.trans sL
     have B7:=B5.same s7
     have ky:=lO ok' iy
     refine⟨_,rfl,_,rfl,sd,o8 N1 N2,kvs,cL (n5 N1 N2 d i),rfl,B7.dic,ky,_,rfl,?_⟩
     rw[B7.isSome]
     cases hv':(dA cL fs (cL (n5 N1 N2 d i))).isSome with
     | true=>
      refine dP (dP ?_)
      refine⟨_,rfl,_,rfl,sd,o8 N1 N2,kvs,cL (n5 N1 N2 d i),rfl,B7.dic,ky,_,rfl,?_⟩
      rw[B7.isSome,hv']
      refine dP ?_
      rw[nO hf hv'] at hb5
      exact⟨s5.trans s7,fs,us,kvs,_,_,_,_,B7,hq5,hlf5,hoks5,er5,hrl,by rw[show most+1 - (i+1)=most - i by omega];exact hb5,rfl⟩
     | false=>
      refine gF ?_
      refine⟨_,rfl,fl,us,rfl,.inl (bT.of B7.lst),rfl,_,rfl,eM (λ hT2=>?_) λ hN2=>?_⟩
      ·have hT2:us.length=300:=by
        have:V.int (us.length:Int)=V.int 300:=by simpa using hT2
        injection this with this;omega
       rw[lZ hf hv' (by omega)] at hb5
       refine⟨Nat.zero_le _,λ q hq=>⟨(show 2<=sizeLine by decide),λ tp htp=>?_⟩⟩
       exact kM hb5.symm tp q _ (((s5.trans s7).trans (aF.new hq)).trans (aF.new htp)) aB
      ·have hN2:us.length≠300:=λ z=>hN2 (by rw[z];decide)
       have hlt:fs.length < 300:=by omega
       rw[nP hf hv' hlt] at hb5
       refine⟨_,rfl,_,rfl,sd,o8 N1 N2,kvs,cL (n5 N1 N2 d i),rfl,B7.dic,ky,_,rfl,?_⟩
       rw[B7.isSome,hv']
       refine gF ?_
       refine⟨_,rfl,_,rfl,_,rfl,.inl ⟨fl,us,(p:Int),.ref ua,rfl,rfl,bT.of B7.lst,bZ hu,sd,o8 N1 N2,kvs,cL d,.ref ra0,rfl,B7.dic,kv5.mono s7.ts,z2,_,rfl,(show 1<=sizeLine by decide),λ la hla=>⟨ra0,la,r.map V.int,[.int i],rfl,rfl,aF.new hla _ _ (s7 _ _ z4),aB,by rw[aac,sizeLine_eq];show r.length+1<=_;omega,λ ra hra=>?_⟩⟩⟩
       have s8:aF H7 (upd (upd H7 la (.lst [.int i])) ra (.lst (r.map V.int++[.int i]))):=(aF.new hla).trans (aF.new hra)
       have g8:upd (upd H7 la (.lst [.int i])) ra (.lst (r.map V.int++[.int i])) ra=some (.lst ((r++[(i:Int)]).map V.int)):=by rw[aB,aae];rfl
       have nra:ra≠fl:=λ z=>by
        have:=(aF.new hla).free hra
        rw[z,B7.lst] at this;cases this
       generalize upd (upd H7 la (.lst [.int i])) ra (.lst (r.map V.int++[.int i]))=H8 at s8 g8 ⊢
       have B8:=B7.same s8
       have ky8:=ky.mono s8.ts
       refine⟨_,rfl,_,rfl,sd,o8 N1 N2,kvs,cL (n5 N1 N2 d i),rfl,B8.dic,ky8,gR (by rw[B8.lenK];omega),λ H9 b9 d9=>?_⟩
       obtain⟨B10,mu9⟩:=B8.put hv' ky8 g8 nra b9 d9
       have hfl9:H9 fl=some (.lst us):=b9 _ _ B8.ne B8.lst
       refine⟨_,rfl,.inl ⟨rfl,_,bT.of hfl9⟩,_,rfl,fl,us,_,rfl,rfl,hfl9,gR (by omega),?_⟩
       have s9:aF H H9:=λ b o e=>b9 b o (aL e fsd) (((s5.trans s7).trans s8) b o e)
       refine⟨s9.put ff,_,_,_,_,_,_,_,B10,by rw[aba hpl5];exact hq5,by rw[aak,List.length_singleton];omega,λ q hq=>?_,pW _ er5,by rw[aak];omega,by rw[show most+1 - (i+1)=most - i by omega];exact hb5,rfl⟩
       rw[aak,List.length_singleton]
       rcases abd.1 hq with hq | hq
       ·obtain⟨h1,h2⟩:=hoks5 q hq
        exact⟨h1,by omega⟩
       ·rw[aaw] at hq
        subst hq
        exact⟨ok',by show (r++[(i:Int)]).length < _;rw[aak,List.length_singleton];omega⟩
   ·
    rintro ac H5 ⟨s5,fs,us,kvs,w6,w7,w8,w9,B5,hq5,hlf5,hoks5,er5,hrl,hb5,rfl⟩
    rw[Nat.sub_self] at hb5
    have hpl5:=(aad.mp hq5).1
    refine⟨_,rfl,_,_,rfl,rfl,s5,p+1,fs,us,kvs,_,_,_,_,rfl,B5,hpl5,hlf5,hoks5,?_,rfl⟩
    rw[<- hb5]
    show iF cL (n5 N1 N2) (iK N1 N2 v v') most 300 (300+1 - (p+1)) (p+1) fs=iF cL (n5 N1 N2) (iK N1 N2 v v') most 300 (300 - p) (p+1) fs
    rw[show 300+1 - (p+1)=300 - p by omega]
  ·
   have hN:¬ (p:Int) < us.length:=by simpa using hN
   rw[qP (by omega)] at hb
   refine⟨_,rfl,(show 2<=sizeLine by decide),λ tp htp=>?_⟩
   exact kO fs hb.symm tp fl _ (s4.trans (aF.new htp)) aB
end
end Tw
namespace Tw
open PySem L2
theorem Paired.getC {af cq:Type}{F:af->cq->Prop}:∀ {bj:List af}{bn:List cq},Paired F bj bn->∀ {i:Nat}{b:cq},bn[i]? = some b->∃ a,bj[i]? = some a/\F a b:=by
 intro bj bn r
 induction r with
 | nil=>intro i a h;simp at h
 | cons h t ih=>
  intro i a e
  cases i with
  | zero=>cases e;exact⟨_,rfl,h⟩
  | succ i=>exact ih e
section
variable {P:Program}{w:World}{K:aaa}{mg:Str->Option Value}{base:Heap}{c_TipError c_NoNet c_NoVessel c_TooLong c_TooMany c_TooMuch c_Nothing c_NoText c_NoRow:Addr}
noncomputable abbrev IF (A B:Net) (i j:Int) (most:Nat) (fs:Fs iL):Prop:=IG (dD:=cL) (nxt:=n5 A B) (fin:=iK A B i j) (most:=most) (cR A,cR B) fs
noncomputable def o5 (K:aaa):Sp:=λ vs H Q _=>∃ (x y:V) (N1 N2:Net) (v v':Int) (most:Nat) (fl:Addr) (us:List V) (fs:Fs iL),vs=[x,y,.int v,.int v',.int most,.ref fl]/\Is K H (dY N1) x/\Is K H (dY N2) y/\NetOk N1/\NetOk N2/\most<=1000/\H fl=some (.lst us)/\
 Paired (λ (p:iL×List Int) v=>KeyD K H (o8 N1 N2) (cL p.1) v) fs us/\(∀ q∈fs,yP N1 N2 q.1)/\fs.length<=300/\IF N1 N2 v v' most fs/\∀ H',aF H H'->Q (.bl true) H'
theorem iW:FnScope ["net","other","one","two","most","pairs","there","pair","left","right","amount","later","then"] ["net","other","one","two","most","pairs"] (aM (bK 43)):=⟨rfl,rfl,rfl,by decide +kernel,rfl,by decide +kernel,by decide +kernel⟩
theorem oN {f f1 f2:Addr}{fd fd1 fd2:FuncData} (F:Fun K "_law_closed" "_law_closed" (bK 43) f fd) (T:Txt mg) (G__law_first:Callee P w K mg base "_law_first" ["net"] 1 (gI K) f1 fd1)
  (G__law_step:Callee P w K mg base "_law_step" ["net","state","amount","watched"] 3 (kW K) f2 fd2):FnOk P w K mg base iM 4 f fd ["net","other","one","two","most","pairs"] (o5 K):=by
 refine F.ok iW (λ vs H Q E h=>?_) (λ cdv A outer s H vs Q E hr h=>?_)
 ·obtain⟨x,y,N1,N2,v,v',most,fl,us,fs,rfl,_⟩:=h;rfl
 ·obtain⟨x,y,N1,N2,v,v',most,fl,us,fs,rfl,hx,hy,nok,mok,hm,hfl,pr,oks,hlf,⟨sh1,sh2'⟩,k⟩:=h
  have sc:=iW
  have eul:us.length=fs.length:=(Paired.length pr).symm
  refine⟨_,(aD (aP (i:=6) sc.nd rfl (Or.inl rfl) tL)
   (aD (cS PassesOwn.never rfl (g0 (K:=K) rfl (pv 5)) (aH (i:=7) sc.nd rfl (Or.inl rfl)) (aK (mL (P:=P) (w:=w) (K:=K) rfl rfl rfl hr.units (pv 6) (pv 7) eF rfl)))
   (aD (cF (bB (iY (P:=P) (w:=w) (K:=K) rfl rfl rfl hr.units) (aV (aA (d5 G__law_first hr (aA (pv 0) aC)) (aA (d5 G__law_first hr (aA (pv 1) aC)) aC))) (pv 6) (by rfl)) (aK (bC eF)) bL)
   (aD (cS PassesOwn.never rfl (g0 (K:=K) rfl (pv 5)) (bJ (K:=K) (n:=2) rfl rfl (aG (aH (i:=8) sc.nd rfl (Or.inl rfl)) (aG (aH (i:=9) sc.nd rfl (Or.inl rfl)) bF))) (aK (cS PassesOwn.never rfl (cK rfl T.b_range (aA (aU cB (pv 4) aE) aC)) (aH (i:=10) sc.nd rfl (Or.inl rfl)) (aD (aP (i:=11) sc.nd rfl (Or.inl rfl) (d5 G__law_step hr (aA (pv 0) (aA (pv 8) (aA (pv 10) (aA (pv 2) aC))))))
   (aD (aP (i:=12) sc.nd rfl (Or.inl rfl) (d5 G__law_step hr (aA (pv 1) (aA (pv 9) (aA (pv 10) (aA (pv 3) aC))))))
   (aK (cF (PW.pt (n4 (bB jX (aQ (aJ (K:=K) rfl) (pv 11) aE (λ _ _=>rfl)) (aQ (aJ (K:=K) rfl) (pv 12) aE (λ _ _=>rfl)) (bH _)) (mK (bB (iY (P:=P) (w:=w) (K:=K) rfl rfl rfl hr.units) (aV (aA (aQ (aJ (K:=K) rfl) (pv 11) aE (λ _ _=>rfl)) (aA (aQ (aJ (K:=K) rfl) (pv 12) aE (λ _ _=>rfl)) aC))) (pv 6) (by rfl))))) (aK (bC eF)) bL)))))))
   (aK (bC eF)))))),?_⟩
  refine λ sd hsd=>?_
  have fsd:H sd=none:=hsd
  have s1:aF H (upd H sd (.dK [])):=aF.new hsd
  have g1:upd H sd (.dK []) sd=some (.dK []):=aB
  generalize upd H sd (.dK [])=H1 at s1 g1 ⊢
  refine⟨_,rfl,fl,rfl,⟨_,bT.of (s1 _ _ hfl)⟩,lT (K:=K) (a:=fl) (xs:=us) (λ j ac H'=>aF H H'/\(∃ kvs,dC P w K H' sd (o8 N1 N2) kvs/\kvs.length<=j/\∀ (i:Nat) q,i < j->fs[i]? = some q->(dM kvs (cL q.1)).isSome=true)/\
   ∃ v7 v8 v9 v10 v11 v12,ac=[some x,some y,some (.int v),some (.int v'),some (.int most),some (.ref fl),some (.ref sd),v7,v8,v9,v10,v11,v12]) ?_ ?_ ?_ ?_⟩
  ·exact⟨s1,⟨[],dC.new g1,Nat.zero_le _,λ i q h=>absurd h (Nat.not_lt_zero _)⟩,_,_,_,_,_,_,rfl⟩
  ·rintro i ac H' _ ⟨s2,_⟩;exact bT.of (s2 _ _ hfl)
  ·rintro j u ac H2 hu ⟨s2,⟨kvs,dd,hl,hk⟩,v7,v8,v9,v10,v11,v12,rfl⟩
   obtain⟨q,hq,kq⟩:=Paired.getC pr hu
   have hj:=(aad.mp hu).1
   refine⟨_,rfl,_,rfl,sd,o8 N1 N2,kvs,cL q.1,rfl,dd,kq.mono s2.ts,gR (by omega),λ H3 b3 d3=>?_⟩
   refine⟨λ b o e=>b3 b o (aL e fsd) (s2 b o e),⟨_,d3,?_,λ i q' hi hq'=>?_⟩,_,_,_,_,_,_,rfl⟩
   ·have:=fM kvs (cL q.1) (.bl true);omega
   ·rw[sX]
    by_cases c:cL q'.1=cL q.1
    ·rw[if_pos c];rfl
    ·rw[if_neg c]
     rcases (show i < j\/i=j by omega) with h | rfl
     ·exact hk i q' h hq'
     ·rw[hq] at hq';cases hq';exact absurd rfl c
  ·rintro ac H2 ⟨s2,⟨kvs,dd,hl,hk⟩,v7,v8,v9,v10,v11,v12,rfl⟩
   have hin:∀ k,(dA cL fs k).isSome=true->(dM kvs k).isSome=true:=λ k h=>by
    obtain⟨q,hq,e⟩:=jD h
    obtain⟨i,hi⟩:=abo.1 hq
    rw[<- e]
    exact hk i q (by have:=(aad.mp hi).1;omega) hi
   refine⟨_,rfl,x,N1,rfl,Is.mono s2.ts _ _ hx,nok,λ st1 Ha sa hst1=>⟨_,rfl,y,N2,rfl,Is.mono (s2.trans sa).ts _ _ hy,mok,λ st2 Hb sb hst2=>⟨(show 2<=sizeLine by decide),λ pp hpp=>?_⟩⟩⟩
   have sp:=(sa.trans sb).trans (aF.new (o:=HO.tup [st1,st2]) hpp)
   have ipp:Is K (upd Hb pp (.tup [st1,st2])) (cL (cR N1,cR N2)) (.ref pp):=Is.tupOf (ds:=[dO (cR N1),dO (cR N2)]) (bD.of aB) (.cons (Is.mono (sb.trans (aF.new hpp)).ts _ _ hst1) (.cons (Is.mono (aF.new hpp).ts _ _ hst2) .nil))
   generalize upd Hb pp (.tup [st1,st2])=H2' at sp ipp ⊢
   have dd2:=dd.same sp
   have s2:=s2.trans sp
   obtain⟨q0,hq0,e0⟩:=sh1
   have hf0:(dM kvs (cL (cR N1,cR N2))).isSome=true:=hin _ (by rw[<- e0];exact fX (r:=q0.2) hq0)
   refine⟨_,rfl,sd,o8 N1 N2,kvs,cL (cR N1,cR N2),rfl,dd2,lO ⟨fE N1,fE N2⟩ ipp,_,rfl,?_⟩
   rw[hf0]
   refine dP ?_
   refine⟨_,rfl,fl,rfl,⟨_,bT.of (s2 _ _ hfl)⟩,lT (K:=K) (a:=fl) (xs:=us) (λ j ac H'=>aF H H'/\dC P w K H' sd (o8 N1 N2) kvs/\
    ∃ v7 v8 v9 v10 v11 v12,ac=[some x,some y,some (.int v),some (.int v'),some (.int most),some (.ref fl),some (.ref sd),v7,v8,v9,v10,v11,v12]) ?_ ?_ ?_ ?_⟩
   ·exact⟨s2,dd2,_,_,_,_,_,_,rfl⟩
   ·rintro i ac H' _ ⟨s2,_⟩;exact bT.of (s2 _ _ hfl)
   ·rintro j u ac H3 hu ⟨s3,dd3,w7,w8,w9,w10,w11,w12,rfl⟩
    obtain⟨q,hq,kq⟩:=Paired.getC pr hu
    have hqm:=aan hq
    obtain⟨ua,y1,y2,rfl,qua,iy1,iy2⟩:=uQ (kq.mono s3.ts).is
    refine⟨ua,_,rfl,qua,rfl,_,_,rfl,_,_,rfl,rfl,?_⟩
    refine⟨_,rfl,_,_,rfl,rfl,_,rfl,by omega,by omega,?_⟩
    rw[show ((most:Int)+1).toNat=most+1 by omega]
    refine dS (lo:=0) (n:=most+1) (λ i ac H'=>aF H3 H'/\dC P w K H' sd (o8 N1 N2) kvs/\∃ v10 v11 v12,ac=[some x,some y,some (.int v),some (.int v'),some (.int most),some (.ref fl),some (.ref sd),w7,some y1,some y2,v10,v11,v12]) ?_ ?_ ?_
    ·exact⟨aF.refl _,dd3,_,_,_,rfl⟩
    ·rintro i ac H4 hi ⟨s4,dd4,z10,z11,z12,rfl⟩
     rw[Int.zero_add]
     dsimp only [eP]
     have okq:=oks q hqm
     refine⟨_,rfl,_,rfl,_,rfl,_,rfl,x,y1,N1,q.1.1,v,i,rfl,Is.mono (s3.trans s4).ts _ _ hx,Is.mono s4.ts _ _ iy1,nok,okq.1,λ pl yl Hl sl ql il=>?_⟩
     refine⟨_,rfl,_,rfl,_,rfl,_,rfl,y,y2,N2,q.1.2,v',i,rfl,Is.mono ((s3.trans s4).trans sl).ts _ _ hy,Is.mono (s4.trans sl).ts _ _ iy2,mok,okq.2,λ pr' yr Hr sr qr ir=>?_⟩
     obtain⟨hf,hv⟩:=sh2' q hqm i (by omega)
     have ql7:=sr.tup ql
     refine⟨_,rfl,.inr (.inl ⟨pl,_,1,_,rfl,rfl,ql7,rfl,_,rfl,.inr (.inl ⟨pr',_,1,_,rfl,rfl,qr,rfl,rfl,_,rfl,?_⟩)⟩)⟩
     show if iK N1 N2 v v' q.1 i=true then _ else _
     rw[hf]
     refine dP ?_
     refine⟨_,rfl,.inr (.inl ⟨pl,_,0,_,rfl,rfl,ql7,rfl,_,rfl,.inr (.inl ⟨pr',_,0,_,rfl,rfl,qr,rfl,(show 2<=sizeLine by decide),λ lt hlt0=>?_⟩)⟩)⟩
     have sL:=aF.new (o:=HO.tup [yl,yr]) hlt0
     have iy:Is K (upd Hr lt (.tup [yl,yr])) (cL (n5 N1 N2 q.1 i)) (.ref lt):=Is.tupOf (ds:=[dO (q.1.1.nxA N1 i),dO (q.1.2.nxA N2 i)]) (bD.of aB) (.cons (Is.mono (sr.trans sL).ts _ _ il) (.cons (Is.mono sL.ts _ _ ir) .nil))
     have dd7:=dd4.same ((sl.trans sr).trans sL)
     refine⟨_,rfl,sd,o8 N1 N2,kvs,cL (n5 N1 N2 q.1 i),rfl,dd7,lO ⟨iZ nok okq.1 i,iZ mok okq.2 i⟩ iy,_,rfl,?_⟩
     rw[hin _ hv]
     refine dP ?_
     exact⟨s4.trans ((sl.trans sr).trans sL),dd7,_,_,_,rfl⟩
    ·rintro ac H4 ⟨s4,dd4,z10,z11,z12,rfl⟩
     exact⟨s3.trans s4,dd4,_,_,_,_,_,_,rfl⟩
   ·rintro ac H3 ⟨s3,dd3,w7,w8,w9,w10,w11,w12,rfl⟩
    exact k _ s3
end
end Tw
namespace Tw
open PySem L2
noncomputable def nE:List Int->List Int->Prop
 | a::as,b::bs=>a < b\/(a=b/\nE as bs)
 | _,_=>False
theorem tU:∀ u:List Int,¬ nE u u
 | [],h=>h
 | a::u,h=>by
  rcases h with h | ⟨_,h⟩
  ·omega
  ·exact tU u h
theorem oR:∀ {u v x:List Int},nE u v->nE v x->nE u x
 | [],_,_,h,_=>h.elim
 | _::_,[],_,h,_=>h.elim
 | _::_,_::_,[],_,h=>h.elim
 | a::u,b::v,c::x,h1,h2=>by
  rcases h1 with h1 | ⟨rfl,h1⟩
  ·rcases h2 with h2 | ⟨rfl,h2⟩
   ·exact .inl (by omega)
   ·exact .inl h1
  ·rcases h2 with h2 | ⟨rfl,h2⟩
   ·exact .inl h2
   ·exact .inr ⟨rfl,oR h1 h2⟩
theorem tS:∀ {u v:List Int},u.length=v.length->nE u v\/u=v\/nE v u
 | [],[],_=>.inr (.inl rfl)
 | [],_::_,h=>by cases h
 | _::_,[],h=>by cases h
 | a::u,b::v,h=>by
  rcases (show a < b\/a=b\/b < a by omega) with c | rfl | c
  ·exact .inl (.inl c)
  ·rcases tS (u:=u) (v:=v) (by simpa using h) with d | rfl | d
   ·exact .inl (.inr ⟨rfl,d⟩)
   ·exact .inr (.inl rfl)
   ·exact .inr (.inr (.inr ⟨rfl,d⟩))
  ·exact .inr (.inr (.inl c))
theorem tV:∀ {u v:List Int} (x y:List Int),nE u v->nE (u++x) (v++y)
 | [],_,_,_,h=>h.elim
 | _::_,[],_,_,h=>h.elim
 | a::u,b::v,x,y,h=>by
  rcases h with h | ⟨rfl,h⟩
  ·exact .inl h
  ·exact .inr ⟨rfl,tV x y h⟩
theorem tT:∀ (u:List Int) {x y:List Int},nE x y->nE (u++x) (u++y)
 | [],_,_,h=>h
 | a::u,x,y,h=>.inr ⟨rfl,tT u h⟩
noncomputable def qB (u v:List Int):Prop:=u.length < v.length\/(u.length=v.length/\nE u v)
theorem eW (u:List Int):¬ qB u u:=λ h=>by
 rcases h with h | ⟨_,h⟩
 ·omega
 ·exact tU u h
theorem dR {u v x:List Int} (h1:qB u v) (h2:qB v x):qB u x:=by
 rcases h1 with h1 | ⟨e1,h1⟩
 ·rcases h2 with h2 | ⟨e2,_⟩
  ·exact .inl (by omega)
  ·exact .inl (by omega)
 ·rcases h2 with h2 | ⟨e2,h2⟩
  ·exact .inl (by omega)
  ·exact .inr ⟨by omega,oR h1 h2⟩
theorem CP (u v:List Int):qB u v\/u=v\/qB v u:=by
 rcases (show u.length < v.length\/u.length=v.length\/v.length < u.length by omega) with h | h | h
 ·exact .inl (.inl h)
 ·rcases tS h with c | c | c
  ·exact .inl (.inr ⟨h,c⟩)
  ·exact .inr (.inl c)
  ·exact .inr (.inr (.inr ⟨h.symm,c⟩))
 ·exact .inr (.inr (.inl h))
theorem oA {u v:List Int} (a b:Int) (h:qB u v):qB (u++[a]) (v++[b]):=by
 rcases h with h | ⟨e,h⟩
 ·exact .inl (by simp;omega)
 ·exact .inr ⟨by simp [e],tV _ _ h⟩
theorem lG (u:List Int) {a b:Int} (h:a < b):qB (u++[a]) (u++[b]):=.inr ⟨by simp,tT u (.inl h)⟩
theorem tH {u v:List Int}{a b:Int} (h:qB (u++[a]) (v++[b])):qB u v\/(u=v/\a < b):=by
 rcases CP u v with c | rfl | c
 ·exact .inl c
 ·refine .inr ⟨rfl,?_⟩
  rcases (show a < b\/a=b\/b < a by omega) with d | rfl | d
  ·exact d
  ·exact absurd h (eW _)
  ·exact absurd (dR h (lG u d)) (eW _)
 ·exact absurd (dR h (oA b a c)) (eW _)
theorem tG (u:List Int) (a:Int):qB u (u++[a]):=.inl (by simp)
noncomputable def DT (u v:List Int):Prop:=u=v\/qB u v
theorem uW {u v x:List Int} (h1:DT u v) (h2:qB v x):qB u x:=by
 rcases h1 with rfl | h1
 ·exact h2
 ·exact dR h1 h2
theorem xH {u v x:List Int} (h1:DT u v) (h2:DT v x):DT u x:=by
 rcases h2 with rfl | h2
 ·exact h1
 ·exact .inr (uW h1 h2)
theorem oB {u v:List Int} (a:Int) (h:DT u v):DT (u++[a]) (v++[a]):=by
 rcases h with rfl | h
 ·exact .inl rfl
 ·exact .inr (oA a a h)
section
variable {af:Type} (nxt:af->Int->af) (fin:af->Int->Bool)
noncomputable def n9 (s:af):List Int->af
 | []=>s
 | a::r=>n9 (nxt s a) r
noncomputable def yX (s:af) (b:Bool):List Int->Bool
 | []=>b
 | a::r=>yX (nxt s a) (fin s a) r
variable {nxt fin}
theorem gU:∀ (s:af) (r:List Int) (a:Int),n9 nxt s (r++[a])=nxt (n9 nxt s r) a
 | s,[],a=>rfl
 | s,b::r,a=>gU (nxt s b) r a
theorem jF:∀ (s:af) (b:Bool) (r:List Int) (a:Int),yX nxt fin s b (r++[a])=fin (n9 nxt s r) a
 | s,b,[],a=>rfl
 | s,b,c::r,a=>jF (nxt s c) (fin s c) r a
noncomputable def jB (most:Nat) (u:List Int):Prop:=∀ a∈u,0<=a/\a<=most
theorem jB.init {most:Nat}{u:List Int}{a:Int} (h:jB most (u++[a])):jB most u/\0<=a/\a<=most:=⟨λ b hb=>h b (abm _ hb),h a (by simp)⟩
structure Seen (dD:af->L2.D) (nxt:af->Int->af) (fin:af->Int->Bool) (most:Nat) (first:af) (p:Nat) (r:List Int) (i:Nat) (fs:Fs af):Prop where
 zero:fs[0]? = some (first,[])
 sort:∀ (j k:Nat) (x y:af×List Int),j < k->fs[j]? = some x->fs[k]? = some y->qB x.2 y.2
 low:∀ x∈fs,qB x.2 (r++[(i:Int)])
 uniq:∀ (j k:Nat) (x y:af×List Int),fs[j]? = some x->fs[k]? = some y->dD x.1=dD y.1->j=k
 run:∀ x∈fs,n9 nxt first x.2=x.1/\jB most x.2
 done:∀ (q:Nat) (x:af×List Int) (a:Nat),fs[q]? = some x->a<=most->(q < p\/(q=p/\a < i))->fin x.1 a=false/\∃ y∈fs,dD y.1=dD (nxt x.1 a)/\DT y.2 (x.2++[(a:Int)])
theorem Seen.cover {dD:af->L2.D}{most:Nat}{first:af}{p i:Nat}{r:List Int}{fs:Fs af}{d:af} (inj:∀ x y,dD x=dD y->x=y) (S:Seen dD nxt fin most first p r i fs) (hp:fs[p]? = some (d,r)) :
  ∀ (n:Nat) (u:List Int),u.length=n->jB most u->qB u (r++[(i:Int)])->∃ y∈fs,y.1=n9 nxt first u/\DT y.2 u:=by
 intro n
 induction n with
 | zero=>
  intro u hu _ _
  have:u=[]:=List.length_eq_zero_iff.mp hu
  subst this
  exact⟨_,aan S.zero,rfl,.inl rfl⟩
 | succ n ih=>
  intro u hu hw hl
  obtain⟨u',a,rfl⟩:∃ u' a,u=u'++[a]:=⟨u.dropLast,u.getLast (by intro z;rw[z] at hu;cases hu),(List.dropLast_concat_getLast _).symm⟩
  obtain⟨hw',ha0,ha1⟩:=hw.init
  obtain⟨y,hy,e1,e2⟩:=ih u' (by simpa using hu) hw' (dR (tG u' a) hl)
  obtain⟨q,hq⟩:=abo.1 hy
  have hya:=uW (oB a e2) hl
  have hdone:q < p\/(q=p/\a.toNat < i):=by
   rcases tH hya with c | ⟨c,c2⟩
   ·refine .inl ?_
    rcases (show q < p\/q=p\/p < q by omega) with z | rfl | z
    ·exact z
    ·rw[hp] at hq;cases hq;exact absurd c (eW _)
    ·exact absurd (dR c (S.sort p q _ _ z hp hq)) (eW _)
   ·rcases (show q < p\/q=p\/p < q by omega) with z | rfl | z
    ·have:=S.sort q p _ _ z hq hp
     rw[c] at this;exact absurd this (eW _)
    ·exact .inr ⟨rfl,by omega⟩
    ·have:=S.sort p q _ _ z hp hq
     rw[c] at this;exact absurd this (eW _)
  have ea:((a.toNat:Nat):Int)=a:=by omega
  obtain⟨_,z,hz,ez,lz⟩:=S.done q y a.toNat hq (by omega) hdone
  rw[ea] at ez lz
  refine⟨z,hz,?_,xH lz (oB a e2)⟩
  rw[gU,<- e1];exact inj _ _ ez
theorem Seen.none {dD:af->L2.D}{most:Nat}{first:af}{p i:Nat}{r:List Int}{fs:Fs af}{d:af} (inj:∀ x y,dD x=dD y->x=y) (S:Seen dD nxt fin most first p r i fs) (hp:fs[p]? = some (d,r)) {u:List Int} (hw:jB most u) (hl:qB u (r++[(i:Int)])):yX nxt fin first false u=false:=by
 by_cases hu:u=[]
 ·subst hu;rfl
 obtain⟨u',a,rfl⟩:∃ u' a,u=u'++[a]:=⟨u.dropLast,u.getLast hu,(List.dropLast_concat_getLast _).symm⟩
 obtain⟨hw',ha0,ha1⟩:=hw.init
 obtain⟨y,hy,e1,e2⟩:=S.cover inj hp _ u' rfl hw' (dR (tG u' a) hl)
 obtain⟨q,hq⟩:=abo.1 hy
 have hya:=uW (oB a e2) hl
 have hdone:q < p\/(q=p/\a.toNat < i):=by
  rcases tH hya with c | ⟨c,c2⟩
  ·refine .inl ?_
   rcases (show q < p\/q=p\/p < q by omega) with z | rfl | z
   ·exact z
   ·rw[hp] at hq;cases hq;exact absurd c (eW _)
   ·exact absurd (dR c (S.sort p q _ _ z hp hq)) (eW _)
  ·rcases (show q < p\/q=p\/p < q by omega) with z | rfl | z
   ·have:=S.sort q p _ _ z hq hp
    rw[c] at this;exact absurd this (eW _)
   ·exact .inr ⟨rfl,by omega⟩
   ·have:=S.sort p q _ _ z hp hq
    rw[c] at this;exact absurd this (eW _)
 have ea:((a.toNat:Nat):Int)=a:=by omega
 obtain⟨hf,_⟩:=S.done q y a.toNat hq (by omega) hdone
 rw[ea] at hf
 rw[jF,<- e1];exact hf
theorem Seen.val {dD:af->L2.D}{most:Nat}{first:af}{p i q:Nat}{r r':List Int}{fs:Fs af}{d:af} (S:Seen dD nxt fin most first p r i fs) (hq:fs[q]? = some (d,r')):dA dD fs (dD d)=some r':=by
 unfold dA
 cases e:fs.find? λ p=>decide (dD p.1=dD d) with
 | none=>
  rw[List.find?_eq_none] at e
  exact absurd (decide_eq_true rfl) (e _ (aan hq))
 | some x=>
  have h1:=List.mem_of_find?_eq_some e
  have h2:dD x.1=dD d:=by have:=List.find?_some e;exact of_decide_eq_true this
  obtain⟨j,hj⟩:=abo.1 h1
  have:=S.uniq j q _ _ hj hq h2
  subst this
  rw[hq] at hj;cases hj;rfl
noncomputable def DP (nxt:af->Int->af) (fin:af->Int->Bool) (most:Nat) (first:af) (row:List Int):Prop:=yX nxt fin first false row=true/\jB most row/\∀ u,jB most u->qB u row->yX nxt fin first false u=false
variable {dD:af->L2.D}{most lim:Nat}{first:af}
theorem Seen.old {p i:Nat}{r:List Int}{fs:Fs af}{d:af} (S:Seen dD nxt fin most first p r i fs) (hp:fs[p]? = some (d,r)) (hf:fin d i=false) (hv:(dA dD fs (dD (nxt d i))).isSome=true):Seen dD nxt fin most first p r (i+1) fs:=by
 refine⟨S.zero,S.sort,λ x hx=>dR (S.low x hx) (lG r (by omega)),S.uniq,S.run,λ q x a hq ha h=>?_⟩
 rcases h with h | ⟨rfl,h⟩
 ·exact S.done q x a hq ha (.inl h)
 ·rcases (show a < i\/a=i by omega) with h2 | rfl
  ·exact S.done q x a hq ha (.inr ⟨rfl,h2⟩)
  ·rw[hp] at hq;cases hq
   obtain⟨y,hy,e⟩:=jD hv
   exact⟨hf,y,hy,e,.inr (S.low y hy)⟩
theorem Seen.new {p i:Nat}{r:List Int}{fs:Fs af}{d:af} (S:Seen dD nxt fin most first p r i fs) (hi:i<=most) (hp:fs[p]? = some (d,r)) (hf:fin d i=false) (hv:(dA dD fs (dD (nxt d i))).isSome=false):Seen dD nxt fin most first p r (i+1) (fs++[(nxt d i,r++[(i:Int)])]):=by
 have hlen:0 < fs.length:=(aad.mp S.zero).1
 have hpl:=(aad.mp hp).1
 have at_:∀ {j:Nat}{x:af×List Int},(fs++[(nxt d i,r++[(i:Int)])])[j]? = some x->(j < fs.length/\fs[j]? = some x)\/(j=fs.length/\x=(nxt d i,r++[(i:Int)])):=λ {j x} h=>by
  rcases Nat.lt_or_ge j fs.length with c | c
  ·rw[aba c] at h;exact .inl ⟨c,h⟩
  ·have hl:=(aad.mp h).1
   rw[aak,List.length_singleton] at hl
   have:j=fs.length:=by omega
   subst this
   rw[abq (Nat.le_refl _),Nat.sub_self] at h
   cases h;exact .inr ⟨rfl,rfl⟩
 have nov:∀ x∈fs,dD x.1≠dD (nxt d i):=λ x hx e=>by
  have:=fX (dD:=dD) (d:=x.1) (r:=x.2) hx
  rw[e,hv] at this;cases this
 obtain⟨hrun,hwok⟩:=S.run _ (aan hp)
 refine⟨by rw[aba hlen];exact S.zero,λ j k x y hjk hx hy=>?_,λ x hx=>?_,λ j k x y hx hy e=>?_,λ x hx=>?_,λ q x a hq ha h=>?_⟩
 ·rcases at_ hx with ⟨h1,h2⟩ | ⟨h1,rfl⟩
  ·rcases at_ hy with ⟨h3,h4⟩ | ⟨h3,rfl⟩
   ·exact S.sort j k x y hjk h2 h4
   ·exact S.low x (aan h2)
  ·rcases at_ hy with ⟨h3,h4⟩ | ⟨h3,_⟩
   ·omega
   ·omega
 ·rcases abd.1 hx with h | h
  ·exact dR (S.low x h) (lG r (by omega))
  ·rw[aaw] at h;subst h;exact lG r (by omega)
 ·rcases at_ hx with ⟨h1,h2⟩ | ⟨h1,rfl⟩
  ·rcases at_ hy with ⟨h3,h4⟩ | ⟨h3,rfl⟩
   ·exact S.uniq j k x y h2 h4 e
   ·exact absurd e (nov x (aan h2))
  ·rcases at_ hy with ⟨h3,h4⟩ | ⟨h3,rfl⟩
   ·exact absurd e.symm (nov y (aan h4))
   ·omega
 ·rcases abd.1 hx with h | h
  ·exact S.run x h
  ·rw[aaw] at h;subst h
   refine⟨by show n9 nxt first (r++[(i:Int)])=nxt d i;rw[gU,hrun],λ a ha=>?_⟩
   rcases abd.1 ha with ha | ha
   ·exact hwok a ha
   ·rw[aaw] at ha;subst ha;omega
 ·have hql:q < fs.length:=by omega
  rw[aba hql] at hq
  rcases h with h | ⟨rfl,h⟩
  ·obtain⟨h1,y,hy,h2⟩:=S.done q x a hq ha (.inl h)
   exact⟨h1,y,abm _ hy,h2⟩
  ·rcases (show a < i\/a=i by omega) with h2 | rfl
   ·obtain⟨h1,y,hy,h3⟩:=S.done q x a hq ha (.inr ⟨rfl,h2⟩)
    exact⟨h1,y,abm _ hy,h3⟩
   ·rw[hp] at hq;cases hq
    exact⟨hf,_,aax _ (List.mem_singleton_self _),rfl,.inl rfl⟩
theorem yL (inj:∀ x y,dD x=dD y->x=y) {p:Nat}{d:af}{r:List Int}:∀ (l i:Nat) (fs:Fs af),i+l=most+1->Seen dD nxt fin most first p r i fs->fs[p]? = some (d,r)->
  (∀ row fs',pD dD nxt fin lim d r l (i:Int) fs=.ends row fs'->DP nxt fin most first row)/\(∀ fs',pD dD nxt fin lim d r l (i:Int) fs=.on fs'->Seen dD nxt fin most first p r (most+1) fs'/\fs'[p]? = some (d,r)):=by
 intro l
 induction l with
 | zero=>
  intro i fs h S hp
  have:i=most+1:=by omega
  subst this
  exact⟨(λ row fs' e=>by cases e),(λ fs' e=>by cases e;exact⟨S,hp⟩)⟩
 | succ l ih=>
  intro i fs h S hp
  cases hf:fin d i with
  | true=>
   rw[nQ hf]
   refine⟨λ row fs' e=>?_,(λ fs' e=>by cases e)⟩
   cases e
   obtain⟨hrun,hwok⟩:=S.run _ (aan hp)
   refine⟨by rw[jF,hrun];exact hf,λ a ha=>?_,λ u hu hl=>S.none inj hp hu hl⟩
   rcases abd.1 ha with ha | ha
   ·exact hwok a ha
   ·rw[aaw] at ha;subst ha;omega
  | false=>
   cases hv:(dA dD fs (dD (nxt d i))).isSome with
   | true=>
    rw[nO hf hv]
    exact ih (i+1) fs (by omega) (S.old hp hf hv) hp
   | false=>
    by_cases hl:lim<=fs.length
    ·rw[lZ hf hv hl]
     exact⟨(λ row fs' e=>by cases e),(λ fs' e=>by cases e)⟩
    ·rw[nP hf hv (by omega)]
     exact ih (i+1) _ (by omega) (S.new (by omega) hp hf hv) (by rw[aba (aad.mp hp).1];exact hp)
theorem vR (inj:∀ x y,dD x=dD y->x=y):∀ (n p:Nat) (fs:Fs af),(∀ d r,fs[p]? = some (d,r)->Seen dD nxt fin most first p r 0 fs)->∀ row fs',iF dD nxt fin most lim n p fs=.ends row fs'->DP nxt fin most first row:=by
 intro n
 induction n with
 | zero=>intro p fs _ row fs' h;cases h
 | succ n ih=>
  intro p fs hS row fs' h
  rw[iF] at h
  cases hd:fs[p]? with
  | none=>rw[hd] at h;cases h
  | some x=>
   obtain⟨d,r⟩:=x
   rw[hd] at h
   dsimp only at h
   have S:=hS d r hd
   rw[S.val hd] at h
   obtain⟨b1,b2⟩:=yL (lim:=lim) inj (most+1) 0 fs (by omega) S hd
   cases hb:pD dD nxt fin lim d ((some r).getD []) (most+1) 0 fs with
   | many=>rw[hb] at h;cases h
   | ends row' f=>rw[hb] at h;cases h;exact b1 _ _ hb
   | on fs1=>
    rw[hb] at h
    obtain⟨S1,hp1⟩:=b2 fs1 hb
    refine ih (p+1) fs1 (λ d' r' h'=>?_) row fs' h
    have hlt:=S1.sort p (p+1) _ _ (by omega) hp1 h'
    refine⟨S1.zero,S1.sort,λ x hx=>dR (S1.low x hx) (oA _ _ hlt),S1.uniq,S1.run,λ q x a hq ha hh=>?_⟩
    rcases hh with hh | ⟨_,hh⟩
    ·rcases (show q < p\/q=p by omega) with z | rfl
     ·exact S1.done q x a hq ha (.inl z)
     ·exact S1.done q x a hq ha (.inr ⟨rfl,by omega⟩)
    ·omega
theorem yK (inj:∀ x y,dD x=dD y->x=y) {row:List Int}{fs:Fs af} (h:CB dD nxt fin most lim first=.ends row fs):DP nxt fin most first row:=by
 refine vR inj (lim+1) 0 [(first,[])] (λ d r e=>?_) row fs h
 cases e
 refine⟨rfl,λ j k x y hjk hx hy=>?_,λ x hx=>?_,λ j k x y hx hy _=>?_,λ x hx=>?_,λ q x a hq ha hh=>by omega⟩
 ·have:=(aad.mp hy).1
  simp at this;omega
 ·rw[aaw] at hx;subst hx;exact .inl (by simp)
 ·have h1:=(aad.mp hx).1
  have h2:=(aad.mp hy).1
  simp at h1 h2;omega
 ·rw[aaw] at hx;subst hx;exact⟨rfl,λ a ha=>by cases ha⟩
end
end Tw
namespace Tw
open PySem L2
section
variable {P:Program}{w:World}{K:aaa}{mg:Str->Option Value}{base:Heap}{C c_TipError c_NoNet c_NoVessel c_TooLong c_TooMany c_TooMuch c_Nothing c_NoText c_NoRow:Addr}
noncomputable def qW (K:aaa) (Pt:Addr):Sp:=λ vs H Q _=>∃ (x y:V) (N1 N2:Net) (v v':Int) (most:Nat),vs=[x,y,.int v,.int v',.int most]/\Is K H (dY N1) x/\Is K H (dY N2) y/\NetOk N1/\NetOk N2/\most<=1000/\dX H Pt i6 rL/\
  (∀ row fs,fC N1 N2 v v' most=.ends row fs->∀ p rl H',SmT Pt i6 rL H H'->bD K H' p [.str "parted",.ref rl]->H' rl=some (.lst (row.map V.int))->H rl=none->row.length<=2000->Q (.ref p) H')/\
  (fC N1 N2 v v' most=.many->∀ p H',SmT Pt i6 rL H H'->bD K H' p [.str "many"]->Q (.ref p) H')/\
  (∀ fs,fC N1 N2 v v' most=.on fs->∀ p fl us H',SmT Pt i6 rL H H'->bD K H' p [.str "alike",.ref fl]->H' fl=some (.lst us)->H fl=none->Paired (λ (p:iL×List Int) v=>KeyD K H' (o8 N1 N2) (cL p.1) v) fs us->(∀ q∈fs,yP N1 N2 q.1)->fs.length<=300->Q (.ref p) H')
theorem jS:FnScope ["net","other","one","two","most","error","found","e"] ["net","other","one","two","most"] (aM (bK 41)):=⟨rfl,rfl,rfl,by decide +kernel,rfl,by decide +kernel,by decide +kernel⟩
theorem nC {f f1 f2 Pt:Addr}{fd fd1 fd2:FuncData} (F:Fun K "_law_tried" "_law_tried" (bK 41) f fd) (T:Txt mg) (W:TxtW mg c_TipError c_NoNet c_NoVessel c_TooLong c_TooMany c_TooMuch c_Nothing c_NoText c_NoRow)
  (kdY:KindOf K c_NoNet c_NoVessel c_TooLong c_TooMany c_TooMuch c_Nothing c_NoText c_NoRow c_TooMany [false,false,false,true,false,false,false,false]) (hmY:PySem.W.exmOne K (.ref c_TooMany) (.ref c_TipError)=some true)
  (G_alike:CalleeR P w K mg base "alike" ["net","other","one","two","most"] 8 (rE K Pt c_TooMany) f1 fd1)
  (G__law_word:Callee P w K mg base "_law_word" ["error"] 1 (uR K c_NoNet c_NoVessel c_TooLong c_TooMany c_TooMuch c_Nothing c_NoText c_NoRow) f2 fd2) :
  FnOk P w K mg base iM 9 f fd ["net","other","one","two","most"] (qW K Pt):=by
 refine F.ok jS (λ vs H Q E h=>?_) (λ cdv A outer s H vs Q E hr h=>?_)
 ·obtain⟨x,y,N1,N2,v,v',most,rfl,_⟩:=h;rfl
 ·obtain⟨x,y,N1,N2,v,v',most,rfl,hx,hy,nok,mok,hm,tab,kE,kM,kO⟩:=h
  have sc:=jS
  let EX:XK:=λ cls _ H'=>SmT Pt i6 rL H H'/\cls=.ref c_TooMany/\∀ p H',SmT Pt i6 rL H H'->bD K H' p [.str "many"]->Q (.ref p) H'
  refine⟨_,(aD (aP (i:=5) sc.nd rfl (Or.inl rfl) eQ)
   (aD (aP (i:=6) sc.nd rfl (Or.inl rfl) eQ)
   (aD (FE (EX:=EX) rfl rfl (λ pn xe hx=>(aK (aP (i:=6) sc.nd rfl (Or.inl rfl) (wG G_alike.ok (hr.mono (by decide)) rfl G_alike.mg G_alike.kp G_alike.bd .nil hx (aA (pv 0) (aA (pv 1) (aA (pv 2) (aA (pv 3) (aA (pv 4) aC))))))))) rfl W.m_TipError sc.nd (i:=7) rfl rfl (λ ea=>(aK (aP (i:=5) sc.nd rfl (Or.inl rfl) (pv 7)))))
   (aD (cF (bB rP (pv 5) eQ (bH _)) (aK (bC (pv 6))) bL)
   (aK (bC (d5 G__law_word hr (aA (pv 5) aC)))))))),?_⟩
  dsimp only [eP,jN,gE,tC]
  refine⟨?_,?_⟩
  ·refine⟨_,rfl,_,rfl,_,rfl,_,rfl,_,rfl,x,y,N1,N2,v,v',most,rfl,hx,hy,nok,mok,hm,tab,λ row fs e p rl H1 s1 qp h1 h2 h3=>?_,λ e H1 s1=>⟨s1,rfl,kM e⟩,λ fs e p fl us H1 s1 qp h1 h2 h3 h4 h5=>?_⟩
   ·refine⟨_,rfl,rfl,_,rfl,gF ?_⟩
    exact⟨_,rfl,kE row fs e p rl H1 s1 qp h1 h2 h3⟩
   ·refine⟨_,rfl,rfl,_,rfl,gF ?_⟩
    exact⟨_,rfl,kO fs e p fl us H1 s1 qp h1 h2 h3 h4 h5⟩
  ·rintro cls H' ea ac ⟨sH,rfl,kk⟩ hlen hea
   obtain⟨u0,u1,u2,u3,u4,u5,u6,u7,rfl⟩:∃ u0 u1 u2 u3 u4 u5 u6 u7,ac=[u0,u1,u2,u3,u4,u5,u6,u7]:=by
    match ac,hlen with
    | [u0,u1,u2,u3,u4,u5,u6,u7],_=>exact⟨_,_,_,_,_,_,_,_,rfl⟩
   have s1:=aF.new (o:=y4 ea (.ref c_TooMany)) hea
   refine⟨hmY,⟨_,rfl,?_⟩⟩
   refine⟨_,rfl,rfl,_,rfl,dP ?_⟩
   refine⟨_,rfl,ea,c_TooMany,_,3,"many",rfl,aB,kdY,rfl,rfl,λ i b hi hb=>?_,rfl,λ p H2 sm2 qp=>kk p H2 (sH.step (s1.trans sm2)) qp⟩
   match i,hi with
   | 0,_=>simpa using hb.symm
   | 1,_=>simpa using hb.symm
   | 2,_=>simpa using hb.symm
noncomputable abbrev BY (A B:Net) (i j:Int) (most:Nat) (row:List Int):Prop:=DP (n5 A B) (iK A B i j) most (cR A,cR B) row
theorem DJ {A B:Net}{i j:Int}{most:Nat}{row:List Int} (g:BY A B i j most row) {k:Nat}{a:Int} (h:row[k]? = some a):iK A B i j (n9 (n5 A B) (cR A,cR B) (row.take k)) a=decide (k+1=row.length):=by
 have hk:=(aad.mp h).1
 have et:row.take (k+1)=row.take k++[a]:=by rw[abn,h];rfl
 have e:=jF (nxt:=n5 A B) (fin:=iK A B i j) (cR A,cR B) false (row.take k) a
 rw[<- et] at e
 by_cases c:k+1=row.length
 ·rw[decide_eq_true c,<- e,c,aao];exact g.1
 ·rw[decide_eq_false c,<- e]
  refine g.2.2 _ (λ b hb=>g.2.1 b (List.mem_of_mem_take hb)) (.inl ?_)
  rw[aaj];omega
theorem wC {A B:Net} (a1:NetOk A) (b1:NetOk B):∀ (u:List Int) {q:iL},yP A B q->yP A B (n9 (n5 A B) q u)
 | [],_,h=>h
 | a::u,q,h=>wC a1 b1 u (q:=n5 A B q a) ⟨iZ a1 h.1 a,iZ b1 h.2 a⟩
noncomputable def rB (K:aaa):Sp:=λ vs H Q _=>∃ (x y:V) (N1 N2:Net) (v v':Int) (most:Nat) (rl:Addr) (row:List Int),vs=[x,y,.int v,.int v',.ref rl]/\Is K H (dY N1) x/\Is K H (dY N2) y/\NetOk N1/\NetOk N2/\H rl=some (.lst (row.map V.int))/\row.length<=2000/\BY N1 N2 v v' most row/\∀ H',aF H H'->Q (.bl true) H'
theorem jU:FnScope ["net","other","one","two","row","left","right","k","later","then"] ["net","other","one","two","row"] (aM (bK 42)):=⟨rfl,rfl,rfl,by decide +kernel,rfl,by decide +kernel,by decide +kernel⟩
theorem pK {f f1 f2:Addr}{fd fd1 fd2:FuncData} (F:Fun K "_law_parts" "_law_parts" (bK 42) f fd) (T:Txt mg) (G__law_first:Callee P w K mg base "_law_first" ["net"] 1 (gI K) f1 fd1)
  (G__law_step:Callee P w K mg base "_law_step" ["net","state","amount","watched"] 3 (kW K) f2 fd2):FnOk P w K mg base iM 4 f fd ["net","other","one","two","row"] (rB K):=by
 refine F.ok jU (λ vs H Q E h=>?_) (λ cdv A outer s H vs Q E hr h=>?_)
 ·obtain⟨x,y,N1,N2,v,v',most,rl,row,rfl,_⟩:=h;rfl
 ·obtain⟨x,y,N1,N2,v,v',most,rl,row,rfl,hx,hy,nok,mok,hrl,hlr,hg,k⟩:=h
  have sc:=jU
  refine⟨_,(aD (aP (i:=5) sc.nd rfl (Or.inl rfl) (d5 G__law_first hr (aA (pv 0) aC)))
   (aD (aP (i:=6) sc.nd rfl (Or.inl rfl) (d5 G__law_first hr (aA (pv 1) aC)))
   (aD (cS PassesOwn.never rfl (cK rfl T.b_range (aA (aR (bA (K:=K) rfl) rfl T.b_len aar (aA (pv 4) aC)) aC)) (aH (i:=7) sc.nd rfl (Or.inl rfl)) (aD (aP (i:=8) sc.nd rfl (Or.inl rfl) (d5 G__law_step hr (aA (pv 0) (aA (pv 5) (aA (aQ (aJ (K:=K) rfl) (pv 4) (pv 7) (λ _ _=>rfl)) (aA (pv 2) aC))))))
   (aD (aP (i:=9) sc.nd rfl (Or.inl rfl) (d5 G__law_step hr (aA (pv 1) (aA (pv 6) (aA (aQ (aJ (K:=K) rfl) (pv 4) (pv 7) (λ _ _=>rfl)) (aA (pv 3) aC))))))
   (aD (aP (i:=5) sc.nd rfl (Or.inl rfl) (aQ (aJ (K:=K) rfl) (pv 8) aE (λ _ _=>rfl)))
   (aD (aP (i:=6) sc.nd rfl (Or.inl rfl) (aQ (aJ (K:=K) rfl) (pv 9) aE (λ _ _=>rfl)))
   (aK (cF (bB jX (eD jX (aQ (aJ (K:=K) rfl) (pv 8) aE (λ _ _=>rfl)) (aQ (aJ (K:=K) rfl) (pv 9) aE (λ _ _=>rfl)) (bH _)) (eD g7 (pv 7) (aU eY (aR (bA (K:=K) rfl) rfl T.b_len aar (aA (pv 4) aC)) aE) (bH _)) (bH _)) (aK (bC eF)) bL)))))))
   (aK (bC (eD tO (aR (bA (K:=K) rfl) rfl T.b_len aar (aA (pv 4) aC)) aE (bH _))))))),?_⟩
  refine⟨_,rfl,x,N1,rfl,hx,nok,λ st1 Ha sa hst1=>?_⟩
  refine⟨_,rfl,y,N2,rfl,Is.mono sa.ts _ _ hy,mok,λ st2 Hb sb hst2=>?_⟩
  have s0:=sa.trans sb
  refine⟨_,rfl,rl,_,rfl,.inl (bT.of (s0 _ _ hrl)),_,rfl,by rw[aac];omega,by rw[aac];omega,?_⟩
  rw[aac,acd]
  refine dS (lo:=0) (n:=row.length) (λ i ac H'=>aF H H'/\∃ (y1 y2:V) (v7 v8 v9:Option V),Is K H' (dO (n9 (n5 N1 N2) (cR N1,cR N2) (row.take i)).1) y1/\Is K H' (dO (n9 (n5 N1 N2) (cR N1,cR N2) (row.take i)).2) y2/\
   ac=[some x,some y,some (.int v),some (.int v'),some (.ref rl),some y1,some y2,v7,v8,v9]) ?_ ?_ ?_
  ·exact⟨s0,st1,st2,_,_,_,Is.mono sb.ts _ _ hst1,hst2,rfl⟩
  ·rintro i ac H4 hi ⟨s4,y1,y2,v7,v8,v9,i1,i2,rfl⟩
   rw[Int.zero_add]
   obtain⟨a,ha⟩:∃ a,row[i]? = some a:=⟨_,abh hi⟩
   have hat:BS (row.map V.int) (i:Int)=some (.int a):=bZ (by rw[aah,ha];rfl)
   have okq:=wC nok mok (row.take i) (q:=(cR N1,cR N2)) ⟨fE N1,fE N2⟩
   have hfin:=DJ hg ha
   have et:row.take (i+1)=row.take i++[a]:=by rw[abn,ha];rfl
   generalize hq:n9 (n5 N1 N2) (cR N1,cR N2) (row.take i)=q at i1 i2 okq hfin
   dsimp only [eP]
   refine⟨_,rfl,_,rfl,_,rfl,_,rfl,.inl ⟨rl,_,(i:Int),_,rfl,rfl,bT.of (s4 _ _ hrl),hat,_,rfl,x,y1,N1,q.1,v,a,rfl,Is.mono s4.ts _ _ hx,i1,nok,okq.1,λ pl yl Hl sl ql il=>?_⟩⟩
   refine⟨_,rfl,_,rfl,_,rfl,_,rfl,.inl ⟨rl,_,(i:Int),_,rfl,rfl,bT.of (sl _ _ (s4 _ _ hrl)),hat,_,rfl,y,y2,N2,q.2,v',a,rfl,Is.mono (s4.trans sl).ts _ _ hy,Is.mono sl.ts _ _ i2,mok,okq.2,λ pr yr Hr sr qr ir=>?_⟩⟩
   have ql7:=sr.tup ql
   refine⟨_,rfl,.inr (.inl ⟨pl,_,0,_,rfl,rfl,ql7,rfl,?_⟩)⟩
   refine⟨_,rfl,.inr (.inl ⟨pr,_,0,_,rfl,rfl,qr,rfl,?_⟩)⟩
   refine⟨_,rfl,.inr (.inl ⟨pl,_,1,_,rfl,rfl,ql7,rfl,_,rfl,.inr (.inl ⟨pr,_,1,_,rfl,rfl,qr,rfl,rfl,_,rfl,_,rfl,rl,_,rfl,.inl (bT.of (sr _ _ (sl _ _ (s4 _ _ hrl)))),_,_,rfl,rfl,rfl,rfl,_,rfl,?_⟩)⟩)⟩
   have e2:decide (V.int (i:Int)=V.int (((row.map V.int).length:Int) - 1))=decide (i+1=row.length):=by
    rw[aac]
    by_cases c:i+1=row.length
    ·rw[decide_eq_true c,decide_eq_true (by congr 1;omega)]
    ·rw[decide_eq_false c,decide_eq_false (λ z=>c (by injection z with z;omega))]
   have e3:(!decide (V.bl (iK N1 N2 v v' q a)=V.bl (decide (V.int (i:Int)=V.int (((row.map V.int).length:Int) - 1)))))=false:=by
    rw[hfin,e2,decide_eq_true rfl];rfl
   refine eM (λ hT=>?_) λ _=>?_
   ·have hT':(!decide (V.bl (iK N1 N2 v v' q a)=V.bl (decide (V.int (i:Int)=V.int (((row.map V.int).length:Int) - 1)))))=true:=hT
    rw[e3] at hT';cases hT'
   ·refine⟨s4.trans (sl.trans sr),yl,yr,_,_,_,?_,?_,rfl⟩
    ·rw[et,gU,hq];exact Is.mono sr.ts _ _ il
    ·rw[et,gU,hq];exact ir
  ·rintro ac H4 ⟨s4,y1,y2,v7,v8,v9,i1,i2,rfl⟩
   refine⟨_,rfl,rl,_,rfl,.inl (bT.of (s4 _ _ hrl)),_,_,rfl,rfl,?_⟩
   have hne:0 < row.length:=by
    cases row with
    | nil=>exact absurd hg.1 (by show ¬ (false=true);decide)
    | cons _ _=>simp
   have e4:decide ((0:Int) < ((row.map V.int).length:Int))=true:=decide_eq_true (by rw[aac];omega)
   show Q (.bl (decide ((0:Int) < ((row.map V.int).length:Int)))) H4
   rw[e4]
   exact k _ s4
end
end Tw
namespace HT
open PySem PySem.Spec PyProof.Rows L2
section
variable {prog:Program}{w:World}{A:Around}{E:Value->Shared->Prop}{s:Shared}
theorem getItem_tuple_whole {t sl:Addr}{items:Array Value}{vl vu:Value}{lo hi:Option Int}{Q:Value->Shared->Prop} (ht:IsTup s.heap t items) (hs:s.heap.IsSliceOf sl vl vu .none) (pl:IsPart vl lo) (pu:IsPart vu hi)
  (hw:sIx items.size 0 lo=0/\sIx items.size items.size hi=items.size) (h:Q (.ref t) s):wpAny (model prog w) A (getItem (.ref t) (.ref sl)) Q E s:=by
 obtain⟨os,hos,hcs,hds⟩:=id hs
 have hTs:s.TypeIs (.ref sl) "slice" := ⟨os,hos,hcs⟩
 unfold getItem
 try with_reducible refine wpAny_holding ?_
 first | refine wpAny_bind (wpAny_pure ?_) | skip
 refine wpAny_bind (wpAny_sequenceKey ht.typeIs (by decide) ?_)
 refine wpAny_bind (wpAny_callSpecial?_slot (name:=Str.ofString "__getitem__") ht.typeIs PyProof.Rows.slot_tuple_getitem
  (wpAny_call_entry PyProof.Rows.slot_tuple_getitem ht.typeIs entry_tuple_getitem ?_ (args_tuple_getitem _ _)))
 show wpAny _ _ (Builtin.Tuple.tupleItemsOf (.ref t) >>= _) _ _ s
 refine wpAny_bind (tupleItemsOf_ ht ?_)
 refine wpAny_bind (wpAny_typeOf hTs ?_)
 rw[if_pos (by decide)]
 refine wpAny_bind (gS hs pl pu ?_)
 have hyes:(((sIx items.size 0 lo:Nat):Int) == 0 && (1:Int) == 1 && (sIx items.size items.size hi - sIx items.size 0 lo) == items.size)=true:=by
  rw[hw.1,hw.2];simp
 show wpAny _ _ (if (((sIx items.size 0 lo:Nat):Int) == 0 && (1:Int) == 1 && (sIx items.size items.size hi - sIx items.size 0 lo) == items.size)=true then _ else _) _ _ s
 rw[if_pos hyes]
 refine wpAny_bind ?_
 refine wpAny_bind (m:=Builtin.Tuple.tupleIsExact (.ref t)) ?_
 unfold Builtin.Tuple.tupleIsExact
 refine wpAny_bind (wpAny_typeOf ht.typeIs (wpAny_pure ?_))
 refine wpAny_pure ?_
 rw[if_pos (by decide)]
 refine wpAny_bind (wpAny_rule ?_)
 refine wpAny_pure ?_
 refine⟨_,rfl,wpAny_pure ?_⟩
 exact h
end
end HT
namespace L2
open PySem
section
variable {X:Cx}{K:aaa}
noncomputable def wD (K:aaa):V->Option Int->Option Int->Hp->VK->Prop:=λ x lo hi H Q=>∃ a xs,x=.ref a/\bD K H a xs/\
 ((HT.sIx xs.length 0 lo=0/\HT.sIx xs.length xs.length hi=xs.length)->Q (.ref a) H)/\
 (¬ (HT.sIx xs.length 0 lo=0/\HT.sIx xs.length xs.length hi=xs.length)->∀ p,H p=none->Q (.ref p) (upd H p (.tup (kL xs lo hi))))
theorem gJ (hK:X.K=K):IE X (wD K):=by
 subst hK
 intro pins s σ H x v vl vu lo hi sl Q I rx hs pl pu h
 obtain⟨a,xs,rfl,hx,q1,q2⟩:=h
 by_cases hw:HT.sIx xs.length 0 lo=0/\HT.sIx xs.length xs.length hi=xs.length
 ·have q1:=q1 hw
  cases rx
  obtain⟨its,r,ht,hz⟩:=I.tuple hx
  have hlen:its.toArray.size=xs.length:=by rw[aam];exact r.length.symm
  refine⟨"tuple",_,PyProof.Rows.slot_tuple_getitem.lookup,ht.typeIs,?_⟩
  exact HT.getItem_tuple_whole ht hs pl pu (by rw[hlen];exact hw) ⟨.ref a,H,I,rfl,q1⟩
 ·exact EU pins s σ H _ v vl vu lo hi sl Q I rx hs pl pu ⟨a,xs,rfl,hx,hw,q2 hw⟩
end
end L2
namespace Tw
open PySem L2
theorem Ext.sm {t sl:Addr}{H H1 H2:Hp} (e:Ext t sl H H1) (s:aF H1 H2):Ext t sl H H2:=⟨e.bt.trans s.but,e.tp.same s⟩
theorem gB {K:aaa}{H:Hp}:∀ (n:Nat) {ds:List L2.D}{xs:List V},L2.IsL K H ds xs->L2.IsL K H (ds.take n) (xs.take n)
 | 0,_,_,_=>.nil
 | n+1,[],xs,h=>by
  have:=h.length
  cases xs with
  | nil=>exact .nil
  | cons _ _=>simp at this
 | n+1,d::ds,xs,h=>by
  cases xs with
  | nil=>have:=h.length;simp at this
  | cons x xs=>
   rw[L2.IsL] at h
   obtain⟨x1,r,e,h1,h2⟩:=h
   cases e
   exact .cons h1 (gB n h2)
theorem gT {K:aaa}{H:Hp}{a:Addr}{xs:List V}{n:Nat}{Q:VK} (q:bD K H a xs) (k:∀ b H',aF H H'->bD K H' b (xs.take n)->Q (.ref b) H'):wD K (.ref a) none (some (n:Int)) H Q:=by
 refine⟨a,xs,rfl,q,λ h=>?_,λ h p hp=>?_⟩
 ·have h2:=h.2
  rw[HT.sIx_nat] at h2
  have e:xs.take n=xs:=List.take_of_length_le (by omega)
  exact k a H (aF.refl H) (by rw[e];exact q)
 ·have e:kL xs none (some (n:Int))=xs.take n:=by
   unfold kL
   rw[HT.sIx_none,HT.sIx_nat,List.drop_zero,Nat.sub_zero]
   rcases Nat.le_total n xs.length with h | h
   ·rw[Nat.min_eq_left h]
   ·rw[Nat.min_eq_right h,aao,List.take_of_length_le h]
  rw[e]
  exact k p _ (aF.new hp) (bD.of aB)
noncomputable def kD (s:sV):sV:=(s.1,s.2.1 % 2,s.2.2)
noncomputable def mI (m:Nat) (as:List (Str×Int)):List (Str×Int):=as.filter λ a=>decide (a.2 < m)
theorem xF {m:Nat}{as:List (Str×Int)}{j:Nat}{t':Str×Int} (ht':as[j]? = some t'):mI m (as.take (j+1))=mI m (as.take j)++(if t'.2 < m then [t'] else []):=by
 unfold mI
 rw[abn,ht',List.filter_append]
 show _++List.filter _ [t']=_
 by_cases c:t'.2 < m
 ·rw[if_pos c,List.filter_cons_of_pos (by exact decide_eq_true c)];rfl
 ·rw[if_neg c,List.filter_cons_of_neg (by simpa using c)];rfl
noncomputable def GZ (m:Nat) (v:Vs):Vs:=⟨if 3 < v.size then 3 else v.size,(if 3 < v.size then 3 else v.size)+v.brim % 2,v.outs.take 2,v.holds,v.spill,(mI m v.acts).take 1⟩
noncomputable def zI (net:Net):Net:=⟨net.vs.map (GZ ((net.sps.take 2).map kD).length),(net.sps.take 2).map kD⟩
theorem CL {net:Net} (nok:NetOk net):NetOk (zI net):=by
 refine⟨by show 1<=(net.vs.map _).length;rw[aac];exact nok.lo,by show (net.vs.map _).length<=12;rw[aac];exact nok.hi,?_,λ v hv=>?_,λ s hs=>?_⟩
 ·show ((net.sps.take 2).map kD).length<=12
  rw[aac,aaj];omega
 ·obtain⟨u,hu,rfl⟩:=abf.1 hv
  have ok:=nok.vs u hu
  have el:(zI net).vs.length=net.vs.length:=by show (net.vs.map _).length=_;rw[aac]
  rw[el]
  have ho3:=ok.o3
  have ha3:=ok.a3
  refine⟨?_,?_,?_,λ o ho=>ok.outs o (List.mem_of_mem_take ho),ok.spill,?_,λ a ha=>?_⟩
  ·show 1<=if 3 < u.size then 3 else u.size
   have:=ok.size
   split <;> omega
  ·show u.outs.take 2≠[]
   have:=ok.ne
   cases hq:u.outs with
   | nil=>exact absurd hq this
   | cons x r=>simp
  ·show (u.outs.take 2).length<=3
   rw[aaj];omega
  ·show ((mI _ u.acts).take 1).length<=3
   rw[aaj];omega
  ·have ha':a∈mI ((net.sps.take 2).map kD).length u.acts:=List.mem_of_mem_take ha
   unfold mI at ha'
   rw[List.mem_filter] at ha'
   have aok:=ok.acts a ha'.1
   exact⟨aok.word,aok.lo,of_decide_eq_true ha'.2⟩
 ·obtain⟨u,hu,rfl⟩:=abf.1 hs
  have:=nok.sps u (List.mem_of_mem_take hu)
  show 0<=u.1/\u.1 < ((net.vs.map _).length:Int)
  rw[aac];exact this
section
variable {P:Program}{w:World}{K:aaa}{mg:Str->Option Value}{base:Heap}
noncomputable def qZ (K:aaa):Sp:=λ args H Q _=>∃ (t sl:Addr),args=[.ref t]/\dU H t sl/\∀ (net:Net) p H',Ext t sl H H'->NetOk net->net.vs.length<=2->Is K H' (dY net) p->Q p H'
theorem jT:FnScope ["tape","net","spouts","vessels","size","brim","outs","holds","spill","acts"] ["tape"] (aM (bK 37)):=⟨rfl,rfl,rfl,by decide +kernel,rfl,by decide +kernel,by decide +kernel⟩
theorem pJ {f f1:Addr}{fd fd1:FuncData} (F:Fun K "_law_small" "_law_small" (bK 37) f fd) (T:Txt mg) (G__law_net:Callee P w K mg base "_law_net" ["tape","most","small"] 4 (uV K) f1 fd1) :
  FnOk P w K mg base iM 5 f fd ["tape"] (qZ K):=by
 refine F.ok jT (λ vs H Q E h=>?_) (λ cdv A outer s H vs Q E hr h=>?_)
 ·obtain⟨t,sl,rfl,_⟩:=h;rfl
 ·obtain⟨t,sl,rfl,tp,k⟩:=h
  have sc:=jT
  refine⟨_,(aD (aP (i:=1) sc.nd rfl (Or.inl rfl) (d5 G__law_net hr (aA (pv 0) (aA aE (aA eF aC)))))
   (aD (aP (i:=2) sc.nd rfl (Or.inr rfl) (aZ (bO (K:=K) rfl) rfl T.b_tuple bR (aA (gL (λ _ _ h=>h) rfl (LcOk.mk (N':=["target","flow","is_open"]) (fr:=[none,none,none]) rfl trivial rfl rfl rfl rfl rfl trivial) (cW (K:=K) rfl (eK (gJ (K:=K) rfl) (aQ (aJ (K:=K) rfl) (pv 1) aE (λ _ _=>rfl)) fH (fG aE))) (λ _ _ _=>(bJ (K:=K) (n:=3) rfl rfl (aG (aH (i:=0) (show (["target","flow","is_open"]:List Str).Nodup by decide +kernel) rfl (Or.inl rfl) (Or.inr rfl)) (aG (aH (i:=1) (show (["target","flow","is_open"]:List Str).Nodup by decide +kernel) rfl (Or.inl rfl) (Or.inr rfl)) (aG (aH (i:=2) (show (["target","flow","is_open"]:List Str).Nodup by decide +kernel) rfl (Or.inl rfl) (Or.inr rfl)) bF))))) (λ _ _ _=>d6) (λ _ _ _=>(aV (aA (pv 0) (aA (aU iC (pv 1) aE) (aA (pv 2) aC)))))) aC)))
   (aD (aP (i:=3) sc.nd rfl (Or.inl rfl) (bG aC))
   (aD (cS PassesOwn.never rfl (cW (K:=K) rfl (aQ (aJ (K:=K) rfl) (pv 1) aE (λ _ _=>rfl))) (bJ (K:=K) (n:=6) rfl rfl (aG (aH (i:=4) sc.nd rfl (Or.inl rfl)) (aG (aH (i:=5) sc.nd rfl (Or.inl rfl)) (aG (aH (i:=6) sc.nd rfl (Or.inl rfl)) (aG (aH (i:=7) sc.nd rfl (Or.inl rfl)) (aG (aH (i:=8) sc.nd rfl (Or.inl rfl)) (aG (aH (i:=9) sc.nd rfl (Or.inl rfl)) bF))))))) (aD (aP (i:=9) sc.nd rfl (Or.inl rfl) (aZ (bO (K:=K) rfl) rfl T.b_tuple bR (aA (gL (λ _ _ h=>h) rfl (LcOk.mk (N':=["act","spouts"]) (fr:=[none,some 2]) rfl ⟨rfl,trivial⟩ rfl rfl rfl rfl rfl ⟨⟨_,rfl,rfl,rfl,rfl⟩,trivial⟩) (cW (K:=K) rfl (pv 9)) (λ _ _ _=>(aH (i:=0) (show (["act","spouts"]:List Str).Nodup by decide +kernel) rfl (Or.inl rfl) (Or.inr rfl))) (λ _ _ _=>rN (bB oH (aQ (aJ (K:=K) rfl) (pv 0) aE (λ _ _=>rfl)) (aR (bA (K:=K) rfl) rfl T.b_len aar (aA (pv 1) aC)) (bH _))) (λ _ _ _=>(pv 0))) aC)))
   (aK (cV (eA (K:=K) rfl aas aau aav cD (pv 3) (aA (aV (aA (aR (mT rfl) rfl T.b_min PyProof.Rows.boot_min (aA (pv 4) (aA aE aC))) (aA (aU cB (aR (mT rfl) rfl T.b_min PyProof.Rows.boot_min (aA (pv 4) (aA aE aC))) (aU iC (pv 5) aE)) (aA (eK (gJ (K:=K) rfl) (pv 6) fH (fG aE)) (aA (pv 7) (aA (pv 8) (aA (eK (gJ (K:=K) rfl) (pv 9) fH (fG aE)) aC))))))) aC))))))
   (aK (bC (aV (aA (aZ (bO (K:=K) rfl) rfl T.b_tuple bR (aA (pv 3) aC)) (aA (pv 2) aC))))))))),?_⟩
  refine⟨_,rfl,t,sl,2,true,rfl,by decide,by decide,tp,λ net x H1 e1 nok nfu hml hx=>?_⟩
  obtain⟨ax,av,as,xs,ys,rfl,qx,qv,lv,qs,ls⟩:=fA hx
  have exl:xs.length=net.vs.length:=by rw[lv.length,aac]
  have eyl:ys.length=net.sps.length:=by rw[ls.length,aac]
  have n2:net.vs.length<=2:=by omega
  refine⟨_,rfl,.inr (.inl ⟨ax,_,1,_,rfl,rfl,qx,rfl,_,rfl,gT (n:=2) qs λ b H2 s2 q2=>?_⟩)⟩
  have l2:L2.IsL K H2 ((net.sps.take 2).map pC) (ys.take 2):=by
   rw[List.map_take];exact gB 2 (L2.IsL.mono s2.ts _ _ ls)
  refine⟨b,rfl,⟨_,q2⟩,gA (K:=K) (a:=b) (xs:=ys.take 2) (λ D i r ac H'=>H2 D=none/\aF H2 H'/\H' D=some (.lst r)/\L2.IsL K H' ((((net.sps.take 2).take i).map kD).map pC) r/\∃ u1 u2 u3,ac=[u1,u2,u3])
   (λ D i r ac H' p=>p.2.1.tup q2) (λ D hD=>⟨hD,aF.new hD,aB,.nil,none,none,none,rfl⟩) ?_ ?_⟩
  rotate_left
  ·rintro D i y r ac H3 hy ⟨hD,sm,hDl,lr,u1,u2,u3,rfl⟩
   obtain⟨sp,hsp,sa,rfl,qsp⟩:=mF l2 hy
   have hil:=(aad.mp hsp).1
   refine⟨sa,_,rfl,sm.tup qsp,rfl,_,_,rfl,_,_,rfl,_,_,rfl,rfl,?_⟩
   refine gN ?_
   refine⟨_,rfl,_,rfl,_,_,rfl,rfl,(show (0:Int) < 2 by decide),_,rfl,(show 3<=sizeLine by decide),λ e he=>?_⟩
   have m1:=aF.new (o:=HO.tup [.int sp.1,.int (sp.2.1 % 2),.bl sp.2.2]) he
   have i1:Is K (upd H3 e (.tup [.int sp.1,.int (sp.2.1 % 2),.bl sp.2.2])) (pC (kD sp)) (.ref e):=Is.tupOf (ds:=[.int sp.1,.int (sp.2.1 % 2),.bl sp.2.2]) (bD.of aB) (.cons (Is.i _) (.cons (Is.i _) (.cons (Is.b _) .nil)))
   generalize upd H3 e (.tup [.int sp.1,.int (sp.2.1 % 2),.bl sp.2.2])=H4 at m1 i1 ⊢
   have hDl2:=m1 _ _ hDl
   have muD:kR (H4 D):=by rw[hDl2];exact trivial
   have hrl:r.length<=12:=by rw[lr.length,aac,aac,aaj,aaj];omega
   refine⟨hDl2,aY (by omega),hD,(sm.trans m1).put hD,aB,?_,_,_,_,rfl⟩
   rw[abn,hsp,aae,aae]
   exact L2.IsL.snoc (Is.mono (cP.ts cP.upd muD) _ _ i1) (L2.IsL.mono (m1.ts.trans (cP.ts cP.upd muD)) _ _ lr)
  rintro D1 r1 ac H3 ⟨hD1,sm1,hDl1,lr1,_⟩
  rw[show (ys.take 2).length=(net.sps.take 2).length by rw[aaj,aaj,eyl],aao] at lr1
  refine⟨D1,_,rfl,.inl ⟨bT.of hDl1,λ p1 hp1=>?_⟩⟩
  have m3:=aF.new (o:=HO.tup r1) hp1
  have t3:bD K (upd H3 p1 (.tup r1)) p1 r1:=bD.of aB
  generalize upd H3 p1 (.tup r1)=H4 at m3 t3 ⊢
  have s14:=(s2.trans sm1).trans m3
  have lr4:=L2.IsL.mono m3.ts _ _ lr1
  have er1:r1.length=((net.sps.take 2).map kD).length:=by rw[lr1.length,aac]
  refine⟨Nat.zero_le _,λ D hD=>?_⟩
  have s5:=aF.new (o:=HO.lst []) hD
  have g5:upd H4 D (.lst []) D=some (.lst []):=aB
  have fD:H4 D=none:=hD
  generalize upd H4 D (.lst [])=H5 at s5 g5 ⊢
  have fD1:H1 D=none:=s14.free fD
  refine⟨_,rfl,.inr (.inl ⟨ax,_,0,_,rfl,rfl,(s14.trans s5).tup qx,rfl,av,rfl,⟨_,(s14.trans s5).tup qv⟩,jI (K:=K) (a:=av) (xs:=xs) (λ i ac H'=>aF H4 H'/\(∃ rr,H' D=some (.lst rr)/\L2.IsL K H' (((net.vs.take i).map (GZ ((net.sps.take 2).map kD).length)).map jM) rr)/\
   ∃ v4 v5 v6 v7 v8 v9,ac=[some (.ref t),some (.ref ax),some (.ref p1),some (.ref D),v4,v5,v6,v7,v8,v9]) ?_ ?_ ?_ ?_⟩)⟩
  ·exact⟨s5,⟨[],g5,.nil⟩,_,_,_,_,_,_,rfl⟩
  ·rintro i ac H' _ ⟨s6,_⟩;exact (s14.trans s6).tup qv
  ·rintro i y ac H6 hy ⟨s6,⟨rr,hDl,lrr⟩,v4,v5,v6,v7,v8,v9,rfl⟩
   obtain⟨dv,hdv,hyd⟩:=lv.get' hy
   rw[aah] at hdv
   obtain⟨v,hv,rfl⟩:=aaq.mp hdv
   have vok:=nok.vs v (aan hv)
   have hil:=(aad.mp hv).1
   have s16:=s14.trans s6
   obtain⟨a,o,c,rfl,q,io,ic⟩:=kU (Is.mono s16.ts _ _ hyd)
   obtain⟨oa,os,rfl,qo,lo⟩:=io.un
   obtain⟨ca,cs,rfl,qc,lc⟩:=ic.un
   have ecl:cs.length=v.acts.length:=by rw[lc.length,aac]
   have ha3:=vok.a3
   refine⟨a,_,rfl,q,rfl,_,_,rfl,_,_,rfl,_,_,rfl,_,_,rfl,_,_,rfl,_,_,rfl,rfl,?_⟩
   dsimp only [eP]
   refine⟨_,rfl,ca,rfl,⟨_,qc⟩,gA (K:=K) (a:=ca) (xs:=cs) (λ E i r ac H'=>H6 E=none/\aF H6 H'/\H' E=some (.lst r)/\L2.IsL K H' ((mI ((net.sps.take 2).map kD).length (v.acts.take i)).map jA) r/\∃ u1,ac=[u1,some (.ref p1)])
    (λ E i r ac H' p=>p.2.1.tup qc) (λ E hE=>⟨hE,aF.new hE,aB,.nil,none,rfl⟩) ?_ ?_⟩
   rotate_left
   ·rintro E j z r ac H7 hz ⟨hE,sm,hEl,lr,u1,rfl⟩
    obtain⟨t',ht',ta,rfl,qt⟩:=mB lc hz
    have hjl:=(aad.mp ht').1
    have hsn:mI ((net.sps.take 2).map kD).length (v.acts.take (j+1))=mI ((net.sps.take 2).map kD).length (v.acts.take j)++(if t'.2 < ((net.sps.take 2).map kD).length then [t'] else []):=xF ht'
    have hrl:r.length<=12:=by
     rw[lr.length,aac]
     have:=List.length_filter_le (λ a:Str×Int=>decide (a.2 < ((net.sps.take 2).map kD).length)) (v.acts.take j)
     unfold mI
     rw[aaj] at this
     omega
    refine⟨_,rfl,.inr (.inl ⟨ta,_,1,_,rfl,rfl,sm.tup qt,rfl,_,rfl,p1,r1,rfl,.inr ((s6.trans sm).tup t3),_,_,rfl,rfl,_,rfl,eM (λ hT=>?_) λ hN=>?_⟩)⟩
    ·have hT:t'.2 < (r1.length:Int):=by simpa using hT
     rw[er1] at hT
     refine⟨_,rfl,hEl,aY (by omega),hE,sm.put hE,aB,?_,_,rfl⟩
     have muE:kR (H7 E):=by rw[hEl];exact trivial
     rw[hsn,if_pos hT,aae]
     refine L2.IsL.snoc (Is.mono (cP.ts cP.upd muE) _ _ ?_) (L2.IsL.mono (cP.ts cP.upd muE) _ _ lr)
     exact Is.tupOf (ds:=[.str t'.1,.int t'.2]) (sm.tup qt) (.cons (Is.s _) (.cons (Is.i _) .nil))
    ·have hN:¬ t'.2 < (r1.length:Int):=by simpa using hN
     rw[er1] at hN
     refine⟨hE,sm,hEl,?_,_,rfl⟩
     rw[hsn,if_neg hN,abt];exact lr
   rintro E1 r2 ac H7 ⟨hE1,sm7,hEl1,lr2,_⟩
   rw[ecl,aao] at lr2
   refine⟨E1,_,rfl,.inl ⟨bT.of hEl1,λ p2 hp2=>?_⟩⟩
   have m8:=aF.new (o:=HO.tup r2) hp2
   have t8:bD K (upd H7 p2 (.tup r2)) p2 r2:=bD.of aB
   generalize upd H7 p2 (.tup r2)=H8 at m8 t8 ⊢
   have s68:=sm7.trans m8
   have hDl8:=s68 _ _ hDl
   refine⟨_,rfl,.inl ⟨rfl,_,bT.of hDl8⟩,?_⟩
   refine⟨_,rfl,_,_,rfl,_,rfl,_,_,rfl,_,rfl,_,_,rfl,rfl,(show (0:Int) < 2 by decide),_,_,rfl,rfl,_,rfl,_,rfl,gT (n:=2) (s68.tup qo) λ b9 H9 s9 q9=>?_⟩
   refine⟨_,rfl,_,rfl,_,rfl,_,rfl,gT (n:=1) (s9.tup t8) λ b10 H10 s10 q10=>⟨(show 6<=sizeLine by decide),λ p hp=>?_⟩⟩
   have m11:=aF.new (o:=HO.tup [.int (if 3 < v.size then 3 else v.size),.int ((if 3 < v.size then 3 else v.size)+v.brim % 2),.ref b9,.bl v.holds,fR v.spill,.ref b10]) hp
   have t11:bD K (upd H10 p (.tup [.int (if 3 < v.size then 3 else v.size),.int ((if 3 < v.size then 3 else v.size)+v.brim % 2),.ref b9,.bl v.holds,fR v.spill,.ref b10])) p _:=bD.of aB
   generalize upd H10 p (.tup [.int (if 3 < v.size then 3 else v.size),.int ((if 3 < v.size then 3 else v.size)+v.brim % 2),.ref b9,.bl v.holds,fR v.spill,.ref b10])=H11 at m11 t11 ⊢
   have s811:=(s9.trans s10).trans m11
   have hDl11:=s811 _ _ hDl8
   have hrl:rr.length<=12:=by
    rw[lrr.length,aac,aac,aaj]
    have:=nok.hi
    omega
   refine⟨D,rr,_,rfl,rfl,hDl11,aY (by omega),?_⟩
   have muD:kR (H11 D):=by rw[hDl11];exact trivial
   refine⟨((s6.trans s68).trans s811).put fD,⟨_,aB,?_⟩,_,_,_,_,_,_,rfl⟩
   rw[show net.vs.take (i+1)=net.vs.take i++[v] by rw[abn,hv];rfl,aae,aae]
   refine L2.IsL.snoc (Is.mono (cP.ts cP.upd muD) _ _ ?_) (L2.IsL.mono ((s68.trans s811).ts.trans (cP.ts cP.upd muD)) _ _ lrr)
   have lo9:L2.IsL K H11 ((v.outs.take 2).map outD) (os.take 2):=by
    rw[List.map_take];exact gB 2 (L2.IsL.mono (s68.trans s811).ts _ _ lo)
   have lc9:L2.IsL K H11 (((mI ((net.sps.take 2).map kD).length v.acts).take 1).map jA) (r2.take 1):=by
    rw[List.map_take];exact gB 1 (L2.IsL.mono (m8.trans s811).ts _ _ lr2)
   exact Is.tupOf (ds:=[.int (if 3 < v.size then 3 else v.size),.int ((if 3 < v.size then 3 else v.size)+v.brim % 2),.tup ((v.outs.take 2).map outD),.bl v.holds,uN v.spill,.tup (((mI ((net.sps.take 2).map kD).length v.acts).take 1).map jA)]) t11
    (.cons (Is.i _) (.cons (Is.i _) (.cons (Is.tupOf ((s10.trans m11).tup q9) lo9) (.cons (Is.b _) (.cons (Is.tgOf _) (.cons (Is.tupOf (m11.tup q10) lc9) .nil))))))
  ·rintro ac H6 ⟨s6,⟨rr,hDl,lrr⟩,v4,v5,v6,v7,v8,v9,rfl⟩
   rw[exl,aao] at lrr
   refine⟨_,rfl,D,_,rfl,.inl ⟨bT.of hDl,λ p2 hp2=>⟨_,rfl,(show 2<=sizeLine by decide),λ p hp=>?_⟩⟩⟩
   have m7:=aF.new (o:=HO.tup rr) hp2
   have t7:bD K (upd H6 p2 (.tup rr)) p2 rr:=bD.of aB
   generalize upd H6 p2 (.tup rr)=H7 at m7 t7 hp ⊢
   have m8:=aF.new (o:=HO.tup [.ref p2,.ref p1]) hp
   refine k (zI net) _ _ (e1.sm (((s14.trans s6).trans m7).trans m8)) (CL nok) (by show (net.vs.map _).length<=2;rw[aac];exact n2) ?_
   exact Is.tupOf (ds:=[.tup ((zI net).vs.map jM),.tup ((zI net).sps.map pC)]) (bD.of aB) (.cons (Is.tupOf (m8.tup t7) (L2.IsL.mono (m7.trans m8).ts _ _ lrr)) (.cons (Is.tupOf (((s6.trans m7).trans m8).tup t3) (L2.IsL.mono ((s6.trans m7).trans m8).ts _ _ lr4)) .nil))
end
end Tw
namespace Tw
open PySem L2
theorem lQ {K:aaa}{H:Hp}:∀ (n:Nat) {ds:List L2.D}{xs:List V},L2.IsL K H ds xs->L2.IsL K H (ds.drop n) (xs.drop n)
 | 0,_,_,h=>h
 | n+1,[],xs,h=>by
  have:=h.length
  cases xs with
  | nil=>exact .nil
  | cons _ _=>simp at this
 | n+1,d::ds,xs,h=>by
  cases xs with
  | nil=>have:=h.length;simp at this
  | cons x xs=>
   rw[L2.IsL] at h
   obtain⟨x1,r,e,h1,h2⟩:=h
   cases e
   exact lQ n h2
theorem fI {K:aaa}{H:Hp}:∀ {ds es:List L2.D}{xs ys:List V},L2.IsL K H ds xs->L2.IsL K H es ys->L2.IsL K H (ds++es) (xs++ys)
 | [],es,xs,ys,h,h2=>by
  have:=h.length
  cases xs with
  | nil=>exact h2
  | cons _ _=>simp at this
 | d::ds,es,xs,ys,h,h2=>by
  cases xs with
  | nil=>have:=h.length;simp at this
  | cons x xs=>
   rw[L2.IsL] at h
   obtain⟨x1,r,e,h1,h3⟩:=h
   cases e
   exact .cons h1 (fI h3 h2)
theorem sE {K:aaa}{H:Hp}{d:L2.D}{x:V}:∀ (n:Nat),Is K H d x->L2.IsL K H (List.replicate n d) (List.replicate n x)
 | 0,_=>.nil
 | n+1,h=>.cons h (sE n h)
theorem oV (v:V):∀ n:Nat,(List.replicate n [v]).flatten=List.replicate n v
 | 0=>rfl
 | n+1=>by rw[List.replicate_succ,List.replicate_succ,List.flatten_cons,oV v n];rfl
theorem BM (xs:List V) (n:Nat):kL xs none (some (n:Int))=xs.take n:=by
 unfold kL
 rw[HT.sIx_none,HT.sIx_nat,List.drop_zero,Nat.sub_zero]
 rcases Nat.le_total n xs.length with h | h
 ·rw[Nat.min_eq_left h]
 ·rw[Nat.min_eq_right h,aao,List.take_of_length_le h]
theorem uD (xs:List V) (n:Nat):kL xs (some (n:Int)) none=xs.drop n:=by
 unfold kL
 rw[HT.sIx_none,HT.sIx_nat]
 rcases Nat.le_total n xs.length with h | h
 ·rw[Nat.min_eq_left h,List.take_of_length_le (by rw[List.length_drop];omega)]
 ·rw[Nat.min_eq_right h,Nat.sub_self,List.take_zero,List.drop_of_length_le h]
noncomputable def pQ (t sh:Int):Int:=if t=0 then 0 else t+sh
noncomputable def iD (t:Option Int) (sh:Int):Option Int:=t.map λ t=>pQ t sh
noncomputable def CG (sh:Int) (o:Option Int×Int):Option Int×Int:=(iD o.1 sh,o.2)
noncomputable def CI (sp:Int) (a:Str×Int):Str×Int:=(a.1,a.2+sp)
noncomputable def CF (sh sp:Int) (v:Vs):Vs:=⟨v.size,v.brim,v.outs.map (CG sh),v.holds,iD v.spill sh,v.acts.map (CI sp)⟩
noncomputable def x8 (sh:Int) (s:sV):sV:=(pQ s.1 sh,s.2)
noncomputable def gC:Vs:=⟨2,3,[(some 0,1)],false,none,[]⟩
noncomputable def iO (net:Net):List Vs:=net.vs.map (CF (12 - net.vs.length) (12 - net.sps.length))
noncomputable def qS (net:Net):Net:=⟨(iO net).take 1++List.replicate (12 - net.vs.length) gC++(iO net).drop 1,List.replicate (12 - net.sps.length) (0,0,true)++net.sps.map (x8 (12 - net.vs.length))⟩
theorem nG {net:Net} (nok:NetOk net):(qS net).vs.length=12:=by
 have:=nok.lo
 have:=nok.hi
 show (_++_++_:List Vs).length=12
 rw[aak,aak,aaj,List.length_drop,abc]
 unfold iO
 rw[aac];omega
theorem sW {net:Net} (nok:NetOk net):(qS net).sps.length=12:=by
 have:=nok.sp
 show (_++_:List sV).length=12
 rw[aak,abc,aac];omega
theorem sI {t sh:Int}{n:Nat} (hn:n<=12) (h0:0<=t) (h1:t < n) (hs:sh=12 - n):0<=pQ t sh/\pQ t sh < 12:=by
 unfold pQ
 split <;> omega
theorem CH {net:Net} (nok:NetOk net):NetOk (qS net):=by
 have hi:=nok.hi
 have lo:=nok.lo
 have hs:=nok.sp
 refine⟨by rw[nG nok];decide,by rw[nG nok];decide,by rw[sW nok];decide,λ v hv=>?_,λ s hs'=>?_⟩
 ·rw[nG nok,sW nok]
  have hv':v∈iO net\/v=gC:=by
   have hv2:v∈(iO net).take 1++List.replicate (12 - net.vs.length) gC++(iO net).drop 1:=hv
   rcases abd.1 hv2 with h | h
   ·rcases abd.1 h with h | h
    ·exact .inl (List.mem_of_mem_take h)
    ·exact .inr (List.eq_of_mem_replicate h)
   ·exact .inl (List.mem_of_mem_drop h)
  rcases hv' with h | rfl
  ·unfold iO at h
   obtain⟨u,hu,rfl⟩:=abf.1 h
   have ok:=nok.vs u hu
   refine⟨ok.size,λ z=>ok.ne (List.map_eq_nil_iff.1 z),by show (u.outs.map _).length<=3;rw[aac];exact ok.o3,λ o ho=>?_,λ t ht=>?_,by show (u.acts.map _).length<=3;rw[aac];exact ok.a3,λ a ha=>?_⟩
   ·obtain⟨o',ho',rfl⟩:=abf.1 ho
    have ok':=ok.outs o' ho'
    refine⟨λ t ht=>?_,ok'.lo,ok'.hi⟩
    have ht':iD o'.1 (12 - net.vs.length)=some t:=ht
    unfold iD at ht'
    obtain⟨t0,e1,rfl⟩:=aaq.mp ht'
    obtain⟨h0,h1⟩:=ok'.tg t0 e1
    exact sI hi h0 h1 rfl
   ·have ht':iD u.spill (12 - net.vs.length)=some t:=ht
    unfold iD at ht'
    obtain⟨t0,e1,rfl⟩:=aaq.mp ht'
    obtain⟨h0,h1⟩:=ok.spill t0 e1
    exact sI hi h0 h1 rfl
   ·obtain⟨a',ha',rfl⟩:=abf.1 ha
    have ok':=ok.acts a' ha'
    have h0:=ok'.lo
    have h1:=ok'.hi
    refine⟨ok'.word,?_,?_⟩
    ·show 0<=a'.2+(12 - (net.sps.length:Int));omega
    ·show a'.2+(12 - (net.sps.length:Int)) < 12;omega
  ·refine⟨by decide,by decide,by decide,λ o ho=>?_,(λ t ht=>by cases ht),by decide,(λ a ha=>by cases ha)⟩
   have:o=(some 0,1):=by simpa [gC] using ho
   subst this
   exact⟨λ t ht=>by cases ht;exact⟨by decide,by decide⟩,by decide,by decide⟩
 ·rw[nG nok]
  have hs2:s∈List.replicate (12 - net.sps.length) ((0,0,true):sV)++net.sps.map (x8 (12 - net.vs.length)):=hs'
  rcases abd.1 hs2 with h | h
  ·rw[List.eq_of_mem_replicate h];exact⟨by decide,by decide⟩
  ·obtain⟨u,hu,rfl⟩:=abf.1 h
   obtain⟨h0,h1⟩:=nok.sps u hu
   exact sI hi h0 h1 rfl
section
variable {P:Program}{w:World}{K:aaa}{mg:Str->Option Value}{base:Heap}
noncomputable def zH (K:aaa):Sp:=λ args H Q _=>∃ (t:Option Int) (sh:Int),args=[fR t,.int sh]/\Q (fR (iD t sh)) H
theorem iV:FnScope ["target","shift"] ["target","shift"] (aM (bK 39)):=⟨rfl,rfl,rfl,by decide +kernel,rfl,by decide +kernel,by decide +kernel⟩
theorem oM {f:Addr}{fd:FuncData} (F:Fun K "_law_far_on" "_law_far_on" (bK 39) f fd) (T:Txt mg):FnOk P w K mg base iM 1 f fd ["target","shift"] (zH K):=by
 refine F.ok iV (λ vs H Q E h=>?_) (λ cdv A outer s H vs Q E hr h=>?_)
 ·obtain⟨t,sh,rfl,_⟩:=h;rfl
 ·obtain⟨t,sh,rfl,k⟩:=h
  have sc:=iV
  refine⟨_,(aD (cF (PW.pt (n4 (bB rP (pv 0) eQ (bH _)) (mK (bB g7 (pv 0) aE (bH _))))) (aK (bC (pv 0))) bL)
   (aK (bC (aU cB (pv 0) (pv 1))))),?_⟩
  cases t with
  | none=>
   refine⟨_,rfl,rfl,_,rfl,gF (gF ⟨_,rfl,k⟩)⟩
  | some t=>
   refine⟨_,rfl,rfl,_,rfl,dP ?_⟩
   by_cases c:t=0
   ·subst c
    refine⟨_,rfl,rfl,_,rfl,eM (λ _=>⟨_,rfl,k⟩) λ h=>absurd (by decide) h⟩
   ·refine⟨_,rfl,rfl,_,rfl,eM (λ h=>absurd h ?_) λ _=>⟨_,rfl,_,rfl,_,_,rfl,rfl,?_⟩⟩
    ·intro z
     have:V.int t=V.int 0:=of_decide_eq_true z
     injection this with z;exact c z
    ·have e:iD (some t) sh=some (t+sh):=by show some (pQ t sh)=_;unfold pQ;rw[if_neg c]
     rw[e] at k;exact k
noncomputable def uS (K:aaa):Sp:=λ args H Q _=>∃ (x:V) (net:Net),args=[x]/\Is K H (dY net) x/\NetOk net/\∀ p H',aF H H'->Is K H' (dY (qS net)) p->Q p H'
theorem kZ:FnScope ["net","shift","spouts","idle","vessels","size","brim","outs","holds","spill","acts","flows"] ["net"] (aM (bK 40)):=⟨rfl,rfl,rfl,by decide +kernel,rfl,by decide +kernel,by decide +kernel⟩
theorem rS {f f1:Addr}{fd fd1:FuncData} (F:Fun K "_law_wide" "_law_wide" (bK 40) f fd) (T:Txt mg) (G__law_far_on:Callee P w K mg base "_law_far_on" ["target","shift"] 1 (zH K) f1 fd1) :
  FnOk P w K mg base iM 2 f fd ["net"] (uS K):=by
 refine F.ok kZ (λ vs H Q E h=>?_) (λ cdv A outer s H vs Q E hr h=>?_)
 ·obtain⟨x,net,rfl,_⟩:=h;rfl
 ·obtain⟨x,net,rfl,hx,nok,k⟩:=h
  have sc:=kZ
  refine⟨_,(aD (aP (i:=1) sc.nd rfl (Or.inr rfl) (aU eY aE (aR (bA (K:=K) rfl) rfl T.b_len aar (aA (aQ (aJ (K:=K) rfl) (pv 0) aE (λ _ _=>rfl)) aC))))
   (aD (aP (i:=2) sc.nd rfl (Or.inr rfl) (aU eY aE (aR (bA (K:=K) rfl) rfl T.b_len aar (aA (aQ (aJ (K:=K) rfl) (pv 0) aE (λ _ _=>rfl)) aC))))
   (aD (aP (i:=3) sc.nd rfl (Or.inl rfl) (aV (aA aE (aA aE (aA (aV (aA (aV (aA aE (aA aE aC))) aC)) (aA eF (aA eQ (aA (aV aC) aC))))))))
   (aD (aP (i:=4) sc.nd rfl (Or.inl rfl) (bG aC))
   (aD (cS PassesOwn.never rfl (cW (K:=K) rfl (aQ (aJ (K:=K) rfl) (pv 0) aE (λ _ _=>rfl))) (bJ (K:=K) (n:=6) rfl rfl (aG (aH (i:=5) sc.nd rfl (Or.inl rfl)) (aG (aH (i:=6) sc.nd rfl (Or.inl rfl)) (aG (aH (i:=7) sc.nd rfl (Or.inl rfl)) (aG (aH (i:=8) sc.nd rfl (Or.inl rfl)) (aG (aH (i:=9) sc.nd rfl (Or.inl rfl)) (aG (aH (i:=10) sc.nd rfl (Or.inl rfl)) bF))))))) (aD (aP (i:=7) sc.nd rfl (Or.inl rfl) (aZ (bO (K:=K) rfl) rfl T.b_tuple bR (aA (gL (λ _ _ h=>h) rfl (LcOk.mk (N':=["target","parts","shift"]) (fr:=[none,none,some 1]) rfl ⟨rfl,trivial⟩ rfl rfl rfl rfl rfl ⟨⟨_,rfl,rfl,rfl,rfl⟩,trivial⟩) (cW (K:=K) rfl (pv 7)) (λ _ _ _=>(bJ (K:=K) (n:=2) rfl rfl (aG (aH (i:=0) (show (["target","parts","shift"]:List Str).Nodup by decide +kernel) rfl (Or.inl rfl) (Or.inr rfl)) (aG (aH (i:=1) (show (["target","parts","shift"]:List Str).Nodup by decide +kernel) rfl (Or.inl rfl) (Or.inr rfl)) bF)))) (λ _ _ _=>d6) (λ _ _ _=>(aV (aA (d5 G__law_far_on hr (aA (pv 0) (aA (pv 2) aC))) (aA (pv 1) aC))))) aC)))
   (aD (aP (i:=10) sc.nd rfl (Or.inl rfl) (aZ (bO (K:=K) rfl) rfl T.b_tuple bR (aA (gL (λ _ _ h=>h) rfl (LcOk.mk (N':=["word","spout","spouts"]) (fr:=[none,none,some 2]) rfl ⟨rfl,trivial⟩ rfl rfl rfl rfl rfl ⟨⟨_,rfl,rfl,rfl,rfl⟩,trivial⟩) (cW (K:=K) rfl (pv 10)) (λ _ _ _=>(bJ (K:=K) (n:=2) rfl rfl (aG (aH (i:=0) (show (["word","spout","spouts"]:List Str).Nodup by decide +kernel) rfl (Or.inl rfl) (Or.inr rfl)) (aG (aH (i:=1) (show (["word","spout","spouts"]:List Str).Nodup by decide +kernel) rfl (Or.inl rfl) (Or.inr rfl)) bF)))) (λ _ _ _=>d6) (λ _ _ _=>(aV (aA (pv 0) (aA (aU cB (pv 1) (pv 2)) aC))))) aC)))
   (aK (cV (eA (K:=K) rfl aas aau aav cD (pv 4) (aA (aV (aA (pv 5) (aA (pv 6) (aA (pv 7) (aA (pv 8) (aA (d5 G__law_far_on hr (aA (pv 9) (aA (pv 1) aC))) (aA (pv 10) aC))))))) aC)))))))
   (aD (aP (i:=11) sc.nd rfl (Or.inl rfl) (aZ (bO (K:=K) rfl) rfl T.b_tuple bR (aA (gL (λ _ _ h=>h) rfl (LcOk.mk (N':=["target","flow","is_open","shift"]) (fr:=[none,none,none,some 1]) rfl ⟨rfl,trivial⟩ rfl rfl rfl rfl rfl ⟨⟨_,rfl,rfl,rfl,rfl⟩,trivial⟩) (cW (K:=K) rfl (aQ (aJ (K:=K) rfl) (pv 0) aE (λ _ _=>rfl))) (λ _ _ _=>(bJ (K:=K) (n:=3) rfl rfl (aG (aH (i:=0) (show (["target","flow","is_open","shift"]:List Str).Nodup by decide +kernel) rfl (Or.inl rfl) (Or.inr rfl)) (aG (aH (i:=1) (show (["target","flow","is_open","shift"]:List Str).Nodup by decide +kernel) rfl (Or.inl rfl) (Or.inr rfl)) (aG (aH (i:=2) (show (["target","flow","is_open","shift"]:List Str).Nodup by decide +kernel) rfl (Or.inl rfl) (Or.inr rfl)) bF))))) (λ _ _ _=>d6) (λ _ _ _=>(aV (aA (d5 G__law_far_on hr (aA (pv 0) (aA (pv 3) aC))) (aA (pv 1) (aA (pv 2) aC)))))) aC)))
   (aK (bC (aV (aA (aU (eE (K:=K) rfl) (aU (eE (K:=K) rfl) (aZ (bO (K:=K) rfl) rfl T.b_tuple bR (aA (eK (tD (K:=K) rfl) (pv 4) fH (fG aE)) aC)) (aU (oG (K:=K) rfl) (aV (aA (pv 3) aC)) (pv 1))) (aZ (bO (K:=K) rfl) rfl T.b_tuple bR (aA (eK (tD (K:=K) rfl) (pv 4) (fG aE) fH) aC))) (aA (aU (eE (K:=K) rfl) (aU (oG (K:=K) rfl) (aV (aA (aV (aA aE (aA aE (aA eF aC)))) aC)) (pv 2)) (pv 11)) aC))))))))))),?_⟩
  obtain⟨ax,av,as,xs,ys,rfl,qx,qv,lv,qs,ls⟩:=fA hx
  have exl:xs.length=net.vs.length:=by rw[lv.length,aac]
  have eyl:ys.length=net.sps.length:=by rw[ls.length,aac]
  have hi:=nok.hi
  have lo:=nok.lo
  have hs:=nok.sp
  refine⟨_,rfl,.inr (.inl ⟨ax,_,0,_,rfl,rfl,qx,rfl,av,xs,rfl,.inr qv,_,_,rfl,rfl,?_⟩)⟩
  refine⟨_,rfl,.inr (.inl ⟨ax,_,1,_,rfl,rfl,qx,rfl,as,ys,rfl,.inr qs,_,_,rfl,rfl,?_⟩)⟩
  rw[exl,eyl]
  obtain⟨shf,hsh⟩:∃ z:Int,z=12 - (net.vs.length:Int):=⟨_,rfl⟩
  obtain⟨spf,hsp⟩:∃ z:Int,z=12 - (net.sps.length:Int):=⟨_,rfl⟩
  refine⟨(show 2<=sizeLine by decide),λ p1 h1=>⟨(show 1<=sizeLine by decide),λ p2 h2=>⟨(show 0<=sizeLine by decide),λ p3 h3=>⟨(show 6<=sizeLine by decide),λ p4 h4=>?_⟩⟩⟩⟩
  have t1:bD K (upd H p1 (.tup [.int 0,.int 1])) p1 [.int 0,.int 1]:=bD.of aB
  have m1:=aF.new (o:=HO.tup [.int 0,.int 1]) h1
  generalize upd H p1 (.tup [.int 0,.int 1])=H1 at t1 m1 h2 h3 h4 ⊢
  have t2:bD K (upd H1 p2 (.tup [.ref p1])) p2 [.ref p1]:=bD.of aB
  have m2:=aF.new (o:=HO.tup [.ref p1]) h2
  generalize upd H1 p2 (.tup [.ref p1])=H2 at t2 m2 h3 h4 ⊢
  have t3:bD K (upd H2 p3 (.tup [])) p3 []:=bD.of aB
  have m3:=aF.new (o:=HO.tup []) h3
  generalize upd H2 p3 (.tup [])=H3 at t3 m3 h4 ⊢
  have t4:bD K (upd H3 p4 (.tup [.int 2,.int 3,.ref p2,.bl false,.non,.ref p3])) p4 [.int 2,.int 3,.ref p2,.bl false,.non,.ref p3]:=bD.of aB
  have m4:=aF.new (o:=HO.tup [.int 2,.int 3,.ref p2,.bl false,.non,.ref p3]) h4
  generalize upd H3 p4 (.tup [.int 2,.int 3,.ref p2,.bl false,.non,.ref p3])=H4 at t4 m4 ⊢
  have s4:=((m1.trans m2).trans m3).trans m4
  have iI:Is K H4 (jM gC) (.ref p4):=by
   refine Is.tupOf (ds:=[.int 2,.int 3,.tup [outD (some 0,1)],.bl false,.non,.tup []]) t4 (.cons (Is.i _) (.cons (Is.i _) (.cons (Is.tupOf ((m3.trans m4).tup t2) (.cons (Is.tupOf (ds:=[.int 0,.int 1]) (((m2.trans m3).trans m4).tup t1) (.cons (Is.i _) (.cons (Is.i _) .nil))) .nil)) (.cons (Is.b _) (.cons Is.n (.cons (Is.tupOf (m4.tup t3) .nil) .nil))))))
  clear h1 h2 h3 h4
  refine⟨Nat.zero_le _,λ D hD=>?_⟩
  have s5:=aF.new (o:=HO.lst []) hD
  have g5:upd H4 D (.lst []) D=some (.lst []):=aB
  have fD:H4 D=none:=hD
  generalize upd H4 D (.lst [])=H5 at s5 g5 ⊢
  refine⟨_,rfl,.inr (.inl ⟨ax,_,0,_,rfl,rfl,(s4.trans s5).tup qx,rfl,av,rfl,⟨_,(s4.trans s5).tup qv⟩,jI (K:=K) (a:=av) (xs:=xs) (λ i ac H'=>aF H4 H'/\(∃ rr,H' D=some (.lst rr)/\L2.IsL K H' (((net.vs.take i).map (CF shf spf)).map jM) rr)/\
   ∃ v5 v6 v7 v8 v9 v10 v11,ac=[some (.ref ax),some (.int shf),some (.int spf),some (.ref p4),some (.ref D),v5,v6,v7,v8,v9,v10,v11]) ?_ ?_ ?_ ?_⟩)⟩
  ·exact⟨s5,⟨[],g5,.nil⟩,none,none,none,none,none,none,none,by rw[hsh,hsp];rfl⟩
  ·rintro i ac H' _ ⟨s6,_⟩;exact (s4.trans s6).tup qv
  ·rintro i y ac H6 hy ⟨s6,⟨rr,hDl,lrr⟩,v5,v6,v7,v8,v9,v10,v11,rfl⟩
   obtain⟨dv,hdv,hyd⟩:=lv.get' hy
   rw[aah] at hdv
   obtain⟨v,hv,rfl⟩:=aaq.mp hdv
   have vok:=nok.vs v (aan hv)
   have hil:=(aad.mp hv).1
   have s16:=s4.trans s6
   obtain⟨a,o,c,rfl,q,io,ic⟩:=kU (Is.mono s16.ts _ _ hyd)
   obtain⟨oa,os,rfl,qo,lo'⟩:=io.un
   obtain⟨ca,cs,rfl,qc,lc⟩:=ic.un
   have eol:os.length=v.outs.length:=by rw[lo'.length,aac]
   have ecl:cs.length=v.acts.length:=by rw[lc.length,aac]
   have ha3:=vok.a3
   have ho3:=vok.o3
   refine⟨a,_,rfl,q,rfl,_,_,rfl,_,_,rfl,_,_,rfl,_,_,rfl,_,_,rfl,_,_,rfl,rfl,?_⟩
   dsimp only [eP]
   refine⟨_,rfl,oa,rfl,⟨_,qo⟩,gA (K:=K) (a:=oa) (xs:=os) (λ E i r ac H'=>H6 E=none/\aF H6 H'/\H' E=some (.lst r)/\L2.IsL K H' (((v.outs.take i).map (CG shf)).map outD) r/\∃ u1 u2,ac=[u1,u2,some (.int shf)])
    (λ E i r ac H' p=>p.2.1.tup qo) (λ E hE=>⟨hE,aF.new hE,aB,.nil,none,none,rfl⟩) ?_ ?_⟩
   rotate_left
   ·rintro E j z r ac H7 hz ⟨hE,sm,hEl,lr,u1,u2,rfl⟩
    obtain⟨t',ht',ta,rfl,qt⟩:=i9 lo' hz
    have hjl:=(aad.mp ht').1
    refine⟨ta,_,rfl,sm.tup qt,rfl,_,_,rfl,_,_,rfl,rfl,?_⟩
    refine gN ?_
    refine⟨_,rfl,_,rfl,t'.1,shf,rfl,_,rfl,(show 2<=sizeLine by decide),λ e he=>?_⟩
    have m8:=aF.new (o:=HO.tup [fR (iD t'.1 shf),.int t'.2]) he
    have i8:Is K (upd H7 e (.tup [fR (iD t'.1 shf),.int t'.2])) (outD (CG shf t')) (.ref e):=Is.tupOf (ds:=[uN (iD t'.1 shf),.int t'.2]) (bD.of aB) (.cons (Is.tgOf _) (.cons (Is.i _) .nil))
    generalize upd H7 e (.tup [fR (iD t'.1 shf),.int t'.2])=H8 at m8 i8 ⊢
    have hEl8:=m8 _ _ hEl
    have muE:kR (H8 E):=by rw[hEl8];exact trivial
    have hrl:r.length<=12:=by rw[lr.length,aac,aac,aaj];omega
    refine⟨hEl8,aY (by omega),hE,(sm.trans m8).put hE,aB,?_,_,_,rfl⟩
    rw[abn,ht',aae,aae]
    exact L2.IsL.snoc (Is.mono (cP.ts cP.upd muE) _ _ i8) (L2.IsL.mono (m8.ts.trans (cP.ts cP.upd muE)) _ _ lr)
   rintro E1 r1 ac H7 ⟨hE1,sm7,hEl1,lr1,_⟩
   rw[eol,aao] at lr1
   refine⟨E1,_,rfl,.inl ⟨bT.of hEl1,λ p5 hp5=>?_⟩⟩
   have m8:=aF.new (o:=HO.tup r1) hp5
   have t8:bD K (upd H7 p5 (.tup r1)) p5 r1:=bD.of aB
   generalize upd H7 p5 (.tup r1)=H8 at m8 t8 ⊢
   have s68:=sm7.trans m8
   have lr8:=L2.IsL.mono m8.ts _ _ lr1
   refine⟨_,rfl,ca,rfl,⟨_,s68.tup qc⟩,gA (K:=K) (a:=ca) (xs:=cs) (λ E i r ac H'=>H8 E=none/\aF H8 H'/\H' E=some (.lst r)/\L2.IsL K H' (((v.acts.take i).map (CI spf)).map jA) r/\∃ u1 u2,ac=[u1,u2,some (.int spf)])
    (λ E i r ac H' p=>p.2.1.tup (s68.tup qc)) (λ E hE=>⟨hE,aF.new hE,aB,.nil,none,none,rfl⟩) ?_ ?_⟩
   rotate_left
   ·rintro E j z r ac H9 hz ⟨hE,sm,hEl,lr,u1,u2,rfl⟩
    obtain⟨t',ht',ta,rfl,qt⟩:=mB lc hz
    have hjl:=(aad.mp ht').1
    refine⟨ta,_,rfl,(s68.trans sm).tup qt,rfl,_,_,rfl,_,_,rfl,rfl,?_⟩
    refine gN ?_
    refine⟨_,rfl,_,rfl,_,rfl,_,_,rfl,rfl,(show 2<=sizeLine by decide),λ e he=>?_⟩
    have m10:=aF.new (o:=HO.tup [.str t'.1,.int (t'.2+spf)]) he
    have i10:Is K (upd H9 e (.tup [.str t'.1,.int (t'.2+spf)])) (jA (CI spf t')) (.ref e):=Is.tupOf (ds:=[.str t'.1,.int (t'.2+spf)]) (bD.of aB) (.cons (Is.s _) (.cons (Is.i _) .nil))
    generalize upd H9 e (.tup [.str t'.1,.int (t'.2+spf)])=H10 at m10 i10 ⊢
    have hEl8:=m10 _ _ hEl
    have muE:kR (H10 E):=by rw[hEl8];exact trivial
    have hrl:r.length<=12:=by rw[lr.length,aac,aac,aaj];omega
    refine⟨hEl8,aY (by omega),hE,(sm.trans m10).put hE,aB,?_,_,_,rfl⟩
    rw[abn,ht',aae,aae]
    exact L2.IsL.snoc (Is.mono (cP.ts cP.upd muE) _ _ i10) (L2.IsL.mono (m10.ts.trans (cP.ts cP.upd muE)) _ _ lr)
   rintro E2 r2 ac H9 ⟨hE2,sm9,hEl2,lr2,_⟩
   rw[ecl,aao] at lr2
   refine⟨E2,_,rfl,.inl ⟨bT.of hEl2,λ p6 hp6=>?_⟩⟩
   have m10:=aF.new (o:=HO.tup r2) hp6
   have t10:bD K (upd H9 p6 (.tup r2)) p6 r2:=bD.of aB
   generalize upd H9 p6 (.tup r2)=H10 at m10 t10 ⊢
   have s810:=sm9.trans m10
   have lr10:=L2.IsL.mono m10.ts _ _ lr2
   have hDl10:=(s68.trans s810) _ _ hDl
   refine⟨_,rfl,.inl ⟨rfl,_,bT.of hDl10⟩,?_⟩
   refine⟨_,rfl,_,rfl,_,rfl,_,rfl,_,rfl,_,rfl,v.spill,shf,rfl,_,rfl,(show 6<=sizeLine by decide),λ p hp=>?_⟩
   have m11:=aF.new (o:=HO.tup [.int v.size,.int v.brim,.ref p5,.bl v.holds,fR (iD v.spill shf),.ref p6]) hp
   have i11:Is K (upd H10 p (.tup [.int v.size,.int v.brim,.ref p5,.bl v.holds,fR (iD v.spill shf),.ref p6])) (jM (CF shf spf v)) (.ref p):=
    Is.tupOf (ds:=[.int v.size,.int v.brim,.tup ((v.outs.map (CG shf)).map outD),.bl v.holds,uN (iD v.spill shf),.tup ((v.acts.map (CI spf)).map jA)]) (bD.of aB)
     (.cons (Is.i _) (.cons (Is.i _) (.cons (Is.tupOf ((s810.trans m11).tup t8) (L2.IsL.mono (s810.trans m11).ts _ _ lr8)) (.cons (Is.b _) (.cons (Is.tgOf _) (.cons (Is.tupOf (m11.tup t10) (L2.IsL.mono m11.ts _ _ lr10)) .nil))))))
   generalize upd H10 p (.tup [.int v.size,.int v.brim,.ref p5,.bl v.holds,fR (iD v.spill shf),.ref p6])=H11 at m11 i11 ⊢
   have hDl11:=m11 _ _ hDl10
   have hrl:rr.length<=12:=by
    rw[lrr.length,aac,aac,aaj];omega
   refine⟨D,rr,_,rfl,rfl,hDl11,aY (by omega),?_⟩
   have muD:kR (H11 D):=by rw[hDl11];exact trivial
   have s611:=(s68.trans s810).trans m11
   refine⟨(s6.trans s611).put fD,⟨_,aB,?_⟩,_,_,_,_,_,_,_,rfl⟩
   rw[abn,hv,aae,aae]
   exact L2.IsL.snoc (Is.mono (cP.ts cP.upd muD) _ _ i11) (L2.IsL.mono (s611.ts.trans (cP.ts cP.upd muD)) _ _ lrr)
  ·rintro ac H6 ⟨s6,⟨rr,hDl,lrr⟩,v5,v6,v7,v8,v9,v10,v11,rfl⟩
   rw[exl,aao] at lrr
   have s06:=s4.trans s6
   refine⟨_,rfl,.inr (.inl ⟨ax,_,1,_,rfl,rfl,s06.tup qx,rfl,as,rfl,⟨_,s06.tup qs⟩,gA (K:=K) (a:=as) (xs:=ys) (λ E i r ac H'=>H6 E=none/\aF H6 H'/\H' E=some (.lst r)/\L2.IsL K H' (((net.sps.take i).map (x8 shf)).map pC) r/\∃ u1 u2 u3,ac=[u1,u2,u3,some (.int shf)])
    (λ E i r ac H' p=>(s06.trans p.2.1).tup qs) (λ E hE=>⟨hE,aF.new hE,aB,.nil,none,none,none,rfl⟩) ?_ ?_⟩)⟩
   rotate_left
   ·rintro E j z r ac H7 hz ⟨hE,sm,hEl,lr,u1,u2,u3,rfl⟩
    obtain⟨t',ht',ta,rfl,qt⟩:=mF ls hz
    have hjl:=(aad.mp ht').1
    refine⟨ta,_,rfl,(s06.trans sm).tup qt,rfl,_,_,rfl,_,_,rfl,_,_,rfl,rfl,?_⟩
    refine gN ?_
    refine⟨_,rfl,_,rfl,some t'.1,shf,rfl,_,rfl,_,rfl,(show 3<=sizeLine by decide),λ e he=>?_⟩
    have m8:=aF.new (o:=HO.tup [.int (pQ t'.1 shf),.int t'.2.1,.bl t'.2.2]) he
    have i8:Is K (upd H7 e (.tup [.int (pQ t'.1 shf),.int t'.2.1,.bl t'.2.2])) (pC (x8 shf t')) (.ref e):=Is.tupOf (ds:=[.int (pQ t'.1 shf),.int t'.2.1,.bl t'.2.2]) (bD.of aB) (.cons (Is.i _) (.cons (Is.i _) (.cons (Is.b _) .nil)))
    have hEl8:=m8 _ _ hEl
    have i8':Is K (upd H7 e (.tup [fR (iD (some t'.1) shf),.int t'.2.1,.bl t'.2.2])) (pC (x8 shf t')) (.ref e):=i8
    have m8':aF H7 (upd H7 e (.tup [fR (iD (some t'.1) shf),.int t'.2.1,.bl t'.2.2])):=m8
    have hEl8':=m8' _ _ hEl
    clear i8 m8 hEl8
    generalize upd H7 e (.tup [fR (iD (some t'.1) shf),.int t'.2.1,.bl t'.2.2])=H8 at m8' i8' hEl8' ⊢
    have muE:kR (H8 E):=by rw[hEl8'];exact trivial
    have hrl:r.length<=12:=by rw[lr.length,aac,aac,aaj];omega
    refine⟨hEl8',aY (by omega),hE,(sm.trans m8').put hE,aB,?_,_,_,_,rfl⟩
    rw[abn,ht',aae,aae]
    exact L2.IsL.snoc (Is.mono (cP.ts cP.upd muE) _ _ i8') (L2.IsL.mono (m8'.ts.trans (cP.ts cP.upd muE)) _ _ lr)
   rintro E1 r1 ac H7 ⟨hE1,sm7,hEl1,lr1,_⟩
   rw[eyl,aao] at lr1
   refine⟨E1,_,rfl,.inl ⟨bT.of hEl1,λ p5 hp5=>?_⟩⟩
   have m8:=aF.new (o:=HO.tup r1) hp5
   have t8:bD K (upd H7 p5 (.tup r1)) p5 r1:=bD.of aB
   generalize upd H7 p5 (.tup r1)=H8 at m8 t8 ⊢
   have s68:=sm7.trans m8
   have lr8:=L2.IsL.mono m8.ts _ _ lr1
   have hDl8:=s68 _ _ hDl
   have lrr8:=L2.IsL.mono s68.ts _ _ lrr
   have ct1:kL rr none (some 1)=rr.take 1:=BM rr 1
   have ct2:kL rr (some 1) none=rr.drop 1:=uD rr 1
   have erl:rr.length=net.vs.length:=by rw[lrr.length,aac,aac]
   refine⟨_,rfl,_,rfl,D,rr,rfl,bT.of hDl8,λ q1 hq1=>⟨q1,_,rfl,.inl ⟨bT.of aB,λ q2 hq2=>?_⟩⟩⟩
   rw[ct1] at hq2 ⊢
   have m9:aF H8 (upd (upd H8 q1 (.lst (rr.take 1))) q2 (.tup (rr.take 1))):=(aF.new hq1).trans (aF.new hq2)
   have t9:bD K (upd (upd H8 q1 (.lst (rr.take 1))) q2 (.tup (rr.take 1))) q2 (rr.take 1):=bD.of aB
   generalize upd (upd H8 q1 (.lst (rr.take 1))) q2 (.tup (rr.take 1))=H9 at m9 t9 ⊢
   refine⟨_,rfl,(show 1<=sizeLine by decide),λ q3 hq3=>⟨_,rfl,q3,shf,[.ref p4],rfl,rfl,bD.of aB,by omega,by omega,by simp,(show 1<=10 by decide),λ q4 H10 s10 u10=>?_⟩⟩
   have s910:=(aF.new hq3).trans s10
   have e10:(List.replicate shf.toNat [V.ref p4]).flatten=List.replicate (12 - net.vs.length) (.ref p4):=by
    rw[show shf.toNat=12 - net.vs.length by omega];exact oV _ _
   rw[e10] at u10
   refine⟨q2,q4,_,_,rfl,rfl,s910.tup t9,u10,by rw[aaj,abc,sizeLine_eq];omega,λ q5 H11 s11 u11=>?_⟩
   have s811:=(m9.trans s910).trans s11
   refine⟨_,rfl,_,rfl,D,rr,rfl,bT.of (s811 _ _ hDl8),λ q6 hq6=>⟨q6,_,rfl,.inl ⟨bT.of aB,λ q7 hq7=>?_⟩⟩⟩
   rw[ct2] at hq7 ⊢
   have m12:aF H11 (upd (upd H11 q6 (.lst (rr.drop 1))) q7 (.tup (rr.drop 1))):=(aF.new hq6).trans (aF.new hq7)
   have t12:bD K (upd (upd H11 q6 (.lst (rr.drop 1))) q7 (.tup (rr.drop 1))) q7 (rr.drop 1):=bD.of aB
   generalize upd (upd H11 q6 (.lst (rr.drop 1))) q7 (.tup (rr.drop 1))=H12 at m12 t12 ⊢
   refine⟨q5,q7,_,_,rfl,rfl,m12.tup u11,t12,by rw[aak,aaj,abc,List.length_drop,sizeLine_eq];omega,λ q8 H13 s13 u13=>?_⟩
   have s813:=(s811.trans m12).trans s13
   refine⟨(show 3<=sizeLine by decide),λ w1 hw1=>⟨(show 1<=sizeLine by decide),λ w2 hw2=>⟨_,rfl,w2,spf,[.ref w1],rfl,rfl,bD.of aB,by omega,by omega,by simp,(show 1<=10 by decide),λ w3 H14 s14 u14=>?_⟩⟩⟩
   have tw1:bD K (upd H13 w1 (.tup [.int 0,.int 0,.bl true])) w1 [.int 0,.int 0,.bl true]:=bD.of aB
   have s14':=((aF.new (o:=HO.tup [.int 0,.int 0,.bl true]) hw1).trans (aF.new hw2)).trans s14
   have tw14:=((aF.new hw2).trans s14).tup tw1
   have e14:(List.replicate spf.toNat [V.ref w1]).flatten=List.replicate (12 - net.sps.length) (.ref w1):=by
    rw[show spf.toNat=12 - net.sps.length by omega];exact oV _ _
   rw[e14] at u14
   have s814:=s813.trans s14'
   have er1:r1.length=net.sps.length:=by rw[lr1.length,aac,aac]
   refine⟨_,rfl,w3,p5,_,r1,rfl,rfl,u14,s814.tup t8,by rw[abc,sizeLine_eq];omega,λ w4 H15 s15 u15=>⟨(show 2<=sizeLine by decide),λ p hp=>?_⟩⟩
   have m16:=aF.new (o:=HO.tup [.ref q8,.ref w4]) hp
   have s815:=s814.trans s15
   have s816:=s815.trans m16
   refine k _ _ ((s06.trans s68).trans s816) ?_
   have hI:Is K (upd H15 p (.tup [.ref q8,.ref w4])) (jM gC) (.ref p4):=Is.mono ((s6.trans s68).trans s816).ts _ _ iI
   have hL:=L2.IsL.mono s816.ts _ _ lrr8
   have eV:iO net=net.vs.map (CF shf spf):=by unfold iO;rw[<- hsh,<- hsp]
   have lV:L2.IsL K (upd H15 p (.tup [.ref q8,.ref w4])) ((qS net).vs.map jM) (rr.take 1++List.replicate (12 - net.vs.length) (.ref p4)++rr.drop 1):=by
    show L2.IsL K _ (((iO net).take 1++List.replicate (12 - net.vs.length) gC++(iO net).drop 1).map jM) _
    rw[aae,aae,List.map_take,List.map_drop,eV,List.map_replicate]
    exact fI (fI (gB 1 hL) (sE _ hI)) (lQ 1 hL)
   have lS:L2.IsL K (upd H15 p (.tup [.ref q8,.ref w4])) ((qS net).sps.map pC) (List.replicate (12 - net.sps.length) (.ref w1)++r1):=by
    show L2.IsL K _ ((List.replicate (12 - net.sps.length) ((0,0,true):sV)++net.sps.map (x8 (12 - net.vs.length))).map pC) _
    rw[aae,List.map_replicate,<- hsh]
    refine fI (sE _ ?_) (L2.IsL.mono s816.ts _ _ lr8)
    exact Is.tupOf (ds:=[.int 0,.int 0,.bl true]) ((s15.trans m16).tup tw14) (.cons (Is.i _) (.cons (Is.i _) (.cons (Is.b _) .nil)))
   exact Is.tupOf (ds:=[.tup ((qS net).vs.map jM),.tup ((qS net).sps.map pC)]) (bD.of aB) (.cons (Is.tupOf (((s14'.trans s15).trans m16).tup u13) lV) (.cons (Is.tupOf (m16.tup u15) lS) .nil))
end
end Tw
namespace HT
open PySem PySem.Spec PyProof.Rows L2
section
variable {prog:Program}{w:World}{A:Around}{E:Value->Shared->Prop}{s:Shared}
theorem vS (n:Nat):Builtin.Slice.sliceAdjust none none (-1) (n:Int)=((n:Int) - 1,-1):=by
 unfold Builtin.Slice.sliceAdjust
 simp
theorem vA (n:Nat):Builtin.Slice.slicePlaces ((n:Int) - 1) (-1) (-1)=n:=by
 unfold Builtin.Slice.slicePlaces
 simp
 try omega
theorem mJ {sl:Addr}{t:Tok}{n:Nat}{Q:Int×Int×Nat->Shared->Prop} (hs:s.heap.IsSliceOf sl .none .none (.int (-1) t))
  (h:Q ((n:Int) - 1,-1,n) s):wpAny (model prog w) A (Builtin.Slice.sliceApplied (.ref sl) (pure (n:Int))) Q E s:=by
 obtain⟨os,hos,hcs,hds⟩:=id hs
 unfold Builtin.Slice.sliceApplied Builtin.Slice.sliceFields
 refine wpAny_bind (wpAny_bind (wpAny_field hos hds (x:=.none) rfl (wpAny_bind (wpAny_field hos hds (x:=.none) rfl (wpAny_bind (wpAny_field hos hds (x:=.int (-1) t) rfl (wpAny_pure ?_)))))))
 refine wpAny_bind (slicePart_int ?_)
 show wpAny _ _ (if ((-1:Int) == 0)=true then _ else _) _ _ s
 rw[if_neg (by decide)]
 refine wpAny_bind (slicePart_none (wpAny_bind (slicePart_none (wpAny_bind (wpAny_pure ?_)))))
 show wpAny _ _ (match Builtin.Slice.sliceAdjust none none (-1) (n:Int) with | (lo,hi)=>pure (lo,(-1:Int),Builtin.Slice.slicePlaces lo hi (-1))) _ _ s
 rw[vS n]
 show wpAny _ _ (pure ((n:Int) - 1,(-1:Int),Builtin.Slice.slicePlaces ((n:Int) - 1) (-1) (-1))) _ _ s
 rw[vA]
 exact wpAny_pure h
theorem zZ (xs:Array Value):((List.range xs.size).filterMap λ (m:Nat)=>xs[(((xs.size:Nat):Int) - 1+(m:Int) * (-1)).toNat]?).toArray=xs.toList.reverse.toArray:=by
 congr 1
 apply List.ext_getElem?
 intro i
 have e:(λ (m:Nat)=>xs[(((xs.size:Nat):Int) - 1+(m:Int) * (-1)).toNat]?)=λ m=>xs[(xs.size:Nat) - 1 - m]?:=by
  funext m
  have:(((xs.size:Nat):Int) - 1+(m:Int) * (-1)).toNat=xs.size - 1 - m:=by omega
  rw[this]
 rw[e]
 have h:(List.range xs.size).filterMap (λ m=>xs[(xs.size:Nat) - 1 - m]?)=(List.range xs.size).map (λ m=>xs.toList.getD (xs.size - 1 - m) Value.none):=by
  have key:∀ l:List Nat,(∀ m∈l,m < xs.size)->l.filterMap (λ m=>xs[(xs.size:Nat) - 1 - m]?)=l.map (λ m=>xs.toList.getD (xs.size - 1 - m) Value.none):=by
   intro l
   induction l with
   | nil=>intro _;rfl
   | cons m l ih=>
    intro hl
    have hm:=hl m abk
    have h2:xs.size - 1 - m < xs.size:=by omega
    have h3:xs[(xs.size:Nat) - 1 - m]? = some (xs.toList.getD (xs.size - 1 - m) Value.none):=by simp [List.getD,h2]
    rw[List.filterMap_cons_some (f:=λ m=>xs[(xs.size:Nat) - 1 - m]?) h3,abb,ih λ a ha=>hl a (aay _ ha)]
  exact key _ λ m hm=>abw.1 hm
 rw[h,aah]
 rcases Nat.lt_or_ge i xs.size with c | c
 ·rw[List.getElem?_range c,List.getElem?_reverse (by simpa using c)]
  have:xs.size - 1 - i < xs.size:=by omega
  simp [List.getD,this]
 ·rw[abx (by simpa using c),abx (by simpa using c)];rfl
theorem getItem_tuple_rev {t sl:Addr}{items:Array Value}{tk:Tok}{Q:Value->Shared->Prop} (ht:IsTup s.heap t items) (hs:s.heap.IsSliceOf sl .none .none (.int (-1) tk))
  (h:Q (.ref s.heap.objs.size) { s with heap:=s.heap.push { cls:=.type "tuple",data:=.seq items.toList.reverse.toArray } })
  (hsz:items.size<=sizeLine):wpAny (model prog w) A (getItem (.ref t) (.ref sl)) Q E s:=by
 have htake:sizeOk (.seq items.toList.reverse.toArray):=by
  show items.toList.reverse.toArray.size<=sizeLine
  rw[aam,List.length_reverse,aby];exact hsz
 obtain⟨os,hos,hcs,hds⟩:=id hs
 have hTs:s.TypeIs (.ref sl) "slice" := ⟨os,hos,hcs⟩
 unfold getItem
 try with_reducible refine wpAny_holding ?_
 first | refine wpAny_bind (wpAny_pure ?_) | skip
 refine wpAny_bind (wpAny_sequenceKey ht.typeIs (by decide) ?_)
 refine wpAny_bind (wpAny_callSpecial?_slot (name:=Str.ofString "__getitem__") ht.typeIs PyProof.Rows.slot_tuple_getitem
  (wpAny_call_entry PyProof.Rows.slot_tuple_getitem ht.typeIs entry_tuple_getitem ?_ (args_tuple_getitem _ _)))
 show wpAny _ _ (Builtin.Tuple.tupleItemsOf (.ref t) >>= _) _ _ s
 refine wpAny_bind (tupleItemsOf_ ht ?_)
 refine wpAny_bind (wpAny_typeOf hTs ?_)
 rw[if_pos (by decide)]
 refine wpAny_bind (mJ (n:=items.size) hs ?_)
 have hno:¬ ((((items.size:Nat):Int) - 1 == 0 && (-1:Int) == 1 && items.size == items.size)=true):=by
  intro q
  rw[Bool.and_eq_true,Bool.and_eq_true] at q
  exact absurd q.1.2 (by decide)
 show wpAny _ _ (if (((items.size:Nat):Int) - 1 == 0 && (-1:Int) == 1 && items.size == items.size)=true then _ else _) _ _ s
 rw[if_neg hno,zZ]
 first
  | exact wpAny_bind (m:=Builtin.Tuple.tupleExact _) (wpAny_newObj_type (wpAny_pure ⟨_,rfl,wpAny_pure h⟩) htake)
  | exact wpAny_bind (m:=Builtin.Tuple.tupleExact _) (wpAny_newObj_type (wpAny_bind (wpAny_pure (wpAny_pure ⟨_,rfl,wpAny_pure h⟩))) htake)
  | exact wpAny_bind (wpAny_bind (m:=Builtin.Tuple.tupleExact _) (wpAny_newObj_type (wpAny_pure (wpAny_pure ⟨_,rfl,wpAny_pure h⟩)) htake))
  | exact wpAny_bind (wpAny_bind (m:=Builtin.Tuple.tupleExact _) (wpAny_newObj_type (wpAny_pure ⟨_,rfl,wpAny_pure h⟩) htake))
end
end HT
namespace L2
open PySem PySem.Spec PyProof.Rows
section
variable {X:Cx}{K:aaa}{e st:Expr}{te:TE}{pos p2:Pos}
theorem yU:∀ {xs ys:List V}{us vs:List Value},bP xs us->bP ys vs->bP (xs++ys) (us++vs):=by
 intro xs ys us vs h h2
 induction h with
 | nil=>exact h2
 | cons a b ih=>exact .cons a ih
theorem yT:∀ {xs:List V}{us:List Value},bP xs us->bP xs.reverse us.reverse:=by
 intro xs us h
 induction h with
 | nil=>exact .nil
 | cons a b ih=>rw[List.reverse_cons,List.reverse_cons];exact yU ih (.cons a .nil)
noncomputable def tRev (K:aaa) (te:TE):TE:=λ σ H Q=>te σ H λ x H1=>∃ a xs,x=.ref a/\bD K H1 a xs/\∀ p,H1 p=none->Q (.ref p) (upd H1 p (.tup xs.reverse))
theorem FJ (hK:X.K=K) (he:PE X e te) {tst:TE} (hst:PE X st tst) (hm:∀ σ H (Q:VK),Q (.int (-1)) H->tst σ H Q):PE X (.Subscript e (.Slice none none (some st) p2) pos) (tRev K te):=by
 subst hK
 intro pins s σ H Q I h
 refine Subscript_ (cQ (he pins s σ H _ I h) λ v s1 ⟨x,H1,I1,r1,q1⟩=>?_)
 refine wpAny_Slice ?_
 rw[evalPart_none]
 refine wpAny_pure (wpAny_pure ?_)
 rw[evalPart_some]
 refine cQ (hst pins s1 σ H1 (λ v H'=>v=V.int (-1)/\H'=H1) I1 (hm _ _ _ ⟨rfl,rfl⟩)) λ u s2 ⟨z,H2,I2,r2,ez,eH⟩=>?_
 subst ez eH
 obtain⟨t,rfl⟩:=r2
 obtain⟨a,xs,rfl,hx,q⟩:=q1
 cases r1
 have I4:Inv X pins σ H2 { s2 with heap:=s2.heap.push { cls:=.type "slice",data:=.fields #[.none,.none,.int (-1) t] } }:=I2.kept (t':=s2.toks) λ b ob q=>aab _ q
 obtain⟨its,r,ht,hz⟩:=I4.tuple hx
 refine tail_any (ops:=[.ref a,.ref s2.heap.objs.size]) ht.typeIs PyProof.Rows.slot_tuple_getitem.lookup (HT.getItem_tuple_rev ht (Heap.IsSliceOf.new ..) ?_ (by rw[aam,<- r.length];exact hz)) (by with_unfolding_all rfl)
 refine⟨.ref _,_,I4.laid (t':=s2.toks) (o:=.tup xs.reverse) (λ b ob q=>aab _ q) (Nat.le_refl _) ?_,rfl,q _ (I4.hok.fresh (Nat.le_refl _))⟩
 exact⟨by rw[List.length_reverse];exact hz,_,yT r,IsTup.new _ _⟩
end
end L2
namespace Tw
open PySem L2
theorem zJ {K:aaa}{H:Hp}{a:Addr}{xs:List V}{n:Nat}{Q:VK} (q:bD K H a xs) (k:∀ b H',aF H H'->bD K H' b (xs.drop n)->Q (.ref b) H'):wD K (.ref a) (some (n:Int)) none H Q:=by
 refine⟨a,xs,rfl,q,λ h=>?_,λ h p hp=>?_⟩
 ·have h1:=h.1
  rw[HT.sIx_nat] at h1
  have e:xs.drop n=xs:=by
   rcases Nat.eq_zero_or_pos n with c | c
   ·rw[c];rfl
   ·have:xs=[]:=List.length_eq_zero_iff.mp (by omega)
    rw[this];simp
  exact k a H (aF.refl H) (by rw[e];exact q)
 ·rw[uD]
  exact k p _ (aF.new hp) (bD.of aB)
theorem pY {K:aaa}{H:Hp}{a:Addr}{xs:List V}{z:Int}{Q:VK} (n:Nat) (hz:z=(n:Int)) (q:bD K H a xs) (k:∀ b H',aF H H'->bD K H' b (xs.drop n)->Q (.ref b) H'):wD K (.ref a) (some z) none H Q:=by
 subst hz
 exact zJ q k
noncomputable def twA (m:Nat) (a:Str×Int):Str×Int:=(a.1,(m:Int) - 1 - a.2)
noncomputable def twV (m:Nat) (v:Vs):Vs:={ v with acts:=v.acts.map (twA m) }
noncomputable def tw0 (net:Net):Net:=⟨net.vs.map (twV net.sps.length),net.sps.reverse⟩
theorem EK {net:Net} (nok:NetOk net):NetOk (tw0 net):=by
 have el:(tw0 net).vs.length=net.vs.length:=aac ..
 have es:(tw0 net).sps.length=net.sps.length:=List.length_reverse ..
 refine⟨by rw[el];exact nok.lo,by rw[el];exact nok.hi,by rw[es];exact nok.sp,λ v hv=>?_,λ s hs=>by rw[el];exact nok.sps s (List.mem_reverse.1 hs)⟩
 rw[el,es]
 obtain⟨u,hu,rfl⟩:=abf.1 hv
 have ok:=nok.vs u hu
 refine⟨ok.size,ok.ne,ok.o3,ok.outs,ok.spill,by show (u.acts.map _).length<=3;rw[aac];exact ok.a3,λ a ha=>?_⟩
 obtain⟨a',ha',rfl⟩:=abf.1 ha
 have ok':=ok.acts a' ha'
 have h0:=ok'.lo
 have h1:=ok'.hi
 exact⟨ok'.word,by show 0<=(net.sps.length:Int) - 1 - a'.2;omega,by show (net.sps.length:Int) - 1 - a'.2 < net.sps.length;omega⟩
theorem EJ {net:Net} (nok:NetOk net) (h2:net.vs.length<=2):NetOk ⟨net.vs++[gC],net.sps⟩:=by
 refine⟨by simp,by simp;omega,nok.sp,λ v hv=>?_,λ s hs=>?_⟩
 ·have el:(net.vs++[gC]).length=net.vs.length+1:=by simp
  show VOk (net.vs++[gC]).length net.sps.length v
  rw[el]
  rcases abd.1 hv with h | h
  ·have ok:=nok.vs v h
   exact⟨ok.size,ok.ne,ok.o3,λ o ho=>⟨λ t ht=>by have:=(ok.outs o ho).tg t ht;omega,(ok.outs o ho).lo,(ok.outs o ho).hi⟩,λ t ht=>by have:=ok.spill t ht;omega,ok.a3,ok.acts⟩
  ·rw[aaw] at h;subst h
   refine⟨by decide,by decide,by decide,λ o ho=>?_,(λ t ht=>by cases ht),by decide,(λ a ha=>by cases ha)⟩
   have:o=(some 0,1):=by simpa [gC] using ho
   subst this
   exact⟨(λ t ht=>by cases ht;exact⟨by decide,by omega⟩),by decide,by decide⟩
 ·have:=nok.sps s hs
  show 0<=s.1/\s.1 < (((net.vs++[gC]).length:Nat):Int)
  rw[aak,List.length_singleton];omega
theorem yW {net:Net} (nok:NetOk net) {j:Nat}{v:Vs} (hv:net.vs[j]? = some v) (u:Vs) (e1:u.size=v.size) (e2:u.outs=v.outs) (e3:u.spill=v.spill) (e4:u.acts=v.acts):NetOk ⟨net.vs.take j++[u]++net.vs.drop (j+1),net.sps⟩:=by
 have hj:=(aad.mp hv).1
 have el:(net.vs.take j++[u]++net.vs.drop (j+1)).length=net.vs.length:=by
  rw[aak,aak,aaj,List.length_drop,List.length_singleton];omega
 refine⟨by show 1<=(net.vs.take j++[u]++net.vs.drop (j+1)).length;rw[el];exact nok.lo,by show (net.vs.take j++[u]++net.vs.drop (j+1)).length<=12;rw[el];exact nok.hi,nok.sp,λ z hz=>?_,λ s hs=>by show _/\s.1 < (((net.vs.take j++[u]++net.vs.drop (j+1)).length:Nat):Int);rw[el];exact nok.sps s hs⟩
 show VOk (net.vs.take j++[u]++net.vs.drop (j+1)).length net.sps.length z
 rw[el]
 rcases abd.1 hz with h | h
 ·rcases abd.1 h with h | h
  ·exact nok.vs z (List.mem_of_mem_take h)
  ·rw[aaw] at h;subst h
   have ok:=nok.vs v (aan hv)
   exact⟨by rw[e1];exact ok.size,by rw[e2];exact ok.ne,by rw[e2];exact ok.o3,by rw[e2];exact ok.outs,by rw[e3];exact ok.spill,by rw[e4];exact ok.a3,by rw[e4];exact ok.acts⟩
 ·exact nok.vs z (List.mem_of_mem_drop h)
end Tw
namespace Tw
open PySem L2
theorem wK {K:aaa}{H:Hp}:∀ {ds:List L2.D}{xs:List V},L2.IsL K H ds xs->L2.IsL K H ds.reverse xs.reverse
 | [],xs,h=>by
  have:=h.length
  cases xs with
  | nil=>exact .nil
  | cons _ _=>simp at this
 | d::ds,xs,h=>by
  cases xs with
  | nil=>have:=h.length;simp at this
  | cons x xs=>
   rw[L2.IsL] at h
   obtain⟨x1,r,e,h1,h2⟩:=h
   cases e
   rw[List.reverse_cons,List.reverse_cons]
   exact fI (wK h2) (.cons h1 .nil)
section
variable {P:Program}{w:World}{K:aaa}{mg:Str->Option Value}{base:Heap}
noncomputable def uT (K:aaa):Sp:=λ args H Q _=>∃ (t sl:Addr) (x:V) (net:Net),args=[.ref t,x]/\dU H t sl/\Is K H (dY net) x/\NetOk net/\net.vs.length<=2/\∀ (net':Net) p H',Ext t sl H H'->NetOk net'->Is K H' (dY net') p->Q p H'
theorem lB:FnScope ["tape","net","vessels","spouts","way","last","turned","vessel","at","size","brim","outs","holds","spill","acts","other"] ["tape","net"] (aM (bK 38)):=⟨rfl,rfl,rfl,by decide +kernel,rfl,by decide +kernel,by decide +kernel⟩
theorem rT {f f1:Addr}{fd fd1:FuncData} (F:Fun K "_law_twin" "_law_twin" (bK 38) f fd) (T:Txt mg) (G__law_draw:Callee P w K mg base "_law_draw" ["tape","many"] 1 fY f1 fd1) :
  FnOk P w K mg base iM 2 f fd ["tape","net"] (uT K):=by
 refine F.ok lB (λ vs H Q E h=>?_) (λ cdv A outer s H vs Q E hr h=>?_)
 ·obtain⟨t,sl,x,net,rfl,_⟩:=h;rfl
 ·obtain⟨t,sl,x,net,rfl,tp,hx,nok,n2,k⟩:=h
  have sc:=lB
  refine⟨_,(aD (cN (pv 1) (bJ (K:=K) (n:=2) rfl rfl (aG (aH (i:=2) sc.nd rfl (Or.inl rfl)) (aG (aH (i:=3) sc.nd rfl (Or.inl rfl)) bF))))
   (aD (aP (i:=4) sc.nd rfl (Or.inl rfl) (d5 G__law_draw hr (aA (pv 0) (aA aE aC))))
   (aD (cF (bB g7 (pv 4) aE (bH _)) (aD (aP (i:=5) sc.nd rfl (Or.inr rfl) (aU eY (aR (bA (K:=K) rfl) rfl T.b_len aar (aA (pv 3) aC)) aE))
   (aD (aP (i:=6) sc.nd rfl (Or.inl rfl) (bG aC))
   (aD (cS PassesOwn.never rfl (cW (K:=K) rfl (pv 2)) (aH (i:=7) sc.nd rfl (Or.inl rfl)) (aK (cV (eA (K:=K) rfl aas aau aav cD (pv 6) (aA (aU (eE (K:=K) rfl) (eK (gJ (K:=K) rfl) (pv 7) fH (fG aE)) (aV (aA (aZ (bO (K:=K) rfl) rfl T.b_tuple bR (aA (gL (λ _ _ h=>h) rfl (LcOk.mk (N':=["word","spout","last"]) (fr:=[none,none,some 5]) rfl ⟨rfl,trivial⟩ rfl rfl rfl rfl rfl ⟨⟨_,rfl,rfl,rfl,rfl⟩,trivial⟩) (cW (K:=K) rfl (aQ (aJ (K:=K) rfl) (pv 7) aE (λ _ _=>rfl))) (λ _ _ _=>(bJ (K:=K) (n:=2) rfl rfl (aG (aH (i:=0) (show (["word","spout","last"]:List Str).Nodup by decide +kernel) rfl (Or.inl rfl) (Or.inr rfl)) (aG (aH (i:=1) (show (["word","spout","last"]:List Str).Nodup by decide +kernel) rfl (Or.inl rfl) (Or.inr rfl)) bF)))) (λ _ _ _=>d6) (λ _ _ _=>(aV (aA (pv 0) (aA (aU eY (pv 2) (pv 1)) aC))))) aC)) aC))) aC)))))
   (aK (bC (aV (aA (aZ (bO (K:=K) rfl) rfl T.b_tuple bR (aA (pv 6) aC)) (aA (FJ (K:=K) rfl (pv 3) (HK EH aE) (λ _ _ _ h=>⟨1,rfl,h⟩)) aC)))))))) bL)
   (aD (cF (bB g7 (pv 4) aE (bH _)) (aK (bC (aV (aA (aU (eE (K:=K) rfl) (pv 2) (aV (aA (aV (aA aE (aA aE (aA (aV (aA (aV (aA aE (aA aE aC))) aC)) (aA eF (aA eQ (aA (aV aC) aC))))))) aC))) (aA (pv 3) aC))))) bL)
   (aD (cF (bB g7 (pv 4) aE (bH _)) (aD (aP (i:=8) sc.nd rfl (Or.inl rfl) (d5 G__law_draw hr (aA (pv 0) (aA (aR (bA (K:=K) rfl) rfl T.b_len aar (aA (pv 2) aC)) aC))))
   (aD (cN (aQ (aJ (K:=K) rfl) (pv 2) (pv 8) (λ _ _=>rfl)) (bJ (K:=K) (n:=6) rfl rfl (aG (aH (i:=9) sc.nd rfl (Or.inl rfl)) (aG (aH (i:=10) sc.nd rfl (Or.inl rfl)) (aG (aH (i:=11) sc.nd rfl (Or.inl rfl)) (aG (aH (i:=12) sc.nd rfl (Or.inl rfl)) (aG (aH (i:=13) sc.nd rfl (Or.inl rfl)) (aG (aH (i:=14) sc.nd rfl (Or.inl rfl)) bF))))))))
   (aD (aP (i:=15) sc.nd rfl (Or.inl rfl) (aV (aA (pv 9) (aA (aU cB (pv 10) aE) (aA (pv 11) (aA (pv 12) (aA (pv 13) (aA (pv 14) aC))))))))
   (aK (bC (aV (aA (aU (eE (K:=K) rfl) (aU (eE (K:=K) rfl) (eK (gJ (K:=K) rfl) (pv 2) fH (fG (pv 8))) (aV (aA (pv 15) aC))) (eK (gJ (K:=K) rfl) (pv 2) (fG (aU cB (pv 8) aE)) fH)) (aA (pv 3) aC)))))))) bL)
   (aD (aP (i:=8) sc.nd rfl (Or.inl rfl) (d5 G__law_draw hr (aA (pv 0) (aA (aR (bA (K:=K) rfl) rfl T.b_len aar (aA (pv 2) aC)) aC))))
   (aD (cN (aQ (aJ (K:=K) rfl) (pv 2) (pv 8) (λ _ _=>rfl)) (bJ (K:=K) (n:=6) rfl rfl (aG (aH (i:=9) sc.nd rfl (Or.inl rfl)) (aG (aH (i:=10) sc.nd rfl (Or.inl rfl)) (aG (aH (i:=11) sc.nd rfl (Or.inl rfl)) (aG (aH (i:=12) sc.nd rfl (Or.inl rfl)) (aG (aH (i:=13) sc.nd rfl (Or.inl rfl)) (aG (aH (i:=14) sc.nd rfl (Or.inl rfl)) bF))))))))
   (aK (bC (aV (aA (aU (eE (K:=K) rfl) (aU (eE (K:=K) rfl) (eK (gJ (K:=K) rfl) (pv 2) fH (fG (pv 8))) (aV (aA (aV (aA (pv 9) (aA (pv 10) (aA (pv 11) (aA (oE (pv 12)) (aA (pv 13) (aA (pv 14) aC))))))) aC))) (eK (gJ (K:=K) rfl) (pv 2) (fG (aU cB (pv 8) aE)) fH)) (aA (pv 3) aC)))))))))))),?_⟩
  obtain⟨ax,av,as,xs,ys,rfl,qx,qv,lv,qs,ls⟩:=fA hx
  have exl:xs.length=net.vs.length:=by rw[lv.length,aac]
  have eyl:ys.length=net.sps.length:=by rw[ls.length,aac]
  have nlo:=nok.lo
  have nsp:=nok.sp
  refine⟨_,rfl,ax,_,rfl,qx,rfl,_,_,rfl,_,_,rfl,rfl,?_⟩
  refine⟨_,rfl,t,sl,4,rfl,tp,by decide,by decide,λ way H1 b1 t1 w0 w1=>?_⟩
  have ts1:=b1.ts (K:=K) tp.mut
  have e1:Ext t sl H H1:=⟨b1,t1⟩
  have qv1:=ts1 _ _ qv
  have qs1:=ts1 _ _ qs
  have lv1:=L2.IsL.mono ts1 _ _ lv
  have ls1:=L2.IsL.mono ts1 _ _ ls
  rcases (show way=0\/way=1\/way=2\/way=3 by omega) with e | e | e | e <;> subst e
  ·refine⟨_,rfl,rfl,_,rfl,eM (λ _=>?_) λ z=>absurd (by decide) z⟩
   refine⟨_,rfl,as,ys,rfl,.inr qs1,_,_,rfl,rfl,?_⟩
   obtain⟨lst,hlst⟩:∃ z:Int,z=(ys.length:Int) - 1:=⟨_,rfl⟩
   refine⟨Nat.zero_le _,λ D hD=>?_⟩
   have s5:=aF.new (o:=HO.lst []) hD
   have g5:upd H1 D (.lst []) D=some (.lst []):=aB
   have fD:H1 D=none:=hD
   generalize upd H1 D (.lst [])=H5 at s5 g5 ⊢
   refine⟨_,rfl,av,rfl,⟨_,s5.tup qv1⟩,jI (K:=K) (a:=av) (xs:=xs) (λ i ac H'=>aF H1 H'/\(∃ rr,H' D=some (.lst rr)/\L2.IsL K H' (((net.vs.take i).map (twV net.sps.length)).map jM) rr)/\
    ∃ v7 v8 v9 v10 v11 v12 v13 v14 v15,ac=[some (.ref t),some (.ref ax),some (.ref av),some (.ref as),some (.int 0),some (.int lst),some (.ref D),v7,v8,v9,v10,v11,v12,v13,v14,v15]) ?_ ?_ ?_ ?_⟩
   ·exact⟨s5,⟨[],g5,.nil⟩,none,none,none,none,none,none,none,none,none,by rw[hlst];rfl⟩
   ·rintro i ac H' _ ⟨s6,_⟩;exact s6.tup qv1
   ·rintro i y ac H6 hy ⟨s6,⟨rr,hDl,lrr⟩,v7,v8,v9,v10,v11,v12,v13,v14,v15,rfl⟩
    obtain⟨dv,hdv,hyd⟩:=lv1.get' hy
    rw[aah] at hdv
    obtain⟨v,hv,rfl⟩:=aaq.mp hdv
    have vok:=nok.vs v (aan hv)
    obtain⟨a,o,c,rfl,q,io,ic⟩:=kU (Is.mono s6.ts _ _ hyd)
    obtain⟨ca,cs,rfl,qc,lc⟩:=ic.un
    have ecl:cs.length=v.acts.length:=by rw[lc.length,aac]
    have ha3:=vok.a3
    have hDl6:=hDl
    refine⟨_,rfl,.inl ⟨rfl,_,bT.of hDl6⟩,_,rfl,_,rfl,gT (n:=5) q λ b7 H7 s7 q7=>?_⟩
    refine⟨_,rfl,.inr (.inl ⟨a,_,5,_,rfl,rfl,s7.tup q,rfl,ca,rfl,⟨_,s7.tup qc⟩,gA (K:=K) (a:=ca) (xs:=cs) (λ E i r ac H'=>H7 E=none/\aF H7 H'/\H' E=some (.lst r)/\L2.IsL K H' (((v.acts.take i).map (twA net.sps.length)).map jA) r/\∃ u1 u2,ac=[u1,u2,some (.int lst)])
     (λ E i r ac H' p=>(s7.trans p.2.1).tup qc) (λ E hE=>⟨hE,aF.new hE,aB,.nil,none,none,rfl⟩) ?_ ?_⟩)⟩
    rotate_left
    ·rintro E j z r ac H9 hz ⟨hE,sm,hEl,lr,u1,u2,rfl⟩
     obtain⟨t',ht',ta,rfl,qt⟩:=mB lc hz
     have hjl:=(aad.mp ht').1
     refine⟨ta,_,rfl,(s7.trans sm).tup qt,rfl,_,_,rfl,_,_,rfl,rfl,?_⟩
     refine gN ?_
     refine⟨_,rfl,_,rfl,_,rfl,_,_,rfl,rfl,(show 2<=sizeLine by decide),λ e he=>?_⟩
     have m10:=aF.new (o:=HO.tup [.str t'.1,.int (lst - t'.2)]) he
     have i10:Is K (upd H9 e (.tup [.str t'.1,.int (lst - t'.2)])) (jA (twA net.sps.length t')) (.ref e):=by
      have ee:lst - t'.2=(net.sps.length:Int) - 1 - t'.2:=by omega
      rw[ee]
      exact Is.tupOf (ds:=[.str t'.1,.int ((net.sps.length:Int) - 1 - t'.2)]) (bD.of aB) (.cons (Is.s _) (.cons (Is.i _) .nil))
     generalize upd H9 e (.tup [.str t'.1,.int (lst - t'.2)])=H10 at m10 i10 ⊢
     have hEl8:=m10 _ _ hEl
     have muE:kR (H10 E):=by rw[hEl8];exact trivial
     have hrl:r.length<=12:=by rw[lr.length,aac,aac,aaj];omega
     refine⟨hEl8,aY (by omega),hE,(sm.trans m10).put hE,aB,?_,_,_,rfl⟩
     rw[abn,ht',aae,aae]
     exact L2.IsL.snoc (Is.mono (cP.ts cP.upd muE) _ _ i10) (L2.IsL.mono (m10.ts.trans (cP.ts cP.upd muE)) _ _ lr)
    rintro E2 r2 ac H9 ⟨hE2,sm9,hEl2,lr2,_⟩
    rw[ecl,aao] at lr2
    refine⟨E2,_,rfl,.inl ⟨bT.of hEl2,λ p6 hp6=>⟨(show 1<=sizeLine by decide),λ p8 hp8=>?_⟩⟩⟩
    have m10:=(aF.new (o:=HO.tup r2) hp6).trans (aF.new (o:=HO.tup [.ref p6]) hp8)
    have t10:bD K (upd (upd H9 p6 (.tup r2)) p8 (.tup [.ref p6])) p6 r2:=(aF.new hp8).tup (bD.of aB)
    have t11:bD K (upd (upd H9 p6 (.tup r2)) p8 (.tup [.ref p6])) p8 [.ref p6]:=bD.of aB
    generalize upd (upd H9 p6 (.tup r2)) p8 (.tup [.ref p6])=H10 at m10 t10 t11 ⊢
    have s710:=sm9.trans m10
    refine⟨b7,p8,_,_,rfl,rfl,s710.tup q7,t11,by show 5+1<=sizeLine;decide,λ p9 H11 s11 q11=>?_⟩
    have s611:=(s7.trans s710).trans s11
    have hDl11:=s611 _ _ hDl
    have hrl:rr.length<=12:=by
     rw[lrr.length,aac,aac,aaj]
     have:=nok.hi
     omega
    have i11:Is K H11 (jM (twV net.sps.length v)) (.ref p9):=
     Is.tupOf (ds:=[.int v.size,.int v.brim,.tup (v.outs.map outD),.bl v.holds,uN v.spill,.tup ((v.acts.map (twA net.sps.length)).map jA)]) q11
      (.cons (Is.i _) (.cons (Is.i _) (.cons (Is.mono s611.ts _ _ io) (.cons (Is.b _) (.cons (Is.tgOf _) (.cons (Is.tupOf (s11.tup t10) (L2.IsL.mono (m10.trans s11).ts _ _ lr2)) .nil))))))
    refine⟨D,rr,_,rfl,rfl,hDl11,aY (by omega),?_⟩
    have muD:kR (H11 D):=by rw[hDl11];exact trivial
    refine⟨(s6.trans s611).put fD,⟨_,aB,?_⟩,_,_,_,_,_,_,_,_,_,rfl⟩
    rw[abn,hv,aae,aae]
    exact L2.IsL.snoc (Is.mono (cP.ts cP.upd muD) _ _ i11) (L2.IsL.mono (s611.ts.trans (cP.ts cP.upd muD)) _ _ lrr)
   ·rintro ac H6 ⟨s6,⟨rr,hDl,lrr⟩,v7,v8,v9,v10,v11,v12,v13,v14,v15,rfl⟩
    rw[exl,aao] at lrr
    refine⟨_,rfl,D,_,rfl,.inl ⟨bT.of hDl,λ p2 hp2=>⟨_,rfl,as,ys,rfl,((s6.trans (aF.new hp2)).tup qs1),λ p3 hp3=>⟨(show 2<=sizeLine by decide),λ p hp=>?_⟩⟩⟩⟩
    have m7:=aF.new (o:=HO.tup rr) hp2
    have m8:=aF.new (o:=HO.tup ys.reverse) hp3
    have m9:=aF.new (o:=HO.tup [.ref p2,.ref p3]) hp
    have t7:=(m8.trans m9).tup (bD.of (K:=K) (show upd H6 p2 (.tup rr) p2=_ from aB))
    have t8:=m9.tup (bD.of (K:=K) (show upd (upd H6 p2 (.tup rr)) p3 (.tup ys.reverse) p3=_ from aB))
    refine k (tw0 net) _ _ (e1.sm (((s6.trans m7).trans m8).trans m9)) (EK nok) ?_
    refine Is.tupOf (ds:=[.tup ((tw0 net).vs.map jM),.tup ((tw0 net).sps.map pC)]) (bD.of aB) (.cons (Is.tupOf t7 (L2.IsL.mono ((m7.trans m8).trans m9).ts _ _ lrr)) (.cons (Is.tupOf t8 ?_) .nil))
    show L2.IsL K _ (net.sps.reverse.map pC) ys.reverse
    rw[List.map_reverse]
    exact wK (L2.IsL.mono (((s6.trans m7).trans m8).trans m9).ts _ _ ls1)
  ·refine⟨_,rfl,rfl,_,rfl,eM (λ z=>absurd z (by decide)) λ _=>?_⟩
   refine⟨_,rfl,rfl,_,rfl,eM (λ _=>?_) λ z=>absurd (by decide) z⟩
   refine⟨_,rfl,(show 2<=sizeLine by decide),λ p1 h1=>⟨(show 1<=sizeLine by decide),λ p2 h2=>⟨(show 0<=sizeLine by decide),λ p3 h3=>⟨(show 6<=sizeLine by decide),λ p4 h4=>⟨(show 1<=sizeLine by decide),λ p5 h5=>?_⟩⟩⟩⟩⟩
   have u1:bD K (upd H1 p1 (.tup [.int 0,.int 1])) p1 [.int 0,.int 1]:=bD.of aB
   have m1:=aF.new (o:=HO.tup [.int 0,.int 1]) h1
   generalize upd H1 p1 (.tup [.int 0,.int 1])=G1 at u1 m1 h2 h3 h4 h5 ⊢
   have u2:bD K (upd G1 p2 (.tup [.ref p1])) p2 [.ref p1]:=bD.of aB
   have m2:=aF.new (o:=HO.tup [.ref p1]) h2
   generalize upd G1 p2 (.tup [.ref p1])=G2 at u2 m2 h3 h4 h5 ⊢
   have u3:bD K (upd G2 p3 (.tup [])) p3 []:=bD.of aB
   have m3:=aF.new (o:=HO.tup []) h3
   generalize upd G2 p3 (.tup [])=G3 at u3 m3 h4 h5 ⊢
   have u4:bD K (upd G3 p4 (.tup [.int 2,.int 3,.ref p2,.bl false,.non,.ref p3])) p4 [.int 2,.int 3,.ref p2,.bl false,.non,.ref p3]:=bD.of aB
   have m4:=aF.new (o:=HO.tup [.int 2,.int 3,.ref p2,.bl false,.non,.ref p3]) h4
   generalize upd G3 p4 (.tup [.int 2,.int 3,.ref p2,.bl false,.non,.ref p3])=G4 at u4 m4 h5 ⊢
   have u5:bD K (upd G4 p5 (.tup [.ref p4])) p5 [.ref p4]:=bD.of aB
   have m5:=aF.new (o:=HO.tup [.ref p4]) h5
   generalize upd G4 p5 (.tup [.ref p4])=G5 at u5 m5 ⊢
   have iI:Is K G5 (jM gC) (.ref p4):=by
    refine Is.tupOf (ds:=[.int 2,.int 3,.tup [outD (some 0,1)],.bl false,.non,.tup []]) (m5.tup u4) (.cons (Is.i _) (.cons (Is.i _) (.cons (Is.tupOf (((m3.trans m4).trans m5).tup u2) (.cons (Is.tupOf (ds:=[.int 0,.int 1]) ((((m2.trans m3).trans m4).trans m5).tup u1) (.cons (Is.i _) (.cons (Is.i _) .nil))) .nil)) (.cons (Is.b _) (.cons Is.n (.cons (Is.tupOf ((m4.trans m5).tup u3) .nil) .nil))))))
   have s15:=(((m1.trans m2).trans m3).trans m4).trans m5
   refine⟨av,p5,xs,[.ref p4],rfl,rfl,s15.tup qv1,u5,by rw[sizeLine_eq];show xs.length+1<=_;omega,λ p6 G6 m6 q6=>⟨_,rfl,(show 2<=sizeLine by decide),λ p hp=>?_⟩⟩
   have m7:=aF.new (o:=HO.tup [.ref p6,.ref as]) hp
   have s17:=(s15.trans m6).trans m7
   refine k ⟨net.vs++[gC],net.sps⟩ _ _ (e1.sm s17) (EJ nok n2) ?_
   refine Is.tupOf (ds:=[.tup ((net.vs++[gC]).map jM),.tup (net.sps.map pC)]) (bD.of aB) (.cons (Is.tupOf (m7.tup q6) ?_) (.cons (Is.tupOf (s17.tup qs1) (L2.IsL.mono s17.ts _ _ ls1)) .nil))
   rw[aae]
   exact fI (L2.IsL.mono s17.ts _ _ lv1) (.cons (Is.mono (m6.trans m7).ts _ _ iI) .nil)
  ·refine⟨_,rfl,rfl,_,rfl,eM (λ z=>absurd z (by decide)) λ _=>?_⟩
   refine⟨_,rfl,rfl,_,rfl,eM (λ z=>absurd z (by decide)) λ _=>?_⟩
   refine⟨_,rfl,rfl,_,rfl,eM (λ _=>?_) λ z=>absurd (by decide) z⟩
   refine⟨_,rfl,_,rfl,av,xs,rfl,.inr qv1,t,sl,_,rfl,t1,by omega,by omega,λ j' H2 b2 t2 j0 j1=>?_⟩
   obtain⟨j,rfl⟩:=Int.eq_ofNat_of_zero_le j0
   obtain⟨v,hv⟩:∃ v,net.vs[j]? = some v:=⟨_,abh (by omega)⟩
   have lv2:=L2.IsL.mono (b2.ts (K:=K) t1.mut) _ _ lv1
   have qv2:=b2.ts (K:=K) t1.mut _ _ qv1
   have qs2:=b2.ts (K:=K) t1.mut _ _ qs1
   have ls2:=L2.IsL.mono (b2.ts (K:=K) t1.mut) _ _ ls1
   obtain⟨y,hy,iy⟩:=lv2.get (i:=j) (d:=jM v) (by rw[aah,hv];rfl)
   obtain⟨a,o,c,rfl,q,io,ic⟩:=kU iy
   have e2:Ext t sl H H2:=⟨b1.trans b2,t2⟩
   have jl:j < net.vs.length:=(aad.mp hv).1
   refine⟨_,rfl,_,rfl,.inr (.inl ⟨av,xs,(j:Int),_,rfl,rfl,qv2,bZ hy,a,_,rfl,q,rfl,_,_,rfl,_,_,rfl,_,_,rfl,_,_,rfl,_,_,rfl,_,_,rfl,rfl,?_⟩)⟩
   refine⟨_,rfl,_,rfl,_,_,rfl,rfl,_,rfl,_,rfl,_,rfl,_,rfl,(show 6<=sizeLine by decide),λ pu hpu=>?_⟩
   have mu:=aF.new (o:=HO.tup [.int v.size,.int (v.brim+1),o,.bl v.holds,fR v.spill,c]) hpu
   have iu:Is K (upd H2 pu (.tup [.int v.size,.int (v.brim+1),o,.bl v.holds,fR v.spill,c])) (jM { v with brim:=v.brim+1 }) (.ref pu):=
    Is.tupOf (ds:=[.int v.size,.int (v.brim+1),.tup (v.outs.map outD),.bl v.holds,uN v.spill,.tup (v.acts.map jA)]) (bD.of aB) (.cons (Is.i _) (.cons (Is.i _) (.cons (Is.mono mu.ts _ _ io) (.cons (Is.b _) (.cons (Is.tgOf _) (.cons (Is.mono mu.ts _ _ ic) .nil))))))
   generalize upd H2 pu (.tup [.int v.size,.int (v.brim+1),o,.bl v.holds,fR v.spill,c])=H3 at mu iu ⊢
   refine⟨_,rfl,_,rfl,_,rfl,gT (n:=j) (mu.tup qv2) λ p4 H4 s4 q4=>?_⟩
   refine⟨_,rfl,(show 1<=sizeLine by decide),λ p5 hp5=>⟨p4,p5,_,_,rfl,rfl,(aF.new hp5).tup q4,bD.of aB,by rw[sizeLine_eq,aaj];show _+1<=_;omega,λ p6 H6 s6 q6=>?_⟩⟩
   have s36:=(s4.trans (aF.new (o:=HO.tup [.ref pu]) hp5)).trans s6
   refine⟨_,rfl,_,rfl,_,_,rfl,rfl,_,rfl,?_⟩
   dsimp only [qT]
   refine pY (z:=(j:Int)+1) (j+1) (by omega) ((mu.trans s36).tup qv2) λ p7 H7 s7 q7=>?_
   refine⟨p6,p7,_,_,rfl,rfl,s7.tup q6,q7,by rw[sizeLine_eq,aak,aaj,List.length_drop];show _+1+_<=_;omega,λ p8 H8 s8 q8=>⟨_,rfl,(show 2<=sizeLine by decide),λ p hp=>?_⟩⟩
   have s9:=aF.new (o:=HO.tup [.ref p8,.ref as]) hp
   have s39:=((s36.trans s7).trans s8).trans s9
   have s29:=mu.trans s39
   refine k ⟨net.vs.take j++[{ v with brim:=v.brim+1 }]++net.vs.drop (j+1),net.sps⟩ _ _ (e2.sm s29) (yW nok hv _ rfl rfl rfl rfl) ?_
   refine Is.tupOf (ds:=[.tup ((net.vs.take j++[{ v with brim:=v.brim+1 }]++net.vs.drop (j+1)).map jM),.tup (net.sps.map pC)]) (bD.of aB) (.cons (Is.tupOf (s9.tup q8) ?_) (.cons (Is.tupOf (s29.tup qs2) (L2.IsL.mono s29.ts _ _ ls2)) .nil))
   rw[aae,aae,List.map_take,List.map_drop]
   have lv9:=L2.IsL.mono s29.ts _ _ lv2
   exact fI (fI (gB j lv9) (.cons (Is.mono s39.ts _ _ iu) .nil)) (lQ (j+1) lv9)
  ·refine⟨_,rfl,rfl,_,rfl,eM (λ z=>absurd z (by decide)) λ _=>?_⟩
   refine⟨_,rfl,rfl,_,rfl,eM (λ z=>absurd z (by decide)) λ _=>?_⟩
   refine⟨_,rfl,rfl,_,rfl,eM (λ z=>absurd z (by decide)) λ _=>?_⟩
   refine⟨_,rfl,_,rfl,av,xs,rfl,.inr qv1,t,sl,_,rfl,t1,by omega,by omega,λ j' H2 b2 t2 j0 j1=>?_⟩
   obtain⟨j,rfl⟩:=Int.eq_ofNat_of_zero_le j0
   obtain⟨v,hv⟩:∃ v,net.vs[j]? = some v:=⟨_,abh (by omega)⟩
   have lv2:=L2.IsL.mono (b2.ts (K:=K) t1.mut) _ _ lv1
   have qv2:=b2.ts (K:=K) t1.mut _ _ qv1
   have qs2:=b2.ts (K:=K) t1.mut _ _ qs1
   have ls2:=L2.IsL.mono (b2.ts (K:=K) t1.mut) _ _ ls1
   obtain⟨y,hy,iy⟩:=lv2.get (i:=j) (d:=jM v) (by rw[aah,hv];rfl)
   obtain⟨a,o,c,rfl,q,io,ic⟩:=kU iy
   have e2:Ext t sl H H2:=⟨b1.trans b2,t2⟩
   have jl:j < net.vs.length:=(aad.mp hv).1
   refine⟨_,rfl,_,rfl,.inr (.inl ⟨av,xs,(j:Int),_,rfl,rfl,qv2,bZ hy,a,_,rfl,q,rfl,_,_,rfl,_,_,rfl,_,_,rfl,_,_,rfl,_,_,rfl,_,_,rfl,rfl,?_⟩)⟩
   refine⟨_,rfl,_,rfl,_,rfl,gT (n:=j) qv2 λ p4 H4 s4 q4=>?_⟩
   refine⟨_,rfl,_,rfl,_,rfl,_,rfl,_,rfl,_,rfl,_,rfl,(show 6<=sizeLine by decide),λ pu hpu=>⟨(show 1<=sizeLine by decide),λ p5 hp5=>?_⟩⟩
   have mu:=aF.new (o:=HO.tup [.int v.size,.int v.brim,o,.bl (!v.holds),fR v.spill,c]) hpu
   have iu:Is K (upd H4 pu (.tup [.int v.size,.int v.brim,o,.bl (!v.holds),fR v.spill,c])) (jM { v with holds:=!v.holds }) (.ref pu):=
    Is.tupOf (ds:=[.int v.size,.int v.brim,.tup (v.outs.map outD),.bl (!v.holds),uN v.spill,.tup (v.acts.map jA)]) (bD.of aB) (.cons (Is.i _) (.cons (Is.i _) (.cons (Is.mono (s4.trans mu).ts _ _ io) (.cons (Is.b _) (.cons (Is.tgOf _) (.cons (Is.mono (s4.trans mu).ts _ _ ic) .nil))))))
   generalize upd H4 pu (.tup [.int v.size,.int v.brim,o,.bl (!v.holds),fR v.spill,c])=H3 at mu iu hp5 ⊢
   refine⟨p4,p5,_,_,rfl,rfl,(mu.trans (aF.new hp5)).tup q4,bD.of aB,by rw[sizeLine_eq,aaj];show _+1<=_;omega,λ p6 H6 s6 q6=>?_⟩
   have s36:=(aF.new (o:=HO.tup [.ref pu]) hp5).trans s6
   have s26:=(s4.trans mu).trans s36
   refine⟨_,rfl,_,rfl,_,_,rfl,rfl,_,rfl,?_⟩
   dsimp only [qT]
   refine pY (z:=(j:Int)+1) (j+1) (by omega) (s26.tup qv2) λ p7 H7 s7 q7=>?_
   refine⟨p6,p7,_,_,rfl,rfl,s7.tup q6,q7,by rw[sizeLine_eq,aak,aaj,List.length_drop];show _+1+_<=_;omega,λ p8 H8 s8 q8=>⟨_,rfl,(show 2<=sizeLine by decide),λ p hp=>?_⟩⟩
   have s9:=aF.new (o:=HO.tup [.ref p8,.ref as]) hp
   have s39:=((s36.trans s7).trans s8).trans s9
   have s29:=(s4.trans mu).trans s39
   refine k ⟨net.vs.take j++[{ v with holds:=!v.holds }]++net.vs.drop (j+1),net.sps⟩ _ _ (e2.sm s29) (yW nok hv _ rfl rfl rfl rfl) ?_
   refine Is.tupOf (ds:=[.tup ((net.vs.take j++[{ v with holds:=!v.holds }]++net.vs.drop (j+1)).map jM),.tup (net.sps.map pC)]) (bD.of aB) (.cons (Is.tupOf (s9.tup q8) ?_) (.cons (Is.tupOf (s29.tup qs2) (L2.IsL.mono s29.ts _ _ ls2)) .nil))
   rw[aae,aae,List.map_take,List.map_drop]
   have lv9:=L2.IsL.mono s29.ts _ _ lv2
   exact fI (fI (gB j lv9) (.cons (Is.mono s39.ts _ _ iu) .nil)) (lQ (j+1) lv9)
end
end Tw
namespace Tw
open PySem L2
section
variable {P:Program}{w:World}{K:aaa}{mg:Str->Option Value}{base:Heap}{aw:Addr}
theorem jR:FnScope ["thing","low","high"] ["thing","low","high"] (aM (bK 27)):=⟨rfl,rfl,rfl,by decide +kernel,rfl,by decide +kernel,by decide +kernel⟩
theorem pI {f:Addr}{fd:FuncData} (F:Fun K "_law_whole" "_law_whole" (bK 27) f fd) (T:Txt mg):FnOk P w K mg base iM 1 f fd ["thing","low","high"] qU:=by
 refine F.ok jR (λ vs H Q E h=>?_) (λ cdv A outer s H vs Q E hr h=>?_)
 ·obtain⟨n,lo,hi,rfl,_⟩:=h;rfl
 ·obtain⟨n,lo,hi,rfl,h1,h2,k⟩:=h
  have sc:=jR
  refine⟨_,(aK (bC (rO (aR (jJ (K:=K) rfl) rfl T.b_isinstance dB (aA (pv 0) (aA (lI (v:=.ty "int") rfl T.b_int kN rfl) aC))) (rO (oE (aR (jJ (K:=K) rfl) rfl T.b_isinstance dB (aA (pv 0) (aA (lI (v:=.ty "bool") rfl T.b_bool DL rfl) aC)))) (rO (eD E5 (pv 1) (pv 0) (bH _)) (vC (eD E5 (pv 0) (pv 2) (bH _)))))))),?_⟩
  refine⟨_,rfl,_,"int",_,true,rfl,.inl (.int _),FN K,_,rfl,gF ?_⟩
  refine⟨_,rfl,_,"bool",_,false,rfl,.inl (.int _),FO K,_,rfl,_,rfl,gF ?_⟩
  refine⟨_,rfl,_,rfl,_,_,rfl,rfl,_,rfl,iteD h1 ⟨_,rfl,_,rfl,_,_,rfl,rfl,?_⟩⟩
  show Q (.bl (decide _)) H
  rw[decide_eq_true h2];exact k
end
end Tw
namespace Tw
open PySem L2
section
variable (T:List Int->Bool) (most:Nat)
variable {T most}
end
theorem sZ (x y:Sta) (h:dO x=dO y):x=y:=by
 obtain⟨a,b,c⟩:=x
 obtain⟨a',b',c'⟩:=y
 have h':L2.D.tup [.tup (a.map L2.D.int),.tup (b.map L2.D.int),.tup (c.map L2.D.bl)]=.tup [.tup (a'.map L2.D.int),.tup (b'.map L2.D.int),.tup (c'.map L2.D.bl)]:=h
 injection h' with h'
 injection h' with h1 h'
 injection h' with h2 h'
 injection h' with h3 _
 injection h1 with h1
 injection h2 with h2
 injection h3 with h3
 have i1:∀ {p q:List Int},p.map L2.D.int=q.map L2.D.int->p=q:=λ {p q} h=>(List.map_inj_right (λ x y h=>by injection h)).1 h
 have i2:∀ {p q:List Bool},p.map L2.D.bl=q.map L2.D.bl->p=q:=λ {p q} h=>(List.map_inj_right (λ x y h=>by injection h)).1 h
 rw[i1 h1,i1 h2,i2 h3]
end Tw
namespace Tw
open PySem L2
theorem tX (K:aaa):PySem.W.kitOne K (.type "list") (.type "list")=some true:=by
 unfold PySem.W.kitOne
 rw[if_pos (by decide +kernel)]
theorem zD (p q:iL) (h:cL p=cL q):p=q:=by
 have h':L2.D.tup [dO p.1,dO p.2]=.tup [dO q.1,dO q.2]:=h
 injection h' with h'
 injection h' with h1 h'
 injection h' with h2 _
 exact Prod.ext (sZ _ _ h1) (sZ _ _ h2)
theorem CN {s1 s2 s3:TS}{D:Ends}{σ:St}{H:Hp} (I:St->Hp->Prop) (h1:∀ R':TS,(∀ ac H',I ac H'->R' D ac H')->eP s1 (eP s2 (eP s3 R')) D σ H) (h2:∀ ac H',I ac H'->D.nx ac H'):eP s1 (eP s2 s3) D σ H:=h1 (λ D σ H=>D.nx σ H) h2
theorem CO {s1 s2:TS}{R:TS}{D:Ends}{σ:St}{H:Hp} (I:St->Hp->Prop) (h1:∀ R':TS,(∀ ac H',I ac H'->R' D ac H')->eP s1 (eP s2 R') D σ H) (h2:∀ ac H',I ac H'->R D ac H'):eP s1 (eP s2 R) D σ H:=h1 R h2
section
variable {P:Program}{w:World}{K:aaa}{mg:Str->Option Value}{base:Heap}{C c_TipError c_NoNet c_NoVessel c_TooLong c_TooMany c_TooMuch c_Nothing c_NoText c_NoRow:Addr}
noncomputable def zF (K:aaa) (Pt:Addr):Sp:=λ vs H Q _=>∃ (a:Addr) (ns:List Int),vs=[.ref a]/\bT K H a (ns.map V.int)/\ns.length<=63/\dX H Pt i6 rL/\∀ H',Q (.bl true) H'
noncomputable def spT (K:aaa):List (Addr×Addr)->Sp
 | [q]=>zF K q.2
 | _=>λ vs _ _ _=>vs.length=1
theorem zE (K:aaa):∀ (tabs:List (Addr×Addr)) (H:Hp) (a:Addr) (ns:List Int),ns.length<=63->wV tabs H->bT K H a (ns.map V.int)->(∀ q∈tabs,H q.2=some (.tbl #[]))->spT K tabs [.ref a] H (λ v _=>v=.bl true) λ _ _ _=>False
 | [],_,_,_,_,_,_,_=>rfl
 | [q],H,a,ns,hl,_,hS,hT=>⟨a,ns,rfl,hS,hl,.inl (hT q (by simp)),λ _=>rfl⟩
 | _::_::_,_,_,_,_,_,_,_=>rfl
theorem zL:FnScope ["script","tape","turn","net","other","one","two","most","shift","due","found"] ["script"] (aM (bK 44)):=⟨rfl,rfl,rfl,by decide +kernel,rfl,by decide +kernel,by decide +kernel⟩
theorem FM {f f1 f2 f3 f4 f5 f6 f7 f8 f9 Pt:Addr}{fd fd1 fd2 fd3 fd4 fd5 fd6 fd7 fd8 fd9:FuncData} (F:Fun K "law" "law" (bK 44) f fd) (T:Txt mg)
  (G__law_draw:Callee P w K mg base "_law_draw" ["tape","many"] 1 fY f1 fd1)
  (G__law_small:Callee P w K mg base "_law_small" ["tape"] 5 (qZ K) f2 fd2)
  (G__law_twin:Callee P w K mg base "_law_twin" ["tape","net"] 2 (uT K) f3 fd3)
  (G__law_wide:Callee P w K mg base "_law_wide" ["net"] 2 (uS K) f4 fd4)
  (G__law_pairs:Callee P w K mg base "_law_pairs" ["net","other","one","two","most"] 4 (rC K) f5 fd5)
  (G__law_tried:Callee P w K mg base "_law_tried" ["net","other","one","two","most"] 9 (qW K Pt) f6 fd6)
  (G__law_whole:Callee P w K mg base "_law_whole" ["thing","low","high"] 1 qU f7 fd7)
  (G__law_parts:Callee P w K mg base "_law_parts" ["net","other","one","two","row"] 4 (rB K) f8 fd8)
  (G__law_closed:Callee P w K mg base "_law_closed" ["net","other","one","two","most","pairs"] 4 (o5 K) f9 fd9):FnOk P w K mg base iM 10 f fd ["script"] (zF K Pt):=by
 refine F.ok zL (λ vs H Q E h=>?_) (λ cdv A outer s H vs Q E hr h=>?_)
 ·obtain⟨a,ns,rfl,_⟩:=h;rfl
 ·obtain⟨a,ns,rfl,hS,hlen,tab,k⟩:=h
  have sc:=zL
  refine⟨_,(aD (aP (i:=1) sc.nd rfl (Or.inl rfl) (bG (aA (aZ (mU (K:=K) rfl) rfl T.b_list nN (aA (pv 0) aC)) (aA aE (aA aE aC)))))
   (aD (cS PassesOwn.never rfl (cK rfl T.b_range (aA aE aC)) (aH (i:=2) sc.nd rfl (Or.inl rfl)) (aD (aP (i:=3) sc.nd rfl (Or.inl rfl) (d5 G__law_small hr (aA (pv 1) aC)))
   (aD (aP (i:=4) sc.nd rfl (Or.inl rfl) (aQ (aJ (K:=K) rfl) (bG (aA (d5 G__law_small hr (aA (pv 1) aC)) (aA (d5 G__law_twin hr (aA (pv 1) (aA (pv 3) aC))) (aA (d5 G__law_twin hr (aA (pv 1) (aA (pv 3) aC))) aC)))) (d5 G__law_draw hr (aA (pv 1) (aA aE aC))) (λ _ _=>rfl)))
   (aD (aP (i:=5) sc.nd rfl (Or.inl rfl) (d5 G__law_draw hr (aA (pv 1) (aA (aR (bA (K:=K) rfl) rfl T.b_len aar (aA (aQ (aJ (K:=K) rfl) (pv 3) aE (λ _ _=>rfl)) aC)) aC))))
   (aD (aP (i:=6) sc.nd rfl (Or.inl rfl) (aQ (aJ (K:=K) rfl) (bG (aA (aU iC (pv 5) (aR (bA (K:=K) rfl) rfl T.b_len aar (aA (aQ (aJ (K:=K) rfl) (pv 4) aE (λ _ _=>rfl)) aC))) (aA (d5 G__law_draw hr (aA (pv 1) (aA (aR (bA (K:=K) rfl) rfl T.b_len aar (aA (aQ (aJ (K:=K) rfl) (pv 4) aE (λ _ _=>rfl)) aC)) aC))) aC))) (aU gM (d5 G__law_draw hr (aA (pv 1) (aA aE aC))) aE) (λ _ _=>rfl)))
   (aD (aP (i:=7) sc.nd rfl (Or.inr rfl) (aQ (aJ (K:=K) rfl) (bG (aA aE (aA aE (aA (d5 G__law_draw hr (aA (pv 1) (aA aE aC))) aC)))) (d5 G__law_draw hr (aA (pv 1) (aA aE aC))) (λ _ _=>rfl)))
   (aD (cF (bB g7 (d5 G__law_draw hr (aA (pv 1) (aA aE aC))) aE (bH _)) (aD (aP (i:=8) sc.nd rfl (Or.inl rfl) (aU eY aE (aR (bA (K:=K) rfl) rfl T.b_len aar (aA (aQ (aJ (K:=K) rfl) (pv 3) aE (λ _ _=>rfl)) aC))))
   (aD (aP (i:=3) sc.nd rfl (Or.inl rfl) (d5 G__law_wide hr (aA (pv 3) aC)))
   (aK (aP (i:=5) sc.nd rfl (Or.inl rfl) (aU cB (pv 5) (aU iB (pv 8) (aZ fW rfl T.b_int kN (aA (eD tO (pv 5) aE (bH _)) aC)))))))) bL)
   (aD (aP (i:=9) sc.nd rfl (Or.inl rfl) (d5 G__law_pairs hr (aA (pv 3) (aA (pv 4) (aA (pv 5) (aA (pv 6) (aA (pv 7) aC)))))))
   (aD (aP (i:=10) sc.nd rfl (Or.inl rfl) (d5 G__law_tried hr (aA (pv 3) (aA (pv 4) (aA (pv 5) (aA (pv 6) (aA (pv 7) aC)))))))
   (aK (cF (bB g7 (aQ (aJ (K:=K) rfl) (pv 9) aE (λ _ _=>rfl)) cH (bH _)) (aK (cF (bB (vD (K:=K) rfl hr.units) (pv 10) (aV (aA cH aC)) (bH _)) (aK (bC eF)) bL)) (aK (cF (PW.pt (n4 (kF (fQ (aR (jJ (K:=K) rfl) rfl T.b_isinstance dB (aA (pv 10) (aA (lI (v:=.ty "tuple") rfl T.b_tuple bR rfl) aC))))) (n4 (bB jX (aR (bA (K:=K) rfl) rfl T.b_len aar (aA (pv 10) aC)) aE (bH _)) (n4 (bB jX (aQ (aJ (K:=K) rfl) (pv 10) aE (λ _ _=>rfl)) (aQ (aJ (K:=K) rfl) (pv 9) aE (λ _ _=>rfl)) (bH _)) (mK (kF (fQ (aR (jJ (K:=K) rfl) rfl T.b_isinstance dB (aA (aQ (aJ (K:=K) rfl) (pv 10) aE (λ _ _=>rfl)) (aA (lI (v:=.ty "list") rfl T.b_list nN rfl) aC)))))))))) (aK (bC eF)) (aK (cF (bB g7 (aQ (aJ (K:=K) rfl) (pv 10) aE (λ _ _=>rfl)) cH (bH _)) (aD (cF (PW.pt (n4 (bB jX (aR (bA (K:=K) rfl) rfl T.b_len aar (aA (aQ (aJ (K:=K) rfl) (pv 10) aE (λ _ _=>rfl)) aC)) (aR (bA (K:=K) rfl) rfl T.b_len aar (aA (aQ (aJ (K:=K) rfl) (pv 9) aE (λ _ _=>rfl)) aC)) (bH _)) (mK (kF (fQ (aR (yH (K:=K) rfl rfl) rfl T.b_all PyProof.Rows.boot_all (aA (gL (λ _ _ h=>h) rfl (LcOk.mk (N':=["amount","most"]) (fr:=[none,some 7]) rfl ⟨rfl,trivial⟩ rfl rfl rfl rfl rfl ⟨⟨_,rfl,rfl,rfl,rfl⟩,trivial⟩) (g0 (K:=K) rfl (aQ (aJ (K:=K) rfl) (pv 10) aE (λ _ _=>rfl))) (λ _ _ _=>(aH (i:=0) (show (["amount","most"]:List Str).Nodup by decide +kernel) rfl (Or.inl rfl) (Or.inr rfl))) (λ _ _ _=>d6) (λ _ _ _=>(d5 G__law_whole hr (aA (pv 0) (aA aE (aA (pv 1) aC)))))) aC))))))) (aK (bC eF)) bL)
   (aK (cF (kF (fQ (d5 G__law_parts hr (aA (pv 3) (aA (pv 4) (aA (pv 5) (aA (pv 6) (aA (aQ (aJ (K:=K) rfl) (pv 10) aE (λ _ _=>rfl)) aC)))))))) (aK (bC eF)) bL))) (aK (cF (kF (fQ (d5 G__law_closed hr (aA (pv 3) (aA (pv 4) (aA (pv 5) (aA (pv 6) (aA (pv 7) (aA (aQ (aJ (K:=K) rfl) (pv 10) aE (λ _ _=>rfl)) aC))))))))) (aK (bC eF)) bL)))))))))))))))))
   (aK (bC eF)))),?_⟩
  refine⟨_,rfl,a,_,rfl,.inl hS,λ sl hsl=>⟨(show 3<=sizeLine by decide),λ t ht=>?_⟩⟩
  have nst:sl≠t:=aL (show upd H sl (.lst (ns.map V.int)) sl=_ from aB) ht
  have tp0:dU (upd (upd H sl (.lst (ns.map V.int))) t (.lst [.ref sl,.int 0,.int 0])) t sl:=⟨ns,0,0,aB,by rw[aO nst];exact aB,by omega⟩
  have tab0:=tab.same ((aF.new (o:=HO.lst (ns.map V.int)) hsl).trans (aF.new (o:=HO.lst [.ref sl,.int 0,.int 0]) ht))
  generalize upd (upd H sl (.lst (ns.map V.int))) t (.lst [.ref sl,.int 0,.int 0])=H0 at tp0 tab0
  refine⟨2,rfl,by decide,by decide,?_⟩
  refine dS (lo:=0) (n:=2) (λ i ac H'=>dU H' t sl/\dX H' Pt i6 rL/\∃ v2 v3 v4 v5 v6 v7 v8 v9 v10,ac=[some (.ref a),some (.ref t),v2,v3,v4,v5,v6,v7,v8,v9,v10]) ⟨tp0,tab0,_,_,_,_,_,_,_,_,_,rfl⟩ ?_ ?_
  rotate_left
  ·rintro ac H' _
   exact k _
  rintro turn ac H1 _ ⟨tp1,tab1,v2,v3,v4,v5,v6,v7,v8,v9,v10,rfl⟩
  dsimp only [gE,yZ]
  refine CO (λ ac H'=>dU H' t sl/\dX H' Pt i6 rL/\∃ (x y:V) (A B:Net),NetOk A/\NetOk B/\Is K H' (dY A) x/\Is K H' (dY B) y/\ac=[some (.ref a),some (.ref t),some (.int (0+(turn:Int))),some x,some y,v5,v6,v7,v8,v9,v10]) (λ R' hR=>?_) ?_
  ·refine⟨_,rfl,t,sl,rfl,tp1,λ A x H2 e2 okA lA iA=>?_⟩
   have tab2:=eO tab1 e2.bt tp1.mut
   refine⟨_,rfl,t,sl,rfl,e2.tp,λ B1 y1 H3 e3 ok1 l1 i1=>?_⟩
   have x3:=Is.mono (e3.ts (K:=K) e2.tp) _ _ iA
   refine⟨_,rfl,_,rfl,t,sl,x,A,rfl,e3.tp,x3,okA,lA,λ B2 y2 H4 e4 ok2 i2=>?_⟩
   have x4:=Is.mono (e4.ts (K:=K) e3.tp) _ _ x3
   refine⟨_,rfl,_,rfl,t,sl,x,A,rfl,e4.tp,x4,okA,lA,λ B3 y3 H5 e5 ok3 i3=>⟨(show 3<=sizeLine by decide),λ ll hll=>?_⟩⟩
   have x5:=Is.mono (e5.ts (K:=K) e4.tp) _ _ x4
   have s6:=aF.new (o:=HO.lst [y1,y2,y3]) hll
   have tp6:=e5.tp.same s6
   have tab6:=(eO (eO (eO tab2 e3.bt e2.tp.mut) e4.bt e3.tp.mut) e5.bt e4.tp.mut).same s6
   refine⟨_,rfl,t,sl,3,rfl,tp6,by decide,by decide,λ r H7 b7 t7 r0 r1=>?_⟩
   have nll:ll≠t:=e5.ne hll
   have h7:H7 ll=some (.lst [y1,y2,y3]):=b7 ll _ nll aB
   have ts7:=s6.ts.trans (b7.ts (K:=K) tp6.mut)
   have tab7:=eO tab6 b7 tp6.mut
   have x7:=Is.mono ts7 _ _ x5
   rcases (show r=0\/r=1\/r=2 by omega) with e | e | e <;> subst e
   ·exact .inl ⟨ll,_,_,y1,rfl,rfl,bT.of h7,rfl,hR _ _ ⟨t7,tab7,x,y1,A,B1,okA,ok1,x7,Is.mono (((e4.ts e3.tp).trans (e5.ts e4.tp)).trans ts7) _ _ i1,rfl⟩⟩
   ·exact .inl ⟨ll,_,_,y2,rfl,rfl,bT.of h7,rfl,hR _ _ ⟨t7,tab7,x,y2,A,B2,okA,ok2,x7,Is.mono ((e5.ts e4.tp).trans ts7) _ _ i2,rfl⟩⟩
   ·exact .inl ⟨ll,_,_,y3,rfl,rfl,bT.of h7,rfl,hR _ _ ⟨t7,tab7,x,y3,A,B3,okA,ok3,x7,Is.mono ts7 _ _ i3,rfl⟩⟩
  clear tp1 tab1
  rintro ac H1 ⟨tp1,tab1,x,y,N1,N2,nok,mok,hx,hy,rfl⟩
  have n1:=nok.lo
  have n2:=nok.hi
  have m1:=mok.lo
  have m2:=mok.hi
  refine rH (λ ac H'=>dU H' t sl/\dX H' Pt i6 rL/\Is K H' (dY N1) x/\Is K H' (dY N2) y/\∃ v:Int,0<=v/\v < N1.vs.length/\ac=[some (.ref a),some (.ref t),some (.int (0+(turn:Int))),some x,some y,some (.int v),v6,v7,v8,v9,v10]) (λ D' hD=>?_) ?_
  ·obtain⟨na,nb,nc,xs,ys,rfl,q,q1,l1,q2,l2⟩:=fA hx
   have exl:xs.length=N1.vs.length:=by rw[l1.length,aac]
   refine⟨_,rfl,_,rfl,.inr (.inl ⟨na,_,0,_,rfl,rfl,q,rfl,nb,xs,rfl,.inr q1,t,sl,_,rfl,tp1,by omega,by omega,λ r H4 b4 t4 r0 r1=>?_⟩)⟩
   exact hD _ _ ⟨t4,eO tab1 b4 tp1.mut,Is.mono (b4.ts tp1.mut) _ _ hx,Is.mono (b4.ts tp1.mut) _ _ hy,r,r0,by omega,rfl⟩
  clear tp1 tab1 hx hy
  rintro ac H1 ⟨tp1,tab1,hx,hy,v,hv0,hv1,rfl⟩
  refine rH (λ ac H'=>dU H' t sl/\dX H' Pt i6 rL/\Is K H' (dY N1) x/\Is K H' (dY N2) y/\∃ v':Int,ac=[some (.ref a),some (.ref t),some (.int (0+(turn:Int))),some x,some y,some (.int v),some (.int v'),v7,v8,v9,v10]) (λ D' hD=>?_) ?_
  ·obtain⟨na,nb,nc,xs,ys,rfl,q,q1,l1,q2,l2⟩:=fA hy
   have exl:xs.length=N2.vs.length:=by rw[l1.length,aac]
   refine⟨_,rfl,_,rfl,.inr (.inl ⟨na,_,0,_,rfl,rfl,q,rfl,nb,xs,rfl,.inr q1,_,_,rfl,rfl,?_,?_⟩)⟩
   ·show (0:Int) < _;omega
   refine⟨_,rfl,_,rfl,.inr (.inl ⟨na,_,0,_,rfl,rfl,q,rfl,nb,xs,rfl,.inr q1,t,sl,_,rfl,tp1,by omega,by omega,λ r H4 b4 t4 r0 r1=>⟨(show 2<=sizeLine by decide),λ l3 hl3=>?_⟩⟩)⟩
   have s5:=aF.new (o:=HO.lst [.int (v % (xs.length:Int)),.int r]) hl3
   have tp5:=t4.same s5
   refine⟨_,rfl,t,sl,4,rfl,tp5,by decide,by decide,λ r2 H6 b6 t6 r20 r21=>⟨_,_,rfl,rfl,⟨by decide,by decide⟩,?_⟩⟩
   have n3:l3≠t:=λ z=>by obtain⟨o,e⟩:=t4.some;rw[<- z,hl3] at e;cases e
   have h6:H6 l3=some (.lst [.int (v % (xs.length:Int)),.int r]):=b6 l3 _ n3 aB
   have tab6:=eO ((eO tab1 b4 tp1.mut).same s5) b6 tp5.mut
   have ts6:=((b4.ts (K:=K) tp1.mut).trans s5.ts).trans (b6.ts tp5.mut)
   rcases (show r2 / 3=0\/r2 / 3=1 by omega) with e | e
   ·exact .inl ⟨l3,_,r2 / 3,_,rfl,rfl,bT.of h6,by rw[e];rfl,hD _ _ ⟨t6,tab6,Is.mono ts6 _ _ hx,Is.mono ts6 _ _ hy,_,rfl⟩⟩
   ·exact .inl ⟨l3,_,r2 / 3,_,rfl,rfl,bT.of h6,by rw[e];rfl,hD _ _ ⟨t6,tab6,Is.mono ts6 _ _ hx,Is.mono ts6 _ _ hy,_,rfl⟩⟩
  clear tp1 tab1 hx hy
  rintro ac H1 ⟨tp1,tab1,hx,hy,v',rfl⟩
  refine rH (λ ac H'=>dU H' t sl/\dX H' Pt i6 rL/\Is K H' (dY N1) x/\Is K H' (dY N2) y/\∃ most:Nat,most<=10/\ac=[some (.ref a),some (.ref t),some (.int (0+(turn:Int))),some x,some y,some (.int v),some (.int v'),some (.int (most:Int)),v8,v9,v10]) (λ D' hD=>?_) ?_
  ·refine⟨_,rfl,t,sl,6,rfl,tp1,by decide,by decide,λ r H4 b4 t4 r0 r1=>⟨(show 3<=sizeLine by decide),λ l3 hl3=>?_⟩⟩
   have s5:=aF.new (o:=HO.lst [.int 1,.int 2,.int r]) hl3
   have tp5:=t4.same s5
   refine⟨_,rfl,t,sl,3,rfl,tp5,by decide,by decide,λ r2 H6 b6 t6 r20 r21=>?_⟩
   have n3:l3≠t:=λ z=>by obtain⟨o,e⟩:=t4.some;rw[<- z,hl3] at e;cases e
   have h6:H6 l3=some (.lst [.int 1,.int 2,.int r]):=b6 l3 _ n3 aB
   have tab6:=eO ((eO tab1 b4 tp1.mut).same s5) b6 tp5.mut
   have ts6:=((b4.ts (K:=K) tp1.mut).trans s5.ts).trans (b6.ts tp5.mut)
   obtain⟨m,hm,hm1⟩:∃ m:Nat,BS [V.int 1,.int 2,.int r] r2=some (.int (m:Int))/\m<=10:=by
    rcases (show r2=0\/r2=1\/r2=2 by omega) with e | e | e <;> subst e
    ·exact⟨1,rfl,by decide⟩
    ·exact⟨2,rfl,by decide⟩
    ·exact⟨r.toNat,by show some (V.int r)=_;congr 2;omega,by omega⟩
   exact .inl ⟨l3,_,r2,_,rfl,rfl,bT.of h6,hm,hD _ _ ⟨t6,tab6,Is.mono ts6 _ _ hx,Is.mono ts6 _ _ hy,m,hm1,rfl⟩⟩
  clear tp1 tab1 hx hy
  rintro ac H1 ⟨tp1,tab1,hx,hy,most,hm,rfl⟩
  refine rH (λ ac H'=>dU H' t sl/\dX H' Pt i6 rL/\∃ (x:V) (N1:Net) (v:Int) (v8:Option V),NetOk N1/\Is K H' (dY N1) x/\Is K H' (dY N2) y/\ac=[some (.ref a),some (.ref t),some (.int (0+(turn:Int))),some x,some y,some (.int v),some (.int v'),some (.int (most:Int)),v8,v9,v10]) (λ D' hD=>?_) ?_
  ·refine⟨_,rfl,t,sl,4,rfl,tp1,by decide,by decide,λ r H4 b4 t4 r0 r1=>⟨rfl,_,rfl,eM (λ hT=>?_) λ hN=>?_⟩⟩
   ·have hx4:=Is.mono (b4.ts (K:=K) tp1.mut) _ _ hx
    have hy4:=Is.mono (b4.ts (K:=K) tp1.mut) _ _ hy
    obtain⟨na,nb,nc,xs,ys,rfl,q,q1,l1,q2,l2⟩:=fA hx4
    have exl:xs.length=N1.vs.length:=by rw[l1.length,aac]
    have tab4:=eO tab1 b4 tp1.mut
    refine⟨_,rfl,.inr (.inl ⟨na,_,0,_,rfl,rfl,q,rfl,nb,xs,rfl,.inr q1,_,_,rfl,rfl,?_⟩)⟩
    refine⟨_,rfl,.ref na,N1,rfl,hx4,nok,λ x2 H5 s5 i5=>?_⟩
    refine⟨_,rfl,_,rfl,_,rfl,_,_,rfl,rfl,.inr ⟨_,rfl,_,_,rfl,rfl,.inl ⟨by omega,by omega⟩,_,_,rfl,rfl,?_⟩⟩
    exact hD _ _ ⟨t4.same s5,tab4.same s5,x2,qS N1,_,_,CH nok,i5,Is.mono s5.ts _ _ hy4,rfl⟩
   ·exact hD _ _ ⟨t4,eO tab1 b4 tp1.mut,x,N1,v,_,nok,Is.mono (b4.ts tp1.mut) _ _ hx,Is.mono (b4.ts tp1.mut) _ _ hy,rfl⟩
  clear tp1 tab1 hx hy hv0 hv1 nok n1 n2
  rintro ac H1 ⟨tp1,tab1,x,N1,v,u8,nok,hx,hy,rfl⟩
  refine CN (λ ac H'=>dU H' t sl/\dX H' Pt i6 rL/\∃ v9 v10,ac=[some (.ref a),some (.ref t),some (.int (0+(turn:Int))),some x,some y,some (.int v),some (.int v'),some (.int (most:Int)),u8,v9,v10]) (λ R' hR=>?_) ?_
  ·
   refine⟨_,rfl,_,rfl,_,rfl,_,rfl,_,rfl,x,y,N1,N2,v,v',most,rfl,hx,hy,nok,mok,by omega,λ row fs e dl rl2 H2 s2 hd hrl2=>?_,λ e dl q H2 s2 hd=>?_,λ fs e dl q H2 s2 hd=>?_⟩
   ·
    refine⟨_,rfl,_,rfl,_,rfl,_,rfl,_,rfl,x,y,N1,N2,v,v',most,rfl,Is.mono s2.ts _ _ hx,Is.mono s2.ts _ _ hy,nok,mok,by omega,tab1.same s2,λ row' fs' e' p rl H3 s3 qp hrl _ hlr=>?_,(λ e'=>by rw[e] at e';cases e'),(λ fs' e'=>by rw[e] at e';cases e')⟩
    rw[e] at e';cases e'
    have hd3:=s3.get hd λ ps z=>by cases z
    have hrl3:=s3.get hrl2 λ ps z=>by cases z
    have tp3:=s3.tape (tp1.same s2)
    have tab3:=s3.t2
    have hx3:=Is.mono (s2.ts.trans s3.ts) _ _ hx
    have hy3:=Is.mono (s2.ts.trans s3.ts) _ _ hy
    refine⟨_,rfl,.inl ⟨dl,_,0,_,rfl,rfl,bT.of hd3,rfl,rfl,_,rfl,dP ?_⟩⟩
    refine⟨_,rfl,_,"tuple",_,true,rfl,.inr ⟨p,_,rfl,qp,rfl⟩,AI K,_,rfl,dP ?_⟩
    refine⟨_,rfl,p,_,rfl,.inr qp,rfl,_,rfl,dP ?_⟩
    refine⟨_,rfl,.inr (.inl ⟨p,_,0,_,rfl,rfl,qp,rfl,_,rfl,.inl ⟨dl,_,0,_,rfl,rfl,bT.of hd3,rfl,rfl,_,rfl,dP ?_⟩⟩)⟩
    refine⟨_,rfl,.inr (.inl ⟨p,_,1,_,rfl,rfl,qp,rfl,_,"list",_,true,rfl,.inl (.lst hrl),tX K,_,rfl,dP ?_⟩)⟩
    refine⟨_,rfl,.inr (.inl ⟨p,_,0,_,rfl,rfl,qp,rfl,rfl,_,rfl,gF ?_⟩)⟩
    have hg:BY N1 N2 v v' most row:=yK zD e
    refine⟨_,rfl,.inr (.inl ⟨p,_,1,_,rfl,rfl,qp,rfl,rl,_,rfl,.inl (bT.of hrl),_,rfl,.inl ⟨dl,_,1,_,rfl,rfl,bT.of hd3,rfl,rl2,_,rfl,.inl (bT.of hrl3),rfl,_,rfl,?_⟩⟩)⟩
    refine eM (λ hT=>absurd hT (by simp)) λ _=>?_
    refine⟨_,rfl,.inr (.inl ⟨p,_,1,_,rfl,rfl,qp,rfl,rl,rfl,⟨_,bT.of hrl⟩,sC (K:=K) (a:=rl) (xs:=row.map V.int) (λ D i r ac H'=>H3 D=none/\aF H3 H'/\H' D=some (.lst r)/\r=(List.replicate i true).map V.bl/\∃ u,ac=[u,some (.int (most:Int))])
     (λ D i r ac H' p=>bT.of (p.2.1 _ _ hrl)) (λ D hD=>⟨hD,aF.new hD,aB,rfl,none,rfl⟩) ?_ ?_⟩)⟩
    rotate_left
    ·rintro D i yv r ac H9 hy9 ⟨hDn,sm,hDl,rfl,u,rfl⟩
     have hil:=(aad.mp hy9).1
     rw[aac] at hil
     rw[aah] at hy9
     obtain⟨n,hn,rfl⟩:=aaq.mp hy9
     obtain⟨hn0,hn1⟩:=hg.2.1 n (aan hn)
     refine g9 ?_
     refine⟨_,rfl,_,rfl,n,0,(most:Int),rfl,hn0,hn1,hDl,gR (by rw[aac,abc];omega),hDn,sm.put hDn,aB,by rw[List.replicate_succ',aae];rfl,_,rfl⟩
    rintro D r ac H9 ⟨hDn,sm,hDl,rfl,_⟩
    refine⟨false,D,_,rfl,bT.of hDl,_,rfl,?_⟩
    have hall:(List.replicate (row.map V.int).length true).all id=true:=by
     rw[abl];intro z hz;exact List.eq_of_mem_replicate hz
    rw[hall]
    refine dP ?_
    refine⟨_,rfl,_,rfl,_,rfl,_,rfl,_,rfl,.inr (.inl ⟨p,_,1,_,rfl,rfl,sm.tup qp,rfl,x,y,N1,N2,v,v',most,rl,row,rfl,Is.mono sm.ts _ _ hx3,Is.mono sm.ts _ _ hy3,nok,mok,sm _ _ hrl,hlr,hg,λ H10 s10=>⟨_,rfl,dP ?_⟩⟩)⟩
    have s310:=sm.trans s10
    exact hR _ _ ⟨tp3.same s310,tab3.same s310,_,_,rfl⟩
   ·refine⟨_,rfl,_,rfl,_,rfl,_,rfl,_,rfl,x,y,N1,N2,v,v',most,rfl,Is.mono s2.ts _ _ hx,Is.mono s2.ts _ _ hy,nok,mok,by omega,tab1.same s2,(λ row' fs' e'=>by rw[e] at e';cases e'),λ e' p H3 s3 qp=>?_,(λ fs' e'=>by rw[e] at e';cases e')⟩
    have hd3:=s3.get hd λ ps z=>by cases z
    have tp3:=s3.tape (tp1.same s2)
    have tab3:=s3.t2
    have hx3:=Is.mono (s2.ts.trans s3.ts) _ _ hx
    have hy3:=Is.mono (s2.ts.trans s3.ts) _ _ hy
    refine⟨_,rfl,.inl ⟨dl,_,0,_,rfl,rfl,bT.of hd3,rfl,rfl,_,rfl,gF ?_⟩⟩
    refine⟨_,rfl,(show 1<=sizeLine by decide),λ e1 he1=>?_⟩
    have s4:=aF.new (o:=HO.tup [.str "many"]) he1
    refine⟨[.str "many"],(show 1<=1000 by decide),by rw[cE,cE,y8];decide,Is.tupOf (s4.tup qp) (.cons (Is.s _) .nil),Is.tupOf (bD.of aB) (.cons (Is.s _) .nil),_,rfl,dP ?_⟩
    exact hR _ _ ⟨tp3.same s4,tab3.same s4,_,_,rfl⟩
   ·refine⟨_,rfl,_,rfl,_,rfl,_,rfl,_,rfl,x,y,N1,N2,v,v',most,rfl,Is.mono s2.ts _ _ hx,Is.mono s2.ts _ _ hy,nok,mok,by omega,tab1.same s2,(λ row' fs' e'=>by rw[e] at e';cases e'),(λ e'=>by rw[e] at e';cases e'),λ fs' e' p fl us H3 s3 qp hfl _ pr oks hlf=>?_⟩
    have e2:=e'
    rw[e] at e2;cases e2
    have hd3:=s3.get hd λ ps z=>by cases z
    have tp3:=s3.tape (tp1.same s2)
    have tab3:=s3.t2
    have hx3:=Is.mono (s2.ts.trans s3.ts) _ _ hx
    have hy3:=Is.mono (s2.ts.trans s3.ts) _ _ hy
    refine⟨_,rfl,.inl ⟨dl,_,0,_,rfl,rfl,bT.of hd3,rfl,rfl,_,rfl,dP ?_⟩⟩
    refine⟨_,rfl,_,"tuple",_,true,rfl,.inr ⟨p,_,rfl,qp,rfl⟩,AI K,_,rfl,dP ?_⟩
    refine⟨_,rfl,p,_,rfl,.inr qp,rfl,_,rfl,dP ?_⟩
    refine⟨_,rfl,.inr (.inl ⟨p,_,0,_,rfl,rfl,qp,rfl,_,rfl,.inl ⟨dl,_,0,_,rfl,rfl,bT.of hd3,rfl,rfl,_,rfl,dP ?_⟩⟩)⟩
    refine⟨_,rfl,.inr (.inl ⟨p,_,1,_,rfl,rfl,qp,rfl,_,"list",_,true,rfl,.inl (.lst hfl),tX K,_,rfl,dP ?_⟩)⟩
    refine⟨_,rfl,.inr (.inl ⟨p,_,0,_,rfl,rfl,qp,rfl,rfl,_,rfl,dP ?_⟩)⟩
    refine⟨_,rfl,_,rfl,_,rfl,_,rfl,_,rfl,_,rfl,.inr (.inl ⟨p,_,1,_,rfl,rfl,qp,rfl,x,y,N1,N2,v,v',most,fl,us,fs,rfl,hx3,hy3,nok,mok,by omega,hfl,pr,oks,hlf,BQ (by decide) e,λ H4 s4=>?_⟩)⟩
    refine⟨_,rfl,dP ?_⟩
    exact hR _ _ ⟨tp3.same s4,tab3.same s4,_,_,rfl⟩
  rintro ac H9 ⟨tp9,tab9,w9,w10,rfl⟩
  exact⟨tp9,tab9,_,_,_,_,_,_,_,_,_,rfl⟩
end
end Tw
namespace Tw
open PySem L2
theorem lY {af:Type}{p:List af->Prop} (h:∀ a0,p [a0]):∀ us:List af,us.length=1->p us
 | [a0],_=>h a0
theorem nM {af:Type}{p:List af->Prop} (h:∀ a0 a1,p [a0,a1]):∀ us:List af,us.length=2->p us
 | [a0,a1],_=>h a0 a1
theorem fJ {af:Type}{p:List af->Prop} (h:∀ a0 a1 a2,p [a0,a1,a2]):∀ us:List af,us.length=3->p us
 | [a0,a1,a2],_=>h a0 a1 a2
theorem nL {af:Type}{p:List af->Prop} (h:∀ a0 a1 a2 a3,p [a0,a1,a2,a3]):∀ us:List af,us.length=4->p us
 | [a0,a1,a2,a3],_=>h a0 a1 a2 a3
theorem lX {af:Type}{p:List af->Prop} (h:∀ a0 a1 a2 a3 a4,p [a0,a1,a2,a3,a4]):∀ us:List af,us.length=5->p us
 | [a0,a1,a2,a3,a4],_=>h a0 a1 a2 a3 a4
theorem DK {af:Type}{p:List af->Prop} (h:∀ a0 a1 a2 a3 a4 a5,p [a0,a1,a2,a3,a4,a5]):∀ us:List af,us.length=6->p us
 | [a0,a1,a2,a3,a4,a5],_=>h a0 a1 a2 a3 a4 a5
theorem all_mk {l:PySem.W.OpenLaw}{w:World}{K:aaa}{h:Heap}{mg:Str->Option Value}{fa f0 f1 f2 f3 f4 f5 f6 f7 f8 f9 f10 f11 f12 f13 f14 f15 f16 f17 f18 f19 f20 f21 f22 f23 f24 f25 f26 f27 f28 f29 c_TipError c_NoNet c_NoVessel c_TooLong c_TooMany c_TooMuch c_Nothing c_NoText c_NoRow:Addr} (X:K.In h) (G:h.Ns mainGlobals mg) (hfa:mg "law" = some (.ref fa))
  {od0 an0 od1 an1 od2 an2 od3 an3 od4 an4 od5 an5 od6 an6 od7 an7 od8 an8 od9 an9 od10 an10 od11 an11 od12 an12 od13 an13 od14 an14 od15 an15 od16 an16 od17 an17 od18 an18 od19 an19 od20 an20 od21 an21 od22 an22 od23 an23 od24 an24 od25 an25 od26 an26 od27 an27 od28 an28 od29 an29:Option Addr}{sl0 sl1 sl2 sl3 sl4 sl5 sl6 sl7 sl8 sl9 sl10 sl11 sl12 sl13 sl14 sl15 sl16 sl17 sl18 sl19 sl20 sl21 sl22 sl23 sl24 sl25 sl26 sl27 sl28 sl29:Array (Option Value)}{oc0 kV0 dc0 pm0 ct0 cd0 oc1 kV1 dc1 pm1 ct1 cd1 oc2 kV2 dc2 pm2 ct2 cd2 oc3 kV3 dc3 pm3 ct3 cd3 oc4 kV4 dc4 pm4 ct4 cd4 oc5 kV5 dc5 pm5 ct5 cd5 oc6 kV6 dc6 pm6 ct6 cd6 oc7 kV7 dc7 pm7 ct7 cd7 oc8 kV8 dc8 pm8 ct8 cd8 oc9 kV9 dc9 pm9 ct9 cd9 oc10 kV10 dc10 pm10 ct10 cd10 oc11 kV11 dc11 pm11 ct11 cd11 oc12 kV12 dc12 pm12 ct12 cd12 oc13 kV13 dc13 pm13 ct13 cd13 oc14 kV14 dc14 pm14 ct14 cd14 oc15 kV15 dc15 pm15 ct15 cd15 oc16 kV16 dc16 pm16 ct16 cd16 oc17 kV17 dc17 pm17 ct17 cd17 oc18 kV18 dc18 pm18 ct18 cd18 oc19 kV19 dc19 pm19 ct19 cd19 oc20 kV20 dc20 pm20 ct20 cd20 oc21 kV21 dc21 pm21 ct21 cd21 oc22 kV22 dc22 pm22 ct22 cd22 oc23 kV23 dc23 pm23 ct23 oc24 kV24 dc24 pm24 ct24 cd24 oc25 kV25 dc25 pm25 ct25 cd25 oc26 kV26 dc26 pm26 ct26 cd26 oc27 kV27 dc27 pm27 ct27 cd27 oc28 kV28 dc28 pm28 ct28 cd28 oc29 kV29 dc29 pm29 ct29 cd29:Value}
  {tkP:Tok}
  {ts:List Addr}
  {q23 p23:Addr}{yd23:Option Addr}{yv23:Array Value}{ys23:Array (Option Value)}
  {qcM:Value}{qdM:Option Addr}{qkM:ClassData}{qsM:Array (Option Value)}
  (a0:PySem.W.nsIn K mainGlobals "_law_draw" = some (some (.ref f0)))
  (l0:K.lookup f0=some ⟨oc0,od0,.func (PySem.W.fnOf "_law_draw" "_law_draw" (bM (bK 26)) (bE (bK 26)) (aM (bK 26)) .none kV0 dc0 pm0 an0 cd0 ct0),sl0⟩)
  (c0:PySem.W.codeIn K cd0 "_law_draw" = true)
  (k0:PySem.W.keepIn K (.ref f0)=true)
  (a1:PySem.W.nsIn K mainGlobals "_law_outs" = some (some (.ref f1)))
  (l1:K.lookup f1=some ⟨oc1,od1,.func (PySem.W.fnOf "_law_outs" "_law_outs" (bM (bK 29)) (bE (bK 29)) (aM (bK 29)) .none kV1 dc1 pm1 an1 cd1 ct1),sl1⟩)
  (c1:PySem.W.codeIn K cd1 "_law_outs" = true)
  (k1:PySem.W.keepIn K (.ref f1)=true)
  (a2:PySem.W.nsIn K mainGlobals "_law_vessel" = some (some (.ref f2)))
  (l2:K.lookup f2=some ⟨oc2,od2,.func (PySem.W.fnOf "_law_vessel" "_law_vessel" (bM (bK 30)) (bE (bK 30)) (aM (bK 30)) .none kV2 dc2 pm2 an2 cd2 ct2),sl2⟩)
  (c2:PySem.W.codeIn K cd2 "_law_vessel" = true)
  (k2:PySem.W.keepIn K (.ref f2)=true)
  (a3:PySem.W.nsIn K mainGlobals "_law_net" = some (some (.ref f3)))
  (l3:K.lookup f3=some ⟨oc3,od3,.func (PySem.W.fnOf "_law_net" "_law_net" (bM (bK 31)) (bE (bK 31)) (aM (bK 31)) .none kV3 dc3 pm3 an3 cd3 ct3),sl3⟩)
  (c3:PySem.W.codeIn K cd3 "_law_net" = true)
  (k3:PySem.W.keepIn K (.ref f3)=true)
  (a4:PySem.W.nsIn K mainGlobals "_law_small" = some (some (.ref f4)))
  (l4:K.lookup f4=some ⟨oc4,od4,.func (PySem.W.fnOf "_law_small" "_law_small" (bM (bK 37)) (bE (bK 37)) (aM (bK 37)) .none kV4 dc4 pm4 an4 cd4 ct4),sl4⟩)
  (c4:PySem.W.codeIn K cd4 "_law_small" = true)
  (k4:PySem.W.keepIn K (.ref f4)=true)
  (a5:PySem.W.nsIn K mainGlobals "_law_twin" = some (some (.ref f5)))
  (l5:K.lookup f5=some ⟨oc5,od5,.func (PySem.W.fnOf "_law_twin" "_law_twin" (bM (bK 38)) (bE (bK 38)) (aM (bK 38)) .none kV5 dc5 pm5 an5 cd5 ct5),sl5⟩)
  (c5:PySem.W.codeIn K cd5 "_law_twin" = true)
  (k5:PySem.W.keepIn K (.ref f5)=true)
  (a6:PySem.W.nsIn K mainGlobals "_law_far_on" = some (some (.ref f6)))
  (l6:K.lookup f6=some ⟨oc6,od6,.func (PySem.W.fnOf "_law_far_on" "_law_far_on" (bM (bK 39)) (bE (bK 39)) (aM (bK 39)) .none kV6 dc6 pm6 an6 cd6 ct6),sl6⟩)
  (c6:PySem.W.codeIn K cd6 "_law_far_on" = true)
  (k6:PySem.W.keepIn K (.ref f6)=true)
  (a7:PySem.W.nsIn K mainGlobals "_law_wide" = some (some (.ref f7)))
  (l7:K.lookup f7=some ⟨oc7,od7,.func (PySem.W.fnOf "_law_wide" "_law_wide" (bM (bK 40)) (bE (bK 40)) (aM (bK 40)) .none kV7 dc7 pm7 an7 cd7 ct7),sl7⟩)
  (c7:PySem.W.codeIn K cd7 "_law_wide" = true)
  (k7:PySem.W.keepIn K (.ref f7)=true)
  (a8:PySem.W.nsIn K mainGlobals "_law_first" = some (some (.ref f8)))
  (l8:K.lookup f8=some ⟨oc8,od8,.func (PySem.W.fnOf "_law_first" "_law_first" (bM (bK 32)) (bE (bK 32)) (aM (bK 32)) .none kV8 dc8 pm8 an8 cd8 ct8),sl8⟩)
  (c8:PySem.W.codeIn K cd8 "_law_first" = true)
  (k8:PySem.W.keepIn K (.ref f8)=true)
  (a9:PySem.W.nsIn K mainGlobals "_law_filled" = some (some (.ref f9)))
  (l9:K.lookup f9=some ⟨oc9,od9,.func (PySem.W.fnOf "_law_filled" "_law_filled" (bM (bK 33)) (bE (bK 33)) (aM (bK 33)) .none kV9 dc9 pm9 an9 cd9 ct9),sl9⟩)
  (c9:PySem.W.codeIn K cd9 "_law_filled" = true)
  (k9:PySem.W.keepIn K (.ref f9)=true)
  (a10:PySem.W.nsIn K mainGlobals "_law_tick" = some (some (.ref f10)))
  (l10:K.lookup f10=some ⟨oc10,od10,.func (PySem.W.fnOf "_law_tick" "_law_tick" (bM (bK 34)) (bE (bK 34)) (aM (bK 34)) .none kV10 dc10 pm10 an10 cd10 ct10),sl10⟩)
  (c10:PySem.W.codeIn K cd10 "_law_tick" = true)
  (k10:PySem.W.keepIn K (.ref f10)=true)
  (a11:PySem.W.nsIn K mainGlobals "_law_step" = some (some (.ref f11)))
  (l11:K.lookup f11=some ⟨oc11,od11,.func (PySem.W.fnOf "_law_step" "_law_step" (bM (bK 35)) (bE (bK 35)) (aM (bK 35)) .none kV11 dc11 pm11 an11 cd11 ct11),sl11⟩)
  (c11:PySem.W.codeIn K cd11 "_law_step" = true)
  (k11:PySem.W.keepIn K (.ref f11)=true)
  (a12:PySem.W.nsIn K mainGlobals "_law_pairs" = some (some (.ref f12)))
  (l12:K.lookup f12=some ⟨oc12,od12,.func (PySem.W.fnOf "_law_pairs" "_law_pairs" (bM (bK 36)) (bE (bK 36)) (aM (bK 36)) .none kV12 dc12 pm12 an12 cd12 ct12),sl12⟩)
  (c12:PySem.W.codeIn K cd12 "_law_pairs" = true)
  (k12:PySem.W.keepIn K (.ref f12)=true)
  (a13:PySem.W.nsIn K mainGlobals "first_state" = some (some (.ref f13)))
  (l13:K.lookup f13=some ⟨oc13,od13,.func (PySem.W.fnOf "first_state" "first_state" (bM (bK 11)) (bE (bK 11)) (aM (bK 11)) .none kV13 dc13 pm13 an13 cd13 ct13),sl13⟩)
  (c13:PySem.W.codeIn K cd13 "first_state" = true)
  (k13:PySem.W.keepIn K (.ref f13)=true)
  (a14:PySem.W.nsIn K mainGlobals "pouring" = some (some (.ref f14)))
  (l14:K.lookup f14=some ⟨oc14,od14,.func (PySem.W.fnOf "pouring" "pouring" (bM (bK 12)) (bE (bK 12)) (aM (bK 12)) .none kV14 dc14 pm14 an14 cd14 ct14),sl14⟩)
  (c14:PySem.W.codeIn K cd14 "pouring" = true)
  (k14:PySem.W.keepIn K (.ref f14)=true)
  (a15:PySem.W.nsIn K mainGlobals "filled" = some (some (.ref f15)))
  (l15:K.lookup f15=some ⟨oc15,od15,.func (PySem.W.fnOf "filled" "filled" (bM (bK 14)) (bE (bK 14)) (aM (bK 14)) .none kV15 dc15 pm15 an15 cd15 ct15),sl15⟩)
  (c15:PySem.W.codeIn K cd15 "filled" = true)
  (k15:PySem.W.keepIn K (.ref f15)=true)
  (a16:PySem.W.nsIn K mainGlobals "send" = some (some (.ref f16)))
  (l16:K.lookup f16=some ⟨oc16,od16,.func (PySem.W.fnOf "send" "send" (bM (bK 17)) (bE (bK 17)) (aM (bK 17)) .none kV16 dc16 pm16 an16 cd16 ct16),sl16⟩)
  (c16:PySem.W.codeIn K cd16 "send" = true)
  (k16:PySem.W.keepIn K (.ref f16)=true)
  (a17:PySem.W.nsIn K mainGlobals "share_out" = some (some (.ref f17)))
  (l17:K.lookup f17=some ⟨oc17,od17,.func (PySem.W.fnOf "share_out" "share_out" (bM (bK 16)) (bE (bK 16)) (aM (bK 16)) .none kV17 dc17 pm17 an17 cd17 ct17),sl17⟩)
  (c17:PySem.W.codeIn K cd17 "share_out" = true)
  (k17:PySem.W.keepIn K (.ref f17)=true)
  (a18:PySem.W.nsIn K mainGlobals "settle" = some (some (.ref f18)))
  (l18:K.lookup f18=some ⟨oc18,od18,.func (PySem.W.fnOf "settle" "settle" (bM (bK 15)) (bE (bK 15)) (aM (bK 15)) .none kV18 dc18 pm18 an18 cd18 ct18),sl18⟩)
  (c18:PySem.W.codeIn K cd18 "settle" = true)
  (k18:PySem.W.keepIn K (.ref f18)=true)
  (a19:PySem.W.nsIn K mainGlobals "doors_behind" = some (some (.ref f19)))
  (l19:K.lookup f19=some ⟨oc19,od19,.func (PySem.W.fnOf "doors_behind" "doors_behind" (bM (bK 18)) (bE (bK 18)) (aM (bK 18)) .none kV19 dc19 pm19 an19 cd19 ct19),sl19⟩)
  (c19:PySem.W.codeIn K cd19 "doors_behind" = true)
  (k19:PySem.W.keepIn K (.ref f19)=true)
  (a20:PySem.W.nsIn K mainGlobals "tick_behind" = some (some (.ref f20)))
  (l20:K.lookup f20=some ⟨oc20,od20,.func (PySem.W.fnOf "tick_behind" "tick_behind" (bM (bK 13)) (bE (bK 13)) (aM (bK 13)) .none kV20 dc20 pm20 an20 cd20 ct20),sl20⟩)
  (c20:PySem.W.codeIn K cd20 "tick_behind" = true)
  (k20:PySem.W.keepIn K (.ref f20)=true)
  (a21:PySem.W.nsIn K mainGlobals "watch" = some (some (.ref f21)))
  (l21:K.lookup f21=some ⟨oc21,od21,.func (PySem.W.fnOf "watch" "watch" (bM (bK 20)) (bE (bK 20)) (aM (bK 20)) .none kV21 dc21 pm21 an21 cd21 ct21),sl21⟩)
  (c21:PySem.W.codeIn K cd21 "watch" = true)
  (k21:PySem.W.keepIn K (.ref f21)=true)
  (a22:PySem.W.nsIn K mainGlobals "go_through" = some (some (.ref f22)))
  (l22:K.lookup f22=some ⟨oc22,od22,.func (PySem.W.fnOf "go_through" "go_through" (bM (bK 21)) (bE (bK 21)) (aM (bK 21)) .none kV22 dc22 pm22 an22 cd22 ct22),sl22⟩)
  (c22:PySem.W.codeIn K cd22 "go_through" = true)
  (k22:PySem.W.keepIn K (.ref f22)=true)
  (a23:PySem.W.nsIn K mainGlobals "alike" = some (some (.ref f23)))
  (l23:K.lookup f23=some ⟨oc23,od23,.func (PySem.W.fnOf "alike" "alike" (bM (bK 24)) (bE (bK 24)) (aM (bK 24)) .none kV23 dc23 pm23 an23 (.ref q23) ct23),sl23⟩)
  (c23:PySem.W.codeIn K (.ref q23) "alike" = true)
  (k23:PySem.W.keepIn K (.ref f23)=true)
  (a24:PySem.W.nsIn K mainGlobals "_law_word" = some (some (.ref f24)))
  (l24:K.lookup f24=some ⟨oc24,od24,.func (PySem.W.fnOf "_law_word" "_law_word" (bM (bK 28)) (bE (bK 28)) (aM (bK 28)) .none kV24 dc24 pm24 an24 cd24 ct24),sl24⟩)
  (c24:PySem.W.codeIn K cd24 "_law_word" = true)
  (k24:PySem.W.keepIn K (.ref f24)=true)
  (a25:PySem.W.nsIn K mainGlobals "_law_tried" = some (some (.ref f25)))
  (l25:K.lookup f25=some ⟨oc25,od25,.func (PySem.W.fnOf "_law_tried" "_law_tried" (bM (bK 41)) (bE (bK 41)) (aM (bK 41)) .none kV25 dc25 pm25 an25 cd25 ct25),sl25⟩)
  (c25:PySem.W.codeIn K cd25 "_law_tried" = true)
  (k25:PySem.W.keepIn K (.ref f25)=true)
  (a26:PySem.W.nsIn K mainGlobals "_law_whole" = some (some (.ref f26)))
  (l26:K.lookup f26=some ⟨oc26,od26,.func (PySem.W.fnOf "_law_whole" "_law_whole" (bM (bK 27)) (bE (bK 27)) (aM (bK 27)) .none kV26 dc26 pm26 an26 cd26 ct26),sl26⟩)
  (c26:PySem.W.codeIn K cd26 "_law_whole" = true)
  (k26:PySem.W.keepIn K (.ref f26)=true)
  (a27:PySem.W.nsIn K mainGlobals "_law_parts" = some (some (.ref f27)))
  (l27:K.lookup f27=some ⟨oc27,od27,.func (PySem.W.fnOf "_law_parts" "_law_parts" (bM (bK 42)) (bE (bK 42)) (aM (bK 42)) .none kV27 dc27 pm27 an27 cd27 ct27),sl27⟩)
  (c27:PySem.W.codeIn K cd27 "_law_parts" = true)
  (k27:PySem.W.keepIn K (.ref f27)=true)
  (a28:PySem.W.nsIn K mainGlobals "_law_closed" = some (some (.ref f28)))
  (l28:K.lookup f28=some ⟨oc28,od28,.func (PySem.W.fnOf "_law_closed" "_law_closed" (bM (bK 43)) (bE (bK 43)) (aM (bK 43)) .none kV28 dc28 pm28 an28 cd28 ct28),sl28⟩)
  (c28:PySem.W.codeIn K cd28 "_law_closed" = true)
  (k28:PySem.W.keepIn K (.ref f28)=true)
  (a29:PySem.W.nsIn K mainGlobals "law" = some (some (.ref f29)))
  (l29:K.lookup f29=some ⟨oc29,od29,.func (PySem.W.fnOf "law" "law" (bM (bK 44)) (bE (bK 44)) (aM (bK 44)) .none kV29 dc29 pm29 an29 cd29 ct29),sl29⟩)
  (c29:PySem.W.codeIn K cd29 "law" = true)
  (k29:PySem.W.keepIn K (.ref f29)=true)
  (mcP:PySem.W.nsIn K mainGlobals "MOST_PAIRS" = some (some (.int 300 tkP)))
  (yl23:K.lookup q23=some ⟨.type "code",yd23,.fields yv23,ys23⟩)
  (xcTipError:PySem.W.nsIn K mainGlobals "TipError" = some (some (.ref c_TipError)))
  (xcNoNet:PySem.W.nsIn K mainGlobals "NoNet" = some (some (.ref c_NoNet)))
  (xcNoVessel:PySem.W.nsIn K mainGlobals "NoVessel" = some (some (.ref c_NoVessel)))
  (xcTooLong:PySem.W.nsIn K mainGlobals "TooLong" = some (some (.ref c_TooLong)))
  (xcTooMany:PySem.W.nsIn K mainGlobals "TooMany" = some (some (.ref c_TooMany)))
  (xcTooMuch:PySem.W.nsIn K mainGlobals "TooMuch" = some (some (.ref c_TooMuch)))
  (xcNothing:PySem.W.nsIn K mainGlobals "Nothing" = some (some (.ref c_Nothing)))
  (xcNoText:PySem.W.nsIn K mainGlobals "NoText" = some (some (.ref c_NoText)))
  (xcNoRow:PySem.W.nsIn K mainGlobals "NoRow" = some (some (.ref c_NoRow)))
  (xv:PySem.W.nsIn K mainGlobals "ValueError" = some none)
  (gaM:PySem.W.findIn K (.ref c_TooMany) "__getattribute__" = some (some (.builtin "BaseException.__getattribute__")))
  (gtM:PySem.W.findIn K (.ref c_TooMany) "__getattr__" = some none)
  (caM:PySem.W.findIn K (.ref c_TooMany) "__class__" = some (some (.builtin "object.__class__")))
  (gg:PySem.W.specialIn K (.builtin "object.__class__") "__get__" = some (some (.builtin "getset_descriptor.__get__")))
  (tk:PySem.W.takesIn K (.builtin "object.__class__")=some true)
  (moM:PySem.W.mroIn K c_TooMany (.type "object")=some true)
  (mbM:PySem.W.mroIn K c_TooMany (.type "BaseException")=some true)
  (clM:K.lookup c_TooMany=some ⟨qcM,qdM,.cls qkM,qsM⟩)
  (z0:PySem.W.nsIn K mainGlobals "len" = some none)
  (z1:PySem.W.nsIn K mainGlobals "sum" = some none)
  (z2:PySem.W.nsIn K mainGlobals "all" = some none)
  (z3:PySem.W.nsIn K mainGlobals "max" = some none)
  (z4:PySem.W.nsIn K mainGlobals "min" = some none)
  (z5:PySem.W.nsIn K mainGlobals "int" = some none)
  (z6:PySem.W.nsIn K mainGlobals "tuple" = some none)
  (z7:PySem.W.nsIn K mainGlobals "list" = some none)
  (z8:PySem.W.nsIn K mainGlobals "bool" = some none)
  (z9:PySem.W.nsIn K mainGlobals "range" = some none)
  (z10:PySem.W.nsIn K mainGlobals "zip" = some none)
  (z11:PySem.W.nsIn K mainGlobals "enumerate" = some none)
  (z12:PySem.W.nsIn K mainGlobals "isinstance" = some none)
  (z13:PySem.W.nsIn K mainGlobals "divmod" = some none)
  (z14:PySem.W.nsIn K mainGlobals "set" = some none)
  (z15:PySem.W.nsIn K mainGlobals "sorted" = some none)
  (yp23:yv23[11]? = some (.ref p23))
  (yn23:K.lookup p23=none)
  (yt23:p23∈ts)
  (yh23:PySem.W.codeHdIn K q23 p23=true)
  (exM:PySem.W.excIn K c_TooMany [.type "ValueError",.type "Exception",.type "BaseException",.type "object"] "ValueError.__new__" = true)
  (vaM:PySem.W.kitOne K (.ref c_TooMany) (.type "ValueError")=some true)
  (kkM0:PySem.W.kitOne K (.ref c_TooMany) (.ref c_NoNet)=some false)
  (kkM1:PySem.W.kitOne K (.ref c_TooMany) (.ref c_NoVessel)=some false)
  (kkM2:PySem.W.kitOne K (.ref c_TooMany) (.ref c_TooLong)=some false)
  (kkM3:PySem.W.kitOne K (.ref c_TooMany) (.ref c_TooMany)=some true)
  (kkM4:PySem.W.kitOne K (.ref c_TooMany) (.ref c_TooMuch)=some false)
  (kkM5:PySem.W.kitOne K (.ref c_TooMany) (.ref c_Nothing)=some false)
  (kkM6:PySem.W.kitOne K (.ref c_TooMany) (.ref c_NoText)=some false)
  (kkM7:PySem.W.kitOne K (.ref c_TooMany) (.ref c_NoRow)=some false)
  (hmMh:PySem.W.exmOne K (.ref c_TooMany) (.ref c_TipError)=some true) :
  ∃ (fd:FuncData) (tabs:List (Addr×Addr)),(∀ q∈tabs,q.2∈ts/\K.lookup q.2=none/\PySem.W.codeHdIn K q.1 q.2=true)/\(∀ (s:Shared) (v:Value),BindsTo s fd ⟨[v],[]⟩ [("script",v)])/\∀ base:Heap,K.In base->base.Ns mainGlobals mg->(∀ q∈tabs,NestB mg base q.1 q.2)->FnOk l.prog w K mg base iM 10 fa fd ["script"] (spT K tabs):=by
 have e:=hfa.symm.trans (aap X G a29)
 cases e
 have T:Txt mg:=⟨aaz X G z0,aaz X G z1,aaz X G z2,aaz X G z3,aaz X G z4,aaz X G z5,aaz X G z6,aaz X G z7,aaz X G z8,aaz X G z9,aaz X G z10,aaz X G z11,aaz X G z12,aaz X G z13,aaz X G z14,aaz X G z15⟩
 have UP:TxtP mg:=⟨⟨_,aap X G mcP,_,rfl⟩⟩
 have W:TxtW mg c_TipError c_NoNet c_NoVessel c_TooLong c_TooMany c_TooMuch c_Nothing c_NoText c_NoRow:=⟨aap X G xcTipError,aap X G xcNoNet,aap X G xcNoVessel,aap X G xcTooLong,aap X G xcTooMany,aap X G xcTooMuch,aap X G xcNothing,aap X G xcNoText,aap X G xcNoRow,aaz X G xv⟩
 have XC_TooMany:ExC K "TooMany" c_TooMany:=⟨xcTooMany,exM⟩
 have kdM:KindOf K c_NoNet c_NoVessel c_TooLong c_TooMany c_TooMuch c_Nothing c_NoText c_NoRow c_TooMany [false,false,false,true,false,false,false,false]:=⟨⟨gaM,gtM,caM,gg,tk,moM,mbM⟩,⟨_,_,_,_,clM⟩,vaM,⟨_,_,_,_,_,_,_,_,rfl,kkM0,kkM1,kkM2,kkM3,kkM4,kkM5,kkM6,kkM7⟩⟩
 have hmM:=hmMh
 have F0:=cA (st:=(bK 26)) l0 c0 k0
 have F1:=cA (st:=(bK 29)) l1 c1 k1
 have F2:=cA (st:=(bK 30)) l2 c2 k2
 have F3:=cA (st:=(bK 31)) l3 c3 k3
 have F4:=cA (st:=(bK 37)) l4 c4 k4
 have F5:=cA (st:=(bK 38)) l5 c5 k5
 have F6:=cA (st:=(bK 39)) l6 c6 k6
 have F7:=cA (st:=(bK 40)) l7 c7 k7
 have F8:=cA (st:=(bK 32)) l8 c8 k8
 have F9:=cA (st:=(bK 33)) l9 c9 k9
 have F10:=cA (st:=(bK 34)) l10 c10 k10
 have F11:=cA (st:=(bK 35)) l11 c11 k11
 have F12:=cA (st:=(bK 36)) l12 c12 k12
 have F13:=cA (st:=(bK 11)) l13 c13 k13
 have F14:=cA (st:=(bK 12)) l14 c14 k14
 have F15:=cA (st:=(bK 14)) l15 c15 k15
 have F16:=cA (st:=(bK 17)) l16 c16 k16
 have F17:=cA (st:=(bK 16)) l17 c17 k17
 have F18:=cA (st:=(bK 15)) l18 c18 k18
 have F19:=cA (st:=(bK 18)) l19 c19 k19
 have F20:=cA (st:=(bK 13)) l20 c20 k20
 have F21:=cA (st:=(bK 20)) l21 c21 k21
 have F22:=cA (st:=(bK 21)) l22 c22 k22
 have F23:=cA (st:=(bK 24)) l23 c23 k23
 have F24:=cA (st:=(bK 28)) l24 c24 k24
 have F25:=cA (st:=(bK 41)) l25 c25 k25
 have F26:=cA (st:=(bK 27)) l26 c26 k26
 have F27:=cA (st:=(bK 42)) l27 c27 k27
 have F28:=cA (st:=(bK 43)) l28 c28 k28
 have F29:=cA (st:=(bK 44)) l29 c29 k29
 refine⟨PySem.W.fnOf "law" "law" (bM (bK 44)) (bE (bK 44)) (aM (bK 44)) .none kV29 dc29 pm29 an29 cd29 ct29,[(q23,p23)],λ q hq=>?_,λ s v=>.of_eq rfl,λ base _ _ hN=>?_⟩
 ·simp only [List.mem_cons,List.not_mem_nil,or_false] at hq
  rcases hq with rfl
  ·exact⟨yt23,yn23,yh23⟩
 have NB_alike:=hN (q23,p23) (by simp)
 have C0:Callee l.prog w K mg base "_law_draw" ["tape","many"] 1 fY f0 _:=⟨rZ F0 T,aap X G a0,k0,F0.binds (ps:=["tape","many"]) λ _ _ _ _ _ _=>nM λ _ _=>rfl⟩
 have C1:Callee l.prog w K mg base "_law_outs" ["tape","many","small"] 2 (uU K) f1 _:=⟨rX F1 T C0,aap X G a1,k1,F1.binds (ps:=["tape","many","small"]) λ _ _ _ _ _ _=>fJ λ _ _ _=>rfl⟩
 have C2:Callee l.prog w K mg base "_law_vessel" ["tape","number","many","spouts","small"] 3 (nZ K) f2 _:=⟨oJ F2 T C0 C1,aap X G a2,k2,F2.binds (ps:=["tape","number","many","spouts","small"]) λ _ _ _ _ _ _=>lX λ _ _ _ _ _=>rfl⟩
 have C3:Callee l.prog w K mg base "_law_net" ["tape","most","small"] 4 (uV K) f3 _:=⟨rY F3 T C0 C2,aap X G a3,k3,F3.binds (ps:=["tape","most","small"]) λ _ _ _ _ _ _=>fJ λ _ _ _=>rfl⟩
 have C4:Callee l.prog w K mg base "_law_small" ["tape"] 5 (qZ K) f4 _:=⟨pJ F4 T C3,aap X G a4,k4,F4.binds (ps:=["tape"]) λ _ _ _ _ _ _=>lY λ _=>rfl⟩
 have C5:Callee l.prog w K mg base "_law_twin" ["tape","net"] 2 (uT K) f5 _:=⟨rT F5 T C0,aap X G a5,k5,F5.binds (ps:=["tape","net"]) λ _ _ _ _ _ _=>nM λ _ _=>rfl⟩
 have C6:Callee l.prog w K mg base "_law_far_on" ["target","shift"] 1 (zH K) f6 _:=⟨oM F6 T,aap X G a6,k6,F6.binds (ps:=["target","shift"]) λ _ _ _ _ _ _=>nM λ _ _=>rfl⟩
 have C7:Callee l.prog w K mg base "_law_wide" ["net"] 2 (uS K) f7 _:=⟨rS F7 T C6,aap X G a7,k7,F7.binds (ps:=["net"]) λ _ _ _ _ _ _=>lY λ _=>rfl⟩
 have C8:Callee l.prog w K mg base "_law_first" ["net"] 1 (gI K) f8 _:=⟨pM F8 T,aap X G a8,k8,F8.binds (ps:=["net"]) λ _ _ _ _ _ _=>lY λ _=>rfl⟩
 have C9:Callee l.prog w K mg base "_law_filled" ["net","state","poured"] 1 (mH K) f9 _:=⟨oK F9 T,aap X G a9,k9,F9.binds (ps:=["net","state","poured"]) λ _ _ _ _ _ _=>fJ λ _ _ _=>rfl⟩
 have C10:Callee l.prog w K mg base "_law_tick" ["net","state","poured","fast"] 2 (qY K) f10 _:=⟨rV F10 T C9,aap X G a10,k10,F10.binds (ps:=["net","state","poured","fast"]) λ _ _ _ _ _ _=>nL λ _ _ _ _=>rfl⟩
 have C11:Callee l.prog w K mg base "_law_step" ["net","state","amount","watched"] 3 (kW K) f11 _:=⟨rW F11 T C10,aap X G a11,k11,F11.binds (ps:=["net","state","amount","watched"]) λ _ _ _ _ _ _=>nL λ _ _ _ _=>rfl⟩
 have C12:Callee l.prog w K mg base "_law_pairs" ["net","other","one","two","most"] 4 (rC K) f12 _:=⟨pL F12 T C8 C11,aap X G a12,k12,F12.binds (ps:=["net","other","one","two","most"]) λ _ _ _ _ _ _=>lX λ _ _ _ _ _=>rfl⟩
 have C13:Callee l.prog w K mg base "first_state" ["net"] 1 (gI K) f13 _:=⟨oI F13 T,aap X G a13,k13,F13.binds (ps:=["net"]) λ _ _ _ _ _ _=>lY λ _=>rfl⟩
 have C14:Callee l.prog w K mg base "pouring" ["net","amount"] 1 (mG K) f14 _:=⟨vE F14 T,aap X G a14,k14,F14.binds (ps:=["net","amount"]) λ _ _ _ _ _ _=>nM λ _ _=>rfl⟩
 have C15:Callee l.prog w K mg base "filled" ["spouts","state","poured"] 1 (o4 K) f15 _:=⟨xM F15 T,aap X G a15,k15,F15.binds (ps:=["spouts","state","poured"]) λ _ _ _ _ _ _=>fJ λ _ _ _=>rfl⟩
 have C16:Callee l.prog w K mg base "send" ["sent","target","amount"] 1 rA f16 _:=⟨DC F16 T,aap X G a16,k16,F16.binds (ps:=["sent","target","amount"]) λ _ _ _ _ _ _=>fJ λ _ _ _=>rfl⟩
 have C17:Callee l.prog w K mg base "share_out" ["outs","has","sent"] 2 (r9 K) f17 _:=⟨rQ F17 T C16,aap X G a17,k17,F17.binds (ps:=["outs","has","sent"]) λ _ _ _ _ _ _=>fJ λ _ _ _=>rfl⟩
 have C18:Callee l.prog w K mg base "settle" ["vessel","has","sent"] 3 (o0 K) f18 _:=⟨xL F18 T C16 C17,aap X G a18,k18,F18.binds (ps:=["vessel","has","sent"]) λ _ _ _ _ _ _=>fJ λ _ _ _=>rfl⟩
 have C19:Callee l.prog w K mg base "doors_behind" ["vessels","doors","tipped"] 1 (rD K) f19 _:=⟨nB F19 T,aap X G a19,k19,F19.binds (ps:=["vessels","doors","tipped"]) λ _ _ _ _ _ _=>fJ λ _ _ _=>rfl⟩
 have C20:Callee l.prog w K mg base "tick_behind" ["net","state","poured"] 4 (qX K) f20 _:=⟨nA F20 T C15 C18 C19,aap X G a20,k20,F20.binds (ps:=["net","state","poured"]) λ _ _ _ _ _ _=>fJ λ _ _ _=>rfl⟩
 have C21:Callee l.prog w K mg base "watch" ["net","state","vessel","amount"] 5 (qV K) f21 _:=⟨AD F21 T C14 C20,aap X G a21,k21,F21.binds (ps:=["net","state","vessel","amount"]) λ _ _ _ _ _ _=>nL λ _ _ _ _=>rfl⟩
 have C22:CalleeS l.prog w K mg base "go_through" ["first","step","most","limit"] 7 (zG l.prog w K mg base c_TooMany cL) f22 _:=⟨pH F22 T XC_TooMany,aap X G a22,k22,F22.binds (ps:=["first","step","most","limit"]) λ _ _ _ _ _ _=>nL λ _ _ _ _=>rfl⟩
 have C23:CalleeR l.prog w K mg base "alike" ["net","other","one","two","most"] 8 (rE K p23 c_TooMany) f23 _:=⟨AE F23 T rfl NB_alike UP C13 C21 C22,aap X G a23,k23,F23.binds (ps:=["net","other","one","two","most"]) λ _ _ _ _ _ _=>lX λ _ _ _ _ _=>rfl⟩
 have C24:Callee l.prog w K mg base "_law_word" ["error"] 1 (uR K c_NoNet c_NoVessel c_TooLong c_TooMany c_TooMuch c_Nothing c_NoText c_NoRow) f24 _:=⟨rR F24 T W,aap X G a24,k24,F24.binds (ps:=["error"]) λ _ _ _ _ _ _=>lY λ _=>rfl⟩
 have C25:Callee l.prog w K mg base "_law_tried" ["net","other","one","two","most"] 9 (qW K p23) f25 _:=⟨nC F25 T W kdM hmM C23 C24,aap X G a25,k25,F25.binds (ps:=["net","other","one","two","most"]) λ _ _ _ _ _ _=>lX λ _ _ _ _ _=>rfl⟩
 have C26:Callee l.prog w K mg base "_law_whole" ["thing","low","high"] 1 qU f26 _:=⟨pI F26 T,aap X G a26,k26,F26.binds (ps:=["thing","low","high"]) λ _ _ _ _ _ _=>fJ λ _ _ _=>rfl⟩
 have C27:Callee l.prog w K mg base "_law_parts" ["net","other","one","two","row"] 4 (rB K) f27 _:=⟨pK F27 T C8 C11,aap X G a27,k27,F27.binds (ps:=["net","other","one","two","row"]) λ _ _ _ _ _ _=>lX λ _ _ _ _ _=>rfl⟩
 have C28:Callee l.prog w K mg base "_law_closed" ["net","other","one","two","most","pairs"] 4 (o5 K) f28 _:=⟨oN F28 T C8 C11,aap X G a28,k28,F28.binds (ps:=["net","other","one","two","most","pairs"]) λ _ _ _ _ _ _=>DK λ _ _ _ _ _ _=>rfl⟩
 exact FM F29 T C0 C4 C5 C7 C12 C25 C26 C27 C28
theorem walk {l:PySem.W.OpenLaw}{q:Program}{loose:List Str}{XP:(Str->Option Value)->Heap->Prop}{YP:World->Heap->Prop}{d:DefRec}{K:Params->aaa}{ts:List Addr} (hn:l.most=some 63) (hdf:d.params.defaults=[])
  (hY:∀ (w:World) (h:Heap),YP w h->(K w.params).In h) (hYt:∀ (w:World) (h:Heap),YP w h->∀ P∈ts,h.get? P=some (PySem.W.tabObj #[]))
  (F:∀ (w:World) (mg:Str->Option Value) (fa:Addr) (h:Heap),(K w.params).In h->h.Ns mainGlobals mg->mg d.name=some (.ref fa)->
   ∃ (fd:FuncData) (tabs:List (Addr×Addr)),(∀ q∈tabs,q.2∈ts/\(K w.params).lookup q.2=none/\PySem.W.codeHdIn (K w.params) q.1 q.2=true)/\(∀ (s:Shared) (u:Value),BindsTo s fd ⟨[u],[]⟩ [("script",u)])/\∀ base:Heap,(K w.params).In base->base.Ns mainGlobals mg->(∀ q∈tabs,NestB mg base q.1 q.2)->FnOk l.prog w (K w.params) mg base iM 10 fa fd ["script"] (spT (K w.params) tabs)) :
  PySem.W.WalkO q loose XP YP l.row.toRowW d [] (λ f vs=>PySem.call f vs):=
 L2.walk_ofT (n:=63) (k:=10) (x := "script") (sp:=spT) hn (by decide) hdf ⟨rfl,by decide,by decide⟩ hY hYt F zE
end Tw
noncomputable def PySem.W.Fast.tw15896949050307778313:Nat:=0
theorem PySem.W.Fast.te15896949050307778313:PySem.W.Fast.tw15896949050307778313=PySem.W.Fast.tw15896949050307778313:=rfl
noncomputable def PySem.W.Fast.tw349955443097670609:PySem.Program:=PySem.Challenge.pw_tipwell_k11_whole_alike_or_parted
theorem PySem.W.Fast.te349955443097670609:PySem.Challenge.pw_tipwell_k11_whole_alike_or_parted=PySem.W.Fast.tw349955443097670609:=rfl
namespace PySem.W.Fast
def tw4058034511237834511:=0
def tw675178533160877245:=0
def tw8790956565200297709:=0
def tw14888369013930540476:=0
def tw9136073091302889010:=0
def tw10376892054948069872:=0
def tw18215209736933436482:=0
def tw14524833670278077274:=0
def tw10173757205554035187:=0
def tw16648258334733650237:=0
def tw4739566163536005758:=0
def tw4018431785080584142:=0
def tw793114131361868863:=0
def tw3518718431087056302:=0
def tw15254187914486936084:=0
def tw14799462108847275232:=0
def tw16186199628909687648:=0
def tw9073115128235790368:=0
def tw8340174925425766752:=0
def tw14110335173929041478:=0
def tw8921386321880205405:=0
def tw17874517334769209076:=0
def tw8912633279572122:=0
def tw6515644026247101826:=0
def tw9070758876860238048:=0
def tw3637146020251072273:=0
def tw11483639557720750213:=0
def tw1234802561710764107:=0
def tw13330102139641619839:=0
def tw9216653274643403647:=0
def tw1950276951206809295:=0
def tw4649685331547597940:=0
def tw2029298687320148777:=0
def tw1871549066288452670:=0
def tw9278753239230235315:=0
def tw10255038353101625473:=0
def tw8322632876853812789:=0
def tw2390824472611241674:=0
def tw285760801439174531:=0
def tw14599549885459101780:=0
def tw5652375695751432380:=0
def tw3215301591919407815:=0
def tw7334082377665447833:=0
def tw6053625318323245422:=0
def tw8184260320701601010:=0
def tw12222577733061474246:=0
def tw8261800375842196121:=0
def tw14277506305566484607:=0
def tw13574298322312243851:=0
def tw14999958142376705253:=0
def tw12117163746822796068:=0
def tw10278952367624457987:=0
def tw13285015384407014126:=0
def tw12099818508138112534:=0
def tw8620493801906026030:=0
def tw1450230239806344800:=0
def tw3755876722312746714:=0
def tw11673418101598011548:=0
def tw17695202489793189666:=0
def tw9417520753243614079:=0
def tw13619819331218955328:=0
def tw15684851268831320021:=0
def tw9180347761151042407:=0
def tw8375734290033934807:=0
def tw13094182456480287340:=0
def tw16266174936846145936:=0
def tw240225784536909206:=0
def tw3670676700766439959:=0
def tw14829601713163868077:=0
def tw2551049134255387166:=0
def tw6713194924704932481:=0
def tw4901479937861922663:=0
def tw4890728789495698042:=0
def tw10666228343764320997:=0
def tw6890987366434027554:=0
def tw15522450948013629080:=0
def tw7647291202443299071:=0
def tw15252047925833717931:=0
def tw4620466427950151675:=0
def tw17822264285406796492:=0
def tw13360111922045340443:=0
def tw10228262641422648701:=0
def tw7214842991359848420:=0
def tw7202761652766301325:=0
def tw8878230829991301582:=0
def tw17785515998027704462:=0
def tw620822945435627997:=0
def tw5259045328111389330:=0
def tw4790160709168856650:=0
def tw9070962590481541499:=0
end PySem.W.Fast
open PySem PySem.W PyProof.Rows
set_option maxRecDepth 100000 in
set_option maxHeartbeats 0 in
theorem PySem.Challenge.cw_tipwell_k11_whole_alike_or_parted_holds : PySem.Challenge.rw_tipwell_k11_whole_alike_or_parted.Holds := by
 w_on;o_law;km_head;(case hw=>w_witness2)
 k_fill
 refine Tw.walk (l:=PySem.Challenge.rw_tipwell_k11_whole_alike_or_parted) rfl rfl (λ w h Y=>PySem.W.km_in_of Y) (λ w h Y=>PySem.W.km_tabs_of Y) ?F
 case F=>
  intro w mg fa h KX G hmg
  refine' Tw.all_mk KX G hmg ?_ ?_ ?_ ?_ ?_ ?_ ?_ ?_ ?_ ?_ ?_ ?_ ?_ ?_ ?_ ?_ ?_ ?_ ?_ ?_ ?_ ?_ ?_ ?_ ?_ ?_ ?_ ?_ ?_ ?_ ?_ ?_ ?_ ?_ ?_ ?_ ?_ ?_ ?_ ?_ ?_ ?_ ?_ ?_ ?_ ?_ ?_ ?_ ?_ ?_ ?_ ?_ ?_ ?_ ?_ ?_ ?_ ?_ ?_ ?_ ?_ ?_ ?_ ?_ ?_ ?_ ?_ ?_ ?_ ?_ ?_ ?_ ?_ ?_ ?_ ?_ ?_ ?_ ?_ ?_ ?_ ?_ ?_ ?_ ?_ ?_ ?_ ?_ ?_ ?_ ?_ ?_ ?_ ?_ ?_ ?_ ?_ ?_ ?_ ?_ ?_ ?_ ?_ ?_ ?_ ?_ ?_ ?_ ?_ ?_ ?_ ?_ ?_ ?_ ?_ ?_ ?_ ?_ ?_ ?_ ?_ ?_ ?_ ?_ ?_ ?_ ?_ ?_ ?_ ?_ ?_ ?_ ?_ ?_ ?_ ?_ ?_ ?_ ?_ ?_ ?_ ?_ ?_ ?_ ?_ ?_ ?_ ?_ ?_ ?_ ?_ ?_ ?_ ?_ ?_ ?_ ?yp23 ?yn23 ?yt23 ?yh23 ?exM ?vaM ?kkM0 ?kkM1 ?kkM2 ?kkM3 ?kkM4 ?kkM5 ?kkM6 ?kkM7 ?hmMh
  all_goals try k_is
  (case yp23=>exact rfl)
  (case yn23=>first | k_is | exact rfl)
  (case yt23=>decide)
  (case yh23=>first | k_is | exact rfl)
  (case exM=>k_exc)
  (case vaM=>kit_is)
  (case kkM0=>kit_is)
  (case kkM1=>kit_is)
  (case kkM2=>kit_is)
  (case kkM3=>kit_is)
  (case kkM4=>kit_is)
  (case kkM5=>kit_is)
  (case kkM6=>kit_is)
  (case kkM7=>kit_is)
  (case hmMh=>kts_exm)
#print axioms PySem.Challenge.cw_tipwell_k11_whole_alike_or_parted_holds