import PyProof.Rows.All
import Wide.All
import OpenK.AllK
import Wide.FinOn
import Lean
import PyProof.EqAt
import PyProof.EqKinds
import PyProof.TupleCall
import PyProof.FactsAll.NoneType
import PyProof.ZipIter
import PyProof.EnumMake
import KE.KUnpack
import KE.KIntText
import PyProof.StrCalls2
import PyProof.CollectIter
import PyProof.Walks
import PyProof.Rows.StrPartPair
import PyProof.Rows.StrSplit
import PyProof.ListStr
import PyProof.StrWalks
import KE.KTryMore
import PyProof.NsDelKeeps
import PyProof.TupleKey
import PyProof.FactsAll.bool_1
import PyProof.NeKinds
import KE.KIsAll
import PyProof.Rows.IntBool
import KE.RegKIsAll
import KE.RegKTryMore
import PySem.Challenge.RW_tipwell_k15_whole_nets_spoilt_anywhere
set_option Elab.async false
set_option linter.all false
set_option maxRecDepth 100000
noncomputable section
abbrev aaa:=PySem.W.Frag
def aab:=@List.length_map
def aac:=@PySem.wpAny_bind
def aad:=@List.mem_of_getElem?
def aae:=@PySem.W.mg_of
def aaf:=@List.size_toArray
def aag:=@Nat.le_refl
def aah:=@PySem.Heap.get?_push_of_some
def aai:=@List.getElem?_eq_some_iff
def aaj:=@List.map_append
def aak:=@Bool.false_ne_true
def aal:=@PySem.Heap.lt_size
def aam:=@List.mem_cons_of_mem
def aan:=@Nat.lt_of_lt_of_le
def aao:=@List.length_append
def aap:=@List.getElem?_map
def aaq:=@List.map_cons
def aar:=@List.take_of_length_le
def aas:=@PySem.Heap.get?_push_size
def aat:=@PySem.F.plainAttrs_list
def aau:=@decide_eq_false
def aav:=@PySem.wpAny_pure
def aaw:=@decide_eq_true
def aax:=@of_decide_eq_true
def aay:=@List.mem_map
def aaz:=@List.mem_cons
def aba:=@List.mem_append
def abb:=@List.length_cons
def abc:=@PySem.W.mg_none_of
def abd:=@Option.map_eq_some_iff
def abe:=@PySem.F.slot_list_append
def abf:=@PySem.F.type_list_append
def abg:=@List.mem_append_right
def abh:=@List.getElem?_eq_getElem
def abi:=@Nat.ne_of_lt
def abj:=@List.length_take
def abk:=@Nat.zero_le
def abl:=@List.all_eq_true
def abm:=@Option.some.inj
def abn:=@Nat.le_trans
def abo:=@PySem.wpAny_mono
def abp:=@List.not_mem_nil
def abq:=@List.mem_append_left
def abr:=@List.mem_cons_self
def abt:=@List.mem_singleton
def abu:=@PySem.mem_of_lookup
def abv:=@PySem.wpAny_holding
def abw:=@List.mem_iff_getElem?
def abx:=@Nat.lt_irrefl
def aby:=@List.take_succ
def abz:=@PySem.wpAny_field
def aca:=@List.nodup_cons
def acb:=@List.append_nil
def acd:=@List.map_map
def ace:=@Nat.not_lt_zero
def acf:=@List.getElem?_append_right
def acg:=@List.getElem?_append_left
def ach:=@PySem.boot_len
def aci:=@List.getElem_mem
def acj:=@List.map_congr_left
def ack:=@List.map_nil
def acl:=@List.length_set
def acm:=@List.getElem?_set_self
def acn:=@List.append_assoc
def aco:=@List.mem_range
def acp:=@List.length_singleton
def acq:=@List.getElem?_set_ne
def acr:=@Nat.le_of_lt
variable {P:PySem.Program}{w:PySem.World}{K:aaa}{mg:PySem.Str->Option PySem.Value}{base:PySem.Heap}{C c_TipError c_NoNet c_NoVessel c_TooLong c_TooMany c_TooMuch c_Nothing c_NoText c_NoRow:PySem.Addr}
namespace L2
open PySem PySem.Spec PyProof.Rows
abbrev fS:=Sum Int (Option Str)
def CP:Value->Bool
 | .none=>true
 | _=>false
theorem vW {v:Value} (h:CP v=true):v=Value.none:=by
 cases v <;> simp_all [CP]
def rB:fS->Value->Bool
 | .inl k,v=>Value.isInt k v
 | .inr (some x),v=>Value.isStrOf x v
 | .inr none,v=>CP v
def mQ:Int:=0xFCA86420
def keyH (w:World):fS->Int
 | .inl k=>hashInt k
 | .inr (some x)=>hashStr w x
 | .inr none=>mQ
theorem cH:∀ {k:fS}{v:Value},rB k v=true->(∃ i t,k=Sum.inl i/\v=Value.int i t)\/(∃ x t,k=Sum.inr (some x)/\v=Value.str x t)\/(k=Sum.inr none/\v=Value.none)
 | .inl i,v,h=>by
  obtain⟨t,e⟩:=Value.isInt_shape (k:=i) (v:=v) h;exact .inl ⟨i,t,rfl,e⟩
 | .inr (some x),v,h=>by
  obtain⟨t,e⟩:=Value.isStrOf_shape (x:=x) (v:=v) h;exact .inr (.inl ⟨x,t,rfl,e⟩)
 | .inr none,v,h=>.inr (.inr ⟨rfl,vW h⟩)
theorem zY (i:Int) (t:Tok):rB (.inl i) (.int i t)=true:=by simp [rB,Value.isInt]
theorem zX (x:Str) (t:Tok):rB (.inr (some x)) (.str x t)=true:=by simp [rB,Value.isStrOf]
theorem J4 (a b:Int):decide ((Sum.inl a:fS)=Sum.inl b)=(a == b):=by
 by_cases e:a=b
 ·subst e;simp
 ·have h:¬ (Sum.inl a:fS)=Sum.inl b:=λ q=>e (Sum.inl.inj q);rw[aau h];exact (beq_eq_false_iff_ne.mpr e).symm
theorem J2 (a b:Str):decide ((Sum.inr (some a):fS)=Sum.inr (some b))=decide (a=b):=by
 by_cases e:a=b
 ·subst e;simp
 ·have h:¬ (Sum.inr (some a):fS)=Sum.inr (some b):=λ q=>e (abm (Sum.inr.inj q));rw[aau h,aau e]
theorem CI (i:Int) (o:Option Str):decide ((Sum.inl i:fS)=Sum.inr o)=false:=aau (λ q=>nomatch q)
theorem CJ (i:Int) (o:Option Str):decide ((Sum.inr o:fS)=Sum.inl i)=false:=aau (λ q=>nomatch q)
theorem J1 (x:Str):decide ((Sum.inr (some x):fS)=Sum.inr none)=false:=aau (λ q=>nomatch (Sum.inr.inj q))
theorem J3 (x:Str):decide ((Sum.inr none:fS)=Sum.inr (some x))=false:=aau (λ q=>nomatch (Sum.inr.inj q))
theorem CY {prog:Program}{w:World}{A:Around}{E:Value->Shared->Prop}{s:Shared}{Q:Int->Shared->Prop} (h:Q mQ { s with toks:=s.toks+1 }) :
  wpAny (model prog w) A (pyHash .none) Q E s:=by
 have hT:s.TypeIs .none "NoneType" := rfl;unfold pyHash;have hv:[Value.none].any Value.onHeap=false:=rfl;refine aac ?_;rw[cRoomFor,if_neg (by rw[hv];exact aak)];refine aav ?_;refine aac (wpAny_specialOf hT F.slot_NoneType_hash.lookup ?_);show wpAny _ _ (if (some (Value.builtin "NoneType.__hash__") == some Value.none)=true then _ else _) Q E s;rw[if_neg (by rw[beq_builtin_none];exact aak)];refine aac (wpAny_specialOf hT F.slot_NoneType_hash.lookup ?_);show wpAny _ _ (callSpecialIfBoundUnlessNone? .none "__hash__" _ >>= _) Q E s;refine aac (wpAny_callSpecialIfBoundUnlessNone?_slot hT F.slot_NoneType_hash
  (wpAny_call_entry F.slot_NoneType_hash hT F.entry_NoneType_hash
   (show wpAny _ _ (do ret (<- mkInt mQ)) _ _ s from wpAny_ret_mkInt ?_) (F.args_NoneType_hash_1 _)))
 show wpAny _ _ (if (decide (-(2:Int) ^ 63<=mQ) && decide (mQ < 2 ^ 63))=true then _ else _) Q E _;rw[if_pos (by decide)];exact aav h
def dI (prog:Program) (w:World):PySem.KeyKind prog w fS where
 is:=rB
 hash:=keyH w
 inj:=λ v a b ha hb=>by
  rcases cH ha with ⟨i,t,rfl,rfl⟩ | ⟨x,t,rfl,rfl⟩ | ⟨rfl,rfl⟩
  ·rcases cH hb with ⟨j,u,rfl,e⟩ | ⟨y,u,rfl,e⟩ | ⟨rfl,e⟩
   ·injection e with e1 _;rw[e1]
   ·exact nomatch e
   ·exact nomatch e
  ·rcases cH hb with ⟨j,u,rfl,e⟩ | ⟨y,u,rfl,e⟩ | ⟨rfl,e⟩
   ·exact nomatch e
   ·injection e with e1 _;rw[e1]
   ·exact nomatch e
  ·rcases cH hb with ⟨j,u,rfl,e⟩ | ⟨y,u,rfl,e⟩ | ⟨rfl,e⟩
   ·exact nomatch e
   ·exact nomatch e
   ·rfl
 byValue:=λ k v h=>by
  rcases cH h with ⟨i,t,rfl,rfl⟩ | ⟨x,t,rfl,rfl⟩ | ⟨rfl,rfl⟩ <;> rfl
 pyHash:=λ hv h=>by
  rcases cH hv with ⟨i,t,rfl,rfl⟩ | ⟨x,t,rfl,rfl⟩ | ⟨rfl,rfl⟩
  ·exact wpAny_pyHash_int h
  ·exact wpAny_pyHash_str h
  ·exact CY h
 eqBool:=λ hu hv h=>by
  rcases cH hu with ⟨i,t,rfl,rfl⟩ | ⟨x,t,rfl,rfl⟩ | ⟨rfl,rfl⟩
  ·rcases cH hv with ⟨j,u,rfl,rfl⟩ | ⟨y,u,rfl,rfl⟩ | ⟨rfl,rfl⟩
   ·rw[J4] at h;exact wpAny_eqBool_int h
   ·rw[CI] at h;exact SeqAt.EqAt.int_str i t y u _ _ _ _ h
   ·rw[CI] at h;exact SeqAt.EqAt.int_none i t _ _ _ _ h
  ·rcases cH hv with ⟨j,u,rfl,rfl⟩ | ⟨y,u,rfl,rfl⟩ | ⟨rfl,rfl⟩
   ·rw[CJ] at h;exact SeqAt.EqAt.str_int x t j u _ _ _ _ h
   ·rw[J2] at h;exact wpAny_eqBool_str h
   ·rw[J1] at h;exact SeqAt.EqAt.str_none x t _ _ _ _ h
  ·rcases cH hv with ⟨j,u,rfl,rfl⟩ | ⟨y,u,rfl,rfl⟩ | ⟨rfl,rfl⟩
   ·rw[CJ] at h;exact SeqAt.EqAt.none_int j u _ _ _ _ h
   ·rw[J3] at h;exact SeqAt.EqAt.none_str y u _ _ _ _ h
   ·rw[aaw rfl] at h;exact SeqAt.EqAt.same Value.none _ _ _ _ h
 «strs»:=λ k x t v h=>by
  rcases cH h with ⟨i,u,rfl,e⟩ | ⟨y,u,rfl,e⟩ | ⟨rfl,e⟩
  ·exact nomatch e
  ·injection e with e1 _;subst e1;cases v <;> rfl
  ·exact nomatch e
theorem vJ (prog:Program) (w:World) (i:Int) (t:Tok):(dI prog w).is (.inl i) (.int i t)=true:=zY i t
theorem vI (prog:Program) (w:World) (x:Str) (t:Tok):(dI prog w).is (.inr (some x)) (.str x t)=true:=zX x t
inductive V where
 | non | bl (b:Bool) | int (i:Int) | str (x:Str) | byt (b:Array UInt8) | flt (b:UInt64) | ref (a:Addr) | ty (n:String)
 deriving DecidableEq
def bF:V->Value->Prop
 | .non,u=>u=Value.none
 | .bl b,u=>u=Value.bool b
 | .int i,u=>∃ t,u=Value.int i t
 | .str x,u=>∃ t,u=Value.str x t
 | .byt b,u=>∃ t,u=Value.bytes b t
 | .flt b,u=>∃ t,u=Value.float b t
 | .ref a,u=>u=Value.ref a
 | .ty n,u=>u=Value.type n
abbrev bA:List V->List Value->Prop:=Paired bF
theorem bA.length {xs:List V}{us:List Value} (r:bA xs us):xs.length=us.length:=Paired.length r
theorem bA.get:∀ {xs:List V}{us:List Value}{i:Nat}{x:V},bA xs us->xs[i]? = some x->∃ u,us[i]? = some u/\bF x u
 | _,_,_,_,.nil,e=>by simp at e
 | _,_,0,_,.cons r _,e=>by simp at e;subst e;exact⟨_,rfl,r⟩
 | _,_,i+1,x,.cons _ t,e=>by
  obtain⟨u,h1,h2⟩:=bA.get (i:=i) (x:=x) t (by simpa using e);exact⟨u,by simpa using h1,h2⟩
theorem bA.set {x:V}{u:Value} (r:bF x u):∀ {xs:List V}{us:List Value} (i:Nat),bA xs us->bA (xs.set i x) (us.set i u)
 | _,_,_,.nil=>.nil
 | _,_,0,.cons _ t=>.cons r t
 | _,_,i+1,.cons q t=>.cons q (bA.set r i t)
theorem bA.append:∀ {xs ys:List V}{us ws:List Value},bA xs us->bA ys ws->bA (xs++ys) (us++ws)
 | _,_,_,_,.nil,s=>s
 | _,_,_,_,.cons r t,s=>.cons r (bA.append t s)
def qJ:Option V->Option Value->Prop
 | some v,some u=>bF v u
 | none,none=>True
 | _,_=>False
def KV {am:Type}:List (am×V)->List (am×Value)->Prop:=Paired λ (p:am×V) (q:am×Value)=>p.1=q.1/\bF p.2 q.2
def kV:fS->V
 | .inl i=>.int i
 | .inr (some x)=>.str x
 | .inr none=>.non
inductive HO where
 | lst (xs:List V)
 | tup (xs:List V)
 | dK (kvs:List (fS×V)) | dT (kvs:List (List fS×V))
 | set (S:Int->Bool) (n:Nat)
 | ins (C dx:Addr) (fs:List (Str×V))
 | own (x:Addr)
 | xd (fs:List (Str×V))
 | met (f x:Addr)
 | rng (lo hi:Int)
 | frz (o:Obj) (u:HO)
 | tbl (ps:Array Value)
 | ext (cg:Heap->Prop)
abbrev Hp:=Addr->Option HO
def upd (H:Hp) (a:Addr) (o:HO):Hp:=λ b=>if b=a then some o else H b
theorem aD {H:Hp}{a:Addr}{o:HO}:upd H a o a=some o:=by unfold upd;rw[if_pos rfl]
theorem aN {H:Hp}{a b:Addr}{o:HO} (h:b≠a):upd H a o b=H b:=by unfold upd;rw[if_neg h]
theorem L7 {H:Hp}{a b:Addr}{o u:HO} (h:H a=some o) (h':H b=some u) (d:o≠u):a≠b:=by
 intro e;subst e;rw[h] at h';exact d (abm h')
theorem aL {H:Hp}{a b:Addr}{o:HO} (h:H a=some o) (h':H b=none):a≠b:=by
 intro e;subst e;rw[h] at h';cases h'
section
variable (P:Program)(w:World)
def cY (H:Hp) (h:Heap) (a:Addr):HO->Prop
 | .lst xs=>xs.length<=sizeLine/\∃ (its:List Value) (n:Nat),bA xs its/\h.get? a=some { cls:=.type "list",data:=.seq its.toArray n }
 | .tup xs=>xs.length<=sizeLine/\∃ its:List Value,bA xs its/\IsTup h a its.toArray
 | .dK kvs=>kvs.length<=sizeLine/\(a == sysModules)=false/\∃ vs,KV kvs vs/\h.DictOf (dI P w) a vs
 | .dT kvs=>kvs.length<=sizeLine/\(a == sysModules)=false/\∃ xs:List (List fS×Addr×Value),
   Paired (λ (p:List fS×V) (q:List fS×Addr×Value)=>p.1=q.1/\H q.2.1=some (.tup (p.1.map kV))/\bF p.2 q.2.2) kvs xs/\
   ∃ o es ep,h.get? a=some o/\o.ExactDict/\o.data=.dict es ep/\es.toList=xs.map (entryOfKey (tupleKind (dI P w)))/\(xs.map (·.1)).Nodup
 | .set S n=>h.SetOf (intKind P w) a S n
 | .ins C dx fs=>H dx=some (.own a)/\fs.length<=1000/\dx≠a/\h.get? a=some (PySem.W.instObj C dx)/\
   ∃ mA,h.Ns1 dx mA/\(∀ f,qJ (fs.lookup f) (mA f))/\PySem.Within mA (fs.map (·.1))
 | .own _=>∃ o,h.get? a=some o
 | .xd fs=>∃ mA,h.Ns1 a mA/\∀ f,qJ (fs.lookup f) (mA f)
 | .rng lo hi=>∃ t u v,h.get? a=some { cls:=.type "range",data:=.fields #[.int lo t,.int hi u,.int 1 v] }
 | .frz o u=>h.get? a=some o/\cY H h a u
 | .tbl ps=>h.get? a=some { cls:=.none,data:=.fields ps }
 | .met f x=>h.get? a=some (PySem.W.methodObj (.ref f) (.ref x))
 | .ext cg=>cg h/\(∃ o,h.get? a=some o)/\∀ h1 h2:Heap,cg h1->(∀ o,h1.get? a=some o->h2.get? a=some o)->cg h2
def lI (H:Hp) (h:Heap):Prop:=∀ a o,H a=some o->cY P w H h a o
end
section
variable {H H':Hp}{h h':Heap}{a:Addr}{o:HO}
theorem cY.lt (x:cY P w H h a o):a < h.objs.size:=by
 cases o with
 | lst xs=>obtain⟨_,_,_,_,e⟩:=x;exact aal e
 | tup xs=>obtain⟨_,_,_,p⟩:=x;exact p.lt
 | dK kvs=>obtain⟨_,_,_,_,o,_,_,e,_⟩:=x;exact aal e
 | dT kvs=>obtain⟨_,_,_,_,o,_,_,e,_⟩:=x;exact aal e
 | set S n=>obtain⟨o,_,_,_,e,_⟩:=x;exact aal e
 | ins C dx fs=>obtain⟨_,_,_,e,_⟩:=x;exact aal e
 | own y=>obtain⟨_,e⟩:=x;exact aal e
 | xd fs=>obtain⟨_,⟨_,_,_,e,_⟩,_⟩:=x;exact aal e
 | rng lo hi=>obtain⟨_,_,_,e⟩:=x;exact aal e
 | frz ob u=>obtain⟨e,_⟩:=x;exact aal e
 | tbl ps=>exact aal (show h.get? a=some _ from x)
 | met f y=>exact aal (show h.get? a=some _ from x)
 | ext cg=>obtain⟨_,⟨_,e⟩,_⟩:=x;exact aal e
theorem Paired.mapP {ae cu:Type}{F G:ae->cu->Prop}:∀ {cw:List ae}{cx:List cu},Paired F cw cx->(∀ a b,F a b->G a b)->Paired G cw cx
 | _,_,.nil,_=>.nil
 | _,_,.cons r t,f=>.cons (f _ _ r) (Paired.mapP t f)
theorem cY.stay (x:cY P w H h a o) (k:∀ b u,(b=a\/H b=some (.own a))->h.get? b=some u->h'.get? b=some u)
  (ho:∀ b,H b=some (.own a)->H' b=some (.own a)) (ht:∀ b xs,H b=some (.tup xs)->H' b=some (.tup xs)):cY P w H' h' a o:=by
 induction o with
 | lst xs=>obtain⟨z,its,n,r,e⟩:=x;exact⟨z,its,n,r,k _ _ (.inl rfl) e⟩
 | tup xs=>obtain⟨z,its,r,ob,e,c⟩:=x;exact⟨z,its,r,ob,k _ _ (.inl rfl) e,c⟩
 | dK kvs=>obtain⟨z,y,vs,r,ob,es,ep,e,c⟩:=x;exact⟨z,y,vs,r,ob,es,ep,k _ _ (.inl rfl) e,c⟩
 | dT kvs=>
  obtain⟨z,y,xs,r,ob,es,ep,e,c⟩:=x;exact⟨z,y,xs,Paired.mapP r λ p q z=>⟨z.1,ht _ _ z.2.1,z.2.2⟩,ob,es,ep,k _ _ (.inl rfl) e,c⟩
 | set S n=>obtain⟨ob,es,ep,t,e,c⟩:=x;exact⟨ob,es,ep,t,k _ _ (.inl rfl) e,c⟩
 | ins C dx fs=>
  obtain⟨d,z,ne,e,mA,⟨od,es,ep,e2,c⟩,r⟩:=x;exact⟨ho _ d,z,ne,k _ _ (.inl rfl) e,mA,⟨od,es,ep,k _ _ (.inr d) e2,c⟩,r⟩
 | own y=>obtain⟨ob,e⟩:=x;exact⟨ob,k _ _ (.inl rfl) e⟩
 | xd fs=>obtain⟨mA,⟨od,es,ep,e,c⟩,r⟩:=x;exact⟨mA,⟨od,es,ep,k _ _ (.inl rfl) e,c⟩,r⟩
 | rng lo hi=>obtain⟨t,u,v,e⟩:=x;exact⟨t,u,v,k _ _ (.inl rfl) e⟩
 | frz ob u ih=>obtain⟨e,q⟩:=x;exact⟨k _ _ (.inl rfl) e,ih q⟩
 | tbl ps=>
  have e:h.get? a=some { cls:=.none,data:=.fields ps }:=x;show h'.get? a=some { cls:=.none,data:=.fields ps };exact k a _ (.inl rfl) e
 | met f y=>
  have e:h.get? a=some (PySem.W.methodObj (.ref f) (.ref y)):=x;show h'.get? a=some (PySem.W.methodObj (.ref f) (.ref y));exact k a _ (.inl rfl) e
 | ext cg=>obtain⟨p,⟨o,e⟩,st⟩:=x;exact⟨st _ _ p λ o q=>k _ _ (.inl rfl) q,⟨o,k _ _ (.inl rfl) e⟩,st⟩
theorem lI.lt (x:lI P w H h) (e:H a=some o):a < h.objs.size:=(x a o e).lt
theorem lI.fresh (x:lI P w H h) (e:h.objs.size<=a):H a=none:=by
 cases q:H a with
 | none=>rfl
 | some u=>exact absurd (aan (x.lt q) e) (abx _)
theorem lI.kept (x:lI P w H h) (k:∀ b u,h.get? b=some u->h'.get? b=some u):lI P w H h':=λ a o e=>
 (x a o e).stay (λ b u _ q=>k b u q) (λ _ q=>q) λ _ _ q=>q
theorem lI.laid (x:lI P w H h) (k:∀ b u,h.get? b=some u->h'.get? b=some u) (hp:h.objs.size<=a) (new:cY P w (upd H a o) h' a o):lI P w (upd H a o) h':=λ b u e=>by
 have hn:=x.fresh hp
 by_cases hb:b=a
 ·subst hb;rw[aD] at e;cases e;exact new
 ·rw[aN hb] at e;exact (x b u e).stay (λ c v _ q=>k c v q) (λ c q=>by rw[aN (aL q hn)];exact q) λ c xs q=>by rw[aN (aL q hn)];exact q
end
def Rd (H:Hp) (a:Addr) (u:HO):Prop:=H a=some u\/∃ o,H a=some (.frz o u)
theorem Rd.ok {P:Program}{w:World}{H:Hp}{h:Heap}{a:Addr}{u:HO} (r:Rd H a u) (x:lI P w H h):cY P w H h a u:=by
 rcases r with r | ⟨o,r⟩
 ·exact x a u r
 ·obtain⟨_,q⟩:=x a _ r;exact q
def wF:Option HO->Prop
 | some (.lst _)=>True
 | some (.dK _)=>True
 | some (.dT _)=>True
 | some (.set _ _)=>True
 | some (.ins _ _ _)=>True
 | some (.ext _)=>True
 | _=>False
section
variable {H:Hp}{h h':Heap}{x e:Addr}{o':HO}
theorem lI.write (ok:lI P w H h) (mu:wF (H x)) (he:e=x\/H e=some (.own x)) (k:∀ b u,b≠e->h.get? b=some u->h'.get? b=some u) (heo:∃ u,h'.get? e=some u)
  (new:cY P w (upd H x o') h' x o'):lI P w (upd H x o') h':=λ b u q=>by
 have nown:∀ c y,H c=some (.own y)->c≠x:=λ c y r z=>by subst z;rw[r] at mu;exact mu
 have ntup:∀ c xs,H c=some (.tup xs)->c≠x:=λ c xs r z=>by subst z;rw[r] at mu;exact mu
 by_cases hb:b=x
 ·subst hb;rw[aD] at q;cases q;exact new
 ·rw[aN hb] at q
  by_cases hbe:b=e
  ·have q':H b=some (.own x):=by
    rcases he with z | z
    ·exact absurd (hbe.trans z) hb
    ·rw[hbe];exact z
   rw[q] at q';cases q';obtain⟨v,hv⟩:=heo;exact⟨v,by rw[hbe];exact hv⟩
  ·refine (ok b u q).stay (λ c v hc r=>k c v ?_ r) (λ c r=>by rw[aN (nown c b r)];exact r) λ c xs r=>by rw[aN (ntup c xs r)];exact r
   rcases hc with rfl | hc
   ·exact hbe
   ·rintro rfl;rcases he with z | z
    ·exact nown c b hc z
    ·rw[hc] at z;cases z;exact hb rfl
end
structure Un (fs ex:List Addr) (H H':Hp) (h h':Heap):Prop where
 keep:∀ b o,h.get? b=some o->H b=none->b∉fs->b∉ex->h'.get? b=some o
 slot:∀ b o,h.get? b=some o->H b=none->b∈fs->b∉ex->∃ sl,h'.get? b=some { o with slots:=sl }
 free:∀ b o,h.get? b=some o->H b=none->b∉ex->H' b=none
 there:∀ b o,h.get? b=some o->b∉ex->∃ o',h'.get? b=some o'
 tups:∀ b xs,H b=some (.tup xs)->H' b=some (.tup xs)
 frzs:∀ b o u,H b=some (.frz o u)->H' b=some (.frz o u)
 tbls:∀ b ps,H b=some (.tbl ps)->∃ more,H' b=some (.tbl (ps++more))
section
variable {fs fs' ex ex':List Addr}{H H1 H2:Hp}{h h1 h2 h':Heap}{a x e:Addr}{o:HO}
theorem Un.any (u:Un fs ex H H1 h h1) {b:Addr}{ob:Obj} (q:h.get? b=some ob) (n:H b=none) (hx:b∉ex):∃ sl,h1.get? b=some { ob with slots:=sl }:=by
 by_cases hb:b∈fs
 ·exact u.slot b ob q n hb hx
 ·exact⟨ob.slots,u.keep b ob q n hb hx⟩
theorem Un.kept (k:∀ b u,h.get? b=some u->h'.get? b=some u):Un fs ex H H h h':=
 ⟨λ b ob q _ _ _=>k b ob q,λ b ob q _ _ _=>⟨ob.slots,k b ob q⟩,λ _ _ _ n _=>n,λ b ob q _=>⟨ob,k b ob q⟩,λ _ _ q=>q,λ _ _ _ q=>q,λ _ ps q=>⟨#[],by rw[q];simp⟩⟩
theorem Un.refl:Un fs ex H H h h:=Un.kept λ _ _ q=>q
theorem Un.laid (k:∀ b u,h.get? b=some u->h'.get? b=some u) (hp:h.objs.size<=a) (hn:H a=none):Un fs ex H (upd H a o) h h' where
 keep:=λ b u q _ _ _=>k b u q
 slot:=λ b u q _ _ _=>⟨u.slots,k b u q⟩
 free:=λ b u q n _=>by rw[aN (abi (aan (aal q) hp))];exact n
 there:=λ b u q _=>⟨u,k b u q⟩
 tups:=λ b xs q=>by rw[aN (aL q hn)];exact q
 frzs:=λ b u xs q=>by rw[aN (aL q hn)];exact q
 tbls:=λ b ps q=>⟨#[],by rw[aN (aL q hn),q];simp⟩
theorem Un.write (mu:wF (H x)) (he:e=x\/H e=some (.own x)) (k:∀ b u,b≠e->h.get? b=some u->h'.get? b=some u) (heo:∃ u,h'.get? e=some u):Un fs ex H (upd H x o) h h':=by
 have hx:∀ b,H b=none->b≠x:=λ b n z=>by subst z;rw[n] at mu;exact mu
 have hb:∀ b,H b=none->b≠e:=λ b n z=>by
  subst z;rcases he with r | r
  ·exact hx b n r
  ·rw[n] at r;cases r
 have hm:∀ b u,H b=some u->¬ wF (some u)->b≠x:=λ b u q nm z=>by subst z;rw[q] at mu;exact nm mu
 refine⟨λ b u q n _ _=>k b u (hb b n) q,λ b u q n _ _=>⟨u.slots,k b u (hb b n) q⟩,λ b u q n _=>by rw[aN (hx b n)];exact n,λ b u q _=>?_,
  λ b xs q=>by rw[aN (hm b _ q λ z=>z)];exact q,λ b u xs q=>by rw[aN (hm b _ q λ z=>z)];exact q,λ b ps q=>⟨#[],by rw[aN (hm b _ q λ z=>z),q];simp⟩⟩
 by_cases hbe:b=e
 ·subst hbe;exact heo
 ·exact⟨u,k b u hbe q⟩
end
def trk (h:Heap) (H:Hp):List Addr:=(List.range h.objs.size).filter λ a=>(H a).isSome
def u8 (h:Heap) (H:Hp):Heap:=PySem.W.hideAll h (trk h H)
theorem A2 (h:Heap) (H:Hp):(u8 h H).objs.size=h.objs.size:=PySem.W.hideAll_size _ _
theorem CW {h:Heap}{H:Hp}{b:Addr}{o:Obj} (e:h.get? b=some o) (n:H b=none):(u8 h H).get? b=some o:=
 PySem.W.hideAll_get _ e λ hm=>by
  have q:(H b).isSome=true:=(List.mem_filter.mp hm).2;rw[n] at q;simp at q
theorem EW {h:Heap}{H:Hp}{b:Addr}{o:Obj} (e:(u8 h H).get? b=some o):h.get? b=some o/\H b=none:=by
 have e':h.get? b=some o:=PySem.W.of_hideAll (trk h H) e;refine⟨e',?_⟩;cases q:H b with
 | none=>rfl
 | some x=>
  have hm:b∈trk h H:=List.mem_filter.mpr ⟨aco.mpr (aal e'),by simp [q]⟩;have z:(u8 h H).get? b=none:=PySem.W.hideAll_none (trk h H) hm;rw[z] at e;cases e
structure Mod (K:aaa) (mg:Str->Option Value) (base:Heap):Prop where
 kin:K.In base
 glob:base.Ns mainGlobals mg
 blt:∃ mb,base.Ns builtinsNs mb/\∀ x:Str,x ≠ "__name__" -> mb x=bootBuiltins x
 nolimit:base.NoLimit
structure Cx where
 prog:Program
 w:World
 K:aaa
 mg:Str->Option Value
 base:Heap
 A:Around
 N:List Str
 s₀:Shared
 H₀:Hp
 env:Env
 outer:List Env
 stack:List Env
 ex:List Addr
 fn:Str->Bool
 calm:Bool
 pn:List (Addr×Obj)
 xe:Value->Shared->Prop
def lH (l:List Env):List Addr:=l.filterMap (·.frame)
abbrev Cx.fs (X:Cx):List Addr:=lH X.outer
def Vis (sc:Scope) (x:Str):Prop:=sc.names.lookup x=some .local\/sc.names.lookup x=some .cell\/sc.names.lookup x=some .free
def JP (sc:Scope) (x:Str):Prop:=sc.names.lookup x=some .local\/sc.names.lookup x=some .cell
def Look (env:Env) (h:Heap) (m:Str->Option Value) (x:Str) (u:Value):Prop:=
 (env.kindOf x=some .local/\m x=some u)\/((env.kindOf x=some .cell\/env.kindOf x=some .free)/\∃ c,env.cells.lookup x=some c/\h.IsCell c (some u))
structure Cx.Ok (X:Cx):Prop where
 mod:Mod X.K X.mg X.base
 kind:X.env.scope.kind=.function
 glob:X.env.globals=mainGlobals
 blt:X.env.builtins=builtinsNs
 above:X.s₀.heap.objs.size<=X.env.locals
 inj:∀ x y c,X.env.cells.lookup x=some c->X.env.cells.lookup y=some c->x=y
 has:∀ x,(X.env.kindOf x=some .cell\/X.env.kindOf x=some .free)->∃ c,X.env.cells.lookup x=some c
 cab:∀ x c,X.fn x=true->X.env.cells.lookup x=some c->X.s₀.heap.objs.size<=c
 hd:X.calm=true->X.A.handled=none
 frames:X.A.frames=some X.stack
 stk:X.stack=X.outer\/(X.stack=X.env::X.outer/\X.env.frame=some X.env.locals)
 exf:∀ b∈X.ex,b≠X.env.locals/\∀ x c,X.env.cells.lookup x=some c->c≠b
 bs:∀ b o,X.base.get? b=some o->X.s₀.heap.get? b=some o/\X.H₀ b=none
 bsz:X.base.objs.size<=X.s₀.heap.objs.size
 noex:∀ b o,X.base.get? b=some o->b∉X.ex
 exfs:∀ b∈X.ex,b∉X.fs
 funs:X.s₀.heap.FunFrames X.base X.outer
 frf:∀ b∈X.fs,X.H₀ b=none
structure Inv (X:Cx) (pins:List (Addr×Obj)) (σ:List (Option V)) (H:Hp) (s:Shared):Prop where
 ok:X.Ok
 os:s.os=X.s₀.os
 bare:AllBare s.gens
 base:Un X.fs X.ex X.H₀ H X.s₀.heap s.heap
 loc:∃ m,s.heap.Ns X.env.locals m/\∀ (i:Nat) (x:Str) (v:V),X.N[i]? = some x->σ[i]? = some (some v)->Vis X.env.scope x->∃ u,bF v u/\Look X.env s.heap m x u
 cell:∀ x c,X.env.cells.lookup x=some c->∃ v,s.heap.IsCell c v
 free:H X.env.locals=none
 freeC:∀ x c,X.env.cells.lookup x=some c->H c=none
 pin:∀ p∈X.pn++pins,s.heap.get? p.1=some p.2/\H p.1=none/\p.1≠X.env.locals/\p.1∉X.fs/\∀ v,p.2.data≠.cell v
 hok:lI X.prog X.w H s.heap
 len:σ.length=X.N.length
section
variable {X:Cx}{pins:List (Addr×Obj)}{σ:List (Option V)}{H H':Hp}{s:Shared}{h':Heap}
theorem Cx.Ok.nofr (ok:X.Ok) {b:Addr}{o:Obj} (e:X.base.get? b=some o):b∉X.fs:=λ hb=>by
 have:=(ok.funs.mem hb).1;rw[e] at this;cases this
theorem Inv.bs (I:Inv X pins σ H s):∀ b o,X.base.get? b=some o->s.heap.get? b=some o/\H b=none:=λ b o e=>
 ⟨I.base.keep b o (I.ok.bs b o e).1 (I.ok.bs b o e).2 (I.ok.nofr e) (I.ok.noex b o e),I.base.free b o (I.ok.bs b o e).1 (I.ok.bs b o e).2 (I.ok.noex b o e)⟩
theorem Inv.bk (I:Inv X pins σ H s):∀ b o,X.base.get? b=some o->s.heap.get? b=some o:=λ b o e=>(I.bs b o e).1
theorem Inv.mod (I:Inv X pins σ H s):Mod X.K X.mg X.base:=I.ok.mod
theorem Inv.kIn (I:Inv X pins σ H s):X.K.In s.heap:=I.ok.mod.kin.keeps I.bk
theorem Inv.lt (I:Inv X pins σ H s):X.env.locals < s.heap.objs.size:=let ⟨_,hn,_⟩:=I.loc;hn.lt
theorem Inv.sz (I:Inv X pins σ H s):X.s₀.heap.objs.size<=s.heap.objs.size:=abn I.ok.above (acr I.lt)
theorem Inv.nofs (I:Inv X pins σ H s) {a:Addr} (h:s.heap.objs.size<=a):a∉X.fs:=λ hb=>by
 obtain⟨_,o,ho,_⟩:=I.ok.funs.mem hb;exact absurd (aan (aal ho) (abn I.sz h)) (abx _)
theorem Inv.cne (I:Inv X pins σ H s):∀ x c,X.env.cells.lookup x=some c->c≠X.env.locals:=λ x c e z=>by
 obtain⟨v,o,ho,hd⟩:=I.cell x c e;obtain⟨m,⟨o',es,ep,ho',hd',_⟩,_⟩:=I.loc;rw[z,ho'] at ho;cases ho;rw[hd'] at hd;cases hd
theorem Inv.funs (I:Inv X pins σ H s):s.heap.FunFrames X.base X.outer:=by
 have all:∀ (l:List Env),(∀ b∈lH l,b∈X.fs)->X.s₀.heap.FunFrames X.base l->s.heap.FunFrames X.base l:=by
  intro l
  induction l with
  | nil=>intro _ _;trivial
  | cons env r ih=>
   intro hs hl;obtain⟨hk,⟨L,o,hf,hn,ho,hd⟩,hr⟩:=hl;have hL:L∈X.fs:=hs L (by unfold lH;rw[List.filterMap_cons,hf];exact abr);obtain⟨sl,e⟩:=I.base.slot L o ho (I.ok.frf L hL) hL λ z=>I.ok.exfs L z hL;exact⟨hk,⟨L,_,hf,hn,e,hd⟩,ih (λ b hb=>hs b (by unfold lH;rw[List.filterMap_cons,hf];exact aam _ hb)) hr⟩
 exact all X.outer (λ _ hb=>hb) I.ok.funs
theorem Inv.stack (I:Inv X pins σ H s):s.heap.FunFrames X.base X.stack:=by
 rcases I.ok.stk with e | ⟨e,hf⟩
 ·rw[e];exact I.funs
 ·rw[e];obtain⟨m,hn,_⟩:=I.loc;refine .cons (by rw[I.ok.kind];decide) hf hn ?_ I.funs;exact Heap.get?_none_of_le (abn I.ok.bsz I.ok.above)
theorem Inv.stkSub (I:Inv X pins σ H s):∀ b∈lH X.stack,b∈X.env.locals::X.fs:=λ b hb=>by
 rcases I.ok.stk with e | ⟨e,hf⟩
 ·rw[e] at hb;exact aam _ hb
 ·rw[e] at hb;unfold lH at hb;rw[List.filterMap_cons,hf] at hb;exact hb
theorem Inv.stkFree (I:Inv X pins σ H s):∀ b∈lH X.stack,H b=none:=λ b hb=>by
 rcases aaz.mp (I.stkSub b hb) with e | hb
 ·rw[e];exact I.free
 ·obtain⟨_,o,ho,_⟩:=I.ok.funs.mem hb;exact I.base.free b o ho (I.ok.frf b hb) λ z=>I.ok.exfs b z hb
theorem Inv.step {g':Array GenState}{t':Nat}{d':Drawn}{ch:List Addr} (I:Inv X pins σ H s)
  (hch:∀ b∈ch,(b∈X.ex\/X.s₀.heap.objs.size<=b)/\b≠X.env.locals/\(∀ x c,X.env.cells.lookup x=some c->c≠b)/\∀ p∈X.pn++pins,p.1≠b)
  (keep:∀ b o,b≠X.env.locals->b∉X.fs->b∉ch->s.heap.get? b=some o->H b=none->h'.get? b=some o)
  (slot:∀ b o,b≠X.env.locals->b∈X.fs->b∉ch->s.heap.get? b=some o->H b=none->∃ sl,h'.get? b=some { o with slots:=sl }) (free:∀ b o,b∉ch->s.heap.get? b=some o->H b=none->H' b=none)
  (there:∀ b o,b∉ch->s.heap.get? b=some o->∃ o',h'.get? b=some o')
  (tups:∀ b xs,H b=some (.tup xs)->H' b=some (.tup xs)) (frzs:∀ b o u,H b=some (.frz o u)->H' b=some (.frz o u)) (tbls:∀ b ps,H b=some (.tbl ps)->∃ more,H' b=some (.tbl (ps++more)))
  (ns:∀ m,s.heap.Ns X.env.locals m->h'.Ns X.env.locals m) (hok:lI X.prog X.w H' h') (hg:AllBare g') :
  Inv X pins σ H' { s with heap:=h',gens:=g',drawn:=d',toks:=t' }:=by
 have neL:∀ b o,X.s₀.heap.get? b=some o->b≠X.env.locals:=λ b o e=>abi (aan (aal e) I.ok.above);have neC:∀ b o,X.s₀.heap.get? b=some o->b∉X.ex->b∉ch:=λ b o e hx hb=>by
  rcases (hch b hb).1 with z | z
  ·exact hx z
  ·exact absurd (aan (aal e) z) (abx _)
 have cellK:∀ x c,X.env.cells.lookup x=some c->∀ v,s.heap.IsCell c v->h'.IsCell c v:=λ x c e v ⟨o,ho,hd⟩=>by
  have nch:c∉ch:=λ z=>(hch c z).2.2.1 x c e rfl
  by_cases hc:c∈X.fs
  ·obtain⟨sl,q⟩:=slot c o (I.cne x c e) hc nch ho (I.freeC x c e);exact⟨_,q,hd⟩
  ·exact⟨o,keep c o (I.cne x c e) hc nch ho (I.freeC x c e),hd⟩
 refine⟨I.ok,I.os,hg,⟨λ b o e n hb hx=>?_,λ b o e n hb hx=>?_,λ b o e n hx=>?_,λ b o e hx=>?_,λ b xs e=>tups b xs (I.base.tups b xs e),λ b o xs e=>frzs b o xs (I.base.frzs b o xs e),λ b ps e=>?_⟩,?_,λ x c e=>?_,?_,λ x c e=>?_,λ p hp=>?_,hok,I.len⟩
 ·exact keep b o (neL b o e) hb (neC b o e hx) (I.base.keep b o e n hb hx) (I.base.free b o e n hx)
 ·obtain⟨sl,e1⟩:=I.base.slot b o e n hb hx;obtain⟨sl',e2⟩:=slot b _ (neL b o e) hb (neC b o e hx) e1 (I.base.free b o e n hx);exact⟨sl',e2⟩
 ·obtain⟨o',e1⟩:=I.base.there b o e hx;exact free b o' (neC b o e hx) e1 (I.base.free b o e n hx)
 ·obtain⟨o',e1⟩:=I.base.there b o e hx;exact there b o' (neC b o e hx) e1
 ·obtain⟨m1,e1⟩:=I.base.tbls b ps e;obtain⟨m2,e2⟩:=tbls b _ e1;exact⟨m1++m2,by rw[e2,Array.append_assoc]⟩
 ·obtain⟨m,hn,hl⟩:=I.loc;refine⟨m,ns m hn,λ i x v e1 e2 e3=>?_⟩;obtain⟨u,r,l⟩:=hl i x v e1 e2 e3;refine⟨u,r,?_⟩;rcases l with l | ⟨k,c,e,z⟩
  ·exact .inl l
  ·exact .inr ⟨k,c,e,cellK x c e _ z⟩
 ·obtain⟨v,z⟩:=I.cell x c e;exact⟨v,cellK x c e v z⟩
 ·obtain⟨m,⟨o,_,_,ho,_⟩,_⟩:=I.loc;exact free _ o (λ z=>(hch _ z).2.1 rfl) ho I.free
 ·obtain⟨v,o,ho,hd⟩:=I.cell x c e;exact free c o (λ z=>(hch c z).2.2.1 x c e rfl) ho (I.freeC x c e)
 ·obtain⟨e,n,ne,nf,d⟩:=I.pin p hp;have nch:p.1∉ch:=λ z=>(hch p.1 z).2.2.2 p hp rfl;exact⟨keep p.1 p.2 ne nf nch e n,free p.1 p.2 nch e n,ne,nf,d⟩
theorem Inv.un {t':Nat} (I:Inv X pins σ H s) (u:Un X.fs [] H H' s.heap h') (hok:lI X.prog X.w H' h'):Inv X pins σ H' { s with heap:=h',toks:=t' }:=by
 obtain⟨m,⟨o,es,ep,ho,r⟩,_⟩:=id I.loc;obtain⟨sl,hL⟩:=u.any ho I.free (by simp);exact I.step (g':=s.gens) (d':=s.drawn) (ch:=[]) (λ _ z=>nomatch z) (λ b o _ hb _ e n=>u.keep b o e n hb (by simp)) (λ b o _ hb _ e n=>u.slot b o e n hb (by simp)) (λ b o _ e n=>u.free b o e n (by simp)) (λ b o _ e=>u.there b o e (by simp)) u.tups u.frzs u.tbls (λ m' hm=>by
  obtain⟨o',es',ep',ho',r'⟩:=hm;rw[ho] at ho';cases ho';exact⟨_,es',ep',hL,r'⟩) hok I.bare
theorem Inv.call {g':Array GenState}{t':Nat}{d':Drawn}{ch:List Addr} (I:Inv X pins σ H s) (u:Un (lH X.stack) ch H H' s.heap h') (hok:lI X.prog X.w H' h') (hg:AllBare g')
  (hch:∀ b∈ch,(b∈X.ex\/X.s₀.heap.objs.size<=b)/\b≠X.env.locals/\(∀ x c,X.env.cells.lookup x=some c->c≠b)/\∀ p∈X.pn++pins,p.1≠b) :
  Inv X pins σ H' { s with heap:=h',gens:=g',drawn:=d',toks:=t' }:=by
 obtain⟨m,⟨o,es,ep,ho,r⟩,_⟩:=id I.loc;obtain⟨sl,hL⟩:=u.any ho I.free λ z=>(hch _ z).2.1 rfl;exact I.step (ch:=ch) hch (λ b o hL hb hc e n=>u.keep b o e n (λ z=>(aaz.mp (I.stkSub b z)).elim hL hb) hc) (λ b o _ _ hc e n=>u.any e n hc) (λ b o hc e n=>u.free b o e n hc) (λ b o hc e=>u.there b o e hc) u.tups u.frzs u.tbls (λ m' hm=>by
  obtain⟨o',es',ep',ho',r'⟩:=hm;rw[ho] at ho';cases ho';exact⟨_,es',ep',hL,r'⟩) hok hg
theorem Inv.turned {t':Nat}{it:Addr} (I:Inv X pins σ H s) (k:∀ b o,b≠it->s.heap.get? b=some o->h'.get? b=some o) (hn:H it=none) (hL:it≠X.env.locals)
  (h1:it∈X.ex\/X.s₀.heap.objs.size<=it) (h2:∀ x c,X.env.cells.lookup x=some c->c≠it) (h3:∀ p∈X.pn++pins,p.1≠it):Inv X pins σ H { s with heap:=h',toks:=t' }:=by
 have nit:∀ b u,H b=some u->b≠it:=λ b u e z=>by rw[z,hn] at e;cases e
 refine I.step (g':=s.gens) (d':=s.drawn) (ch:=[it]) (λ b hb=>?_) (λ b o _ _ hc e _=>k b o (λ z=>hc (by simp [z])) e) (λ b o _ _ hc e _=>⟨o.slots,k b o (λ z=>hc (by simp [z])) e⟩) (λ _ _ _ _ n=>n)
  (λ b o hc e=>⟨o,k b o (λ z=>hc (by simp [z])) e⟩) (λ _ _ e=>e) (λ _ _ _ e=>e) (λ b ps e=>⟨#[],by rw[e];simp⟩) (λ m hm=>?_) (λ b u e=>?_) I.bare
 ·have e:b=it:=by simpa using hb
  subst e;exact⟨h1,hL,h2,h3⟩
 ·obtain⟨o,es,ep,ho,r⟩:=hm;exact⟨o,es,ep,k _ o (Ne.symm hL) ho,r⟩
 ·refine (I.hok b u e).stay (λ c v hc q=>k c v ?_ q) (λ _ q=>q) λ _ _ q=>q;rcases hc with z | z
  ·rw[z];exact nit b u e
  ·exact nit c _ z
theorem Inv.tok (I:Inv X pins σ H s) (t:Nat):Inv X pins σ H { s with toks:=t }:=I.un (h':=s.heap) (t':=t) Un.refl I.hok
theorem Inv.kept {t':Nat} (I:Inv X pins σ H s) (k:∀ b u,s.heap.get? b=some u->h'.get? b=some u):Inv X pins σ H { s with heap:=h',toks:=t' }:=I.un (Un.kept k) (I.hok.kept k)
theorem Inv.laid {a:Addr}{o:HO}{t':Nat} (I:Inv X pins σ H s) (k:∀ b u,s.heap.get? b=some u->h'.get? b=some u) (hp:s.heap.objs.size<=a) (new:cY X.prog X.w (upd H a o) h' a o) :
  Inv X pins σ (upd H a o) { s with heap:=h',toks:=t' }:=I.un (Un.laid k hp (I.hok.fresh hp)) (I.hok.laid k hp new)
theorem Inv.write {x e:Addr}{o:HO}{t':Nat} (I:Inv X pins σ H s) (mu:wF (H x)) (he:e=x\/H e=some (.own x)) (k:∀ b u,b≠e->s.heap.get? b=some u->h'.get? b=some u) (heo:∃ u,h'.get? e=some u)
  (new:cY X.prog X.w (upd H x o) h' x o):Inv X pins σ (upd H x o) { s with heap:=h',toks:=t' }:=I.un (Un.write mu he k heo) (I.hok.write mu he k heo new)
theorem Inv.pins_of {pins':List (Addr×Obj)} (I:Inv X pins σ H s) (h:∀ p∈pins',s.heap.get? p.1=some p.2/\H p.1=none/\p.1≠X.env.locals/\p.1∉X.fs/\∀ v,p.2.data≠.cell v):Inv X pins' σ H s:=
 ⟨I.ok,I.os,I.bare,I.base,I.loc,I.cell,I.free,I.freeC,λ p hp=>(aba.mp hp).elim (λ z=>I.pin p (abq _ z)) (h p),I.hok,I.len⟩
theorem pO {N:List Str} (hN:N.Nodup) {i j:Nat}{x:Str} (a:N[i]? = some x) (b:N[j]? = some x):i=j:=by
 obtain⟨h1,e1⟩:=aai.mp a;obtain⟨h2,e2⟩:=aai.mp b;exact (List.getElem_inj hN).mp (e1.trans e2.symm)
theorem qR {M:Model}{A:Around}{E:Value->Shared->Prop}{i:Nat}{x:Str}{v:V}{u:Value}{Q:Unit->Shared->Prop} (I:Inv X pins σ H s) (hN:X.N.Nodup) (hi:X.N[i]? = some x) (hx:JP X.env.scope x) (r:bF v u)
  (h:∀ s',Inv X pins (σ.set i (some v)) H s'->(∃ a,Heap.SameBut a s.heap s'.heap/\(a=X.env.locals\/X.env.cells.lookup x=some a))->Q () s') (hf:X.fn x=true\/X.env.scope.names.lookup x=some .local:=by with_unfolding_all first | exact .inl rfl | exact .inr rfl | assumption):wpAny M A (storeName X.env x u) Q E s:=by
 obtain⟨m,hn,hl⟩:=id I.loc;have hcls:(X.env.scope.kind == .class || (X.env.scope.kind == .module && X.env.locals != X.env.globals))=false:=by rw[I.ok.kind];rfl
 have bp:i < σ.length:=by rw[I.len];exact (aai.mp hi).1
 have cne:=I.cne;have tracked:∀ {a:Addr}{h':Heap},(∃ o,s.heap.get? a=some o/\H a=none)->Heap.SameBut a s.heap h'->lI X.prog X.w H h':=λ {a h'} ha hs b ob e=>by
  obtain⟨_,_,hfree⟩:=ha;refine (I.hok b ob e).stay (λ c w' hc q=>(hs.2 c ?_).trans q) (λ _ q=>q) λ _ _ q=>q;rintro rfl;rcases hc with rfl | hc
  ·rw[hfree] at e;cases e
  ·rw[hfree] at hc;cases hc
 rcases hx with hk | hk
 ·refine wpAny_storeName_local hk hn (λ h' hn' hs=>?_) hcls;obtain⟨oL,_,_,hoL,_⟩:=id hn;refine h _ ⟨I.ok,I.os,I.bare,⟨λ b o e n hb hx=>?_,λ b o e n hb hx=>?_,I.base.free,λ b o e hx=>?_,I.base.tups,I.base.frzs,I.base.tbls⟩,⟨_,hn',λ j y v' e1 e2 e3=>?_⟩,λ y c e=>?_,I.free,I.freeC,λ p hp=>?_,tracked ⟨oL,hoL,I.free⟩ hs,by simpa using I.len⟩ ⟨_,hs,.inl rfl⟩
  ·exact (hs.2 b (abi (aan (aal e) I.ok.above))).trans (I.base.keep b o e n hb hx)
  ·obtain⟨sl,e1⟩:=I.base.slot b o e n hb hx;exact⟨sl,(hs.2 b (abi (aan (aal e) I.ok.above))).trans e1⟩
  ·obtain⟨o',e1⟩:=I.base.there b o e hx;exact⟨o',(hs.2 b (abi (aan (aal e) I.ok.above))).trans e1⟩
  ·by_cases hj:j=i
   ·subst hj;rw[hi] at e1;cases e1;rw[acm bp] at e2;cases e2;exact⟨u,r,.inl ⟨hk,by simp⟩⟩
   ·rw[acq (Ne.symm hj)] at e2;obtain⟨u',r',q⟩:=hl j y v' e1 e2 e3;refine⟨u',r',?_⟩;rcases q with ⟨k,e⟩ | ⟨k,c,e,z⟩
    ·refine .inl ⟨k,?_⟩;have:y≠x:=λ e=>hj (pO hN e1 (e ▸ hi));simp [this,e]
    ·exact .inr ⟨k,c,e,z.sameBut hs (cne y c e)⟩
  ·obtain⟨w',z⟩:=I.cell y c e;exact⟨w',z.sameBut hs (cne y c e)⟩
  ·obtain⟨e,n,ne,nf,d⟩:=I.pin p hp;exact⟨(hs.2 p.1 ne).trans e,n,ne,nf,d⟩
 ·have hfn:X.fn x=true:=by
   rcases hf with z | z
   ·exact z
   ·rw[z] at hk;cases hk
  obtain⟨c,hc⟩:=I.ok.has x (.inl hk);obtain⟨w',z⟩:=I.cell x c hc;refine wpAny_storeName_cell I.ok.kind hk hc z (λ h' hc' hs=>?_);obtain⟨oc,hoc,hocd⟩:=id z;refine h { s with heap:=h' } ⟨I.ok,I.os,I.bare,⟨λ b o e n hb hx=>?_,λ b o e n hb hx=>?_,I.base.free,λ b o e hx=>?_,I.base.tups,I.base.frzs,I.base.tbls⟩,⟨m,hn.sameBut hs (Ne.symm (cne x c hc)),λ j y v' e1 e2 e3=>?_⟩,λ y c' e=>?_,I.free,I.freeC,λ p hp=>?_,tracked ⟨oc,hoc,I.freeC x c hc⟩ hs,by simpa using I.len⟩ ⟨c,hs,.inr hc⟩
  ·exact (hs.2 b (abi (aan (aal e) (I.ok.cab x c hfn hc)))).trans (I.base.keep b o e n hb hx)
  ·obtain⟨sl,e1⟩:=I.base.slot b o e n hb hx;exact⟨sl,(hs.2 b (abi (aan (aal e) (I.ok.cab x c hfn hc)))).trans e1⟩
  ·obtain⟨o',e1⟩:=I.base.there b o e hx;exact⟨o',(hs.2 b (abi (aan (aal e) (I.ok.cab x c hfn hc)))).trans e1⟩
  ·by_cases hj:j=i
   ·subst hj;rw[hi] at e1;cases e1;rw[acm bp] at e2;cases e2;exact⟨u,r,.inr ⟨.inl hk,c,hc,hc'⟩⟩
   ·rw[acq (Ne.symm hj)] at e2;obtain⟨u',r',q⟩:=hl j y v' e1 e2 e3;refine⟨u',r',?_⟩;rcases q with q | ⟨k,c',e,z'⟩
    ·exact .inl q
    ·refine .inr ⟨k,c',e,z'.sameBut hs ?_⟩;rintro rfl;exact hj (pO hN e1 (I.ok.inj _ _ _ e hc ▸ hi))
  ·by_cases hcc:c'=c
   ·subst hcc;exact⟨_,hc'⟩
   ·obtain⟨w2,z2⟩:=I.cell y c' e;exact⟨w2,z2.sameBut hs hcc⟩
  ·obtain⟨e,n,ne,nf,d⟩:=I.pin p hp;refine⟨(hs.2 p.1 ?_).trans e,n,ne,nf,d⟩;intro q;rw[q,hoc] at e;have q':oc=p.2:=abm e;exact d w' (by rw[<- q'];exact hocd)
theorem iP {M:Model}{A:Around}{E:Value->Shared->Prop}{i:Nat}{x:Str}{v:V}{u:Value}{Q:Unit->Shared->Prop} (I:Inv X pins σ H s) (hN:X.N.Nodup) (hi:X.N[i]? = some x) (hx:JP X.env.scope x) (r:bF v u)
  (h:∀ s',Inv X pins (σ.set i (some v)) H s'->Q () s') (hf:X.fn x=true\/X.env.scope.names.lookup x=some .local:=by with_unfolding_all first | exact .inl rfl | exact .inr rfl | assumption):wpAny M A (storeName X.env x u) Q E s:=
 qR I hN hi hx r (λ s' I' _=>h s' I') hf
theorem Inv.call' {s':Shared}{ch:List Addr} (I:Inv X pins σ H s) (ho:s'.os=s.os) (u:Un (lH X.stack) ch H H' s.heap s'.heap) (hok:lI X.prog X.w H' s'.heap) (hg:AllBare s'.gens)
  (hch:∀ b∈ch,(b∈X.ex\/X.s₀.heap.objs.size<=b)/\b≠X.env.locals/\(∀ x c,X.env.cells.lookup x=some c->c≠b)/\∀ p∈X.pn++pins,p.1≠b):Inv X pins σ H' s':=by
 obtain⟨h',g',d',t',o'⟩:=s';have e:o'=s.os:=ho;subst e;exact I.call (g':=g') (t':=t') (d':=d') u hok hg hch
end
abbrev XK:=Value->Option Addr->Hp->Prop
abbrev St:=List (Option V)
abbrev VK:=V->Hp->Prop
abbrev TE:=St->Hp->VK->Prop
abbrev TT:=St->Hp->(Bool->Hp->Prop)->Prop
abbrev TA:=St->Hp->(List V->Hp->Prop)->Prop
structure Ends where
 nx:St->Hp->Prop
 rt:VK
 bk:St->Hp->Prop:=λ _ _=>False
 ct:St->Hp->Prop:=λ _ _=>False
abbrev TS:=Ends->St->Hp->Prop
def EP (X:Cx) (pins:List (Addr×Obj)) (σ:St) (Q:VK) (u:Value) (s':Shared):Prop:=∃ v H',Inv X pins σ H' s'/\bF v u/\Q v H'
def TP (X:Cx) (pins:List (Addr×Obj)) (σ:St) (Q:Bool->Hp->Prop) (b:Bool) (s':Shared):Prop:=∃ H',Inv X pins σ H' s'/\Q b H'
def AP (X:Cx) (pins:List (Addr×Obj)) (σ:St) (Q:List V->Hp->Prop) (us:List Value) (s':Shared):Prop:=∃ vs H',Inv X pins σ H' s'/\bA vs us/\Q vs H'
def SP (X:Cx) (pins:List (Addr×Obj)) (D:Ends) (f:Flow) (s':Shared):Prop:=
 match f with
 | .next=>∃ aa H',Inv X pins aa H' s'/\D.nx aa H'
 | .brk=>∃ aa H',Inv X pins aa H' s'/\D.bk aa H'
 | .cont=>∃ aa H',Inv X pins aa H' s'/\D.ct aa H'
 | .ret u=>∃ v aa H',Inv X pins aa H' s'/\bF v u/\D.rt v H'
def PE (X:Cx) (e:Expr) (t:TE):Prop:=
 ∀ (pins:List (Addr×Obj)) (s:Shared) (σ:St) (H:Hp) (Q:VK),Inv X pins σ H s->t σ H Q->wpAny (model X.prog X.w) X.A (eval e X.env) (EP X pins σ Q) X.xe s
def PT (X:Cx) (e:Expr) (t:TT):Prop:=
 ∀ (pins:List (Addr×Obj)) (s:Shared) (σ:St) (H:Hp) (Q:Bool->Hp->Prop),Inv X pins σ H s->t σ H Q->wpAny (model X.prog X.w) X.A (isTrue e X.env (eval e X.env)) (TP X pins σ Q) X.xe s
def PW (X:Cx) (e:Expr) (t:TT):Prop:=
 ∀ (whole:Sem Value) (pins:List (Addr×Obj)) (s:Shared) (σ:St) (H:Hp) (Q:Bool->Hp->Prop),Inv X pins σ H s->t σ H Q->wpAny (model X.prog X.w) X.A (isTrue e X.env whole) (TP X pins σ Q) X.xe s
theorem PW.pt {X:Cx}{e:Expr}{t:TT} (h:PW X e t):PT X e t:=h _
def PA (X:Cx) (es:List Expr) (t:TA):Prop:=
 ∀ (pos:Pos) (pins:List (Addr×Obj)) (s:Shared) (σ:St) (H:Hp) (Q:List V->Hp->Prop),Inv X pins σ H s->t σ H Q->wpAny (model X.prog X.w) X.A (spliced (backTo pos (starEach es X.env))) (AP X pins σ Q) X.xe s
def PS (X:Cx) (st:Stmt) (t:TS):Prop:=
 ∀ (pins:List (Addr×Obj)) (s:Shared) (σ:St) (H:Hp) (D:Ends),Inv X pins σ H s->t D σ H->wpAny (model X.prog X.w) X.A (exec st X.env) (SP X pins D) X.xe s
def xR (X:Cx) (st:List Stmt) (t:TS):Prop:=
 ∀ (pins:List (Addr×Obj)) (s:Shared) (σ:St) (H:Hp) (D:Ends),Inv X pins σ H s->t D σ H->wpAny (model X.prog X.w) X.A (execs st X.env) (SP X pins D) X.xe s
theorem dF {ae:Type}{t:Sem ae}{Q Q':ae->Shared->Prop}{M:Model}{A:Around}{E:Value->Shared->Prop}{s:Shared} (h:wpAny M A t Q E s) (hQ:∀ a s,Q a s->Q' a s):wpAny M A t Q' E s:=abo h hQ λ _ _ x=>x
section
variable {X:Cx}
def cD (i:Nat):TE:=λ σ H Q=>∃ v,σ[i]? = some (some v)/\Q v H
def tC (v:V):TE:=λ _ H Q=>Q v H
theorem IC {i:Nat}{x:Str}{pos:Pos} (hN:X.N[i]? = some x) (hv:Vis X.env.scope x) (hd:(x == ("__debug__" : Str))=false:=by decide) (hcd:(x == ("__classdict__" : Str))=false:=by decide):PE X (.Name x pos) (cD i):=by
 intro pins s σ H Q I h;obtain⟨v,e,h⟩:=h;obtain⟨m,hn,hl⟩:=I.loc;obtain⟨u,r,l⟩:=hl i x v hN e hv;have fin:EP X pins σ Q u s:=⟨v,H,I,r,h⟩;rcases l with ⟨hk,hm⟩ | ⟨hk,c,hc,hcell⟩
 ·exact wpAny_Name (wpAny_loadName_local I.ok.kind hk hn hm fin) hd
 ·rcases hk with hk | hk
  ·exact wpAny_Name (wpAny_loadName_cell I.ok.kind hk hc hcell fin) hd
  ·exact wpAny_Name (wpAny_loadName_free I.ok.kind hk hc hcell fin hcd) hd
theorem aF {i j pos}:PE X (.Constant (.int i) j pos) (tC (.int i)):=λ _ _ _ H _ I h=>wpAny_Constant_int ⟨.int i,H,I.tok _,⟨_,rfl⟩,h⟩
theorem cX {b j pos}:PE X (.Constant (.bool b) j pos) (tC (.bl b)):=λ _ _ _ H _ I h=>Constant_bool ⟨.bl b,H,I,rfl,h⟩
theorem d8 {j pos}:PE X (.Constant .none j pos) (tC .non):=λ _ _ _ H _ I h=>Constant_none ⟨.non,H,I,rfl,h⟩
theorem aI {x j pos}:PE X (.Constant (.str x) j pos) (tC (.str x)):=λ _ _ _ H _ I h=>Calls.Constant_str ⟨.str x,H,I.tok _,⟨_,rfl⟩,h⟩
def Gl (X:Cx) (x:Str):Prop:=X.env.kindOf x=some .globalImplicit
theorem mK {E:Value->Shared->Prop}{pins:List (Addr×Obj)}{s:Shared}{σ:St}{H:Hp}{x:Str}{u:Value}{pos:Pos}{Q:Value->Shared->Prop} (I:Inv X pins σ H s) (hg:Gl X x) (hm:X.mg x=some u) (h:Q u s)
  (hd:(x == ("__debug__" : Str))=false:=by decide):wpAny (model X.prog X.w) X.A (eval (.Name x pos) X.env) Q E s:=
 Calls.Name_function_global I.ok.kind hg (Calls.loadGlobal_global (by rw[I.ok.glob];exact I.mod.glob.keeps I.bk) hm h) hd
theorem pS {E:Value->Shared->Prop}{pins:List (Addr×Obj)}{s:Shared}{σ:St}{H:Hp}{x:Str}{u:Value}{pos:Pos}{Q:Value->Shared->Prop} (I:Inv X pins σ H s) (hg:Gl X x) (hm:X.mg x=none) (hv:bootBuiltins x=some u) (h:Q u s)
  (hn:x ≠ "__name__" := by decide) (hd:(x == ("__debug__" : Str))=false:=by decide):wpAny (model X.prog X.w) X.A (eval (.Name x pos) X.env) Q E s:=by
 obtain⟨mb,h1,h2⟩:=I.mod.blt;exact Calls.Name_function_global I.ok.kind hg (Calls.loadGlobal_builtin (by rw[I.ok.glob];exact I.mod.glob.keeps I.bk) hm (by rw[I.ok.blt];exact h1.keeps I.bk) ((h2 x hn).trans hv) h) hd
theorem EL {x:Str}{v:V}{u:Value}{pos:Pos} (hg:Gl X x) (hm:X.mg x=some u) (r:bF v u) (hd:(x == ("__debug__" : Str))=false:=by decide):PE X (.Name x pos) (tC v):=
 λ _ _ _ H _ I h=>mK I hg hm ⟨v,H,I,r,h⟩ hd
theorem cJ {x:Str}{v:V}{u:Value}{pos:Pos} (hg:Gl X x) (hm:X.mg x=none) (hv:bootBuiltins x=some u) (r:bF v u) (hn:x ≠ "__name__" := by decide) (hd:(x == ("__debug__" : Str))=false:=by decide):PE X (.Name x pos) (tC v):=
 λ _ _ _ H _ I h=>pS I hg hm hv ⟨v,H,I,r,h⟩ hn hd
variable {a b:Expr}{ta tb:TE}{pos:Pos}
def tB (t:TE):TT:=λ σ H Q=>t σ H λ x H1=>∃ c,x=.bl c/\Q c H1
theorem bG {e:Expr}{t:TE} (h:PE X e t) (he:∀ whole,isTrue e X.env whole=(do let v <- whole;standAt e.pos;holding [v] (truthy v)):=by intro _;with_unfolding_all rfl):PT X e (tB t):=by
 intro pins s σ H Q I hw;refine isTrue_plain (dF (h pins s σ H _ I hw) λ v s1 ⟨x,H1,I1,r1,q1⟩=>?_) (he _);obtain⟨d,rfl,q⟩:=q1;cases r1;exact wpAny_truthy_bool ⟨H1,I1,q⟩
variable {tA tB':TT}{rest:List Expr}
def HE (t u:TT):TT:=λ σ H Q=>t σ H λ c H1=>if c=true then u σ H1 Q else Q false H1
def tOr (t u:TT):TT:=λ σ H Q=>t σ H λ c H1=>if c=true then Q true H1 else u σ H1 Q
def tNot (t:TT):TT:=λ σ H Q=>t σ H λ c H1=>Q (!c) H1
theorem jP (ha:PT X a tA):PW X (.BoolOp .And [a] pos) tA:=by
 intro wh pins s σ H Q I h;refine isTrue_and (dF (ha pins s σ H Q I h) λ c s1 e=>?_);cases c with
 | true=>exact isTrue_and_nil e
 | false=>exact e
theorem cQ (ha:PT X a tA):PW X (.BoolOp .Or [a] pos) tA:=by
 intro wh pins s σ H Q I h;refine isTrue_or (dF (ha pins s σ H Q I h) λ c s1 e=>?_);cases c with
 | false=>exact isTrue_or_nil e
 | true=>exact e
theorem nA (ha:PT X a tA) (hb:PW X (.BoolOp .And (b::rest) pos) tB'):PW X (.BoolOp .And (a::b::rest) pos) (HE tA tB'):=by
 intro wh pins s σ H Q I h;refine isTrue_and (dF (ha pins s σ H _ I h) λ c s1 ⟨H1,I1,q1⟩=>?_);cases c with
 | true=>exact hb wh pins s1 σ H1 Q I1 q1
 | false=>exact⟨H1,I1,q1⟩
theorem d4 (ha:PT X a tA) (hb:PW X (.BoolOp .Or (b::rest) pos) tB'):PW X (.BoolOp .Or (a::b::rest) pos) (tOr tA tB'):=by
 intro wh pins s σ H Q I h;refine isTrue_or (dF (ha pins s σ H _ I h) λ c s1 ⟨H1,I1,q1⟩=>?_);cases c with
 | true=>exact⟨H1,I1,q1⟩
 | false=>exact hb wh pins s1 σ H1 Q I1 q1
theorem bI (ha:PT X a tA):PT X (.UnaryOp .Not a pos) (tNot tA):=by
 intro pins s σ H Q I h;exact isTrue_not (ha pins s σ H (λ c H1=>Q (!c) H1) I h)
def K7 (ta tb:TE):TE:=λ σ H Q=>ta σ H λ x H1=>∃ c,x=.bl c/\if c=true then tb σ H1 Q else Q (.bl false) H1
def tOrV (ta tb:TE):TE:=λ σ H Q=>ta σ H λ x H1=>∃ c,x=.bl c/\if c=true then Q (.bl true) H1 else tb σ H1 Q
def GB (ta:TE):TE:=λ σ H Q=>ta σ H λ x H1=>∃ c,x=.bl c/\Q (.bl (!c)) H1
theorem gA {op}{t:TE} (h:PE X a t):PE X (.BoolOp op [a] pos) t:=λ pins s σ H Q I hw=>BoolOp_one (h pins s σ H Q I hw)
theorem eL (ha:PE X a ta) (hb:PE X (.BoolOp .And (b::rest) pos) tb):PE X (.BoolOp .And (a::b::rest) pos) (K7 ta tb):=by
 intro pins s σ H Q I h;refine BoolOp_and (dF (ha pins s σ H _ I h) λ v s1 ⟨x,H1,I1,r1,q1⟩=>?_);obtain⟨c,rfl,q1⟩:=q1;cases r1;refine wpAny_truthy_bool ?_;cases c with
 | true=>exact hb pins s1 σ H1 Q I1 q1
 | false=>exact⟨.bl false,H1,I1,rfl,q1⟩
theorem BE (ha:PE X a ta) (hb:PE X (.BoolOp .Or (b::rest) pos) tb):PE X (.BoolOp .Or (a::b::rest) pos) (tOrV ta tb):=by
 intro pins s σ H Q I h;refine BoolOp_or (dF (ha pins s σ H _ I h) λ v s1 ⟨x,H1,I1,r1,q1⟩=>?_);obtain⟨c,rfl,q1⟩:=q1;cases r1;refine wpAny_truthy_bool ?_;cases c with
 | false=>exact hb pins s1 σ H1 Q I1 q1
 | true=>exact⟨.bl true,H1,I1,rfl,q1⟩
theorem wY (ha:PE X a ta):PE X (.UnaryOp .Not a pos) (GB ta):=by
 intro pins s σ H Q I h;refine UnaryOp_ (dF (ha pins s σ H _ I h) λ v s1 ⟨x,H1,I1,r1,q1⟩=>?_);obtain⟨c,rfl,q1⟩:=q1;cases r1;exact not_of (wpAny_truthy_bool ⟨.bl (!c),H1,I1,rfl,q1⟩)
def tIf (t:TT) (ta tb:TE):TE:=λ σ H Q=>t σ H λ c H1=>if c=true then ta σ H1 Q else tb σ H1 Q
theorem jC {c:Expr} (hc:PT X c tA) (ha:PE X a ta) (hb:PE X b tb):PE X (.IfExp c a b pos) (tIf tA ta tb):=by
 intro pins s σ H Q I h;refine wpAny_IfExp (dF (hc pins s σ H _ I h) λ d s1 ⟨H1,I1,q1⟩=>?_);cases d with
 | true=>exact ha pins s1 σ H1 Q I1 q1
 | false=>exact hb pins s1 σ H1 Q I1 q1
end
def bO (K:aaa) (H:Hp) (a:Addr) (xs:List V):Prop:=
 Rd H a (.lst xs)\/
  ∃ (o:Obj) (its:Array Value) (n:Nat),K.lookup a=some o/\o.cls=.type "list" /\ o.dict=none/\o.data=.seq its n/\its.size<=sizeLine/\bA xs its.toList
def bU (K:aaa) (H:Hp) (a:Addr) (xs:List V):Prop:=
 Rd H a (.tup xs)\/
  ∃ (o:Obj) (its:Array Value) (n:Nat),K.lookup a=some o/\o.cls=.type "tuple" /\ o.data=.seq its n/\its.size<=sizeLine/\bA xs its.toList
def absV:Value->Option V
 | .none=>some .non
 | .bool b=>some (.bl b)
 | .int i _=>some (.int i)
 | .str x _=>some (.str x)
 | .bytes b _=>some (.byt b)
 | .float b _=>some (.flt b)
 | .ref a=>some (.ref a)
 | .type n=>some (.ty n)
 | _=>none
theorem bF.abs {x:V}{u:Value} (r:bF x u):absV u=some x:=by
 cases x with
 | non=>cases r;rfl
 | bl _=>cases r;rfl
 | int _=>obtain⟨t,rfl⟩:=r;rfl
 | str _=>obtain⟨t,rfl⟩:=r;rfl
 | byt _=>obtain⟨t,rfl⟩:=r;rfl
 | flt _=>obtain⟨t,rfl⟩:=r;rfl
 | ref _=>cases r;rfl
 | ty _=>cases r;rfl
theorem bF.inj {x y:V}{u:Value} (r:bF x u) (q:bF y u):x=y:=abm (r.abs.symm.trans q.abs)
theorem bA.inj:∀ {xs ys:List V}{us:List Value},bA xs us->bA ys us->xs=ys
 | _,_,_,.nil,.nil=>rfl
 | _,_,_,.cons r t,.cons r' t'=>by rw[r.inj r',bA.inj t t']
section
variable {X:Cx}{pins:List (Addr×Obj)}{σ:St}{H:Hp}{s:Shared}{a:Addr}{xs ys:List V}
theorem bO.of {K:aaa} (h:H a=some (.lst xs)):bO K H a xs:=.inl (.inl h)
theorem bU.of {K:aaa} (h:H a=some (.tup xs)):bU K H a xs:=.inl (.inl h)
theorem Inv.list (I:Inv X pins σ H s) (h:bO X.K H a xs):∃ its:List Value,bA xs its/\PlainL s.heap a its.toArray/\xs.length<=sizeLine:=by
 rcases h with h | ⟨o,its,n,hk,hc,hd,hs,hz,r⟩
 ·obtain⟨z,its,n,r,e⟩:=h.ok I.hok;exact⟨its,r,⟨_,n,e,rfl,rfl,rfl⟩,z⟩
 ·refine⟨its.toList,r,⟨o,n,I.kIn a o hk,hc,hd,by simpa using hs⟩,?_⟩;have e:=r.length;simp only [Array.length_toList] at e;omega
theorem Inv.tuple (I:Inv X pins σ H s) (h:bU X.K H a xs):∃ its:List Value,bA xs its/\IsTup s.heap a its.toArray/\xs.length<=sizeLine:=by
 rcases h with h | ⟨o,its,n,hk,hc,hs,hz,r⟩
 ·obtain⟨z,its,r,p⟩:=h.ok I.hok;exact⟨its,r,p,z⟩
 ·refine⟨its.toList,r,⟨o,I.kIn a o hk,hc,n,by simpa using hs⟩,?_⟩;have e:=r.length;simp only [Array.length_toList] at e;omega
theorem Inv.list_inj (I:Inv X pins σ H s) (h:bO X.K H a xs) (h':bO X.K H a ys):xs=ys:=by
 obtain⟨its,r,⟨o,n,e,_,_,d⟩,_⟩:=I.list h;obtain⟨its',r',⟨o',n',e',_,_,d'⟩,_⟩:=I.list h';rw[e] at e';cases e';rw[d] at d';injection d' with d1 _;have:its=its':=by simpa using congrArg Array.toList d1
 subst this;exact r.inj r'
theorem Inv.tuple_inj (I:Inv X pins σ H s) (h:bU X.K H a xs) (h':bU X.K H a ys):xs=ys:=by
 obtain⟨its,r,⟨o,e,_,n,d⟩,_⟩:=I.tuple h;obtain⟨its',r',⟨o',e',_,n',d'⟩,_⟩:=I.tuple h';rw[e] at e';cases e';rw[d] at d';injection d' with d1 _;have:its=its':=by simpa using congrArg Array.toList d1
 subst this;exact r.inj r'
end
abbrev Cx.wish (X:Cx) (E:Value->Shared->Prop):Cx:={ X with xe:=E }
abbrev Cx.nox (X:Cx):Cx:=X.wish λ _ _=>False
theorem Cx.Ok.wish {X:Cx} (ok:X.Ok) (E:Value->Shared->Prop):(X.wish E).Ok:=
 ⟨ok.mod,ok.kind,ok.glob,ok.blt,ok.above,ok.inj,ok.has,ok.cab,ok.hd,ok.frames,ok.stk,ok.exf,ok.bs,ok.bsz,ok.noex,ok.exfs,ok.funs,ok.frf⟩
theorem Cx.Ok.unwish {X:Cx}{E:Value->Shared->Prop} (ok:(X.wish E).Ok):X.Ok:=
 ⟨ok.mod,ok.kind,ok.glob,ok.blt,ok.above,ok.inj,ok.has,ok.cab,ok.hd,ok.frames,ok.stk,ok.exf,ok.bs,ok.bsz,ok.noex,ok.exfs,ok.funs,ok.frf⟩
section
variable {X:Cx}{pins:List (Addr×Obj)}{σ:St}{H:Hp}{s:Shared}{E:Value->Shared->Prop}
theorem Inv.wish (I:Inv X pins σ H s) (E:Value->Shared->Prop):Inv (X.wish E) pins σ H s:=⟨I.ok.wish E,I.os,I.bare,I.base,I.loc,I.cell,I.free,I.freeC,I.pin,I.hok,I.len⟩
theorem Inv.unwish (I:Inv (X.wish E) pins σ H s):Inv X pins σ H s:=⟨I.ok.unwish,I.os,I.bare,I.base,I.loc,I.cell,I.free,I.freeC,I.pin,I.hok,I.len⟩
theorem SP.unwish {D:Ends}{f:Flow}{s':Shared} (h:SP (X.wish E) pins D f s'):SP X pins D f s':=by
 cases f with
 | next=>obtain⟨aa,H',I,q⟩:=h;exact⟨aa,H',I.unwish,q⟩
 | brk=>obtain⟨aa,H',I,q⟩:=h;exact⟨aa,H',I.unwish,q⟩
 | cont=>obtain⟨aa,H',I,q⟩:=h;exact⟨aa,H',I.unwish,q⟩
 | ret u=>obtain⟨v,aa,H',I,r,q⟩:=h;exact⟨v,aa,H',I.unwish,r,q⟩
theorem xR.nox {st:List Stmt}{t:TS} (h:xR X.nox st t):xR X st t:=λ pins s σ H D I hw=>
 abo (h pins s σ H D (I.wish _) hw) (λ _ _ q=>q.unwish) λ _ _ z=>False.elim z
end
section
variable {X:Cx}{st:Stmt}{rest:List Stmt}{t u:TS}{e:Expr}{te:TE}{pos:Pos}
def bL:TS:=λ D σ H=>D.nx σ H
def fB (t u:TS):TS:=λ D σ H=>t { D with nx:=u D } σ H
theorem aS:xR X [] bL:=λ _ _ σ H _ I h=>wpAny_execs_nil ⟨σ,H,I,h⟩
theorem aE (h1:PS X st t) (h2:xR X rest u):xR X (st::rest) (fB t u):=by
 intro pins s σ H D I h;refine wpAny_execs_cons (dF (h1 pins s σ H { D with nx:=u D } I h) λ f s1 q=>?_);cases f with
 | next=>
  obtain⟨aa,H',I',q⟩:=q;exact h2 pins s1 aa H' D I' q
 | ret v=>exact q
 | brk=>exact q
 | cont=>exact q
theorem aH (h1:PS X st t):xR X [st] t:=by
 intro pins s σ H D I h;refine wpAny_execs_cons (dF (h1 pins s σ H D I h) λ f s1 q=>?_);cases f with
 | next=>exact wpAny_execs_nil q
 | ret v=>exact q
 | brk=>exact q
 | cont=>exact q
theorem Inv.quiet {pins:List (Addr×Obj)}{σ:St}{H:Hp}{s:Shared} (I:Inv X pins σ H s):interactive X.env=false:=by simp [interactive,I.ok.kind]
def GC (te:TE):TS:=λ D σ H=>te σ H λ _ H1=>D.nx σ H1
theorem dG (he:PE X e te) (hs:swapsWith e none pos.line X.env=pure false:=by with_unfolding_all rfl):PS X (.Expr e pos) (GC te):=by
 intro pins s σ H D I h;exact wpAny_Expr_any (dF (he pins s σ H _ I h) λ v s1 ⟨x,H1,I1,r1,q1⟩=>⟨σ,H1,I1,q1⟩) I.quiet hs
def HB (te:TE):TS:=λ D σ H=>te σ H D.rt
theorem aM (he:PE X e te):PS X (.Return (some e) pos) (HB te):=by
 intro pins s σ H D I h;exact wpAny_Return_some (dF (he pins s σ H _ I h) λ v s1 ⟨x,H1,I1,r1,q1⟩=>⟨x,σ,H1,I1,r1,q1⟩)
def AS (c:TT) (t u:TS):TS:=λ D σ H=>c σ H λ b H1=>if b=true then t D σ H1 else u D σ H1
theorem bC {c:Expr}{a b:List Stmt}{tc:TT} (hc:PT X c tc) (ha:xR X a t) (hb:xR X b u):PS X (.If c a b pos) (AS tc t u):=by
 intro pins s σ H D I h;refine wpAny_If (dF (hc pins s σ H _ I h) λ d s1 ⟨H1,I1,q1⟩=>?_);cases d with
 | true=>exact ha pins s1 σ H1 D I1 q1
 | false=>exact hb pins s1 σ H1 D I1 q1
end
abbrev TG:=V->St->Hp->(St->Hp->Prop)->Prop
abbrev yZ:=List V->St->Hp->(St->Hp->Prop)->Prop
def PG (X:Cx) (target:Expr) (t:TG):Prop:=
 ∀ (pins:List (Addr×Obj)) (s:Shared) (σ:St) (H:Hp) (v:V) (u:Value) (Q:St->Hp->Prop),Inv X pins σ H s->bF v u->t v σ H Q->
  wpAny (model X.prog X.w) X.A (assign target X.env u) (λ _ s'=>∃ aa H',Inv X pins aa H' s'/\Q aa H') X.xe s
def DS (X:Cx) (ts:List Expr) (t:yZ):Prop:=
 ∀ (pins:List (Addr×Obj)) (s:Shared) (σ:St) (H:Hp) (vs:List V) (us:List Value) (Q:St->Hp->Prop),Inv X pins σ H s->bA vs us->t vs σ H Q->
  wpAny (model X.prog X.w) X.A (assignInOrder ((assignEach ts X.env).map (·.2)) us) (λ _ s'=>∃ aa H',Inv X pins aa H' s'/\Q aa H') X.xe s
abbrev JN:=V->V->V->Hp->(Hp->Prop)->Prop
def LS (X:Cx) (t:JN):Prop:=
 ∀ (pins:List (Addr×Obj)) (s:Shared) (σ:St) (H:Hp) (o i v:V) (ov iv u:Value) (Q:Hp->Prop),Inv X pins σ H s->bF o ov->bF i iv->bF v u->t o i v H Q->
  wpAny (model X.prog X.w) X.A (setItem ov iv u) (λ _ s'=>∃ H',Inv X pins σ H' s'/\Q H') X.xe s
section
variable {X:Cx}{pos:Pos}
def aW (i:Nat):TG:=λ v σ H Q=>Q (σ.set i (some v)) H
theorem sQ {i:Nat}{x:Str} (hN:X.N.Nodup) (hi:X.N[i]? = some x) (hx:JP X.env.scope x) (hf:X.fn x=true\/X.env.scope.names.lookup x=some .local:=by with_unfolding_all first | exact .inl rfl | exact .inr rfl | assumption):PG X (.Name x pos) (aW i):=by
 intro pins s σ H v u Q I r h;exact wpAny_assign_Name (iP I hN hi hx r (λ s' I'=>⟨_,H,I',h⟩) hf)
def LJ:yZ:=λ vs σ H Q=>vs=[]/\Q σ H
def GO (t:TG) (u:yZ):yZ:=λ vs σ H Q=>∃ v r,vs=v::r/\t v σ H λ aa H'=>u r aa H' Q
theorem bY:DS X [] LJ:=by
 intro pins s σ H vs us Q I r h;obtain⟨e,h⟩:=h;subst e;cases r;exact assignInOrder_nil ⟨σ,H,I,h⟩
theorem aJ {e:Expr}{es:List Expr}{t:TG}{u:yZ} (h1:PG X e t) (h2:DS X es u)
  (hs:(assignEach (e::es) X.env).map (·.2)=assign e X.env::(assignEach es X.env).map (·.2):=by with_unfolding_all rfl):DS X (e::es) (GO t u):=by
 intro pins s σ H vs us Q I r h;obtain⟨v,vr,e1,h⟩:=h;subst e1;cases r with
 | cons r rr=>
  rw[hs];refine assignInOrder_cons (dF (h1 pins s σ H _ _ _ I r h) λ _ s1 ⟨cy,H1,I1,q1⟩=>?_);exact h2 pins s1 cy H1 _ _ Q I1 rr q1
def LI (K:aaa) (n:Nat) (t:yZ):TG:=λ v σ H Q=>∃ a xs,v=.ref a/\bU K H a xs/\xs.length=n/\t xs σ H Q
theorem IA {es:List Expr}{k:Nat}{t:yZ}{n:Nat} (hc:X.calm=true) (h:DS X es t)
  (hn:(assignEach es X.env).length=n:=by with_unfolding_all rfl) (hst:(assignEach es X.env).findIdx? (·.1)=none:=by with_unfolding_all rfl):PG X (.Tuple es k pos) (LI X.K n t):=by
 intro pins s σ H v u Q I r hw;obtain⟨a,xs,e1,hq,hl,hw⟩:=hw;subst e1;cases r;obtain⟨its,rv,ht,hz⟩:=I.tuple hq;refine assign_Tuple_tuple (I.ok.hd hc) ht (by simp [hn,<- hl,rv.length]) hst λ h' hx=>?_;have I1:Inv X pins σ H { s with heap:=h' }:=I.kept (t':=s.toks) λ b o e=>hx b o (abi (aal e)) e;exact h pins _ σ H xs _ Q I1 (by simpa using rv) hw
def FR (to ti:TE) (t:JN):TG:=λ v σ H Q=>to σ H λ o H1=>ti σ H1 λ i H2=>t o i v H2 λ H3=>Q σ H3
theorem jB {o i:Expr}{to ti:TE}{t:JN} (ho:PE X o to) (hi:PE X i ti) (hs:LS X t)
  (ha:∀ v,assign (.Subscript o i pos) X.env v=(do
   let ov <- holding [v] (eval o X.env);let iv <- holding [v,ov] (eval i X.env)
   standAt pos
   holding [v,ov,iv] (setItem ov iv v)
   release [v,ov,iv] []):=by intro _;with_unfolding_all rfl):PG X (.Subscript o i pos) (FR to ti t):=by
 intro pins s σ H v u Q I r h;rw[ha];refine aac (abv (dF (ho pins s σ H _ I h) λ ov s1 ⟨x,H1,I1,r1,q1⟩=>?_));refine aac (abv (dF (hi pins s1 σ H1 _ I1 q1) λ iv s2 ⟨y,H2,I2,r2,q2⟩=>?_));refine aac (wpAny_standAt (aac (abv (dF (hs pins s2 σ H2 x y v ov iv u _ I2 r1 r2 r q2) λ _ s3 ⟨H3,I3,q3⟩=>?_))));exact wpAny_release ⟨σ,H3,I3,q3⟩
def iJ (te:TE) (g:TG):TS:=λ D σ H=>te σ H λ x H1=>g x σ H1 D.nx
theorem cR {tg e:Expr}{te:TE}{g:TG} (he:PE X e te) (hg:PG X tg g) (hs:swapsWithSole [tg] e pos.line X.env=pure false:=by with_unfolding_all rfl) (hw:swappedStores [tg] e X.env=pure none:=by with_unfolding_all rfl)
  (h1:(assignEach [tg] X.env).map (·.2)=[assign tg X.env]:=by with_unfolding_all rfl):PS X (.Assign [tg] e pos) (iJ te g):=by
 intro pins s σ H D I h;refine wpAny_Assign_stores (dF (he pins s σ H _ I h) λ v s1 ⟨x,H1,I1,r1,q1⟩=>?_) hs hw;rw[h1];exact dF (hg pins s1 σ H1 x v _ I1 r1 q1) λ _ s2 q=>q
theorem sO {i:Nat}{x:Str}{e:Expr}{te:TE}{pos':Pos} (hN:X.N.Nodup) (hi:X.N[i]? = some x) (hx:JP X.env.scope x) (he:PE X e te) (hs:swapsWith e (some (.Name x pos')) pos.line X.env=pure false:=by with_unfolding_all rfl) (hf:X.fn x=true\/X.env.scope.names.lookup x=some .local:=by with_unfolding_all first | exact .inl rfl | exact .inr rfl | assumption) :
  PS X (.Assign [.Name x pos'] e pos) (iJ te (aW i)):=by
 intro pins s σ H D I h;refine wpAny_Assign_Name (dF (he pins s σ H _ I h) λ v s1 ⟨y,H1,I1,r1,q1⟩=>?_) hs;exact iP I1 hN hi hx r1 (λ s2 I2=>⟨_,H1,I2,q1⟩) hf
def tPar (i j:Nat) (ta:TA):TS:=λ D σ H=>ta σ H λ vs H1=>∃ v w,vs=[v,w]/\D.nx ((σ.set i (some v)).set j (some w)) H1
theorem HX {i j:Nat}{x y:Str}{a b:Expr}{ta:TA}{px py pt:Pos}{kt k2 pt2} (hc:X.calm=true) (hN:X.N.Nodup) (hi:X.N[i]? = some x) (hj:X.N[j]? = some y) (hij:i≠j)
  (hx:X.env.scope.names.lookup x=some .local) (hy:X.env.scope.names.lookup y=some .local) (ha:PA X [a,b] ta)
  (hw:swappedStores [.Tuple [.Name x px,.Name y py] kt pt] (.Tuple [a,b] k2 pt2) X.env=pure (some [x,y]))
  (hs:swapsWithSole [.Tuple [.Name x px,.Name y py] kt pt] (.Tuple [a,b] k2 pt2) pos.line X.env=pure false:=by with_unfolding_all rfl) :
  PS X (.Assign [.Tuple [.Name x px,.Name y py] kt pt] (.Tuple [a,b] k2 pt2) pos) (tPar i j ta):=by
 intro pins s σ H D I h;rw[exec_Assign_arm];refine aac (wpAny_standAt ?_);rw[hs];refine aac (aav ?_);rw[if_neg (by decide)];refine aac (Tuple_ (dF (ha _ pins s σ H _ I h) λ us s1 ⟨vs,H1,I1,r1,q1⟩=>?_));obtain⟨v,w,e1,q1⟩:=q1;subst e1;obtain⟨u1,u2,rfl,rv,rw'⟩:∃ u1 u2,us=[u1,u2]/\bF v u1/\bF w u2:=by
  cases r1 with
  | cons p q=>
   cases q with
   | cons p' q'=>
    cases q';exact⟨_,_,rfl,p,p'⟩
 refine wpAny_newObj_type ?_ (by show 2<=sizeLine;decide);have I2:Inv X pins σ H1 { s1 with heap:=s1.heap.push { cls:=.type "tuple",data:=.seq [u1,u2].toArray } }:=I1.kept (t':=s1.toks) λ b o e=>aah _ e;rw[hw];refine aac (aav ?_);show wpAny (model X.prog X.w) X.A (do rule "assign.swapped-stores";let items <- unpackItems (.ref s1.heap.objs.size) 2 none;assignInOrder [λ v=>bindName X.env y v,λ v=>bindName X.env x v] items.reverse;pure Flow.next) _ _ _;refine aac (wpAny_rule (aac (unpackItems_tuple (items:=#[u1,u2]) (I.ok.hd hc) (IsTup.new s1.heap _) λ h' hx'=>?_)));have I3:=I2.kept (h':=h') (t':=s1.toks) λ b o e=>hx' b o (abi (aal e)) e;show wpAny _ _ (assignInOrder [λ v=>bindName X.env y v,λ v=>bindName X.env x v] [u2,u1] >>= λ _=>pure Flow.next) _ _ _;refine aac (assignInOrder_cons (wpAny_bindName (iP I3 hN hj (.inl hy) rw' (λ s2 I4=>?_) (.inr hy))));refine assignInOrder_cons (wpAny_bindName (iP I4 hN hi (.inl hx) rv (λ s3 I5=>assignInOrder_nil (aav ?_)) (.inr hx)));rw[List.set_comm _ _ (Ne.symm hij)] at I5;exact⟨_,H1,I5,q1⟩
end
structure It where
 go:Nat->Hp->Prop
 yld:Nat->Hp->V->Hp->Prop
 stop:Nat->Hp->Prop
def lG (X:Cx) (pins:List (Addr×Obj)) (H:Hp) (b:Addr):Prop:=
 H b=none/\b≠X.env.locals/\b∉X.fs/\(b∈X.ex\/X.s₀.heap.objs.size<=b)/\(∀ x c,X.env.cells.lookup x=some c->c≠b)/\∀ p∈X.pn++pins,p.1≠b
theorem Inv.fpOk {X:Cx}{pins:List (Addr×Obj)}{σ:St}{H H':Hp}{s:Shared}{b:Addr} (I:Inv X pins σ H s) (hb:s.heap.objs.size<=b) (hn:H' b=none):lG X pins H' b:=by
 refine⟨hn,Nat.ne_of_gt (aan I.lt hb),I.nofs hb,.inr (abn I.sz hb),λ x c e z=>?_,λ p hp z=>?_⟩
 ·obtain⟨v,q⟩:=I.cell x c e;exact absurd (aan q.lt (by rw[z];exact hb)) (abx _)
 ·exact absurd (aan (aal (I.pin p hp).1) (by rw[z];exact hb)) (abx _)
structure Turn (P:Program) (w:World) (K:aaa) (tg:Expr) (J:It) (fp:List Addr) (it:Addr) (tn:Nat->Heap->Prop):Prop where
 mem:it∈fp
 obj:∀ i h,tn i h->∀ b∈fp,∃ o,h.get? b=some o/\∀ v,o.data≠.cell v
 keep:∀ i h h',tn i h->(∀ b∈fp,∀ o,h.get? b=some o->h'.get? b=some o)->tn i h'
 item:∀ (X:Cx),X.prog=P->X.w=w->X.K=K->X.calm=true->∀ (i:Nat) (pins:List (Addr×Obj)) (s:Shared) (σ:St) (H:Hp) (E:Value->Shared->Prop),Inv X pins σ H s->(∀ b∈fp,lG X pins H b)->tn i s.heap->J.go i H->
  wpAny (model P w) X.A (pyNext (.ref it)) (λ r s1=>∃ u,r=some u/\
   wpAny (model P w) X.A (letOwnedTupleGo tg (.ref it) u) (λ _ s2=>∃ x H',Inv X pins σ H' s2/\bF x u/\J.yld i H x H'/\tn (i+1) s2.heap/\∀ b∈fp,H' b=none) E s1) E s
 done:∀ (X:Cx),X.prog=P->X.w=w->X.K=K->X.calm=true->∀ (i:Nat) (pins:List (Addr×Obj)) (s:Shared) (σ:St) (H:Hp) (E:Value->Shared->Prop),Inv X pins σ H s->(∀ b∈fp,lG X pins H b)->tn i s.heap->J.stop i H->
  wpAny (model P w) X.A (pyNext (.ref it)) (λ r s1=>r=none/\Inv X pins σ H s1) E s
 self:∀ (A:Around) (i:Nat) (s:Shared) (Q:Value->Shared->Prop) (E:Value->Shared->Prop),tn i s.heap->Q (.ref it) s->wpAny (model P w) A (pyIter (.ref it)) Q E s
abbrev TI:=St->Hp->(It->Hp->Prop)->Prop
def PIE (X:Cx) (pins:List (Addr×Obj)) (σ:St) (tg:Expr) (R:It->Hp->Prop) (itv:Value) (s2:Shared):Prop:=
 ∃ (it:Addr) (fp:List Addr) (tn:Nat->Heap->Prop) (J:It) (H':Hp),itv=.ref it/\Inv X pins σ H' s2/\Turn X.prog X.w X.K tg J fp it tn/\tn 0 s2.heap/\(∀ b∈fp,lG X pins H' b)/\R J H'
def PI (X:Cx) (tg iter:Expr) (wi:TI):Prop:=
 ∀ (pins:List (Addr×Obj)) (s:Shared) (σ:St) (H:Hp) (R:It->Hp->Prop),Inv X pins σ H s->wi σ H R->
  wpAny (model X.prog X.w) X.A (eval iter X.env) (λ v s1=>wpAny (model X.prog X.w) X.A (pyIter v) (PIE X pins σ tg R) X.xe s1) X.xe s
theorem D0 {M:Model}{A:Around}{E:Value->Shared->Prop}{s:Shared}{tg:Expr}{it:Addr}{u:Value}{o:Obj}{n:String}{vs:Array Value}{Q:Unit->Shared->Prop} (ho:s.heap.get? it=some o) (hc:o.cls=.type n) (hd:o.data=.fields vs)
  (hn:["enumerate","zip","dict_itemiterator","dict_reverseitemiterator","odict_iterator","itertools.zip_longest","itertools.pairwise"].contains n=false) (hQ:Q () s):wpAny M A (letOwnedTupleGo tg (.ref it) u) Q E s:=by
 unfold letOwnedTupleGo;cases tg <;> first
  | exact aav hQ
  | (cases u <;> first
    | exact aav hQ
    | (refine aac (wpAny_load ho ?_)
       rw[hc,hd];show wpAny M A (if (["enumerate","zip","dict_itemiterator","dict_reverseitemiterator","odict_iterator","itertools.zip_longest","itertools.pairwise"].contains n && vs[0]? == some (rawInt _))=true then _ else _) Q E s;rw[if_neg (by intro h;rw[hn,Bool.false_and] at h;cases h)];exact aav hQ))
def JS (K:aaa) (a:Addr):It:=
 ⟨λ i H=>∃ xs x,bO K H a xs/\xs[i]? = some x,λ i H x H'=>H'=H/\∀ xs,bO K H a xs->xs[i]? = some x,λ i H=>∃ xs,bO K H a xs/\xs.length<=i⟩
def JQ (K:aaa) (a:Addr):It:=
 ⟨λ i H=>∃ xs x,bU K H a xs/\xs[i]? = some x,λ i H x H'=>H'=H/\∀ xs,bU K H a xs->xs[i]? = some x,λ i H=>∃ xs,bU K H a xs/\xs.length<=i⟩
def JR (lo:Int) (n:Nat):It:=⟨λ i _=>i < n,λ i H x H'=>H'=H/\x=.int (lo+i),λ i _=>n<=i⟩
theorem zE {P:Program}{w:World}{K:aaa}{tg:Expr} (a it:Addr):Turn P w K tg (JS K a) [it] it (λ i h=>h.IsListIter it a i) where
 mem:=by simp
 obj:=λ i h st b hb=>by
  have e:b=it:=by simpa using hb
  subst e;obtain⟨o,e,c,d⟩:=st;exact⟨o,e,λ v z=>by rw[d] at z;cases z⟩
 keep:=λ i h h' st k=>st.at λ o e=>k it (by simp) o e
 item:=by
  intro X hP hw hK hc i pins s σ H E I hf st hg;subst hP hw hK;obtain⟨xs,x,hq,hx⟩:=hg;obtain⟨its,rv,p,hz⟩:=I.list hq;obtain⟨u,hu,ru⟩:=rv.get hx;obtain⟨f0,f1,f2,f3,f4,f5⟩:=hf it (by simp);refine wpAny_pyNext_list_item st p.isList (x:=u) (by simpa using hu) λ h' st' sb=>?_;have I1:Inv X pins σ H { s with heap:=h' }:=I.turned (t':=s.toks) (λ b o hb e=>(sb.2 b hb).trans e) f0 f1 f3 f4 f5;obtain⟨o,e,c,d⟩:=id st';exact⟨u,rfl,D0 (s:={ s with heap:=h' }) e c d (by decide) ⟨x,H,I1,ru,⟨rfl,λ ys hy=>by rw[I.list_inj hy hq];exact hx⟩,st',λ b hb=>(hf b hb).1⟩⟩
 done:=by
  intro X hP hw hK hc i pins s σ H E I hf st hg;subst hP hw hK;obtain⟨xs,hq,hx⟩:=hg;obtain⟨its,rv,p,hz⟩:=I.list hq;obtain⟨f0,f1,f2,f3,f4,f5⟩:=hf it (by simp);have hl:=rv.length;exact wpAny_pyNext_list_end (I.ok.hd hc) st p.isList (by simp;omega) λ h' eb=>⟨rfl,I.turned (t':=s.toks) (λ b o hb e=>eb b o hb e) f0 f1 f3 f4 f5⟩
 self:=λ _ _ _ _ _ st h=>wpAny_pyIter_listiter st h
theorem wJ {P:Program}{w:World}{K:aaa}{tg:Expr} (a it:Addr):Turn P w K tg (JQ K a) [it] it (λ i h=>h.IsTupleIter it a i) where
 mem:=by simp
 obj:=λ i h st b hb=>by
  have e:b=it:=by simpa using hb
  subst e;obtain⟨o,e,c,d⟩:=st;exact⟨o,e,λ v z=>by rw[d] at z;cases z⟩
 keep:=λ i h h' st k=>st.at λ o e=>k it (by simp) o e
 item:=by
  intro X hP hw hK hc i pins s σ H E I hf st hg;subst hP hw hK;obtain⟨xs,x,hq,hx⟩:=hg;obtain⟨its,rv,p,hz⟩:=I.tuple hq;obtain⟨u,hu,ru⟩:=rv.get hx;obtain⟨f0,f1,f2,f3,f4,f5⟩:=hf it (by simp);refine wpAny_pyNext_tuple_item st (show s.heap.IsTuple a its.toArray from p) (x:=u) (by simpa using hu) λ h' st' sb=>?_;have I1:Inv X pins σ H { s with heap:=h' }:=I.turned (t':=s.toks) (λ b o hb e=>(sb.2 b hb).trans e) f0 f1 f3 f4 f5;obtain⟨o,e,c,d⟩:=id st';exact⟨u,rfl,D0 (s:={ s with heap:=h' }) e c d (by decide) ⟨x,H,I1,ru,⟨rfl,λ ys hy=>by rw[I.tuple_inj hy hq];exact hx⟩,st',λ b hb=>(hf b hb).1⟩⟩
 done:=by
  intro X hP hw hK hc i pins s σ H E I hf st hg;subst hP hw hK;obtain⟨xs,hq,hx⟩:=hg;obtain⟨its,rv,p,hz⟩:=I.tuple hq;obtain⟨f0,f1,f2,f3,f4,f5⟩:=hf it (by simp);have hl:=rv.length;exact wpAny_pyNext_tuple_end (I.ok.hd hc) st (show s.heap.IsTuple a its.toArray from p) (by simp;omega) λ h' eb=>⟨rfl,I.turned (t':=s.toks) (λ b o hb e=>eb b o hb e) f0 f1 f3 f4 f5⟩
 self:=λ _ _ _ _ _ st h=>wpAny_pyIter_tupleiter st h
theorem wK {P:Program}{w:World}{K:aaa}{tg:Expr} (it:Addr) (lo:Int) (n:Nat):Turn P w K tg (JR lo n) [it] it (λ i h=>IsRangeIter h it (lo+(i:Nat) * 1) ((n:Int) - (i:Nat)) 1) where
 mem:=by simp
 obj:=λ i h st b hb=>by
  have e:b=it:=by simpa using hb
  subst e;exact⟨_,st,λ v z=>by
   have z':Data.fields _=Data.cell v:=z;cases z'⟩
 keep:=λ i h h' st k=>k it (by simp) _ st
 item:=by
  intro X hP hw hK hc i pins s σ H E I hf st hg;subst hP hw hK;obtain⟨f0,f1,f2,f3,f4,f5⟩:=hf it (by simp);have W:=Walks.range (prog:=X.prog) (w:=X.w) (I.ok.hd hc) it lo 1 n;refine W.item i s _ _ hg st λ v h' tk hv st' kk=>?_;obtain⟨t,rfl⟩:=hv;have I1:Inv X pins σ H { s with heap:=h',toks:=tk }:=I.turned (λ b o hb e=>kk b o (by simpa using hb) e) f0 f1 f3 f4 f5;refine⟨_,rfl,D0 (s:={ s with heap:=h',toks:=tk }) (n := "range_iterator") st' rfl rfl (by decide) ⟨.int (lo+i),H,I1,⟨t,?_⟩,⟨rfl,rfl⟩,st',λ b hb=>(hf b hb).1⟩⟩;rw[Int.mul_one]
 done:=by
  intro X hP hw hK hc i pins s σ H E I hf st hg;subst hP hw hK;obtain⟨f0,f1,f2,f3,f4,f5⟩:=hf it (by simp);exact wpAny_pyNext_range_end (I.ok.hd hc) st (by have:n<=i:=hg;omega) λ h' eb=>⟨rfl,I.turned (t':=s.toks) (λ b o hb e=>eb b o hb e) f0 f1 f3 f4 f5⟩
 self:=λ _ _ _ _ _ st h=>wpAny_pyIter_rangeiter st h
section
variable {X:Cx}{tg:Expr}
def yN (K:aaa) (tl:TE):TI:=λ σ H R=>tl σ H λ x H1=>∃ a,x=.ref a/\(∃ xs,bO K H1 a xs)/\R (JS K a) H1
def JD (K:aaa) (tl:TE):TI:=λ σ H R=>tl σ H λ x H1=>∃ a,x=.ref a/\(∃ xs,bU K H1 a xs)/\R (JQ K a) H1
theorem EI {l:Expr}{tl:TE} (hl:PE X l tl):PI X tg l (yN X.K tl):=by
 intro pins s σ H R I h;refine dF (hl pins s σ H _ I h) λ v s1 ⟨x,H1,I1,r1,q1⟩=>?_;obtain⟨a,e,⟨xs,hq⟩,q⟩:=q1;subst e;cases r1;obtain⟨its,rv,p,hz⟩:=I1.list hq;refine wpAny_pyIter_list p.isList ?_;refine⟨s1.heap.objs.size,[s1.heap.objs.size],_,_,H1,rfl,I1.kept (t':=s1.toks) λ b o e=>aah _ e,zE a _,⟨_,aas _ rfl,rfl,rfl⟩,λ b hb=>?_,q⟩;have e:b=s1.heap.objs.size:=by simpa using hb
 subst e;exact I1.fpOk (aag _) (I1.hok.fresh (aag _))
theorem HZ {l:Expr}{tl:TE} (hl:PE X l tl):PI X tg l (JD X.K tl):=by
 intro pins s σ H R I h;refine dF (hl pins s σ H _ I h) λ v s1 ⟨x,H1,I1,r1,q1⟩=>?_;obtain⟨a,e,⟨xs,hq⟩,q⟩:=q1;subst e;cases r1;obtain⟨its,rv,p,hz⟩:=I1.tuple hq;refine wpAny_pyIter_tuple (show s1.heap.IsTuple a its.toArray from p) ?_;refine⟨s1.heap.objs.size,[s1.heap.objs.size],_,_,H1,rfl,I1.kept (t':=s1.toks) λ b o e=>aah _ e,wJ a _,⟨_,aas _ rfl,rfl,rfl⟩,λ b hb=>?_,q⟩;have e:b=s1.heap.objs.size:=by simpa using hb
 subst e;exact I1.fpOk (aag _) (I1.hok.fresh (aag _))
theorem B4 {pins:List (Addr×Obj)}{σ:St}{H:Hp}{s:Shared}{R:It->Hp->Prop}{E:Value->Shared->Prop}{lo hi:Int}{t u v:Tok}{tk:Nat} (I:Inv X pins σ H s) (h1 : -(2 ^ 62)<=lo) (h2:lo < 2 ^ 62) (h3 : -(2 ^ 62)<=hi) (h4:hi < 2 ^ 62)
  (q:R (JR lo (hi - lo).toNat) H):wpAny (model X.prog X.w) X.A (pyIter (.ref s.heap.objs.size)) (PIE X pins σ tg R) E { s with heap:=s.heap.push { cls:=.type "range",data:=.fields #[.int lo t,.int hi u,.int 1 v] },toks:=tk }:=by
 refine wpAny_pyIter_range (IsRange.new ..) (small_one h1 h2 h3 h4) ?_;have I1:Inv X pins σ H { s with heap:=s.heap.push { cls:=.type "range",data:=.fields #[.int lo t,.int hi u,.int 1 v] },toks:=tk }:=I.kept λ b o e=>aah _ e;refine⟨(s.heap.push { cls:=.type "range",data:=.fields #[.int lo t,.int hi u,.int 1 v] }).objs.size,[(s.heap.push { cls:=.type "range",data:=.fields #[.int lo t,.int hi u,.int 1 v] }).objs.size],_,_,H,rfl,
  I1.kept (t':=tk) λ b o e=>aah _ e,wK _ lo (hi - lo).toNat,?_,λ b hb=>?_,q⟩
 ·have e1:lo+((0:Nat):Int) * 1=lo:=by simp
  have e2:(((hi - lo).toNat:Nat):Int) - ((0:Nat):Int)=Builtin.Range.rangeSize lo hi 1:=by rw[rangeSize_one];split <;> omega
  show IsRangeIter _ _ (lo+((0:Nat):Int) * 1) ((((hi - lo).toNat:Nat):Int) - ((0:Nat):Int)) 1;rw[e1,e2];exact aas _ rfl
 ·have e:b=(s.heap.push { cls:=.type "range",data:=.fields #[.int lo t,.int hi u,.int 1 v] }).objs.size:=by simpa using hb
  subst e;exact I1.fpOk (aag _) (I1.hok.fresh (aag _))
def LE (ta:TA):TI:=λ σ H R=>ta σ H λ vs H1=>∃ j:Int,vs=[.int j]/\-(2 ^ 62)<=j/\j < 2 ^ 62/\R (JR 0 j.toNat) H1
theorem fT {a:Expr}{ta:TA}{p pos:Pos} (hg:Gl X "range") (hm:X.mg "range" = none) (ha:PA X [a] ta) (hs:starEach [a] X.env=[(false,eval a X.env)]:=by with_unfolding_all rfl):PI X tg (.Call (.Name "range" p) [a] [] pos) (LE ta):=by
 intro pins s σ H R I h;refine Call_ (pS I hg hm boot_range (PyProof.Rows.callWith_type1 (dF (ha pos pins s σ H _ I h) λ us s1 ⟨vs,H1,I1,r1,q1⟩=>?_) hs rfl));obtain⟨j,e,q1,q2,q⟩:=q1;subst e;cases r1 with
 | cons r rr=>
  cases rr;obtain⟨t,rfl⟩:=r;exact call_range_1 (B4 I1 (by omega) (by omega) q1 q2 (by simpa using q))
def HD (wi:TI) (g:TG) (tb:TS):TS:=λ D σ H=>wi σ H λ J H1=>∃ W:Nat->Nat->St->Hp->Prop,(∃ m,W 0 m σ H1)/\∀ i m σ H,W i m σ H->
 (J.stop i H/\D.nx σ H)\/(J.go i H/\∃ N:St->Hp->Prop,(∀ aa H',N aa H'->∃ m',m' < m/\W (i+1) m' aa H')/\∀ x H',J.yld i H x H'->g x σ H' λ ai H2=>tb { D with nx:=N,ct:=N,bk:=D.nx } ai H2)
def pA (fp:List Addr) (h:Heap):List (Addr×Obj):=fp.filterMap λ b=>(h.get? b).map λ o=>(b,o)
theorem iB {fp:List Addr}{h:Heap}{b:Addr}{o:Obj} (hb:b∈fp) (e:h.get? b=some o):(b,o)∈pA fp h:=List.mem_filterMap.mpr ⟨b,hb,by rw[e];rfl⟩
theorem zT {fp:List Addr}{h:Heap}{p:Addr×Obj} (hp:p∈pA fp h):p.1∈fp/\h.get? p.1=some p.2:=by
 obtain⟨b,hb,e⟩:=List.mem_filterMap.mp hp;cases q:h.get? b with
 | none=>rw[q] at e;cases e
 | some o=>
  rw[q] at e;have e':(b,o)=p:=abm e;subst e';exact⟨hb,q⟩
theorem Inv.pinned {pins:List (Addr×Obj)}{σ:St}{H:Hp}{s:Shared}{fp:List Addr} (I:Inv X pins σ H s) (hf:∀ b∈fp,lG X pins H b) (ho:∀ b∈fp,∃ o,s.heap.get? b=some o/\∀ v,o.data≠.cell v):Inv X (pins++pA fp s.heap) σ H s:=
 I.pins_of λ p hp=>(aba.mp hp).elim (λ z=>I.pin p (abg _ z)) λ z=>by
  obtain⟨hb,e⟩:=zT z;obtain⟨f0,f1,f2,_⟩:=hf p.1 hb;obtain⟨o,e',d⟩:=ho p.1 hb;rw[e] at e';cases e';exact⟨e,f0,f1,f2,d⟩
theorem Inv.unpinned {pins pl:List (Addr×Obj)}{σ:St}{H:Hp}{s:Shared} (I:Inv X (pins++pl) σ H s):Inv X pins σ H s:=I.pins_of λ p hp=>I.pin p (abg _ (abq _ hp))
theorem dS {iter:Expr}{body:List Stmt}{wi:TI}{g:TG}{tb:TS}{pos:Pos} (hp:PassesOwn (model X.prog X.w) X.A X.env X.xe) (hc:X.calm=true) (hi:PI X tg iter wi) (hg:PG X tg g) (hb:xR X body tb)
  (hs:∀ x,foldedSetIterable iter X.env x=pure x:=by intro _;with_unfolding_all rfl):PS X (.For tg iter body [] pos) (HD wi g tb):=by
 intro pins s σ H D I h;refine wpAny_For (dF (hi pins s σ H _ I h) λ v s1 h1=>dF h1 λ itv s2 h2=>?_) hs;obtain⟨it,fp,tn,J,H2,e,I2,T,st2,f2,W,⟨m0,w0⟩,turn⟩:=h2;subst e;have stat:∀ {H':Hp},(∀ b∈fp,H' b=none)->∀ b∈fp,lG X pins H' b:=λ hn b hb=>⟨hn b hb,(f2 b hb).2⟩;refine codeAny_forLoop_any (λ n s'=>∃ i aa H',Inv X pins aa H' s'/\tn i s'.heap/\(∀ b∈fp,H' b=none)/\W i n aa H') ?_ m0 ⟨0,σ,H2,I2,st2,λ b hb=>(f2 b hb).1,w0⟩;rintro n s3 ⟨i,af,H3,I3,st3,fr3,w3⟩;rcases turn i n af H3 w3 with ⟨stop,qn⟩ | ⟨go,N,hN,step⟩
 ·refine wpAny_passesOwn hp (dF (T.done X rfl rfl rfl hc i pins s3 af H3 X.xe I3 (stat fr3) st3 stop) λ r s4 ⟨hr,I4⟩=>?_);subst hr;exact wpAny_execs_nil ⟨af,H3,I4,qn⟩
 ·refine wpAny_passesOwn hp (dF (T.item X rfl rfl rfl hc i pins s3 af H3 X.xe I3 (stat fr3) st3 go) λ r s4 ⟨u,hr,h4⟩=>?_);subst hr;refine wpAny_passesOwn hp (dF h4 λ _ s5 ⟨x,H5,I5,r5,y5,st5,fr5⟩=>?_);have I5':=I5.pinned (stat fr5) (T.obj _ _ st5);refine wpAny_passesOwn hp (dF (hg _ s5 af H5 x u _ I5' r5 (step x H5 y5)) λ _ s6 ⟨σ6,H6,I6,q6⟩=>?_);refine wpAny_passesOwn hp (dF (hb _ s6 σ6 H6 _ I6 q6) λ f s7 q7=>?_);have again:∀ {av:St}{H7:Hp},Inv X (pins++pA fp s5.heap) av H7 s7->N av H7->∃ m,m < n/\∃ i aa H',Inv X pins aa H' s7/\tn i s7.heap/\(∀ b∈fp,H' b=none)/\W i m aa H':=λ {av H7} I7 n7=>by
   obtain⟨m',hm,w7⟩:=hN av H7 n7;refine⟨m',hm,i+1,av,H7,I7.unpinned,T.keep _ _ _ st5 λ b hb o e=>(I7.pin (b,o) (abg _ (abg _ (iB hb e)))).1,λ b hb=>?_,w7⟩;obtain⟨o,e,d⟩:=T.obj _ _ st5 b hb;exact (I7.pin (b,o) (abg _ (abg _ (iB hb e)))).2.1
  cases f with
  | next=>obtain⟨av,H7,I7,n7⟩:=q7;exact again I7 n7
  | cont=>obtain⟨av,H7,I7,n7⟩:=q7;exact again I7 n7
  | brk=>obtain⟨av,H7,I7,q7⟩:=q7;exact⟨av,H7,I7.unpinned,q7⟩
  | ret v=>obtain⟨x7,av,H7,I7,r7,q7⟩:=q7;exact⟨x7,av,H7,I7.unpinned,r7,q7⟩
end
theorem jK {K:aaa}{a:Addr}{xs:List V}{g:TG}{tb:TS}{D:Ends}{σ:St}{H:Hp} (Pv:Nat->St->Hp->Prop) (h0:Pv 0 σ H) (hl:∀ i σ H,i<=xs.length->Pv i σ H->bO K H a xs)
  (hs:∀ i x σ H,xs[i]? = some x->Pv i σ H->g x σ H λ ai H2=>tb { D with nx:=Pv (i+1),ct:=Pv (i+1),bk:=D.nx } ai H2) (hd:∀ σ H,Pv xs.length σ H->D.nx σ H) :
  ∃ W:Nat->Nat->St->Hp->Prop,(∃ m,W 0 m σ H)/\∀ i m σ H,W i m σ H->
   ((JS K a).stop i H/\D.nx σ H)\/((JS K a).go i H/\∃ N:St->Hp->Prop,(∀ aa H',N aa H'->∃ m',m' < m/\W (i+1) m' aa H')/\∀ x H',(JS K a).yld i H x H'->g x σ H' λ ai H2=>tb { D with nx:=N,ct:=N,bk:=D.nx } ai H2):=by
 refine⟨λ i m σ H=>m=xs.length - i/\i<=xs.length/\Pv i σ H,⟨xs.length,by simp,abk _,h0⟩,?_⟩;rintro i m σ H ⟨rfl,hi,p⟩;have q:=hl i σ H hi p
 by_cases hlt:i < xs.length
 ·refine .inr ⟨⟨xs,xs[i],q,by simp [hlt]⟩,Pv (i+1),λ aa H' p'=>⟨xs.length - (i+1),by omega,rfl,hlt,p'⟩,λ x H' y=>?_⟩;obtain⟨e,y⟩:=y;subst e;exact hs i x σ _ (y xs q) p
 ·have e:i=xs.length:=by omega
  subst e;exact .inl ⟨⟨xs,q,aag _⟩,hd σ H p⟩
theorem jU {K:aaa}{a:Addr}{xs:List V}{g:TG}{tb:TS}{D:Ends}{σ:St}{H:Hp} (Pv:Nat->St->Hp->Prop) (h0:Pv 0 σ H) (hl:∀ i σ H,i<=xs.length->Pv i σ H->bU K H a xs)
  (hs:∀ i x σ H,xs[i]? = some x->Pv i σ H->g x σ H λ ai H2=>tb { D with nx:=Pv (i+1),ct:=Pv (i+1),bk:=D.nx } ai H2) (hd:∀ σ H,Pv xs.length σ H->D.nx σ H) :
  ∃ W:Nat->Nat->St->Hp->Prop,(∃ m,W 0 m σ H)/\∀ i m σ H,W i m σ H->
   ((JQ K a).stop i H/\D.nx σ H)\/((JQ K a).go i H/\∃ N:St->Hp->Prop,(∀ aa H',N aa H'->∃ m',m' < m/\W (i+1) m' aa H')/\∀ x H',(JQ K a).yld i H x H'->g x σ H' λ ai H2=>tb { D with nx:=N,ct:=N,bk:=D.nx } ai H2):=by
 refine⟨λ i m σ H=>m=xs.length - i/\i<=xs.length/\Pv i σ H,⟨xs.length,by simp,abk _,h0⟩,?_⟩;rintro i m σ H ⟨rfl,hi,p⟩;have q:=hl i σ H hi p
 by_cases hlt:i < xs.length
 ·refine .inr ⟨⟨xs,xs[i],q,by simp [hlt]⟩,Pv (i+1),λ aa H' p'=>⟨xs.length - (i+1),by omega,rfl,hlt,p'⟩,λ x H' y=>?_⟩;obtain⟨e,y⟩:=y;subst e;exact hs i x σ _ (y xs q) p
 ·have e:i=xs.length:=by omega
  subst e;exact .inl ⟨⟨xs,q,aag _⟩,hd σ H p⟩
theorem gX {lo:Int}{n:Nat}{g:TG}{tb:TS}{D:Ends}{σ:St}{H:Hp} (Pv:Nat->St->Hp->Prop) (h0:Pv 0 σ H)
  (hs:∀ i σ H,i < n->Pv i σ H->g (.int (lo+i)) σ H λ ai H2=>tb { D with nx:=Pv (i+1),ct:=Pv (i+1),bk:=D.nx } ai H2) (hd:∀ σ H,Pv n σ H->D.nx σ H) :
  ∃ W:Nat->Nat->St->Hp->Prop,(∃ m,W 0 m σ H)/\∀ i m σ H,W i m σ H->
   ((JR lo n).stop i H/\D.nx σ H)\/((JR lo n).go i H/\∃ N:St->Hp->Prop,(∀ aa H',N aa H'->∃ m',m' < m/\W (i+1) m' aa H')/\∀ x H',(JR lo n).yld i H x H'->g x σ H' λ ai H2=>tb { D with nx:=N,ct:=N,bk:=D.nx } ai H2):=by
 refine⟨λ i m σ H=>m=n - i/\i<=n/\Pv i σ H,⟨n,by simp,abk _,h0⟩,?_⟩;rintro i m σ H ⟨rfl,hi,p⟩
 by_cases hlt:i < n
 ·refine .inr ⟨hlt,Pv (i+1),λ aa H' p'=>⟨n - (i+1),by omega,rfl,hlt,p'⟩,λ x H' y=>?_⟩;obtain⟨e,y⟩:=y;subst e y;exact hs i σ _ hlt p
 ·have e:i=n:=by omega
  subst e;exact .inl ⟨aag _,hd σ H p⟩
abbrev R2:=V->V->Hp->VK->Prop
def gG (X:Cx) (f:Value->Value->Sem Value) (r:R2):Prop:=
 ∀ (pins:List (Addr×Obj)) (s:Shared) (σ:St) (H:Hp) (x y:V) (v u:Value) (Q:VK),Inv X pins σ H s->bF x v->bF y u->r x y H Q->
  wpAny (model X.prog X.w) X.A (f v u) (EP X pins σ Q) X.xe s
def UnR (X:Cx) (f:Value->Sem Value) (r:V->Hp->VK->Prop):Prop:=
 ∀ (pins:List (Addr×Obj)) (s:Shared) (σ:St) (H:Hp) (x:V) (v:Value) (Q:VK),Inv X pins σ H s->bF x v->r x H Q->
  wpAny (model X.prog X.w) X.A (f v) (EP X pins σ Q) X.xe s
def eN (X:Cx) (f:Value) (r:List V->Hp->VK->Prop):Prop:=
 ∀ (pins:List (Addr×Obj)) (s:Shared) (σ:St) (H:Hp) (xs:List V) (us:List Value) (Q:VK),Inv X pins σ H s->bA xs us->r xs H Q->
  wpAny (model X.prog X.w) X.A (call f us) (EP X pins σ Q) X.xe s
def TruR (X:Cx) (r:V->Hp->(Bool->Hp->Prop)->Prop):Prop:=
 ∀ (pins:List (Addr×Obj)) (s:Shared) (σ:St) (H:Hp) (x:V) (v:Value) (Q:Bool->Hp->Prop),Inv X pins σ H s->bF x v->r x H Q->
  wpAny (model X.prog X.w) X.A (truthy v) (TP X pins σ Q) X.xe s
def fJ (r:R2) (ta tb:TE):TE:=λ σ H Q=>ta σ H λ x H1=>tb σ H1 λ y H2=>r x y H2 Q
def tUn (r:V->Hp->VK->Prop) (ta:TE):TE:=λ σ H Q=>ta σ H λ x H1=>r x H1 Q
def rI (C:Int->Int->Prop) (g:Int->Int->V):R2:=λ x y H Q=>∃ i j,x=.int i/\y=.int j/\C i j/\Q (g i j) H
def qY (g:Int->Int->V):R2:=λ x y H Q=>∃ i j,x=.int i/\y=.int j/\Q (g i j) H
def rU (g:Int->V):V->Hp->VK->Prop:=λ x H Q=>∃ i,x=.int i/\Q (g i) H
section
variable {X:Cx}{a b c:Expr}{ta tb tc:TE}{pos:Pos}
theorem JJ (ha:PE X a ta) (hb:PE X b tb) {pins:List (Addr×Obj)}{s:Shared}{σ:St}{H:Hp}{R:V->V->Hp->Prop} (I:Inv X pins σ H s)
  (h:ta σ H λ x H1=>tb σ H1 λ y H2=>R x y H2) {Q:Value->Shared->Prop}{f:Value->Value->Sem Value}
  (hf:∀ v u s2 x y H2,Inv X pins σ H2 s2->bF x v->bF y u->R x y H2->wpAny (model X.prog X.w) X.A (f v u) Q X.xe s2) :
  wpAny (model X.prog X.w) X.A (eval a X.env) (λ v ad=>wpAny (model X.prog X.w) X.A (eval b X.env) (λ u au=>wpAny (model X.prog X.w) X.A (f v u) Q X.xe au) X.xe ad) X.xe s:=by
 refine dF (ha pins s σ H _ I h) λ v s1 ⟨x,H1,I1,r1,q1⟩=>?_;refine dF (hb pins s1 σ H1 _ I1 q1) λ u s2 ⟨y,H2,I2,r2,q2⟩=>?_;exact hf v u s2 x y H2 I2 r1 r2 q2
theorem aU {op:Operator}{r:R2} (ho:gG X (binaryOp op) r) (ha:PE X a ta) (hb:PE X b tb):PE X (.BinOp a op b pos) (fJ r ta tb):=by
 intro pins s σ H Q I h;exact wpAny_BinOp (JJ ha hb I h λ v u s2 x y H2 I2 rx ry q=>ho pins s2 σ H2 x y v u Q I2 rx ry q)
theorem KR {op:UnaryOp}{r:V->Hp->VK->Prop} (ho:UnR X (unaryOp op) r) (ha:PE X a ta):PE X (.UnaryOp op a pos) (tUn r ta):=by
 intro pins s σ H Q I h;exact UnaryOp_ (dF (ha pins s σ H _ I h) λ v s1 ⟨x,H1,I1,r1,q1⟩=>ho pins s1 σ H1 x v Q I1 r1 q1)
theorem KZ {f:Value->Value->Sem Value}{C:Int->Int->Prop}{g:Int->Int->Int}
  (rule:∀ (i j:Int) (t u:Tok) (s:Shared) (Q:Value->Shared->Prop) (E:Value->Shared->Prop),C i j->Q (.int (g i j) s.toks) { s with toks:=s.toks+1 }->wpAny (model X.prog X.w) X.A (f (.int i t) (.int j u)) Q E s) :
  gG X f (rI C λ i j=>.int (g i j)):=by
 intro pins s σ H x y v u Q I rx ry h;obtain⟨i,j,rfl,rfl,hc,q⟩:=h;obtain⟨t,rfl⟩:=rx;obtain⟨t',rfl⟩:=ry;exact rule i j t t' s _ _ hc ⟨.int (g i j),H,I.tok _,⟨_,rfl⟩,q⟩
theorem KY {f:Value->Value->Sem Value}{g:Int->Int->Int}
  (rule:∀ (i j:Int) (t u:Tok) (s:Shared) (Q:Value->Shared->Prop) (E:Value->Shared->Prop),Q (.int (g i j) s.toks) { s with toks:=s.toks+1 }->wpAny (model X.prog X.w) X.A (f (.int i t) (.int j u)) Q E s) :
  gG X f (qY λ i j=>.int (g i j)):=by
 intro pins s σ H x y v u Q I rx ry h;obtain⟨i,j,rfl,rfl,q⟩:=h;obtain⟨t,rfl⟩:=rx;obtain⟨t',rfl⟩:=ry;exact rule i j t t' s _ _ ⟨.int (g i j),H,I.tok _,⟨_,rfl⟩,q⟩
theorem EU {f:Value->Value->Sem Value}{g:Int->Int->Bool}
  (rule:∀ (i j:Int) (t u:Tok) (s:Shared) (Q:Value->Shared->Prop) (E:Value->Shared->Prop),Q (.bool (g i j)) s->wpAny (model X.prog X.w) X.A (f (.int i t) (.int j u)) Q E s) :
  gG X f (qY λ i j=>.bl (g i j)):=by
 intro pins s σ H x y v u Q I rx ry h;obtain⟨i,j,rfl,rfl,q⟩:=h;obtain⟨t,rfl⟩:=rx;obtain⟨t',rfl⟩:=ry;exact rule i j t t' s _ _ ⟨.bl (g i j),H,I,rfl,q⟩
def JV (i j:Int):Prop:=0 < j/\j < 1073741824
def LW (i j:Int):Prop:=0<=j/\j<=1000000/\i.natAbs < 2 ^ 64
def wE (i j:Int):Prop:=(-(2 ^ 64) < i/\i < 2 ^ 64)\/(-(2 ^ 64) < j/\j < 2 ^ 64)
theorem wE.ok {i j:Int} (h:wE i j):IntMulOk i j:=by
 rcases h with ⟨h1,h2⟩ | ⟨h1,h2⟩
 ·exact .of_left (intBits_le_64 h1 h2)
 ·exact .of_right (intBits_le_64 h1 h2)
theorem cZ:gG X (binaryOp .Add) (qY λ i j=>.int (i+j)):=KY λ _ _ _ _ _ _ _ q=>add_int q
theorem fH:gG X (binaryOp .Sub) (qY λ i j=>.int (i - j)):=KY λ _ _ _ _ _ _ _ q=>sub_int q
theorem pB:gG X (binaryOp .Mult) (rI wE λ i j=>.int (i * j)):=KZ λ _ _ _ _ _ _ _ hc q=>mul_int q hc.ok
theorem mC:gG X (binaryOp .FloorDiv) (rI JV λ i j=>.int (i / j)):=KZ λ i j _ _ _ _ _ hc q=>by
 have h1:(0:Int) < j:=hc.1;have h2:j < 1073741824:=hc.2;exact floordiv_int (by omega) (by rw[Int.fdiv_eq_ediv_of_nonneg i (by omega)];exact q) (.inl (PyProof.noPylong_small (by omega)))
theorem i9:gG X (binaryOp .Mod) (rI (λ _ j=>0 < j) λ i j=>.int (i % j)):=KZ λ i j _ _ _ _ _ hc q=>by
 have h1:(0:Int) < j:=hc;exact mod_int' (by omega) (by rw[Int.fmod_eq_emod_of_nonneg i (by omega)];exact q)
theorem II:gG X (binaryOp .Pow) (rI LW λ i j=>.int (i ^ j.toNat)):=KZ λ _ _ _ _ _ _ _ hc q=>pow_int_small hc.1 hc.2.1 hc.2.2 q
theorem unI {f:Value->Sem Value}{g:Int->Int}
  (rule:∀ (i:Int) (t:Tok) (s:Shared) (Q:Value->Shared->Prop) (E:Value->Shared->Prop),Q (.int (g i) s.toks) { s with toks:=s.toks+1 }->wpAny (model X.prog X.w) X.A (f (.int i t)) Q E s) :
  UnR X f (rU λ i=>.int (g i)):=by
 intro pins s σ H x v Q I rx h;obtain⟨i,rfl,q⟩:=h;obtain⟨t,rfl⟩:=rx;exact rule i t s _ _ ⟨.int (g i),H,I.tok _,⟨_,rfl⟩,q⟩
theorem GY:UnR X (unaryOp .USub) (rU λ i=>.int (-i)):=unI λ _ _ _ _ _ q=>neg_int q
end
def KD:V->V->Bool
 | .non,.non=>true | .non,.int _=>true | .int _,.non=>true | .non,.bl _=>true | .bl _,.non=>true | .non,.str _=>true | .str _,.non=>true
 | .int _,.int _=>true | .bl _,.bl _=>true | .str _,.str _=>true | .byt _,.byt _=>true
 | .int _,.str _=>true | .str _,.int _=>true | .bl _,.str _=>true | .str _,.bl _=>true
 | _,_=>false
def JW:R2:=λ x y H Q=>KD x y=true/\Q (.bl (decide (x=y))) H
def rNe:R2:=λ x y H Q=>KD x y=true/\Q (.bl (!decide (x=y))) H
theorem yT {i j:Int}:decide (V.int i=V.int j)=(i == j):=by
 rw[Bool.eq_iff_iff];simp
theorem DF {i j:Bool}:decide (V.bl i=V.bl j)=(i == j):=by
 rw[Bool.eq_iff_iff];simp
theorem yS {i j:Str}:decide (V.str i=V.str j)=(i == j):=by
 rw[Bool.eq_iff_iff];simp
theorem yU {i j:Array UInt8}:decide (V.byt i=V.byt j)=(i.toList == j.toList):=by
 rw[Bool.eq_iff_iff];cases i;cases j;simp
section
variable {X:Cx}{a b c:Expr}{ta tb tc:TE}{pos:Pos}
theorem bR {pins:List (Addr×Obj)}{σ:St}{H:Hp}{s:Shared}{Q:VK}{k k':Bool} (I:Inv X pins σ H s) (q:Q (.bl k) H) (e:k=k'):EP X pins σ Q (.bool k') s:=by
 subst e;exact⟨.bl k,H,I,rfl,q⟩
theorem d5:gG X (compareOp .Eq) JW:=by
 intro pins s σ H x y v u Q I rx ry h;obtain⟨hs,q⟩:=h;cases x with
 | non=>
  cases rx;cases y with
  | non=>cases ry;exact PySem.EqNone.eq_none_none (bR I q (by simp))
  | bl j=>cases ry;exact PySem.EqNone.eq_none_bool (bR I q (by simp))
  | int j=>obtain⟨t',rfl⟩:=ry;exact PySem.EqNone.eq_none_int (bR I q (by simp))
  | str j=>obtain⟨t',rfl⟩:=ry;exact PySem.EqNone.eq_none_str (bR I q (by simp))
  | _=>exact absurd (show false=true from hs) aak
 | bl i=>
  cases rx;cases y with
  | non=>cases ry;exact PySem.EqNone.eq_bool_none (bR I q (by simp))
  | bl j=>cases ry;exact eq_bool (bR I q DF)
  | str j=>obtain⟨t',rfl⟩:=ry;exact PySem.EqMixed.eq_bool_str (bR I q (by simp))
  | _=>exact absurd (show false=true from hs) aak
 | int i=>
  obtain⟨t,rfl⟩:=rx;cases y with
  | non=>cases ry;exact PySem.EqNone.eq_int_none (bR I q (by simp))
  | int j=>obtain⟨t',rfl⟩:=ry;exact eq_int (bR I q yT)
  | str j=>obtain⟨t',rfl⟩:=ry;exact PySem.EqMixed.eq_int_str (bR I q (by simp))
  | _=>exact absurd (show false=true from hs) aak
 | str i=>
  obtain⟨t,rfl⟩:=rx;cases y with
  | non=>cases ry;exact PySem.EqNone.eq_str_none (bR I q (by simp))
  | bl j=>cases ry;exact PySem.EqMixed.eq_str_bool (bR I q (by simp))
  | int j=>obtain⟨t',rfl⟩:=ry;exact PySem.EqMixed.eq_str_int (bR I q (by simp))
  | str j=>obtain⟨t',rfl⟩:=ry;exact eq_str (bR I q yS)
  | _=>exact absurd (show false=true from hs) aak
 | byt i=>
  obtain⟨t,rfl⟩:=rx;cases y with
  | byt j=>obtain⟨t',rfl⟩:=ry;exact PySem.W.eq_bytes (bR I q yU)
  | _=>exact absurd (show false=true from hs) aak
 | _=>cases y <;> exact absurd (show false=true from hs) aak
theorem kO:gG X (compareOp .NotEq) rNe:=by
 intro pins s σ H x y v u Q I rx ry h;obtain⟨hs,q⟩:=h;cases x with
 | non=>
  cases rx;cases y with
  | non=>cases ry;exact PySem.EqNone.ne_none_none (bR I q (by simp))
  | bl j=>cases ry;exact PySem.EqNone.ne_none_bool (bR I q (by simp))
  | int j=>obtain⟨t',rfl⟩:=ry;exact PySem.EqNone.ne_none_int (bR I q (by simp))
  | str j=>obtain⟨t',rfl⟩:=ry;exact PySem.EqNone.ne_none_str (bR I q (by simp))
  | _=>exact absurd (show false=true from hs) aak
 | bl i=>
  cases rx;cases y with
  | non=>cases ry;exact PySem.EqNone.ne_bool_none (bR I q (by simp))
  | bl j=>cases ry;exact ne_bool (bR I q (congrArg not DF))
  | str j=>obtain⟨t',rfl⟩:=ry;exact PySem.EqMixed.ne_bool_str (bR I q (by simp))
  | _=>exact absurd (show false=true from hs) aak
 | int i=>
  obtain⟨t,rfl⟩:=rx;cases y with
  | non=>cases ry;exact PySem.EqNone.ne_int_none (bR I q (by simp))
  | int j=>obtain⟨t',rfl⟩:=ry;exact ne_int (bR I q (congrArg not yT))
  | str j=>obtain⟨t',rfl⟩:=ry;exact PySem.EqMixed.ne_int_str (bR I q (by simp))
  | _=>exact absurd (show false=true from hs) aak
 | str i=>
  obtain⟨t,rfl⟩:=rx;cases y with
  | non=>cases ry;exact PySem.EqNone.ne_str_none (bR I q (by simp))
  | bl j=>cases ry;exact PySem.EqMixed.ne_str_bool (bR I q (by simp))
  | int j=>obtain⟨t',rfl⟩:=ry;exact PySem.EqMixed.ne_str_int (bR I q (by simp))
  | str j=>obtain⟨t',rfl⟩:=ry;exact ne_str (bR I q (congrArg not yS))
  | _=>exact absurd (show false=true from hs) aak
 | byt i=>
  obtain⟨t,rfl⟩:=rx;cases y with
  | byt j=>obtain⟨t',rfl⟩:=ry;exact PySem.W.ne_bytes (bR I q (congrArg not yU))
  | _=>exact absurd (show false=true from hs) aak
 | _=>cases y <;> exact absurd (show false=true from hs) aak
theorem BJ:gG X (compareOp .Lt) (qY λ i j=>.bl (decide (i < j))):=EU λ _ _ _ _ _ _ _ q=>lt_int q
theorem jD:gG X (compareOp .LtE) (qY λ i j=>.bl (decide (i<=j))):=EU λ _ _ _ _ _ _ _ q=>le_int q
theorem r6:gG X (compareOp .Gt) (qY λ i j=>.bl (decide (j < i))):=EU λ _ _ _ _ _ _ _ q=>gt_int q
theorem KW:gG X (compareOp .GtE) (qY λ i j=>.bl (decide (j<=i))):=EU λ _ _ _ _ _ _ _ q=>ge_int q
theorem jE:gG X (compareOp .Is) (λ x y H Q=>y=.non/\Q (.bl (decide (x=.non))) H):=by
 intro pins s σ H x y v u Q I rx ry h;obtain⟨rfl,q⟩:=h;cases ry;refine is_none_gen (bR I q ?_);cases x <;> first
  | (cases rx;rfl)
  | (obtain⟨t,rfl⟩:=rx;rfl)
theorem yE:gG X (compareOp .IsNot) (λ x y H Q=>y=.non/\Q (.bl (!decide (x=.non))) H):=by
 intro pins s σ H x y v u Q I rx ry h;obtain⟨rfl,q⟩:=h;cases ry;refine isnot_none_gen (bR I q ?_);cases x <;> first
  | (cases rx;rfl)
  | (obtain⟨t,rfl⟩:=rx;rfl)
theorem aP (b:Expr) {op:CmpOp} (h:op≠.In:=by decide) (h2:op≠.NotIn:=by decide):behindInMarks op b=false:=by
 have e1:(op == CmpOp.In)=false:=by cases op <;> first | rfl | exact absurd rfl h
 have e2:(op == CmpOp.NotIn)=false:=by cases op <;> first | rfl | exact absurd rfl h2
 cases b <;> simp [behindInMarks,e1,e2]
theorem d2 {op:CmpOp}{r:R2} (ho:gG X (compareOp op) r) (ha:PE X a ta) (hb:PE X b tb) (hm:behindInMarks op b=false):PE X (.Compare a [op] [b] pos) (fJ r ta tb):=by
 intro pins s σ H Q I h;exact wpAny_Compare1 (JJ ha hb I h λ v u s2 x y H2 I2 rx ry q=>ho pins s2 σ H2 x y v u Q I2 rx ry q) hm
def lM (t:TE):TT:=λ σ H Q=>t σ H λ x H'=>∃ k,x=.bl k/\Q k H'
theorem aQ {op:CmpOp}{r:R2} (ho:gG X (compareOp op) r) (ha:PE X a ta) (hb:PE X b tb) (hm:behindInMarks op b=false):PT X (.Compare a [op] [b] pos) (lM (fJ r ta tb)):=by
 intro pins s σ H Q I h;refine wpAny_isTrue_Compare1 (dF (ha pins s σ H _ I h) λ v s1 ⟨x,H1,I1,r1,q1⟩=>dF (hb pins s1 σ H1 _ I1 q1) λ u s2 ⟨y,H2,I2,r2,q2⟩=>
  dF (ho pins s2 σ H2 x y v u _ I2 r1 r2 q2) λ c s3 ⟨z,H3,I3,r3,k,e,q3⟩=>?_) hm
 subst e;cases r3;exact wpAny_truthy_bool ⟨H3,I3,q3⟩
def AU (r r':R2) (ta tb tc:TE):TE:=λ σ H Q=>ta σ H λ x H1=>tb σ H1 λ y H2=>r x y H2 λ z H3=>∃ k,z=.bl k/\
 (if k=true then tc σ H3 λ w' H4=>r' y w' H4 Q else Q (.bl false) H3)
theorem vB {op op':CmpOp}{r r':R2} (ho:gG X (compareOp op) r) (ho':gG X (compareOp op') r') (ha:PE X a ta) (hb:PE X b tb) (hc:PE X c tc)
  (hm:lastMarks [op,op'] [b,c]=false:=by with_unfolding_all rfl):PE X (.Compare a [op,op'] [b,c] pos) (AU r r' ta tb tc):=by
 intro pins s σ H Q I h;refine Compare_chain (dF (ha pins s σ H _ I h) λ v s1 ⟨x,H1,I1,r1,q1⟩=>chain_link (dF (hb pins s1 σ H1 _ I1 q1) λ u s2 ⟨y,H2,I2,r2,q2⟩=>
  dF (ho pins s2 σ H2 x y v u _ I2 r1 r2 q2) λ d s3 ⟨z,H3,I3,r3,k,e,q3⟩=>?_)) hm
 subst e;cases r3;refine wpAny_truthy_bool ?_;cases k with
 | false=>exact ite_ff ⟨.bl false,H3,I3,rfl,q3⟩
 | true=>exact ite_tt (chain_last (dF (hc pins s3 σ H3 _ I3 q3) λ w' s4 ⟨z',H4,I4,r4,q4⟩=>ho' pins s4 σ H4 y z' u w' Q I4 r2 r4 q4))
theorem uZ {op op':CmpOp}{r r':R2} (ho:gG X (compareOp op) r) (ho':gG X (compareOp op') r') (ha:PE X a ta) (hb:PE X b tb) (hc:PE X c tc)
  (hm:lastMarks [op,op'] [b,c]=false:=by with_unfolding_all rfl):PT X (.Compare a [op,op'] [b,c] pos) (lM (AU r r' ta tb tc)):=by
 intro pins s σ H Q I h;refine isTrue_chain (dF (ha pins s σ H _ I h) λ v s1 ⟨x,H1,I1,r1,q1⟩=>test_link (dF (hb pins s1 σ H1 _ I1 q1) λ u s2 ⟨y,H2,I2,r2,q2⟩=>
  dF (ho pins s2 σ H2 x y v u _ I2 r1 r2 q2) λ d s3 ⟨z,H3,I3,r3,k,e,q3⟩=>?_)) hm
 subst e;cases r3;refine wpAny_truthy_bool ?_;cases k with
 | false=>
  obtain⟨k',e',q'⟩:=q3;cases e';exact ite_ff ⟨H3,I3,q'⟩
 | true=>
  refine ite_tt (test_last (dF (hc pins s3 σ H3 _ I3 q3) λ w' s4 ⟨z',H4,I4,r4,q4⟩=>dF (ho' pins s4 σ H4 y z' u w' _ I4 r2 r4 q4) λ d' s5 ⟨z2,H5,I5,r5,k2,e2,q5⟩=>?_));subst e2;cases r5;exact wpAny_truthy_bool ⟨H5,I5,q5⟩
def JM (K:aaa) (x:V) (H:Hp) (k:Bool):Prop:=
 match x with
 | .non=>k=false
 | .bl b=>k=b
 | .int i=>k=(i != 0)
 | .str y=>y.length<=sizeLine/\k=((y.length:Int) != 0)
 | .byt y=>y.size<=sizeLine/\k=((y.size:Int) != 0)
 | .ref p=>(∃ xs,bO K H p xs/\k = !xs.isEmpty)\/(∃ xs,bU K H p xs/\k = !xs.isEmpty)\/∃ kvs,H p=some (.dK kvs)/\k = !kvs.isEmpty
 | _=>False
theorem xK {am:Type}{kvs:List (am×V)}{vs:List (am×Value)} (r:KV kvs vs):(!vs.isEmpty) = !kvs.isEmpty:=by
 cases r <;> rfl
theorem pT {xs:List V}{its:List Value} (r:bA xs its):(!its.toArray.isEmpty) = !xs.isEmpty:=by
 cases r <;> simp
theorem lE:(sizeLine:Nat) < 2 ^ 63:=by rw[sizeLine_eq];decide
theorem GZ:TruR X (λ x H Q=>∃ k,JM X.K x H k/\Q k H):=by
 intro pins s σ H x v Q I rx h;obtain⟨k,e,q⟩:=h;have hl:=lE;have hs:sizeLine=16777216:=sizeLine_eq;cases x with
 | non=>
  cases rx;have e':k=false:=e;subst e';exact truthy_none ⟨H,I,q⟩
 | bl b=>
  cases rx;have e':k=b:=e;subst e';exact wpAny_truthy_bool ⟨H,I,q⟩
 | int i=>
  obtain⟨t,rfl⟩:=rx;have e':k=(i != 0):=e;subst e';exact PySem.P.truthy_int ⟨H,I,q⟩
 | str y=>
  obtain⟨t,rfl⟩:=rx;obtain⟨hy,e'⟩:y.length<=sizeLine/\k=((y.length:Int) != 0):=e;subst e';exact PySem.P.truthy_str (by omega) ⟨H,I.tok _,q⟩
 | byt y=>
  obtain⟨t,rfl⟩:=rx;obtain⟨hy,e'⟩:y.size<=sizeLine/\k=((y.size:Int) != 0):=e;subst e';exact PySem.W.truthy_bytes (by omega) ⟨H,I.tok _,q⟩
 | ref p=>
  cases rx;have e':(∃ xs,bO X.K H p xs/\k = !xs.isEmpty)\/(∃ xs,bU X.K H p xs/\k = !xs.isEmpty)\/∃ kvs,H p=some (.dK kvs)/\k = !kvs.isEmpty:=e;rcases e' with ⟨xs,hx,e'⟩ | ⟨xs,hx,e'⟩ | ⟨kvs,hx,e'⟩
  ·subst e';obtain⟨its,r,pl,hz⟩:=I.list hx;have hlen:=r.length;exact wpAny_truthy_list pl.isList (by simp only [aaf];omega) ⟨H,I.tok _,by rw[pT r];exact q⟩
  ·subst e';obtain⟨its,r,pl,hz⟩:=I.tuple hx;have hlen:=r.length;exact truthy_tuple pl (by simp only [aaf];omega) ⟨H,I.tok _,by rw[pT r];exact q⟩
  ·subst e';obtain⟨hz,hS,vs,r,m⟩:kvs.length<=sizeLine/\(p == sysModules)=false/\∃ vs,KV kvs vs/\s.heap.DictOf (dI X.prog X.w) p vs:=I.hok p _ hx;have hlen:kvs.length=vs.length:=Paired.length r;exact wpAny_truthy_dict hS m (by omega) ⟨H,I.tok _,by rw[xK r];exact q⟩
 | _=>exact (show False from e).elim
theorem BA (ha:PE X a ta) (he:∀ whole,isTrue a X.env whole=(do let v <- whole;standAt a.pos;holding [v] (truthy v))) :
  PT X a (λ σ H Q=>ta σ H λ x H'=>∃ k,JM X.K x H' k/\Q k H'):=by
 intro pins s σ H Q I h;exact isTrue_plain (dF (ha pins s σ H _ I h) λ v s1 ⟨x,H1,I1,r1,q1⟩=>GZ pins s1 σ H1 x v Q I1 r1 q1) (he _)
theorem wZ:gG X (binaryOp .Add) (λ x y H Q=>∃ i j,x=.str i/\y=.str j/\i.length+j.length<=sizeLine/\Q (.str (i++j)) H):=by
 intro pins s σ H x y v u Q I rx ry h;obtain⟨i,j,rfl,rfl,hz,q⟩:=h;obtain⟨t,rfl⟩:=rx;obtain⟨t',rfl⟩:=ry;exact add_str (λ t' tk=>⟨.str (i++j),H,I.tok _,⟨_,rfl⟩,q⟩) hz
theorem kI {x:V}{us:List Value} (r:bA [x] us):∃ u,us=[u]/\bF x u:=by
 cases r with
 | cons r1 r2=>cases r2;exact⟨_,rfl,r1⟩
theorem dZ:eN X (.type "int") (λ xs H Q=>(∃ i,xs=[.int i]/\Q (.int i) H)\/∃ k,xs=[.bl k]/\Q (.int (if k then 1 else 0)) H):=by
 intro pins s σ H xs us Q I r h;rcases h with ⟨i,rfl,q⟩ | ⟨k,rfl,q⟩
 ·obtain⟨u,rfl,t,rfl⟩:=kI r;exact call_int_int ⟨.int i,H,I,⟨_,rfl⟩,q⟩
 ·obtain⟨u,rfl,r1⟩:=kI r;cases r1;exact call_int_bool ⟨.int (if k then 1 else 0),H,I.tok _,⟨_,rfl⟩,q⟩
def LenV (K:aaa) (x:V) (H:Hp) (n:Nat):Prop:=
 match x with
 | .str y=>y.length<=sizeLine/\n=y.length
 | .byt y=>y.size<=sizeLine/\n=y.size
 | .ref p=>(∃ xs,bO K H p xs/\n=xs.length)\/∃ xs,bU K H p xs/\n=xs.length
 | _=>False
theorem DH:eN X (.builtin "len") (λ xs H Q=>∃ x n,xs=[x]/\LenV X.K x H n/\Q (.int n) H):=by
 intro pins s σ H xs us Q I r h;obtain⟨x,n,rfl,e,q⟩:=h;obtain⟨u,rfl,rx⟩:=kI r;have hl:=lE;have hs:sizeLine=16777216:=sizeLine_eq;cases x with
 | str y=>
  obtain⟨t,rfl⟩:=rx;obtain⟨hy,e'⟩:y.length<=sizeLine/\n=y.length:=e;subst e';exact len_str (by omega) ⟨.int _,H,I.tok _,⟨_,rfl⟩,q⟩
 | byt y=>
  obtain⟨t,rfl⟩:=rx;obtain⟨hy,e'⟩:y.size<=sizeLine/\n=y.size:=e;subst e';exact PySem.W.len_bytes (by omega) ⟨.int _,H,I.tok _,⟨_,rfl⟩,q⟩
 | ref p=>
  cases rx;have e':(∃ xs,bO X.K H p xs/\n=xs.length)\/∃ xs,bU X.K H p xs/\n=xs.length:=e;rcases e' with ⟨xs,hx,e'⟩ | ⟨xs,hx,e'⟩
  ·subst e';obtain⟨its,r',pl,hz⟩:=I.list hx;have hlen:=r'.length;exact Calls.call_len_list pl.isList (by simp only [aaf];omega) ⟨.int xs.length,H,I.tok _,⟨_,by simp only [aaf];rw[hlen]⟩,q⟩
  ·subst e';obtain⟨its,r',pl,hz⟩:=I.tuple hx;have hlen:=r'.length;exact len_tuple pl (by simp only [aaf];omega) ⟨.int xs.length,H,I.tok _,⟨_,by simp only [aaf];rw[hlen]⟩,q⟩
 | _=>exact (show False from e).elim
end
structure ObjM (h:Heap) (x dx C:Addr) (mA:Str->Option Value):Prop where
 obj:h.get? x=some (PySem.W.instObj C dx)
 ns:h.Ns1 dx mA
 ne:dx≠x
theorem zW {h:Heap}{dx:Addr}{mA:Str->Option Value} (n:h.Ns1 dx mA):∃ od,h.get? dx=some od/\∀ name,PySem.W.lookIn name od=some (mA name):=by
 obtain⟨o,es,ep,ho,hd,hk,_,hm⟩:=n;refine⟨o,ho,λ name=>?_⟩;have e:=hm name;unfold nsFind findBy at e;rw[<- Array.find?_toList] at e;unfold PySem.W.lookIn;rw[hd];dsimp only
 split
 ·rename_i y q
  rw[q] at e;exact congrArg some e
 ·rename_i q
  rw[q] at e;have a:es.toList.any (·.refKey)=false:=by
   rw[List.any_eq_false];intro y hy;obtain⟨z,t,hkey⟩:=hk y (Array.mem_toList_iff.mp hy);simp [DictEntry.refKey,hkey]
  have a':¬ es.toList.any (·.refKey)=true:=by rw[a];exact aak
  rw[if_neg a'];exact congrArg some e
theorem ObjM.look {h:Heap}{x dx C:Addr}{mA:Str->Option Value} (I:ObjM h x dx C mA):∃ od,PySem.W.InstAt h x (PySem.W.instObj C dx) C (some od)/\∀ name,PySem.W.lookIn name od=some (mA name):=
 let ⟨od,ho,hl⟩:=zW I.ns
 ⟨od,⟨I.obj,rfl,rfl,ho⟩,hl⟩
section
variable {prog:Program}{A:Around}{E:Value->Shared->Prop}{s:Shared}{x dx f:Addr}{mA:Str->Option Value}{name:Str}{v:Value}
theorem E7 {ns:List Str}{Q:Unit->Shared->Prop} (X:K.In s.heap) (I:ObjM s.heap x dx C mA)
  (hs:PySem.W.findIn K (.ref C) "__setattr__" = some (some (.builtin "object.__setattr__"))) (hp:PySem.W.plainOver K C=true) (ht:PySem.W.takerIn K C name=some none) (hh:PySem.W.hasDictIn K C=true)
  (hw:PySem.Within mA ns) (hsz:ns.length<=sizeLine)
  (h:∀ h',ObjM h' x dx C (λ y=>if y=name then some v else mA y)->Heap.SameBut dx s.heap h'->Q () { s with heap:=h',toks:=s.toks+2 }) :
  wpAny (model prog w) A (setAttr (.ref x) name v) Q E s:=by
 obtain⟨od,J,hl⟩:=I.look;refine PySem.W.set_plain X J hs (PySem.W.osa_open (s:={ s with toks:=s.toks+1 }) (r:=none) X J hp ht λ b=>?_);obtain⟨cd,hc,hd'⟩:=PySem.W.any_some hh;have hx:s.heap.get? x=some ⟨.ref C,some dx,.plain,#[]⟩:=I.obj;refine aac (aav (aac (aac (wpAny_loadPart hx (aac (PySem.W.Looks.here (s:={ s with toks:=s.toks+1 }) (PySem.W.looks_clsIn X hc) ?_))))));rw[hd'];refine aav (a:=some dx) (aac (aav (aac ?_)));refine wpAny_nsSet1 (s:={ s with toks:=s.toks+1 }) I.ns λ h' hn2 hs2=>?_;obtain⟨oD,esD,epD,hoD,hdD,hcD⟩:=hn2.count (PySem.Within.cons name v hw);refine aac (wpAny_lookBehind hoD (by rw[hdD];exact pastItsLine_dict (abn hcD (by rw[abb];omega))) ?_);exact aav (h _ ⟨(hs2.2 _ (Ne.symm I.ne)).trans I.obj,hn2,I.ne⟩ hs2)
theorem BY {R:Result->Shared->Prop}{vs:List Value}{kw:List (Str×Value)} (X:K.In s.heap) (hm:PySem.W.makesIn K C=true)
  (hi:PySem.W.findIn K (.ref C) "__init__" = some (some (.ref f))) (hf:PySem.W.typeIn K (.ref f)=some (.type "function"))
  (h:codeAny (model prog w) (A.under (.builtin "type.__call__" ⟨.ref C::vs,kw⟩)) (.call (.ref f) ⟨.ref (s.heap.objs.size+1)::vs,kw⟩) (PySem.W.InitBack (s.heap.objs.size+1) R)
   { s with heap:=(s.heap.push PySem.W.emptyDict).push (PySem.W.instObj C s.heap.objs.size) }) :
  codeAny (model prog w) A (.call (.ref C) ⟨vs,kw⟩) R s:=by
 obtain⟨hh,g,d,t,os⟩:=s;exact PySem.W.make_core (PySem.W.makes_of X hm) (PySem.W.looks_findIn X hi) (λ self=>PySem.W.bind_fn X self hf) (.inl rfl) h
end
def cA (f:Str) (v:V):List (Str×V)->List (Str×V)
 | []=>[(f,v)]
 | (g,x)::r=>if g=f then (g,v)::r else (g,x)::cA f v r
theorem nV (f g:Str) (v:V):∀ fs:List (Str×V),(cA f v fs).lookup g=if g=f then some v else fs.lookup g
 | []=>by
  show List.lookup g [(f,v)]=_
  by_cases h:g=f
  ·have hb:(g == f)=true:=beq_iff_eq.mpr h;simp only [List.lookup,hb,if_pos h]
  ·have hb:(g == f)=false:=beq_eq_false_iff_ne.mpr h;simp only [List.lookup,hb,if_neg h]
 | (k,x)::r=>by
  have ih:=nV f g v r;rw[show cA f v ((k,x)::r)=(if k=f then (k,v)::r else (k,x)::cA f v r) from rfl]
  by_cases hk:k=f
  ·rw[if_pos hk]
   by_cases h:g=k
   ·have hb:(g == k)=true:=beq_iff_eq.mpr h;simp only [List.lookup,hb,if_pos (h.trans hk)]
   ·have hb:(g == k)=false:=beq_eq_false_iff_ne.mpr h;simp only [List.lookup,hb,if_neg (λ e:g=f=>h (e.trans hk.symm))]
  ·rw[if_neg hk]
   by_cases h:g=k
   ·have hb:(g == k)=true:=beq_iff_eq.mpr h;simp only [List.lookup,hb,if_neg (λ e:g=f=>hk (h.symm.trans e))]
   ·have hb:(g == k)=false:=beq_eq_false_iff_ne.mpr h;simp only [List.lookup,hb];exact ih
theorem nH (f:Str) (v:V):∀ fs:List (Str×V),f∈(cA f v fs).map (·.1)/\∀ g,g∈fs.map (·.1)->g∈(cA f v fs).map (·.1)
 | []=>⟨by simp [cA],λ g h=>by simp at h⟩
 | (k,x)::r=>by
  obtain⟨i1,i2⟩:=nH f v r;rw[show cA f v ((k,x)::r)=(if k=f then (k,v)::r else (k,x)::cA f v r) from rfl]
  by_cases hk:k=f
  ·rw[if_pos hk];subst hk;exact⟨by simp,λ g h=>by simpa using h⟩
  ·rw[if_neg hk];refine⟨?_,λ g h=>?_⟩
   ·rw[aaq];exact aam _ i1
   ·rw[aaq] at h ⊢;rcases aaz.mp h with e | e
    ·exact aaz.mpr (.inl e)
    ·exact aam _ (i2 g e)
theorem nW (f:Str) (v:V):∀ fs:List (Str×V),(cA f v fs).length<=fs.length+1
 | []=>by simp [cA]
 | (k,x)::r=>by
  have ih:=nW f v r;rw[show cA f v ((k,x)::r)=(if k=f then (k,v)::r else (k,x)::cA f v r) from rfl]
  by_cases hk:k=f
  ·rw[if_pos hk,abb,abb];omega
  ·rw[if_neg hk,abb,abb];omega
theorem qJ.some_of {v:V}{o:Option Value} (r:qJ (some v) o):∃ u,o=some u/\bF v u:=by
 cases o with
 | none=>exact (show False from r).elim
 | some u=>exact⟨u,rfl,r⟩
section
variable {H H':Hp}{h h':Heap}{a dx:Addr}{fs fs':List (Str×V)}
theorem yM (hok:lI P w H h) (e:H a=some (.ins C dx fs)):∃ mA,ObjM h a dx C mA/\(∀ f,qJ (fs.lookup f) (mA f))/\PySem.Within mA (fs.map (·.1))/\fs.length<=1000/\H dx=some (.own a):=by
 obtain⟨d,z,ne,ob,mA,n,r,q⟩:=(show cY P w H h a (.ins C dx fs) from hok a _ e);exact⟨mA,⟨ob,n,ne⟩,r,q,z,d⟩
end
structure Cls (K:aaa) (C:Addr):Prop where
 pg:PySem.W.plainGet K C Str.empty=true
 hd:PySem.W.hasDictIn K C=true
 po:PySem.W.plainOver K C=true
 sa:PySem.W.findIn K (.ref C) "__setattr__" = some (some (.builtin "object.__setattr__"))
theorem Cls.get {K:aaa}{C:Addr} (c:Cls K C) (f:Str):PySem.W.plainGet K C f=true:=c.pg
def iG (K:aaa) (C:Addr) (f:Str):Prop:=PySem.W.findIn K (.ref C) f=some none
theorem iG.taker {K:aaa}{C:Addr}{f:Str} (n:iG K C f):PySem.W.takerIn K C f=some none:=by
 unfold PySem.W.takerIn;rw[show PySem.W.findIn K (.ref C) f=some none from n];rfl
section
variable {X:Cx}{pins:List (Addr×Obj)}{σ:St}{H:Hp}{s:Shared}{a dx:Addr}{fs:List (Str×V)}{f:Str}{v:V}{A:Around}{E:Value->Shared->Prop}
theorem wV {y:V}{u:Value}{Q:Unit->Shared->Prop} (I:Inv X pins σ H s) (e:H a=some (.ins C dx fs)) (c:Cls X.K C) (n:iG X.K C f) (hl:fs.length < 1000) (ry:bF y u)
  (h:∀ s',Inv X pins σ (upd H a (.ins C dx (cA f y fs))) s'->Q () s'):wpAny (model X.prog X.w) A (setAttr (.ref a) f u) Q E s:=by
 obtain⟨mA,O,r,wi,_,ho⟩:=yM I.hok e;have hz:(fs.map (·.1)).length<=sizeLine:=by rw[aab,sizeLine_eq];omega
 refine E7 I.kIn O c.sa c.po n.taker c.hd wi hz λ h' O' sb=>h _ ?_;have hd:∃ o,h'.get? dx=some o:=let ⟨o,_,_,e',_⟩:=O'.ns;⟨o,e'⟩;refine I.write (x:=a) (e:=dx) (by rw[e];exact True.intro) (.inr ho) (λ b q hb z=>(sb.2 b hb).trans z) hd ?_;refine⟨by rw[aN O.ne];exact ho,?_,O.ne,O'.obj,_,O'.ns,λ g=>?_,λ g hg=>?_⟩
 ·have:=nW f y fs;omega
 ·show qJ ((cA f y fs).lookup g) (if g=f then some u else mA g);rw[nV]
  by_cases q:g=f
  ·rw[if_pos q,if_pos q];exact ry
  ·rw[if_neg q,if_neg q];exact r g
 ·by_cases q:g=f
  ·rw[q];exact (nH f y fs).1
  ·refine (nH f y fs).2 g (wi g λ z=>hg ?_);show (if g=f then some u else mA g)=none;rw[if_neg q];exact z
theorem Inv.made (I:Inv X pins σ H s):Inv X pins σ (upd (upd H s.heap.objs.size (.own (s.heap.objs.size+1))) (s.heap.objs.size+1) (.ins C s.heap.objs.size []))
  { s with heap:=(s.heap.push PySem.W.emptyDict).push (PySem.W.instObj C s.heap.objs.size) }:=by
 have e1:(s.heap.push PySem.W.emptyDict).get? s.heap.objs.size=some PySem.W.emptyDict:=aas s.heap rfl;have e2:((s.heap.push PySem.W.emptyDict).push (PySem.W.instObj C s.heap.objs.size)).get? (s.heap.objs.size+1)=some (PySem.W.instObj C s.heap.objs.size):=by
  have:=aas (s.heap.push PySem.W.emptyDict) (o:=PySem.W.instObj C s.heap.objs.size) rfl
  rwa [Heap.size_push] at this
 have e3:(s.heap.push PySem.W.emptyDict).Ns s.heap.objs.size (λ _=>none):=⟨PySem.W.emptyDict,#[],_,e1,rfl,(λ e he=>absurd he (by simp)),λ _=>rfl⟩;have I1:=I.laid (a:=s.heap.objs.size) (o:=.own (s.heap.objs.size+1)) (h':=s.heap.push PySem.W.emptyDict) (t':=s.toks) (λ b u q=>aah _ q) (aag _) ⟨_,e1⟩;refine I1.laid (a:=s.heap.objs.size+1) (o:=.ins C s.heap.objs.size []) (t':=s.toks) (λ b u q=>aah _ q) (Nat.le_of_eq (Heap.size_push _ _)) ?_;have ne:s.heap.objs.size≠s.heap.objs.size+1:=abi (Nat.lt_succ_self _);refine⟨by rw[aN ne,aD],abk _,ne,e2,λ _=>none,(Heap.Ns1.of_empty e3).at λ o q=>aah _ q,λ _=>True.intro,λ y hy=>absurd rfl hy⟩
end
def KG (K:aaa) (ta tv:TE) (f:Str):TS:=λ D σ H=>tv σ H λ y H1=>ta σ H1 λ x H2=>∃ a C dx fs,x=.ref a/\H2 a=some (.ins C dx fs)/\Cls K C/\iG K C f/\fs.length < 1000/\
 D.nx σ (upd H2 a (.ins C dx (cA f y fs)))
section
variable {X:Cx}{o e value:Expr}{f:Str}{pos pos' tpos:Pos}{ta tv:TE}
theorem HY (ha:PE X o ta) (hv:PE X value tv) (hs:swapsWith value (some (.Attribute o f pos')) pos.line X.env=pure false):PS X (.Assign [.Attribute o f pos'] value pos) (KG X.K ta tv f):=by
 intro pins s σ H D I h;refine plainObj_wpAny_Assign_Attribute (dF (hv pins s σ H _ I h) λ u s1 ⟨y,H1,I1,ry,q⟩=>dF (ha pins s1 σ H1 _ I1 q) λ ov s2 ⟨x,H2,I2,rx,a,C,dx,fs,ex,ea,c,n,l,q2⟩=>?_) hs;subst ex;obtain rfl:ov=Value.ref a:=rx;exact wV I2 ea c n l ry λ s3 I3=>⟨σ,_,I3,q2⟩
end
section
variable {X:Cx}{pins:List (Addr×Obj)}{σ:St}{H:Hp}{s:Shared}{A:Around}{E:Value->Shared->Prop}{Q:Value->Shared->Prop}{c:Value}{b:Bool}
inductive TyOf (K:aaa) (H:Hp):V->Value->Prop where
 | non:TyOf K H .non (.type "NoneType")
 | bl (x:Bool):TyOf K H (.bl x) (.type "bool")
 | int (i:Int):TyOf K H (.int i) (.type "int")
 | str (x:Str):TyOf K H (.str x) (.type "str")
 | flt (x:UInt64):TyOf K H (.flt x) (.type "float")
 | lst {a:Addr}{xs:List V} (e:H a=some (.lst xs)):TyOf K H (.ref a) (.type "list")
 | frz {a:Addr}{o:Obj}{xs:List V} (e:H a=some (.frz o (.lst xs))):TyOf K H (.ref a) (.type "list")
 | tup {a:Addr}{xs:List V} (e:H a=some (.tup xs)):TyOf K H (.ref a) (.type "tuple")
 | dK {a:Addr}{kvs:List (fS×V)} (e:H a=some (.dK kvs)):TyOf K H (.ref a) (.type "dict")
 | dT {a:Addr}{kvs:List (List fS×V)} (e:H a=some (.dT kvs)):TyOf K H (.ref a) (.type "dict")
 | ins {a C dx:Addr}{fs:List (Str×V)} (e:H a=some (.ins C dx fs)) (cl:Cls K C) (ha:PySem.W.findIn K (.ref C) "__class__" = some (some (.builtin "object.__class__")))
   (hn:PySem.W.specialIn K (.builtin "object.__class__") "__get__" = some (some (.builtin "getset_descriptor.__get__"))) (htk:PySem.W.takesIn K (.builtin "object.__class__")=some true)
   (hm:PySem.W.mroIn K C (.type "object")=some true):TyOf K H (.ref a) (.ref C)
theorem jT {x:V}{u t:Value} (I:Inv X pins σ H s) (rx:bF x u) (ty:TyOf X.K H x t) (e:PySem.W.kitOne X.K t c=some b) (h:∀ tk,Q (.bool b) { s with toks:=tk }) :
  wpAny (model X.prog X.w) A (call (.builtin "isinstance") [u,c]) Q E s:=by
 cases ty with
 | non=>cases (show u=Value.none from rx);exact PySem.W.kia_one PySem.W.kitx_none I.kIn True.intro e (λ z=>nomatch z) h
 | bl y=>cases (show u=Value.bool y from rx);exact PySem.W.kia_one PySem.W.kitx_bool I.kIn True.intro e (λ z=>nomatch z) h
 | int i=>obtain⟨t,q⟩:=(show ∃ t,u=Value.int i t from rx);cases q;exact PySem.W.kia_one PySem.W.kitx_int I.kIn True.intro e (λ z=>nomatch z) h
 | str y=>obtain⟨t,q⟩:=(show ∃ t,u=Value.str y t from rx);cases q;exact PySem.W.kia_one PySem.W.kitx_str I.kIn True.intro e (λ z=>nomatch z) h
 | flt y=>obtain⟨t,q⟩:=(show ∃ t,u=Value.float y t from rx);cases q;exact PySem.W.kia_one PySem.W.kitx_float I.kIn True.intro e (λ z=>nomatch z) h
 | @lst a xs ea=>
  cases (show u=Value.ref a from rx);obtain⟨_,_,n,_,h1⟩:=(show cY X.prog X.w H s.heap a (.lst xs) from I.hok a _ ea);exact PySem.W.kia_one PySem.W.kitx_list I.kIn ⟨_,h1,rfl⟩ e (λ z=>nomatch z) h
 | @frz a ob xs ea=>
  cases (show u=Value.ref a from rx);obtain⟨_,_,_,n,_,h1⟩:=(show cY X.prog X.w H s.heap a (.frz ob (.lst xs)) from I.hok a _ ea);exact PySem.W.kia_one PySem.W.kitx_list I.kIn ⟨_,h1,rfl⟩ e (λ z=>nomatch z) h
 | @tup a xs ea=>
  cases (show u=Value.ref a from rx);obtain⟨_,_,_,p⟩:=(show cY X.prog X.w H s.heap a (.tup xs) from I.hok a _ ea);obtain⟨o,h1,h2,_⟩:=p;exact PySem.W.kia_one PySem.W.kitx_tuple I.kIn ⟨o,h1,h2⟩ e (λ z=>nomatch z) h
 | @dK a kvs ea=>
  cases (show u=Value.ref a from rx);obtain⟨_,_,vs,_,p⟩:=(show cY X.prog X.w H s.heap a (.dK kvs) from I.hok a _ ea);obtain⟨o,es,ep,h1,h2,_⟩:=p;exact PySem.W.kia_one PySem.W.kitx_dict I.kIn ⟨o,h1,h2.1⟩ e (λ z=>nomatch z) h
 | @dT a kvs ea=>
  cases (show u=Value.ref a from rx);obtain⟨_,_,xs,_,o,es,ep,h1,h2,_⟩:=(show cY X.prog X.w H s.heap a (.dT kvs) from I.hok a _ ea);exact PySem.W.kia_one PySem.W.kitx_dict I.kIn ⟨o,h1,h2.1⟩ e (λ z=>nomatch z) h
 | @ins a C dx fs ea cl ha hn htk hm=>
  cases (show u=Value.ref a from rx);obtain⟨mA,O,_⟩:=yM I.hok ea;obtain⟨od,J,_⟩:=O.look;exact PySem.W.kia_one (PySem.W.kitx_own (cl.get _) cl.hd ha hn htk hm) I.kIn J e (λ z=>nomatch z) h
end
structure Room (k:Nat) (A:Around):Prop where
 hd:A.handled=none
 dp:A.depth+3 * k+5 < recursionLimit
 un:A.units+16 * k+200 < cLine
theorem Room.mono {j k:Nat}{A:Around} (r:Room k A) (h:j<=k):Room j A:=⟨r.hd,by have:=r.dp;omega,by have:=r.un;omega⟩
theorem Room.deeper {k:Nat}{A:Around} (r:Room (k+1) A) (env:Env):Room k (A.deeper env):=
 ⟨r.hd,by have:=r.dp;show A.depth+1+3 * k+5 < _;omega,by have:=r.un;show A.units+3+16 * k+200 < _;omega⟩
theorem xI {A:Around}{C:Addr}{us:List Value}{kw:List (Str×Value)}:(A.under (.builtin "type.__call__" ⟨.ref C::us,kw⟩)).depth=A.depth+1:=by
 first | rfl | simp [Around.under,Code.weight,Code.isCreation,Code.isGuard,Code.isCaller,Code.frames,Code.isFrame,guardIds]
theorem xH {A:Around}{C:Addr}{us:List Value}{kw:List (Str×Value)}:(A.under (.builtin "type.__call__" ⟨.ref C::us,kw⟩)).units=A.units+1:=by
 first | rfl | simp [Around.under,Code.cUnits,Code.frames,Code.isFrame]
theorem Room.make {k:Nat}{A:Around} (r:Room (k+1) A) (C:Addr) (us:List Value) (kw:List (Str×Value)):Room k (A.under (.builtin "type.__call__" ⟨.ref C::us,kw⟩)):=
 ⟨r.hd,by have:=r.dp;rw[xI];omega,by have:=r.un;rw[xH];omega⟩
theorem Room.depth {k:Nat}{A:Around} (r:Room k A):A.depth < recursionLimit:=by have:=r.dp;omega
theorem Room.units {k:Nat}{A:Around} (r:Room k A):A.units+64 < cLine:=by have:=r.un;omega
def fP:TA:=λ _ H Q=>Q [] H
def bV (ta:TE) (tr:TA):TA:=λ σ H Q=>ta σ H λ x H1=>tr σ H1 λ xs H2=>Q (x::xs) H2
section
variable {X:Cx}{e:Expr}{es:List Expr}{te:TE}{t:TA}{pos:Pos}
theorem aB:PA X [] fP:=λ _ _ _ _ H Q I h=>Calls.spliced_nil ⟨[],H,I,.nil,h⟩
theorem aA (ha:PE X e te) (hr:PA X es t) (hs:starEach (e::es) X.env=(false,eval e X.env)::starEach es X.env:=by with_unfolding_all rfl):PA X (e::es) (bV te t):=by
 intro pos pins s σ H Q I h;rw[hs];show wpAny _ _ (spliced ((false,eval e X.env)::backTo pos (starEach es X.env))) _ _ s;refine Calls.spliced_cons (dF (ha pins s σ H _ I h) λ u s1 ⟨x,H1,I1,r1,q1⟩=>?_);exact dF (hr pos pins s1 σ H1 _ I1 q1) λ us s2 ⟨xs,H2,I2,r2,q2⟩=>⟨x::xs,H2,I2,.cons r1 r2,q2⟩
def K2 (t:TA):TE:=λ σ H Q=>t σ H λ xs H1=>xs.length<=sizeLine/\∀ p,H1 p=none->Q (.ref p) (upd H1 p (.tup xs))
def rV (t:TA):TE:=λ σ H Q=>t σ H λ xs H1=>xs.length<=sizeLine/\∀ p,H1 p=none->Q (.ref p) (upd H1 p (.lst xs))
theorem bQ {x1} (h:PA X es t):PE X (.Tuple es x1 pos) (K2 t):=by
 intro pins s σ H Q I hq;refine wpAny_Tuple_spliced (dF (h pos pins s σ H _ I hq) λ us s1 ⟨xs,H1,I1,r,z,q⟩=>⟨by rw[<- r.length];exact z,?_⟩);have hf:H1 s1.heap.objs.size=none:=I1.hok.fresh (aag _);refine⟨.ref s1.heap.objs.size,upd H1 s1.heap.objs.size (.tup xs),I1.laid (t':=s1.toks) (λ b u e=>aah _ e) (aag _) ?_,rfl,q _ hf⟩;exact⟨z,us,r,⟨_,aas _ rfl,rfl,_,rfl⟩⟩
theorem aZ (h:PA X es t):PE X (.List es pos) (rV t):=by
 intro pins s σ H Q I hq;refine wpAny_List_spliced (dF (h pos pins s σ H _ I hq) λ us s1 ⟨xs,H1,I1,r,z,q⟩=>⟨by rw[<- r.length];exact z,?_⟩);have hf:H1 s1.heap.objs.size=none:=I1.hok.fresh (aag _);refine⟨.ref s1.heap.objs.size,upd H1 s1.heap.objs.size (.lst xs),I1.laid (t':=s1.toks) (λ b u e=>aah _ e) (aag _) ?_,rfl,q _ hf⟩;exact⟨z,us,0,r,aas _ rfl⟩
end
abbrev Sp:=List V->Hp->VK->XK->Prop
abbrev AJ:=List Env->Hp->Shared->XK->Value->Shared->Prop
structure Env0 (P:Program) (w:World) (K:aaa) (mg:Str->Option Value) (base:Heap) (A:Around) (outer:List Env) (s:Shared) (H:Hp):Prop where
 frames:A.frames=some outer
 mod:Mod K mg base
 bs:∀ b o,base.get? b=some o->s.heap.get? b=some o/\H b=none
 bsz:base.objs.size<=s.heap.objs.size
 funs:s.heap.FunFrames base outer
 frf:∀ b∈lH outer,H b=none
 hok:lI P w H s.heap
 bare:AllBare s.gens
def CE (outer:List Env) (P:Program) (w:World) (H:Hp) (s:Shared) (Q:VK) (u:Value) (s':Shared):Prop:=
 ∃ v H',s'.os=s.os/\AllBare s'.gens/\Un (lH outer) [] H H' s.heap s'.heap/\lI P w H' s'.heap/\bF v u/\Q v H'
def CR (CX:AJ) (outer:List Env) (P:Program) (w:World) (H:Hp) (s:Shared) (Q:VK) (E:XK) (r:Result) (s':Shared):Prop:=
 match r with
 | .ok (.ret u)=>CE outer P w H s Q u s'
 | .ok _=>False
 | .error e=>CX outer H s E e s'
structure FnOk (P:Program) (w:World) (K:aaa) (mg:Str->Option Value) (base:Heap) (CX:AJ) (k:Nat) (f:Addr) (fd:FuncData) (ps:List Str) (sp:Sp):Prop where
 len:∀ vs H Q E,sp vs H Q E->vs.length=ps.length
 run:∀ (A:Around) (outer:List Env) (s:Shared) (H:Hp) (args:Args) (us:List Value) (vs:List V) (Q:VK) (E:XK),Room k A->Env0 P w K mg base A outer s H->BindsTo s fd args (ps.zip us)->bA vs us->sp vs H Q E->
  codeAny (model P w) A (.call (.ref f) args) (CR CX outer P w H s Q E) s
theorem FnOk.imp {P:Program}{w:World}{K:aaa}{mg:Str->Option Value}{base:Heap}{CX:AJ}{k:Nat}{f:Addr}{fd:FuncData}{ps:List Str}{sp sp':Sp} (F:FnOk P w K mg base CX k f fd ps sp)
  (h:∀ vs H Q E,sp' vs H Q E->sp vs H Q E):FnOk P w K mg base CX k f fd ps sp':=
 ⟨λ vs H Q E q=>F.len vs H Q E (h _ _ _ _ q),λ A outer s H args us vs Q E hr he hb hv hs=>F.run A outer s H args us vs Q E hr he hb hv (h _ _ _ _ hs)⟩
theorem Env0.make {P:Program}{w:World}{K:aaa}{mg:Str->Option Value}{base:Heap}{A:Around}{outer:List Env}{s:Shared}{H:Hp} (e:Env0 P w K mg base A outer s H) (C:Addr) (us:List Value) (kw:List (Str×Value)) :
  Env0 P w K mg base (A.under (.builtin "type.__call__" ⟨.ref C::us,kw⟩)) outer s H:=⟨by first | exact e.frames | (simpa [Around.under,Code.envs,Code.isFrame,pushEnvs] using e.frames),e.mod,e.bs,e.bsz,e.funs,e.frf,e.hok,e.bare⟩
section
variable {X:Cx}{pins:List (Addr×Obj)}{σ:St}{H:Hp}{s s':Shared}
theorem Inv.env0 (I:Inv X pins σ H s):Env0 X.prog X.w X.K X.mg X.base X.A X.stack s H:=
 ⟨I.ok.frames,I.ok.mod,I.bs,abn I.ok.bsz I.sz,I.stack,I.stkFree,I.hok,I.bare⟩
theorem Inv.after {Q:VK}{u:Value} (I:Inv X pins σ H s) (h:CE X.stack X.prog X.w H s Q u s'):EP X pins σ Q u s':=by
 obtain⟨v,H',os,bare,un,hok,r,q⟩:=h;obtain⟨hh,g,d,t,os'⟩:=s';obtain rfl:os'=s.os:=os;exact⟨v,H',I.call (h':=hh) (g':=g) (d':=d) (t':=t) (ch:=[]) un hok bare (λ b z=>absurd z (by simp)),r,q⟩
end
def iN (sp:Sp) (dvs:List V) (E:XK) (t:TA):TE:=λ σ H Q=>t σ H λ vs H1=>sp (vs++dvs) H1 Q E
def K3 (C:Addr) (sp:Sp) (dvs:List V) (E:XK) (t:TA):TE:=λ σ H Q=>t σ H λ vs H1=>∀ x dx,H1 x=none->H1 dx=none->dx≠x->
 sp (.ref x::(vs++dvs)) (upd (upd H1 dx (.own x)) x (.ins C dx [])) (λ v H2=>v=.non/\Q (.ref x) H2) E
def kS (K:aaa) (fd:FuncData) (ps:List Str) (ds:List Value):Prop:=
 ∀ (s:Shared) (us:List Value),K.In s.heap->(us++ds).length=ps.length->BindsTo s fd ⟨us,[]⟩ (ps.zip (us++ds))
theorem kS.all {K:aaa}{fd:FuncData}{ps:List Str} (h:∀ us:List Value,us.length=ps.length->bindArgs fd ⟨us,[]⟩=pure (ps.zip us)):kS K fd ps []:=λ s us _ hl=>by
 rw[acb] at hl ⊢;exact .of_eq (h us hl)
def jN (CX:AJ) (X:Cx) (E:XK):Prop:=∀ (pins:List (Addr×Obj)) (σ:St) (H:Hp) (s:Shared) (e:Value) (s':Shared),Inv X pins σ H s->CX X.stack H s E e s'->X.xe e s'
section
variable {X:Cx}{CX:AJ}{k:Nat}{f:Addr}{fd:FuncData}{ps:List Str}{sp:Sp}{dvs:List V}{ds:List Value}{E:XK}{x m:Str}{p pos apos:Pos}{e o:Expr}{es:List Expr}{ta:TE}{t:TA}
theorem HK {pins:List (Addr×Obj)}{σ:St}{H:Hp}{s:Shared}{Q:VK}{us:List Value}{vs:List V} (F:FnOk X.prog X.w X.K X.mg X.base CX k f fd ps sp) (hr:Room k X.A) (hb:kS X.K fd ps ds) (hd:bA dvs ds) (hx:jN CX X E)
  (I:Inv X pins σ H s) (r:bA vs us) (h:sp (vs++dvs) H Q E):wpAny (model X.prog X.w) X.A (call (.ref f) us) (EP X pins σ Q) X.xe s:=by
 have r2:bA (vs++dvs) (us++ds):=r.append hd;have hl:(us++ds).length=ps.length:=by rw[<- r2.length];exact F.len _ _ _ _ h
 refine wpAny_call (codeAny_mono (F.run X.A X.stack s H ⟨us,[]⟩ (us++ds) (vs++dvs) Q E hr I.env0 (hb s us I.kIn hl) r2 h) λ r s' hq=>?_);cases r with
 | error e=>exact hx pins σ H s e s' I hq
 | ok fl=>
  cases fl with
  | ret u=>exact I.after hq
  | next=>exact False.elim hq
  | brk=>exact False.elim hq
  | cont=>exact False.elim hq
theorem dH (F:FnOk X.prog X.w X.K X.mg X.base CX k f fd ps sp) (hr:Room k X.A) (hg:Gl X x) (hm:X.mg x=some (.ref f)) (hk:PySem.W.keepIn X.K (.ref f)=true) (hb:kS X.K fd ps ds) (hd:bA dvs ds) (hx:jN CX X E)
  (ha:PA X (e::es) t) (hdb:(x == ("__debug__" : Str))=false:=by decide) (he:starEach (e::es) X.env=(false,eval e X.env)::starEach es X.env:=by with_unfolding_all rfl) (hpl:(backTo pos (starEach es X.env)).any (·.1)=false:=by with_unfolding_all rfl) :
  PE X (.Call (.Name x p) (e::es) [] pos) (iN sp dvs E t):=by
 intro pins s σ H Q I h;refine wpAny_Call_Name_kw (mK I hg hm ?_ hdb);refine PySem.W.callWith_K (h₀:=X.base) I.ok.mod.kin hk (dF (ha pos pins s σ H _ I h) λ us s1 ⟨vs,H1,I1,r,q⟩=>⟨I1.kIn,?_⟩) he hpl;exact HK F hr hb hd hx I1 r q
structure Mk (K:aaa) (C f:Addr):Prop where
 makes:PySem.W.makesIn K C=true
 init:PySem.W.findIn K (.ref C) "__init__" = some (some (.ref f))
 fn:PySem.W.isFn K (.ref f)=true
 kp:PySem.W.keepIn K (.ref C)=true
theorem AX {pins:List (Addr×Obj)}{σ:St}{H:Hp}{s:Shared}{Q:VK}{us:List Value}{vs:List V} (M:Mk X.K C f) (F:FnOk X.prog X.w X.K X.mg X.base CX k f fd ps sp) (hr:Room (k+1) X.A) (hb:kS X.K fd ps ds) (hd:bA dvs ds)
  (hx:jN CX X E) (I:Inv X pins σ H s) (r:bA vs us)
  (h:∀ x dx,H x=none->H dx=none->dx≠x->sp (.ref x::(vs++dvs)) (upd (upd H dx (.own x)) x (.ins C dx [])) (λ v H2=>v=.non/\Q (.ref x) H2) E) :
  wpAny (model X.prog X.w) X.A (call (.ref C) us) (EP X pins σ Q) X.xe s:=by
 have hq:=h (s.heap.objs.size+1) s.heap.objs.size (I.hok.fresh (Nat.le_succ _)) (I.hok.fresh (aag _)) (abi (Nat.lt_succ_self _));have I2:=Inv.made (C:=C) I;have r2:bA (V.ref (s.heap.objs.size+1)::(vs++dvs)) (Value.ref (s.heap.objs.size+1)::(us++ds)):=.cons rfl (r.append hd);have hl:(Value.ref (s.heap.objs.size+1)::us++ds).length=ps.length:=by
  have e:=r2.length;rw[F.len _ _ _ _ hq] at e;exact e.symm
 refine wpAny_call (BY (f:=f) I.kIn M.makes M.init (beq_iff_eq.mp M.fn) (codeAny_mono (F.run _ X.stack _ _ ⟨Value.ref (s.heap.objs.size+1)::us,[]⟩ (Value.ref (s.heap.objs.size+1)::(us++ds)) _ _ E (hr.make C us [])
  (I2.env0.make C us []) (hb _ (Value.ref (s.heap.objs.size+1)::us) I2.kIn hl) r2 hq) λ r s' hq'=>?_))
 cases r with
 | error e=>exact hx pins σ _ _ e s' I2 hq'
 | ok fl=>
  cases fl with
  | ret u=>
   obtain⟨v,H',I3,rv,ev,q3⟩:=I2.after hq';subst ev;exact⟨rv,⟨V.ref (s.heap.objs.size+1),H',I3,rfl,q3⟩⟩
  | next=>exact False.elim hq'
  | brk=>exact False.elim hq'
  | cont=>exact False.elim hq'
theorem y8 (M:Mk X.K C f) (F:FnOk X.prog X.w X.K X.mg X.base CX k f fd ps sp) (hr:Room (k+1) X.A) (hg:Gl X x) (hm:X.mg x=some (.ref C)) (hb:kS X.K fd ps ds) (hd:bA dvs ds) (hx:jN CX X E)
  (ha:PA X (e::es) t) (hdb:(x == ("__debug__" : Str))=false:=by decide) (he:starEach (e::es) X.env=(false,eval e X.env)::starEach es X.env:=by with_unfolding_all rfl) (hpl:(backTo pos (starEach es X.env)).any (·.1)=false:=by with_unfolding_all rfl) :
  PE X (.Call (.Name x p) (e::es) [] pos) (K3 C sp dvs E t):=by
 intro pins s σ H Q I h;refine wpAny_Call_Name_kw (mK I hg hm ?_ hdb);refine PySem.W.callWith_K (h₀:=X.base) I.ok.mod.kin M.kp (dF (ha pos pins s σ H _ I h) λ us s1 ⟨vs,H1,I1,r,q⟩=>⟨I1.kIn,?_⟩) he hpl;exact AX M F hr hb hd hx I1 r q
end
section
variable {X:Cx}{CX:AJ}{k:Nat}{f:Addr}{fd:FuncData}{ps ks:List Str}{sp:Sp}{E:XK}{x m:Str}{p pos apos kpos:Pos}{e o:Expr}{es:List Expr}{kws:List Keyword}{te ta:TE}{t tk:TA}{nm:Option Str}
variable {g:List Value->List Value->List Value}{gV:List V->List V->List V}
end
structure FnScope (N P:List Str) (sc:Scope):Prop where
 kind:sc.kind=.function:=by rfl
 co:sc.isCoroutine=false:=by rfl
 gen:sc.isGenerator=false:=by rfl
 nd:N.Nodup:=by decide +kernel
 pre:N.take P.length=P:=by rfl
 par:∀ x∈P,sc.names.lookup x=some .local\/sc.names.lookup x=some .cell:=by decide +kernel
 nofree:∀ y∈sc.names,y.2≠.free:=by decide +kernel
theorem rJ {kindOf:Str->Option NameKind}{x:Str}:∀ {binds:List (Str×Value)}{m:Str->Option Value},(∀ v,(x,v)∉binds)->bindL kindOf binds m x=m x
 | [],_,_=>rfl
 | (n,v)::r,m,h=>by
  unfold bindL;rw[rJ λ w hw=>h w (aam _ hw)]
  split
  ·have:x≠n:=by rintro rfl;exact h v abr
   simp [this]
  ·rfl
theorem rL {kindOf:Str->Option NameKind}{x:Str}:∀ {binds:List (Str×Value)}{m:Str->Option Value},(∀ v,(x,v)∉binds)->bindC kindOf binds m x=m x
 | [],_,_=>rfl
 | (n,v)::r,m,h=>by
  unfold bindC;rw[rL λ w hw=>h w (aam _ hw)]
  split
  ·rfl
  ·have:x≠n:=by rintro rfl;exact h v abr
   simp [this]
theorem rK {kindOf:Str->Option NameKind}{x:Str}{v:Value}:∀ {P:List Str}{vs:List Value}{i:Nat}{m:Str->Option Value},P.Nodup->P[i]? = some x->vs[i]? = some v->kindOf x=some .local->
  bindL kindOf (P.zip vs) m x=some v
 | [],_,_,_,_,h,_,_=>by simp at h
 | _::_,[],_,_,_,_,h,_=>by simp at h
 | p::P,w::vs,0,m,nd,h1,h2,hk=>by
  simp at h1 h2;subst h1;subst h2;show bindL kindOf ((p,w)::P.zip vs) m p=_;unfold bindL;rw[rJ λ v hv=>(aca.mp nd).1 (List.of_mem_zip hv).1,if_pos hk];simp
 | p::P,w::vs,i+1,m,nd,h1,h2,hk=>by
  show bindL kindOf ((p,w)::P.zip vs) m x=_;unfold bindL;exact rK (i:=i) (aca.mp nd).2 (by simpa using h1) (by simpa using h2) hk
theorem rM {kindOf:Str->Option NameKind}{x:Str}{v:Value}:∀ {P:List Str}{vs:List Value}{i:Nat}{m:Str->Option Value},P.Nodup->P[i]? = some x->vs[i]? = some v->kindOf x≠some .local->
  bindC kindOf (P.zip vs) m x=some v
 | [],_,_,_,_,h,_,_=>by simp at h
 | _::_,[],_,_,_,_,h,_=>by simp at h
 | p::P,w::vs,0,m,nd,h1,h2,hk=>by
  simp at h1 h2;subst h1;subst h2;show bindC kindOf ((p,w)::P.zip vs) m p=_;unfold bindC;rw[rL λ v hv=>(aca.mp nd).1 (List.of_mem_zip hv).1,if_neg hk];simp
 | p::P,w::vs,i+1,m,nd,h1,h2,hk=>by
  show bindC kindOf ((p,w)::P.zip vs) m x=_;unfold bindC;exact rM (i:=i) (aca.mp nd).2 (by simpa using h1) (by simpa using h2) hk
def lN (N:List Str) (vs:List V):St:=vs.map some++List.replicate (N.length - vs.length) none
def w9 (CX:AJ) (P:Program) (w:World) (K:aaa) (mg:Str->Option Value) (base:Heap) (N:List Str) (qual:Str) (scope:Scope) (f:Addr) (cd:Value) (A:Around) (outer:List Env) (s:Shared) (H:Hp) (E:XK):Cx where
 prog:=P
 w:=w
 K:=K
 mg:=mg
 base:=base
 A:=A.deeper (envOfC qual scope s.heap.objs.size f cd)
 N:=N
 s₀:=s
 H₀:=H
 env:=envOfC qual scope s.heap.objs.size f cd
 outer:=outer
 stack:=envOfC qual scope s.heap.objs.size f cd::outer
 ex:=[]
 calm:=true
 fn:=λ _=>true
 pn:=[]
 xe:=λ e s'=>wpAny (model P w) (A.deeper (envOfC qual scope s.heap.objs.size f cd)) (leaving (envOfC qual scope s.heap.objs.size f cd) e) (λ _ s''=>CX outer H s E e s'') (λ e' s''=>CX outer H s E e' s'') s'
theorem wA {sc:Scope}{n:Nat}{x:Str} (h:sc.names.lookup x=some .cell):∃ c,(cellsFrom n sc.names []).lookup x=some c:=by
 have q:=PySem.W.cellsFrom_some sc.names n [] (.inl h);exact Option.isSome_iff_exists.mp q
theorem zZ {CX:AJ}{P:Program}{w:World}{K:aaa}{mg:Str->Option Value}{base:Heap}{N ps:List Str}{qual:Str}{scope:Scope}{f:Addr}{cd:Value}{A:Around}{outer:List Env}{s s1:Shared}{H:Hp}{E:XK}{us:List Value}{vs:List V}
  (S:FnScope N ps scope) (hd:A.handled=none) (e0:Env0 P w K mg base A outer s H) (hl:vs.length=ps.length) (r:bA vs us)
  (x:InCallC s s.heap.objs.size (bindL (envOfC qual scope s.heap.objs.size f cd).kindOf (ps.zip us) λ _=>none) (cellsFrom (s.heap.objs.size+1) scope.names []) (bindC (envOfC qual scope s.heap.objs.size f cd).kindOf (ps.zip us) λ _=>none) s1) :
  Inv (w9 CX P w K mg base N qual scope f cd A outer s H E) [] (lN N vs) H s1:=by
 have hpl:ps.length<=N.length:=by have:=congrArg List.length S.pre;rw[abj] at this;omega
 obtain⟨h1,tk,rfl,hk⟩:=x.done;have noA:∀ b:Addr,b∉(w9 CX P w K mg base N qual scope f cd A outer s H E).ex:=λ b z=>absurd (show b∈([]:List Addr) from z) (by simp);refine⟨⟨e0.mod,S.kind,rfl,rfl,aag _,λ y z c h1 h2=>?_,λ y hy=>?_,λ y c _ h=>?_,λ _=>hd,Around.frames_deeper e0.frames,.inr ⟨rfl,rfl⟩,λ b z=>absurd z (noA b),e0.bs,e0.bsz,λ b _ _=>noA b,λ b z=>absurd z (noA b),e0.funs,e0.frf⟩,
  rfl,e0.bare,Un.kept hk,⟨_,x.toInCall.ns,λ i y v h1 h2 h3=>?_⟩,λ y c h=>⟨_,x.cell y c h⟩,e0.hok.fresh (aag _),λ y c h=>?_,λ p hp=>absurd (show p∈([]:List (Addr×Obj)) from hp) (by simp),e0.hok.kept hk,?_⟩
 ·exact name_of_addr x.apart (abu h1) (abu h2)
 ·have hy:scope.names.lookup y=some .cell\/scope.names.lookup y=some .free:=hy;rcases hy with hy | hy
  ·exact wA hy
  ·exact absurd rfl (S.nofree _ (abu hy))
 ·exact acr (x.above y c (abu h))
 ·have hi:i < vs.length:=by
   unfold lN at h2
   by_cases hi:i < vs.length
   ·exact hi
   ·rw[acf (by simpa using hi)] at h2;rw[List.getElem?_replicate] at h2
    split at h2 <;> cases h2
  have ha:vs[i]? = some v:=by
   unfold lN at h2;rw[acg (by simpa using hi),aap] at h2;cases e:vs[i]? with
   | none=>rw[e] at h2;cases h2
   | some a=>rw[e] at h2;cases h2;rfl
  obtain⟨u,hu,rv⟩:=r.get ha;have hp:ps[i]? = some y:=by
   rw[<- S.pre,List.getElem?_take_of_lt (by omega)];exact h1
  have ndP:ps.Nodup:=by rw[<- S.pre];exact S.nd.sublist (List.take_sublist _ _)
  refine⟨u,rv,?_⟩;rcases S.par y (aad hp) with k | k
  ·exact .inl ⟨k,rK ndP hp hu k⟩
  ·obtain⟨c,e⟩:=wA (n:=s.heap.objs.size+1) k;refine .inr ⟨.inl k,c,e,?_⟩;have q:=x.cell y c e;rw[rM ndP hp hu (by show scope.names.lookup y≠_;rw[k];decide)] at q;exact q
 ·exact e0.hok.fresh (acr (x.above y c (abu h)))
 ·unfold lN;show _=N.length;rw[aao,aab,List.length_replicate];omega
theorem GP {CX:AJ}{P:Program}{w:World}{K:aaa}{mg:Str->Option Value}{base:Heap}{k:Nat}{f:Addr}{name qual:Str}{params:Arguments}{body:List Stmt}{scope:Scope}{dV kV doc pm cdv ct oc:Value}{an od:Option Addr}
  {osl:Array (Option Value)}{N ps:List Str}{sp:Sp} (lk:K.lookup f=some ⟨oc,od,.func (PySem.W.fnOf name qual params body scope dV kV doc pm an cdv ct),osl⟩) (hcd:PySem.W.codeIn K cdv qual=true) (S:FnScope N ps scope)
  (len:∀ vs H Q E,sp vs H Q E->vs.length=ps.length)
  (hbody:∀ (A:Around) (outer:List Env) (s:Shared) (H:Hp) (vs:List V) (Q:VK) (E:XK),Room k (A.deeper (envOfC qual scope s.heap.objs.size f cdv))->sp vs H Q E->
   ∃ t,xR (w9 CX P w K mg base N qual scope f cdv A outer s H E) body t/\t { nx:=λ _ H'=>Q .non H',rt:=Q } (lN N vs) H) :
  FnOk P w K mg base CX (k+1) f (PySem.W.fnOf name qual params body scope dV kV doc pm an cdv ct) ps sp:=by
 refine⟨len,λ A outer s H args us vs Q E hr e0 hb r hsp=>?_⟩;have hl:=len _ _ _ _ hsp;have KX:K.In s.heap:=e0.mod.kin.keeps λ b o e=>(e0.bs b o e).1;have lim:s.heap.NoLimit:=e0.mod.nolimit.keeps λ b o e=>(e0.bs b o e).1;have hkind:∀ y∈ps.zip us,scope.names.lookup y.1=some .local\/(scope.names.lookup y.1=some .cell/\((cellsFrom (s.heap.objs.size+1) scope.names []).lookup y.1).isSome=true):=λ ⟨n,v⟩ hy=>by
  rcases S.par n (List.of_mem_zip hy).1 with q | q
  ·exact .inl q
  ·exact .inr ⟨q,PySem.W.cellsFrom_some _ _ _ (.inl q)⟩
 refine codeAny_call_function hr.depth (KX _ _ lk) rfl S.co S.gen rfl (PySem.W.codeRec_of KX hcd) (hb _ _ _ _ ?_);refine wpAny_newFunctionEnv_cells S.kind hkind λ env he s1 x=>?_;subst he;refine⟨lim.keeps x.toInCall.keep,codeAny_func ?_⟩;obtain⟨t,ht,hq⟩:=hbody A outer s H vs Q E (hr.deeper _) hsp;have I:Inv (w9 CX P w K mg base N qual scope f cdv A outer s H E) [] (lN N vs) H s1:=zZ S hr.hd e0 hl r x;refine abo (ht [] s1 (lN N vs) H _ I hq) (λ fl s' hs=>?_) λ e s' hs=>hs;have fin:∀ {aa:St}{H':Hp}{v:V}{u:Value},Inv (w9 CX P w K mg base N qual scope f cdv A outer s H E) [] aa H' s'->bF v u->Q v H'->CE outer P w H s Q u s':=
  λ {aa H' v u} J rv q=>⟨v,H',J.os,J.bare,J.base,J.hok,rv,q⟩
 cases fl with
 | ret u=>
  obtain⟨v,aa,H',J,rv,q⟩:=hs;exact fin J rv q
 | next=>
  obtain⟨aa,H',J,q⟩:=hs;exact fin (v:=V.non) (u:=Value.none) J rfl q
 | brk=>
  obtain⟨_,_,_,q⟩:=hs;exact False.elim q
 | cont=>
  obtain⟨_,_,_,q⟩:=hs;exact False.elim q
section
variable {X:Cx}{x:Str}{p pos:Pos}{e:Expr}{es:List Expr}{t:TA}{id T:String}{r:List V->Hp->VK->Prop}
def DP (r:List V->Hp->VK->Prop) (t:TA):TE:=λ σ H Q=>t σ H λ vs H1=>r vs H1 Q
theorem aT (hc:eN X (.builtin id) r) (hg:Gl X x) (hm:X.mg x=none) (hv:bootBuiltins x=some (.builtin id)) (ha:PA X (e::es) t) (hn:x ≠ "__name__" := by decide) (hdb:(x == ("__debug__" : Str))=false:=by decide)
  (he:starEach (e::es) X.env=(false,eval e X.env)::starEach es X.env:=by with_unfolding_all rfl) (hpl:(backTo pos (starEach es X.env)).any (·.1)=false:=by with_unfolding_all rfl):PE X (.Call (.Name x p) (e::es) [] pos) (DP r t):=by
 intro pins s σ H Q I h;refine wpAny_Call_Name_kw (pS I hg hm hv ?_ hn hdb);exact PyProof.Rows.callWith_builtin1 (dF (ha pos pins s σ H _ I h) λ us s1 ⟨vs,H1,I1,r1,q1⟩=>hc pins s1 σ H1 vs us Q I1 r1 q1) he hpl
theorem aR (hc:eN X (.type T) r) (hg:Gl X x) (hm:X.mg x=none) (hv:bootBuiltins x=some (.type T)) (ha:PA X (e::es) t) (hn:x ≠ "__name__" := by decide) (hdb:(x == ("__debug__" : Str))=false:=by decide)
  (he:starEach (e::es) X.env=(false,eval e X.env)::starEach es X.env:=by with_unfolding_all rfl) (hpl:(backTo pos (starEach es X.env)).any (·.1)=false:=by with_unfolding_all rfl):PE X (.Call (.Name x p) (e::es) [] pos) (DP r t):=by
 intro pins s σ H Q I h;refine wpAny_Call_Name_kw (pS I hg hm hv ?_ hn hdb);exact PyProof.Rows.callWith_type1 (dF (ha pos pins s σ H _ I h) λ us s1 ⟨vs,H1,I1,r1,q1⟩=>hc pins s1 σ H1 vs us Q I1 r1 q1) he hpl
end
end L2
namespace HT
open PySem PyProof.Rows
section
open PySem.SeqAt
open PySem.AutoSeq1 (wpAny_loadPart')
open PySem.MeetsSeq PySem.MeetsSeq2 PySem.MeetsSeq3
end
section
variable {prog:Program}{A:Around}{E:Value->Shared->Prop}{s:Shared}
theorem cat_tup {t b:Addr}{vs ws:List Value}{Q:Value->Shared->Prop} (ht:IsTup s.heap t vs.toArray) (hb:IsTup s.heap b ws.toArray) (hv:vs≠[])
  (h1:ws=[]->Q (.ref t) s) (h2:ws≠[]->Q (.ref s.heap.objs.size) { s with heap:=s.heap.push { cls:=.type "tuple",data:=.seq (vs++ws).toArray } })
  (hsz:vs.length+ws.length<=sizeLine):wpAny (model prog w) A (binaryOp .Add (.ref t) (.ref b)) Q E s:=by
 obtain⟨⟨cls,dd,data,sl⟩,ho,hc,n,hd⟩:=id ht;obtain⟨⟨cls2,dd2,data2,sl2⟩,ho2,hc2,n2,hd2⟩:=id hb;simp only at hc hd hc2 hd2;subst hc hd hc2 hd2;have e:vs.toArray++ws.toArray=(vs++ws).toArray:=by simp
 by_cases hw:ws=[]
 ·exact concat_meets ⟨_,ho,rfl⟩ ⟨_,ho2,rfl⟩ noFill_tuple_add seq_tuple_add PySem.F.slot_tuple_add PySem.F.entry_tuple_add (PySem.F.args_tuple_add_2 _ _)
   (tuple_addW1 t b vs.toArray ws.toArray n n2 dd dd2 sl sl2 (by simpa using hv) (by simp [hw])) ⟨ho,ho2,h1 hw⟩
 ·refine concat_meets ⟨_,ho,rfl⟩ ⟨_,ho2,rfl⟩ noFill_tuple_add seq_tuple_add PySem.F.slot_tuple_add PySem.F.entry_tuple_add (PySem.F.args_tuple_add_2 _ _)
   (tuple_addW2 t b vs.toArray ws.toArray n n2 dd dd2 sl sl2 (by simpa using hv) (by simpa using hw) (by rw[aaf,aaf];exact hsz)) ⟨ho,ho2,?_⟩
  rw[e];exact h2 hw
end
end HT
namespace L2
open PySem PySem.Spec PyProof.Rows
section
variable {X:Cx}{e:Expr}{te:TE}{lo hi:Option Expr}{tl th:TO}{pos p2:Pos}
def GJ (K:aaa):R2:=λ x y H Q=>∃ a b xs ys,x=.ref a/\y=.ref b/\bU K H a xs/\bU K H b ys/\xs≠[]/\xs.length+ys.length<=sizeLine/\
 (ys=[]->Q (.ref a) H)/\(ys≠[]->∀ p,H p=none->Q (.ref p) (upd H p (.tup (xs++ys))))
theorem bA.nil_iff {xs:List V}{us:List Value} (r:bA xs us):us=[]↔xs=[]:=by
 cases r with
 | nil=>simp
 | cons _ _=>simp
theorem yF:gG X (binaryOp .Add) (GJ X.K):=by
 intro pins s σ H x y v u Q I rx ry h;obtain⟨a,b,xs,ys,rfl,rfl,ha,hb,hx,hz,q1,q2⟩:=h;cases rx;cases ry;obtain⟨its,r1,p1,_⟩:=I.tuple ha;obtain⟨its2,r2,p2,_⟩:=I.tuple hb;refine HT.cat_tup p1 p2 (λ z=>hx (r1.nil_iff.mp z)) (λ z=>⟨.ref a,H,I,rfl,q1 (r2.nil_iff.mp z)⟩) (λ z=>?_) (by rw[<- r1.length,<- r2.length];exact hz);refine⟨.ref s.heap.objs.size,_,I.laid (t':=s.toks) (o:=.tup (xs++ys)) (λ b ob q=>aah _ q) (aag _) ?_,rfl,q2 (λ w=>z (r2.nil_iff.mpr w)) _ (I.hok.fresh (aag _))⟩;exact⟨by rw[aao];exact hz,_,r1.append r2,IsTup.new _ _⟩
end
def DQ (n:Nat) (i:Int):Option Nat:=if 0<=i then (if i < n then some i.toNat else none) else if -(n:Int)<=i then some (i+n).toNat else none
def GS {ae:Type} (xs:List ae) (i:Int):Option ae:=(DQ xs.length i).bind λ j=>xs[j]?
theorem yL {n:Nat}{i:Int}{j:Nat} (h:DQ n i=some j):seqIndex? i n=some j/\j < n/\-(n:Int)<=i/\i < n:=by
 unfold DQ at h
 by_cases h0:0<=i
 ·rw[if_pos h0] at h
  by_cases h1:i < n
  ·rw[if_pos h1] at h;have e:i.toNat=j:=abm h;exact⟨by rw[seqIndex_of h0 h1,e],by omega,by omega,h1⟩
  ·rw[if_neg h1] at h;cases h
 ·rw[if_neg h0] at h
  by_cases h1 : -(n:Int)<=i
  ·rw[if_pos h1] at h;have e:(i+n).toNat=j:=abm h;exact⟨by rw[seqIndex_neg (by omega) h1,e],by omega,h1,by omega⟩
  ·rw[if_neg h1] at h;cases h
theorem uG {ae:Type}{xs:List ae}{i:Int}{v:ae} (h:GS xs i=some v):∃ j,seqIndex? i xs.length=some j/\xs[j]? = some v/\j < xs.length/\-(xs.length:Int)<=i/\i < xs.length:=by
 unfold GS at h;cases e:DQ xs.length i with
 | none=>rw[e] at h;cases h
 | some j=>
  rw[e] at h;obtain⟨h1,h2,h3,h4⟩:=yL e;exact⟨j,h1,h,h2,h3,h4⟩
theorem eK {ae:Type}{xs:List ae}{j:Nat}{v:ae} (h:xs[j]? = some v):GS xs (j:Int)=some v:=by
 have hj:j < xs.length:=(aai.mp h).1;have e:DQ xs.length (j:Int)=some j:=by
  unfold DQ;rw[if_pos (by omega),if_pos (by omega)];simp
 unfold GS;rw[e];exact h
def zB (b:Expr):Prop:=∀ o i,subscripted b false o i=operate [o,i] (getItem o i)
def DT (X:Cx) (r:R2):Prop:=
 ∀ (value slice:Expr) (pins:List (Addr×Obj)) (s:Shared) (σ:St) (H:Hp) (x y:V) (v u:Value) (Q:VK),Inv X pins σ H s->bF x v->bF y u->r x y H Q->
  subscripted slice false v u=operate [v,u] (getItem v u)->wpAny (model X.prog X.w) X.A (subscriptTail value slice v u) (EP X pins σ Q) X.xe s
def DM (X:Cx) (id:String) (r:V->List V->Hp->VK->Prop):Prop:=
 ∀ (pins:List (Addr×Obj)) (s:Shared) (σ:St) (H:Hp) (x:V) (xs:List V) (v:Value) (us:List Value) (Q:VK),Inv X pins σ H s->bF x v->bA xs us->r x xs H Q->
  wpAny (model X.prog X.w) X.A (call (.builtin id) (v::us)) (EP X pins σ Q) X.xe s
section
variable {X:Cx}{a b:Expr}{ta tb:TE}{pos:Pos}
theorem DT.or {r r':R2} (h:DT X r) (h':DT X r'):DT X (λ x y H Q=>r x y H Q\/r' x y H Q):=by
 intro value slice pins s σ H x y v u Q I rx ry q hs;rcases q with q | q
 ·exact h value slice pins s σ H x y v u Q I rx ry q hs
 ·exact h' value slice pins s σ H x y v u Q I rx ry q hs
theorem KS {r:R2} (hr:DT X r) (ha:PE X a ta) (hb:PE X b tb) (hs:zB b):PE X (.Subscript a b pos) (fJ r ta tb):=by
 intro pins s σ H Q I h;exact Subscript_ (JJ ha hb I h λ v u s2 x y H2 I2 rx ry q=>hr a b pins s2 σ H2 x y v u Q I2 rx ry q (hs _ _))
def KM (K:aaa):R2:=λ x y H Q=>∃ p xs i v,x=.ref p/\y=.int i/\bO K H p xs/\GS xs i=some v/\Q v H
def KK (K:aaa):R2:=λ x y H Q=>∃ p xs i v,x=.ref p/\y=.int i/\bU K H p xs/\GS xs i=some v/\Q v H
def KL:R2:=λ x y H Q=>∃ z i c,x=.str z/\y=.int i/\z.length<=sizeLine/\GS z.cps.toList i=some c/\Q (.str ⟨#[c]⟩) H
theorem FO:DT X (KM X.K):=by
 intro value slice pins s σ H x y v u Q I rx ry h hs;obtain⟨p,xs,i,z,rfl,rfl,hq,he,q⟩:=h;cases rx;obtain⟨t,rfl⟩:=ry;obtain⟨its,r,pl,hz⟩:=I.list hq;obtain⟨j,h1,h2,h3,h4,h5⟩:=uG he;obtain⟨w,ew,rw'⟩:=r.get h2;have hl:=r.length;have hn:=lE;have fin:EP X pins σ Q w s:=⟨z,H,I,rw',q⟩
 by_cases h0:0<=i
 ·have hj:i.toNat=j:=by
   rw[seqIndex_of h0 h5] at h1;exact abm h1
  exact item_listR pl.isList h0 (by omega) (by rw[hj];simpa using ew) fin hs
 ·have hj:(i+(its.toArray.size:Int)).toNat=j:=by
   rw[seqIndex_neg (by omega) h4] at h1;rw[aaf,<- hl];exact abm h1
  exact subscriptTail_builtinR (x:=w) pl.isList.typeIs slot_list_getitem.lookup
   (wpAny_getItem_list_neg (Q:=λ r s'=>r=w/\EP X pins σ Q r s') pl.isList (by omega) (by rw[aaf] <;> omega) (by omega) (by rw[hj];simpa using ew) ⟨rfl,fin⟩) hs
theorem JA:DT X (KK X.K):=by
 intro value slice pins s σ H x y v u Q I rx ry h hs;obtain⟨p,xs,i,z,rfl,rfl,hq,he,q⟩:=h;cases rx;obtain⟨t,rfl⟩:=ry;obtain⟨its,r,pl,hz⟩:=I.tuple hq;obtain⟨j,h1,h2,h3,h4,h5⟩:=uG he;obtain⟨w,ew,rw'⟩:=r.get h2;have hl:=r.length;have hn:=lE;have fin:EP X pins σ Q w s:=⟨z,H,I,rw',q⟩;exact subscriptTail_builtinR (x:=w) pl.typeIs slot_tuple_getitem.lookup
  (getItem_tuple (j:=j) (Q:=λ r s'=>r=w/\EP X pins σ Q r s') pl (by omega) (by omega) (by rw[aaf,<- hl];exact h1) (by simpa using ew) ⟨rfl,fin⟩) hs
theorem JB:DT X KL:=by
 intro value slice pins s σ H x y v u Q I rx ry h hs;obtain⟨z,i,c,rfl,rfl,hz,he,q⟩:=h;obtain⟨t,rfl⟩:=rx;obtain⟨t',rfl⟩:=ry;obtain⟨j,h1,h2,h3,h4,h5⟩:=uG he;have hl:z.cps.toList.length=z.length:=by simp [Str.length]
 rw[hl] at h1 h4 h5;have hn:=lE;exact tail_any (typeIs_str s z t) slot_str_getitem.lookup (getItem_str (c:=c) (by
  have e1:decide (i < -(2 ^ 63:Int))=false:=aau (by omega);have e2:decide (i ≥ 2 ^ 63)=false:=aau (by omega);rw[e1,e2,Bool.or_false]) (by rw[h1];simpa using h2) ⟨.str ⟨#[c]⟩,H,I.tok _,⟨_,rfl⟩,q⟩) hs
def uK (K:aaa):R2:=λ x y H Q=>KM K x y H Q\/KK K x y H Q\/KL x y H Q
theorem JC:DT X (uK X.K):=FO.or (JA.or JB)
theorem xG (its:List Value) (n j:Nat) (u:Value):Obj.mapSeq (·.setIfInBounds j u) { cls:=.type "list",data:=.seq its.toArray n }={ cls:=.type "list",data:=.seq (its.set j u).toArray n }:=by
 simp [Obj.mapSeq]
theorem Inv.lst {pins:List (Addr×Obj)}{σ:St}{H:Hp}{s:Shared}{p:Addr}{xs:List V} (I:Inv X pins σ H s) (h:H p=some (.lst xs)) :
  ∃ (its:List Value) (n:Nat),bA xs its/\s.heap.get? p=some { cls:=.type "list",data:=.seq its.toArray n }/\xs.length<=sizeLine:=by
 obtain⟨z,its,n,r,e⟩:=I.hok p _ h;exact⟨its,n,r,e,z⟩
theorem Inv.lstUpd {pins:List (Addr×Obj)}{σ:St}{H:Hp}{s:Shared}{p:Addr}{xs ys:List V}{its its':List Value}{n n':Nat}{f:Obj->Obj} (I:Inv X pins σ H s) (h:H p=some (.lst xs))
  (ho:s.heap.get? p=some { cls:=.type "list",data:=.seq its.toArray n }) (hf:f { cls:=.type "list",data:=.seq its.toArray n }={ cls:=.type "list",data:=.seq its'.toArray n' }) (r:bA ys its') (hz:ys.length<=sizeLine) (t:Nat) :
  Inv X pins σ (upd H p (.lst ys)) { s with heap:=s.heap.update p f,toks:=t }:=by
 have e:(s.heap.update p f).get? p=some { cls:=.type "list",data:=.seq its'.toArray n' }:=by
  rw[Heap.get?_update_self f ho (by rw[hf] <;> rfl),hf]
 refine I.write (x:=p) (e:=p) (by rw[h];trivial) (.inl rfl) (λ b u hb q=>(Heap.get?_update_other _ _ (Ne.symm hb)).trans q) ⟨_,e⟩ ?_;exact⟨hz,its',n',r,e⟩
def y1:V->V->V->Hp->(Hp->Prop)->Prop:=λ o i v H Q=>∃ p xs k j,o=.ref p/\i=.int k/\H p=some (.lst xs)/\DQ xs.length k=some j/\Q (upd H p (.lst (xs.set j v)))
theorem fC:LS X y1:=by
 intro pins s σ H o i v ov iv u Q I ro ri rv h;obtain⟨p,xs,k,j,rfl,rfl,hp,hj,q⟩:=h;cases ro;obtain⟨t,rfl⟩:=ri;obtain⟨its,n,r,ho,hz⟩:=I.lst hp;obtain⟨h1,h2,h3,h4⟩:=yL hj;have hl:=r.length;have hn:=lE;have I':Inv X pins σ (upd H p (.lst (xs.set j v))) { s with heap:=s.heap.update p (Obj.mapSeq (·.setIfInBounds j u)) }:=
  I.lstUpd hp ho (xG its n j u) (r.set rv j) (by rw[acl];exact hz) s.toks
 by_cases h0:0<=k
 ·have hk:k.toNat=j:=by
   rw[seqIndex_of h0 h4] at h1;exact abm h1
  exact PySem.W.ki_setAt ho h0 (by omega) (by rw[aaf,<- hl];exact h4) (by rw[hk];exact⟨_,I',q⟩)
 ·have hk:(k+(its.toArray.size:Int)).toNat=j:=by
   rw[seqIndex_neg (by omega) h3] at h1;rw[aaf,<- hl];exact abm h1
  exact PySem.W.ki_setBack ho (by omega) (by rw[aaf,<- hl];exact h3) (by omega) (by rw[hk];exact⟨_,I',q⟩)
def nY:V->Bool
 | .non=>true
 | .bl _=>true
 | .int _=>true
 | .str _=>true
 | _=>false
def GQ:V->V->Bool
 | .non,.non=>true
 | .bl a,.bl b=>a == b
 | .bl a,.int b=>(if a then 1 else 0) == b
 | .int a,.bl b=>a == (if b then 1 else 0)
 | .int a,.int b=>a == b
 | .str a,.str b=>a == b
 | _,_=>false
theorem JH {A:Around}{s:Shared}{y x:V}{u v:Value} (ry:bF y u) (rx:bF x v) (fy:nY y=true) (fx:nY x=true):SeqAt.EqAt A s u v (GQ y x):=by
 cases y with
 | non=>
  cases ry;cases x with
  | non=>cases rx;exact SeqAt.EqAt.same _
  | bl b=>cases rx;exact SeqAt.EqAt.none_bool b
  | int b=>obtain⟨t,rfl⟩:=rx;exact SeqAt.EqAt.none_int b t
  | str b=>obtain⟨t,rfl⟩:=rx;exact SeqAt.EqAt.none_str b t
  | _=>exact absurd (show false=true from fx) aak
 | bl a=>
  cases ry;cases x with
  | non=>cases rx;exact SeqAt.EqAt.bool_none a
  | bl b=>cases rx;exact SeqAt.EqAt.bool_bool a b
  | int b=>obtain⟨t,rfl⟩:=rx;exact SeqAt.EqAt.bool_int a b t
  | str b=>obtain⟨t,rfl⟩:=rx;exact SeqAt.EqAt.bool_str a b t
  | _=>exact absurd (show false=true from fx) aak
 | int a=>
  obtain⟨t',rfl⟩:=ry;cases x with
  | non=>cases rx;exact SeqAt.EqAt.int_none a t'
  | bl b=>cases rx;exact SeqAt.EqAt.int_bool a t' b
  | int b=>obtain⟨t,rfl⟩:=rx;exact SeqAt.EqAt.int_int a t' b t
  | str b=>obtain⟨t,rfl⟩:=rx;exact SeqAt.EqAt.int_str a t' b t
  | _=>exact absurd (show false=true from fx) aak
 | str a=>
  obtain⟨t',rfl⟩:=ry;cases x with
  | non=>cases rx;exact SeqAt.EqAt.str_none a t'
  | bl b=>cases rx;exact SeqAt.EqAt.str_bool a t' b
  | int b=>obtain⟨t,rfl⟩:=rx;exact SeqAt.EqAt.str_int a t' b t
  | str b=>obtain⟨t,rfl⟩:=rx;exact SeqAt.EqAt.str_str a t' b t
  | _=>exact absurd (show false=true from fx) aak
 | _=>exact absurd (show false=true from fy) aak
def LN (x:V) (u:Value):Bool:=match u with
 | .none=>GQ .non x
 | .bool b=>GQ (.bl b) x
 | .int i _=>GQ (.int i) x
 | .str z _=>GQ (.str z) x
 | _=>false
theorem xM {x y:V}{u:Value} (r:bF y u) (f:nY y=true):LN x u=GQ y x:=by
 cases y with
 | non=>cases r;rfl
 | bl b=>cases r;rfl
 | int i=>obtain⟨t,rfl⟩:=r;rfl
 | str z=>obtain⟨t,rfl⟩:=r;rfl
 | _=>exact absurd (show false=true from f) aak
theorem vK {A:Around}{s:Shared}{x:V}{v:Value} (rx:bF x v) (fx:nY x=true):∀ {xs:List V}{us:List Value},bA xs us->xs.all nY=true->∀ u∈us,SeqAt.EqAt A s u v (LN x u)
 | _,_,.nil,_=>λ u hu=>by cases hu
 | y::xs,u::us,.cons r t,f=>λ u' hu=>by
  rw[List.all_cons,Bool.and_eq_true] at f;rcases aaz.mp hu with rfl | hu
  ·rw[xM r f.1];exact JH r rx f.1 fx
  ·exact vK rx fx t f.2 u' hu
theorem uD:eN X (.builtin "len") (λ xs H Q=>∃ p ys,xs=[.ref p]/\(bO X.K H p ys\/bU X.K H p ys)/\Q (.int ys.length) H):=by
 intro pins s σ H xs us Q I r h;obtain⟨p,ys,rfl,hq,q⟩:=h;obtain⟨u,rfl,rx⟩:=kI r;cases rx;have hn:=lE;rcases hq with hq | hq
 ·obtain⟨its,r',pl,hz⟩:=I.list hq;have hlen:=r'.length;exact Calls.call_len_list pl.isList (by simp only [aaf] <;> omega) ⟨.int ys.length,H,I.tok _,⟨s.toks+1,by rw[aaf,hlen]⟩,q⟩
 ·obtain⟨its,r',pl,hz⟩:=I.tuple hq;have hlen:=r'.length;exact len_tuple pl (by simp only [aaf] <;> omega) ⟨.int ys.length,H,I.tok _,⟨s.toks+1,by rw[aaf,hlen]⟩,q⟩
theorem uC:eN X (.type "list") (λ xs H Q=>∃ p ys,xs=[.ref p]/\(bO X.K H p ys\/bU X.K H p ys)/\∀ l,H l=none->Q (.ref l) (upd H l (.lst ys))):=by
 intro pins s σ H xs us Q I r h;obtain⟨p,ys,rfl,hq,q⟩:=h;obtain⟨u,rfl,rx⟩:=kI r;cases rx;have fin:∀ (its:List Value),bA ys its->ys.length<=sizeLine->∀ (h':Heap) (c':Nat),(∀ b o',s.heap.get? b=some o'->h'.get? b=some o')->
   h'.get? s.heap.objs.size=some { cls:=.type "list",dict:=none,data:=.seq its.toArray c',slots:=#[] }->EP X pins σ Q (.ref s.heap.objs.size) { s with heap:=h' }:=λ its r' hz h' c' kp e=>
  ⟨.ref s.heap.objs.size,_,I.laid (t':=s.toks) kp (aag _) (show cY X.prog X.w _ h' _ (.lst ys) from ⟨hz,its,c',r',e⟩),rfl,q _ (I.hok.fresh (aag _))⟩
 rcases hq with hq | hq
 ·obtain⟨its,r',pl,hz⟩:=I.list hq;have hlen:=r'.length;obtain⟨o,ho,hc,n,hd⟩:=pl.isList;exact call_list_seq p (.inl rfl) ho hc hd (λ h' c' kp e=>fin its r' hz h' c' kp e) (by simp only [aaf] <;> omega)
 ·obtain⟨its,r',pl,hz⟩:=I.tuple hq;have hlen:=r'.length;obtain⟨o,ho,hc,n,hd⟩:=pl;exact call_list_seq p (.inr rfl) ho hc hd (λ h' c' kp e=>fin its r' hz h' c' kp e) (by simp only [aaf] <;> omega)
theorem qG:eN X (.type "tuple") (λ xs H Q=>∃ p ys,xs=[.ref p]/\((bO X.K H p ys/\∀ l,H l=none->Q (.ref l) (upd H l (.tup ys)))\/(bU X.K H p ys/\Q (.ref p) H))):=by
 intro pins s σ H xs us Q I r h;obtain⟨p,ys,rfl,h⟩:=h;obtain⟨u,rfl,rx⟩:=kI r;cases rx;rcases h with ⟨hq,q⟩ | ⟨hq,q⟩
 ·obtain⟨its,r',pl,hz⟩:=I.list hq;have hlen:=r'.length;refine call_tuple_list pl.isList (λ h' kp=>?_) (by simp only [aaf] <;> omega);have I1:Inv X pins σ H { s with heap:=h' }:=I.kept (t':=s.toks) kp;have I2:Inv X pins σ (upd H h'.objs.size (.tup ys)) { s with heap:=h'.push { cls:=.type "tuple",data:=.seq its.toArray } }:=
   I1.laid (t':=s.toks) (λ b o e=>aah _ e) (aag _) (show cY X.prog X.w _ _ _ (.tup ys) from ⟨hz,its,r',IsTup.new _ _⟩)
  exact⟨.ref h'.objs.size,_,I2,rfl,q _ (I1.hok.fresh (aag _))⟩
 ·obtain⟨its,r',pl,hz⟩:=I.tuple hq;exact call_tuple_same pl ⟨.ref p,H,I,rfl,q⟩
def tyV (K:aaa) (T:String) (x:V) (H:Hp):Prop:=match x with
 | .str _=>T = "str"
 | .int _=>T = "int"
 | .ref p=>(T = "list" /\ ∃ xs,bO K H p xs)\/(T = "tuple" /\ ∃ o,K.lookup p=some o/\o.cls=.type "tuple" /\ o.dict=none)\/
   (T = "dict" /\ ((∃ kvs,H p=some (.dK kvs))\/∃ kvs,H p=some (.dT kvs)))\/(T = "set" /\ ∃ S n,H p=some (.set S n))
 | _=>False
theorem AO {pins:List (Addr×Obj)}{σ:St}{H:Hp}{s:Shared}{T:String}{x:V}{v:Value} (I:Inv X pins σ H s) (r:bF x v) (ty:tyV X.K T x H) :
  s.TypeIs v T/\∀ a,v=.ref a->∃ ob,s.heap.get? a=some ob/\ob.dict=none:=by
 cases x with
 | str z=>
  obtain⟨t,rfl⟩:=r;cases (show T = "str" from ty);exact⟨typeIs_str s z t,λ _ e=>nomatch e⟩
 | int i=>
  obtain⟨t,rfl⟩:=r;cases (show T = "int" from ty);exact⟨typeIs_int s i t,λ _ e=>nomatch e⟩
 | ref p=>
  cases r;rcases ty with ⟨rfl,xs,hq⟩ | ⟨rfl,o,hk,hc,hd⟩ | ⟨rfl,hk⟩ | ⟨rfl,S,n,hk⟩
  ·obtain⟨its,_,pl,_⟩:=I.list hq;refine⟨pl.isList.typeIs,λ a e=>?_⟩;cases e;obtain⟨o,n,e,c,hd,_⟩:=pl;exact⟨o,e,hd⟩
  ·refine⟨⟨o,I.kIn p o hk,hc⟩,λ a e=>?_⟩;cases e;exact⟨o,I.kIn _ o hk,hd⟩
  ·have z:∃ o,s.heap.get? p=some o/\o.ExactDict:=by
    rcases hk with ⟨kvs,hk⟩ | ⟨kvs,hk⟩
    ·obtain⟨_,_,_,_,o,_,_,e,ex,_⟩:=I.hok p _ hk;exact⟨o,e,ex⟩
    ·obtain⟨_,_,_,_,o,_,_,e,ex,_⟩:=I.hok p _ hk;exact⟨o,e,ex⟩
   obtain⟨o,e,ex⟩:=z;refine⟨⟨o,e,ex.1⟩,λ a e2=>?_⟩;cases e2;exact⟨o,e,ex.2.1⟩
  ·obtain⟨o,_,_,_,e,ex,_⟩:=I.hok p _ hk;refine⟨⟨o,e,ex.1⟩,λ a e2=>?_⟩;cases e2;exact⟨o,e,ex.2.1⟩
 | _=>exact False.elim ty
def K6 (K:aaa) (T:String) (r:V->List V->Hp->VK->Prop) (to:TE):TE:=λ σ H Q=>to σ H λ x H1=>tyV K T x H1/\r x [] H1 Q
def tBM (K:aaa) (T:String) (r:V->List V->Hp->VK->Prop) (to:TE) (t:TA):TE:=λ σ H Q=>to σ H λ x H1=>tyV K T x H1/\t σ H1 λ xs H2=>r x xs H2 Q
variable {o e:Expr}{es:List Expr}{to:TE}{t:TA}{name:Str}{apos cpos:Pos}{T id:String}{r:V->List V->Hp->VK->Prop}
theorem IE (pa:PlainAttrs T) (slot:Slot T name id) (hty:typeOf (.builtin id)=pure (.type "method_descriptor")) (hm:DM X id r) (ho:PE X o to)
  (hbase:attributeBase o name X.env (eval o X.env)=eval o X.env:=by with_unfolding_all rfl) (hline:(apos.endLine == cpos.line)=true:=by with_unfolding_all rfl):PE X (.Call (.Attribute o name apos) [] [] cpos) (K6 X.K T r to):=by
 intro pins s σ H Q I h;refine wpAny_Call_method0_late hbase hline (dF (ho pins s σ H _ I h) λ v s1 ⟨x,H1,I1,r1,ty,q1⟩=>?_);obtain⟨h1,h2⟩:=AO I1 r1 ty;exact⟨T,id,pa,slot,hty,h1,h2,Calls.callWith_builtin rfl (PySem.evalArgs_none (hm pins s1 σ H1 x [] v [] Q I1 r1 .nil q1))⟩
theorem GK (pa:PlainAttrs T) (slot:Slot T name id) (hty:typeOf (.builtin id)=pure (.type "method_descriptor")) (hm:DM X id r) (ho:PE X o to) (ha:PA X (e::es) t)
  (hbase:attributeBase o name X.env (eval o X.env)=eval o X.env:=by with_unfolding_all rfl)
  (hfew:((backTo cpos (starEach (e::es) X.env)).all (λ x=>!x.1) && (backToKw cpos (keywordEach [] X.env)).all (λ x=>x.1.isSome)
   && decide ((e::es).length+([]:List Keyword).length+(if ([]:List Keyword).isEmpty then 0 else 1) < 30))=true:=by with_unfolding_all rfl)
  (hline:(apos.endLine == cpos.line)=true:=by with_unfolding_all rfl) (hs:starEach (e::es) X.env=(false,eval e X.env)::starEach es X.env:=by with_unfolding_all rfl) (hplain:(backTo cpos (starEach es X.env)).any (·.1)=false:=by with_unfolding_all rfl) :
  PE X (.Call (.Attribute o name apos) (e::es) [] cpos) (tBM X.K T r to t):=by
 intro pins s σ H Q I h;refine wpAny_Call_method_late hbase hfew hline rfl (dF (ho pins s σ H _ I h) λ v s1 ⟨x,H1,I1,r1,ty,q1⟩=>?_);obtain⟨h1,h2⟩:=AO I1 r1 ty;refine⟨T,id,pa,slot,hty,h1,h2,?_⟩;have hA:=ha cpos pins s1 σ H1 _ I1 q1;rw[hs] at hA ⊢;refine Calls.callWith_builtin (by show (false || (backTo cpos (starEach es X.env)).any (·.1))=false;rw[hplain] <;> rfl) (Calls.evalArgs_plain ?_);exact dF hA λ us s2 ⟨vs,H2,I2,r2,q2⟩=>hm pins s2 σ H2 x vs v us Q I2 r1 r2 q2
end
def JY (X:Cx) (id:String) (r:V->List V->Hp->VK->Prop):Prop:=
 ∀ (pins:List (Addr×Obj)) (s:Shared) (σ:St) (H:Hp) (x:V) (xs:List V) (v:Value) (us:List Value) (Q:VK),Inv X pins σ H s->bF x v->bA xs us->r x xs H Q->
  wpAny (model X.prog X.w) X.A (call (.builtin id) (v::us)) (EP X pins σ Q) X.xe s
theorem um {X:Cx}{id:String}{r:V->List V->Hp->VK->Prop} (h:JY X id r):DM X id r:=h
theorem rf {p:Prop} (h:p:=by with_unfolding_all exact rfl):p:=h
theorem bA.one {x:V}{us:List Value} (h:bA [x] us):∃ u,us=[u]/\bF x u:=kI h
theorem bA.two:∀ {x y:V}{us:List Value},bA [x,y] us->∃ u v,us=[u,v]/\bF x u/\bF y v
 | _,_,_,.cons r (.cons q .nil)=>⟨_,_,rfl,r,q⟩
theorem bA.zero:∀ {us:List Value},bA [] us->us=[]
 | _,.nil=>rfl
theorem bA.eraseIdx:∀ {xs:List V}{us:List Value} (i:Nat),bA xs us->bA (xs.eraseIdx i) (us.eraseIdx i)
 | _,_,_,.nil=>.nil
 | _,_,0,.cons _ t=>t
 | _,_,i+1,.cons r t=>.cons r (bA.eraseIdx i t)
theorem bA.rep {xs:List V}{us:List Value} (h:bA xs us):∀ k:Nat,bA (List.replicate k xs).flatten (List.replicate k us).flatten
 | 0=>.nil
 | k+1=>by
  rw[List.replicate_succ,List.replicate_succ,List.flatten_cons,List.flatten_cons];exact bA.append h (bA.rep h k)
theorem rA {ae:Type}:∀ (l:List ae) (i:Nat),(l.eraseIdx i).length<=l.length
 | [],_=>aag _
 | _::_,0=>Nat.le_succ _
 | _::r,i+1=>Nat.succ_le_succ (rA r i)
theorem nI (its:List Value):∀ (k:Nat) (acc:List Value),
  List.foldl (λ x1 x2=>x1++x2) acc.toArray (List.replicate k its.toArray)=(acc++(List.replicate k its).flatten).toArray
 | 0,acc=>by simp
 | k+1,acc=>by
  have e:acc.toArray++its.toArray=(acc++its).toArray:=by simp
  have e2:(acc++its)++(List.replicate k its).flatten=acc++(List.replicate (k+1) its).flatten:=by
   rw[List.replicate_succ,List.flatten_cons,acn]
  rw[<- e2,<- nI its k (acc++its),<- e,List.replicate_succ,List.foldl_cons]
section
variable {X:Cx}{pins:List (Addr×Obj)}{σ:St}{H:Hp}{s:Shared}{l b:Addr}{xs ys zs:List V}
theorem Inv.lset {its its':List Value}{n:Nat}{f:Array Value->Array Value}{t':Nat} (I:Inv X pins σ H s) (hH:H l=some (.lst xs))
  (e:s.heap.get? l=some { cls:=.type "list",data:=.seq its.toArray n }) (hf:f its.toArray=its'.toArray) (hv:bA ys its') (hz:ys.length<=sizeLine) :
  Inv X pins σ (upd H l (.lst ys)) { s with heap:=s.heap.update l (Obj.mapSeq f),toks:=t' }:=by
 have q:=PySem.IsL.update e f;rw[hf] at q;refine I.write (x:=l) (e:=l) (by rw[hH];exact trivial) (.inl rfl) (λ b' u hb hu=>(Heap.get?_update_other s.heap (Obj.mapSeq f) (Ne.symm hb)).trans hu) ⟨_,q⟩ ?_;exact⟨hz,its',_,hv,q⟩
theorem Inv.lnew {its:List Value}{t':Nat} (I:Inv X pins σ H s) (hv:bA ys its) (hz:ys.length<=sizeLine) :
  Inv X pins σ (upd H s.heap.objs.size (.lst ys)) { s with heap:=s.heap.push { cls:=.type "list",data:=.seq its.toArray },toks:=t' }:=
 I.laid (λ _ _ q=>aah _ q) (aag _) ⟨hz,its,0,hv,aas _ rfl⟩
theorem Inv.fresh (I:Inv X pins σ H s):H s.heap.objs.size=none:=I.hok.fresh (aag _)
theorem Inv.lstM (I:Inv X pins σ H s) (hH:H l=some (.lst xs)):xs.length<=sizeLine/\∃ (its:List Value) (n:Nat),bA xs its/\xs.length=its.length/\s.heap.get? l=some { cls:=.type "list",data:=.seq its.toArray n }:=by
 obtain⟨z,its,n,r,e⟩:=I.hok l _ hH;exact⟨z,its,n,r,r.length,e⟩
theorem BQ {n:Nat} (h:n<=sizeLine):Builtin.List.listTooLong n=false:=by
 unfold Builtin.List.listTooLong;exact aau (by omega)
end
section
variable {X:Cx}
def ED:V->List V->Hp->VK->Prop:=λ x vs H Q=>∃ l xs y,x=.ref l/\vs=[y]/\H l=some (.lst xs)/\xs.length < sizeLine/\Q .non (upd H l (.lst (xs++[y])))
theorem cM:JY X "list.append" ED:=by
 intro pins s σ H x vs v us Q I rx rv h;obtain⟨l,xs,y,rfl,rfl,hH,hz,q⟩:=h;cases rx;obtain⟨u,rfl,ru⟩:=rv.one;obtain⟨z,its,n,r,hl,e⟩:=I.lstM hH;refine call_meets F.slot_list_append ⟨_,e,rfl⟩ F.entry_list_append (F.args_list_append_2 _ _) (PySem.list_append l its.toArray n u (by rw[aaf];omega)) ⟨e,?_⟩;refine⟨.non,_,I.lset (its':=its++[u]) hH e (by simp) (r.append (.cons ru .nil)) ?_,rfl,q⟩;rw[aao,acp];omega
def HP:V->List V->Hp->VK->Prop:=λ x vs H Q=>∃ l xs i k y,x=.ref l/\vs=[.int i]/\H l=some (.lst xs)/\-(2 ^ 63)<=i/\i < 2 ^ 63/\seqIndex? i xs.length=some k/\xs[k]? = some y/\Q y (upd H l (.lst (xs.eraseIdx k)))
theorem BU:JY X "list.pop" HP:=by
 intro pins s σ H x vs v us Q I rx rv h;obtain⟨l,xs,i,k,y,rfl,rfl,hH,h1,h2,hk,hy,q⟩:=h;cases rx;obtain⟨u,rfl,ru⟩:=rv.one;obtain⟨t,rfl⟩:=ru;obtain⟨z,its,n,r,hl,e⟩:=I.lstM hH;obtain⟨w,hw,rw'⟩:=r.get hy;refine call_meets F.slot_list_pop ⟨_,e,rfl⟩ F.entry_list_pop (F.args_list_pop_2 _ _)
  (MeetsSeq.list_pop_at l its.toArray n i t k w (fitsIndex_both h1 h2) (by rw[aaf,<- hl];exact hk) (by rw[<- Array.getElem?_toList];exact hw) (by rw[aaf];omega)) ⟨e,?_⟩
 refine⟨y,_,I.lset (its':=its.eraseIdx k) hH e ?_ (r.eraseIdx k) ?_,rw',q⟩
 ·show its.toArray.eraseIdxIfInBounds k=(its.eraseIdx k).toArray;rw[List.eraseIdxIfInBounds_toArray]
 ·have:=rA xs k;omega
def KP:R2:=λ x y H Q=>∃ l b xs zs,x=.ref l/\y=.ref b/\H l=some (.lst xs)/\H b=some (.lst zs)/\xs.length+zs.length<=sizeLine/\∀ p,H p=none->Q (.ref p) (upd H p (.lst (xs++zs)))
theorem lA:gG X (binaryOp .Add) KP:=by
 intro pins s σ H x y v u Q I rx ry h;obtain⟨l,b,xs,zs,rfl,rfl,hH,hB,hz,q⟩:=h;cases rx;cases ry;obtain⟨z,its,n,r,hl,e⟩:=I.lstM hH;obtain⟨z2,its2,n2,r2,hl2,e2⟩:=I.lstM hB;refine PySem.P.add_list e e2 ?_ (by rw[aaf,aaf];omega);have ea:its.toArray++its2.toArray=(its++its2).toArray:=by simp
 rw[ea];exact⟨.ref _,_,I.lnew (t':=s.toks) (r.append r2) (by rw[aao];omega),rfl,q _ I.fresh⟩
def rRep:R2:=λ x y H Q=>∃ l k xs,x=.ref l/\y=.int k/\H l=some (.lst xs)/\-(2 ^ 63)<=k/\k < 2 ^ 63/\xs.length * k.toNat<=sizeLine/\
 ∀ p,H p=none->Q (.ref p) (upd H p (.lst (List.replicate k.toNat xs).flatten))
theorem tR {ae:Type} (xs:List ae) (k:Nat):(List.replicate k xs).flatten.length=k * xs.length:=by
 induction k with
 | zero=>simp
 | succ k ih=>rw[List.replicate_succ,List.flatten_cons,aao,ih,Nat.succ_mul,Nat.add_comm]
theorem IH:gG X (binaryOp .Mult) rRep:=by
 intro pins s σ H x y v u Q I rx ry h;obtain⟨l,k,xs,rfl,rfl,hH,h1,h2,hz,q⟩:=h;cases rx;obtain⟨t,rfl⟩:=ry;obtain⟨z,its,n,r,hl,e⟩:=I.lstM hH;have hlen:its.toArray.size * k.toNat<=sizeLine:=by rw[aaf,<- hl];exact hz
 have hcap:¬ its.toArray.size * k.toNat > (2 ^ 63 - 1) / 8:=by
  have:(sizeLine:Nat)<=(2 ^ 63 - 1) / 8:=by decide
  omega
 have hfit:¬ (!Builtin.List.listFitsIndex k)=true:=by
  rw[fitsIndex_both h1 h2];exact aak
 have hlong:¬ Builtin.List.listTooLong (its.toArray.size * k.toNat)=true:=by
  rw[BQ hlen];exact aak
 have hnew:List.foldl (λ x1 x2=>x1++x2) #[] (List.replicate (if its.toArray.isEmpty=true then 0 else k.toNat) its.toArray)=(List.replicate k.toNat its).flatten.toArray:=by
  have f0:∀ m:Nat,List.foldl (λ x1 x2=>x1++x2) #[] (List.replicate m its.toArray)=(List.replicate m its).flatten.toArray:=λ m=>by
   have:=nI its m [];rw[List.nil_append] at this;exact this
  rw[f0];cases its with
  | nil=>simp
  | cons a r'=>rw[if_neg (by simp)]
 refine wpAny_binaryOp_repeat_ref (T := "list") (U := "int") (by decide) ⟨_,e,rfl⟩ (λ s'=>typeIs_int s' k t) noFill_list_mul F.fills_int_mul F.slot_int_rmul repeat_list F.slot_int_index.lookup
  (call_meets F.slot_int_rmul (typeIs_int s k t) F.entry_int_rmul (F.args_int_rmul_2 _ _) (int___rmul___int_list k t l its.toArray n)
   ⟨e,rfl,⟨_,e,rfl⟩,call_meets F.slot_list_mul ⟨_,e,rfl⟩ F.entry_list_mul (F.args_list_mul_2 _ _) (AutoListH.list___mul___list_int_3 l its.toArray n k t hfit hcap hlong) ⟨e,?_⟩⟩)
 rw[hnew];exact⟨.ref _,_,I.lnew (t':=s.toks) (r.rep k.toNat) (by rw[tR,Nat.mul_comm];exact hz),rfl,q _ I.fresh⟩
end
section
variable {prog:Program}{A:Around}{E:Value->Shared->Prop}{s:Shared}
end
section
variable {X:Cx}
end
section
variable {am:Type}[DecidableEq am]
def oQ (kvs:List (am×V)) (k:am):Option V:=(kvs.find? λ kv=>decide (kv.1=k)).map (·.2)
def uY (kvs:List (am×V)) (k:am) (v:V):List (am×V):=
 if (kvs.any λ kv=>decide (kv.1=k))=true then kvs.map (λ kv=>if kv.1=k then (kv.1,v) else kv) else kvs++[(k,v)]
theorem uQ {p:am×V}{r:List (am×V)}{k:am} (e:p.1=k):oQ (p::r) k=some p.2:=by simp [oQ,List.find?_cons,e]
theorem uR {p:am×V}{r:List (am×V)}{k:am} (e:¬ p.1=k):oQ (p::r) k=oQ r k:=by simp [oQ,List.find?_cons,e]
theorem vL (kvs:List (am×V)) (k:am) (v:V):(uY kvs k v).length<=kvs.length+1:=by
 unfold uY
 split
 ·rw[aab];omega
 ·rw[aao,abb,List.length_nil];omega
theorem KV.val {kvs:List (am×V)}{vs:List (am×Value)} (r:KV kvs vs) (k:am):qJ (oQ kvs k) (valueAt vs k):=by
 unfold KV at r
 induction r with
 | nil=>exact True.intro
 | @cons p q ps qs h t ih=>
  obtain⟨h1,h2⟩:=h
  by_cases e:p.1=k
  ·have e':q.1=k:=h1.symm.trans e;have b:valueAt (q::qs) k=some q.2:=by simp [valueAt,List.find?_cons,e']
   rw[uQ e,b];exact h2
  ·have e':¬ q.1=k:=λ z=>e (h1.trans z);have b:valueAt (q::qs) k=valueAt qs k:=by simp [valueAt,List.find?_cons,e']
   rw[uR e,b];exact ih
theorem KV.any {kvs:List (am×V)}{vs:List (am×Value)} (r:KV kvs vs) (k:am):(kvs.any λ kv=>decide (kv.1=k))=vs.any λ kv=>decide (kv.1=k):=by
 unfold KV at r
 induction r with
 | nil=>rfl
 | cons h t ih=>rw[List.any_cons,List.any_cons,ih,h.1]
theorem KV.repl {kvs:List (am×V)}{vs:List (am×Value)} (r:KV kvs vs) (k:am) {y:V}{u:Value} (ry:bF y u) :
  KV (kvs.map λ kv=>if kv.1=k then (kv.1,y) else kv) (vs.map λ kv=>if kv.1=k then (kv.1,u) else kv):=by
 unfold KV at r ⊢
 induction r with
 | nil=>exact .nil
 | @cons p q ps qs h t ih=>
  rw[aaq,aaq];refine .cons ?_ ih;obtain⟨h1,h2⟩:=h
  by_cases e:p.1=k
  ·rw[if_pos e,if_pos (h1.symm.trans e)];exact⟨h1,ry⟩
  ·rw[if_neg e,if_neg (λ z=>e (h1.trans z))];exact⟨h1,h2⟩
theorem KV.put {kvs:List (am×V)}{vs:List (am×Value)} (r:KV kvs vs) (k:am) {y:V}{u:Value} (ry:bF y u):KV (uY kvs k y) (stored vs k u):=by
 unfold uY stored;rw[r.any k]
 by_cases e:(vs.any λ kv=>decide (kv.1=k))=true
 ·rw[if_pos e,if_pos e];exact r.repl k ry
 ·rw[if_neg e,if_neg e];exact Paired.snoc r ⟨rfl,ry⟩
end
theorem CK {P:Program}{w:World}{k:fS}{u:Value} (r:bF (kV k) u):(dI P w).is k u=true:=by
 cases k with
 | inl i=>obtain⟨t,e⟩:=(show ∃ t,u=Value.int i t from r);subst e;exact vJ P w i t
 | inr z=>cases z with
  | some x=>obtain⟨t,e⟩:=(show ∃ t,u=Value.str x t from r);subst e;exact vI P w x t
  | none=>obtain rfl:=(show u=Value.none from r);rfl
theorem rC {P:Program}{w:World}:∀ {ks:List fS}{us:List Value},bA (ks.map kV) us->ItemsAre (dI P w) ks us
 | [],_,r=>by rw[ack] at r;cases r;exact .nil
 | k::ks,_,r=>by
  rw[aaq] at r;cases r with
  | cons h t=>exact .cons (CK h) (rC t)
abbrev KT (H:Hp):List (List fS×V)->List (List fS×Addr×Value)->Prop:=Paired λ p q=>p.1=q.1/\H q.2.1=some (.tup (p.1.map kV))/\bF p.2 q.2.2
theorem KT.val {H:Hp}{kvs:List (List fS×V)}{xs:List (List fS×Addr×Value)} (r:KT H kvs xs) (k:List fS):qJ (oQ kvs k) ((atKey xs k).map (·.2)):=by
 induction r with
 | nil=>exact True.intro
 | @cons p q ps qs h t ih=>
  obtain⟨h1,_,h2⟩:=h
  by_cases e:p.1=k
  ·have e':q.1=k:=h1.symm.trans e;have b:atKey (q::qs) k=some q.2:=by simp [atKey,List.find?_cons,e']
   rw[uQ e,b];exact h2
  ·have e':¬ q.1=k:=λ z=>e (h1.trans z);have b:atKey (q::qs) k=atKey qs k:=by simp [atKey,List.find?_cons,e']
   rw[uR e,b];exact ih
section
variable {H:Hp}{h:Heap}{a:Addr}
theorem GE {u:HO} (ok:lI P w H h) (e:Rd H a u):cY P w H h a u:=e.ok ok
theorem DB {kvs:List (fS×V)} (ok:lI P w H h) (e:Rd H a (.dK kvs)):kvs.length<=sizeLine/\(a == sysModules)=false/\∃ vs,KV kvs vs/\h.DictOf (dI P w) a vs:=
 show cY P w H h a (.dK kvs) from GE ok e
theorem LP {kvs:List (fS×V)} (ok:lI P w H h) (e:H a=some (.dK kvs)):kvs.length<=sizeLine/\(a == sysModules)=false/\∃ vs,KV kvs vs/\h.DictOf (dI P w) a vs:=DB ok (.inl e)
theorem CH {ks:List fS} (ok:lI P w H h) (e:H a=some (.tup (ks.map kV))):(tupleKind (dI P w)).is h ks a:=by
 obtain⟨_,its,r,o,h1,h2,n,h3⟩:=(show cY P w H h a (.tup (ks.map kV)) from ok a _ e);exact⟨o,its.toArray,n,h1,h2,h3,by simpa using rC r⟩
theorem GR {kvs:List (List fS×V)} (ok:lI P w H h) (e:Rd H a (.dT kvs)):kvs.length<=sizeLine/\(a == sysModules)=false/\
  ∃ xs,KT H kvs xs/\h.DictOfH (tupleKind (dI P w)) a xs:=by
 obtain⟨z,y,xs,r,o,es,ep,h1,h2,h3,h4,h5⟩:=(show cY P w H h a (.dT kvs) from GE ok e);refine⟨z,y,xs,r,o,es,ep,h1,h2,h3,h4,λ x hx=>?_,h5⟩;have all:∀ {l:List (List fS×V)}{m:List (List fS×Addr×Value)},KT H l m->∀ x∈m,(tupleKind (dI P w)).is h x.1 x.2.1:=by
  intro l m q
  induction q with
  | nil=>intro x hx;exact nomatch hx
  | @cons p q ps qs hq t ih=>
   intro x hx;rcases aaz.mp hx with e | hx
   ·subst e;exact CH ok (by rw[<- hq.1];exact hq.2.1)
   ·exact ih x hx
 exact all r x hx
end
def JU (H:Hp) (a:Addr) (y:V) (r:Option V):Prop:=
 (∃ kvs k,Rd H a (.dK kvs)/\y=kV k/\r=oQ kvs k)\/∃ kvs k b,Rd H a (.dT kvs)/\y=.ref b/\H b=some (.tup (k.map kV))/\r=oQ kvs k
section
variable {X:Cx}{pins:List (Addr×Obj)}{σ:St}{H:Hp}{s:Shared}{a:Addr}{y v:V}{u r:Value}{o:Option V}{A:Around}{E:Value->Shared->Prop}
theorem Inv.big (I:Inv X pins σ H s):sysModules < s.heap.objs.size:=by
 have h:mainGlobals < s.heap.objs.size:=(I.mod.glob.keeps I.bk).lt;exact Nat.lt_trans (by decide) h
theorem AA {Q:Value->Shared->Prop} (hu:A.units+1 < cLine) (I:Inv X pins σ H s) (g:JU H a y (some v)) (ry:bF y u) (h:∀ w' s',Inv X pins σ H s'->bF v w'->Q w' s') :
  wpAny (model X.prog X.w) A (getItem (.ref a) u) Q E s:=by
 rcases g with ⟨kvs,k,e,ey,l⟩ | ⟨kvs,k,b,e,ey,eb,l⟩
 ·subst ey;obtain⟨z,hd,vs,rel,dd⟩:=DB I.hok e;obtain⟨w',hw,rw'⟩:=qJ.some_of (v:=v) (o:=valueAt vs k) (by rw[l];exact rel.val k);exact wpAny_getItem_of (CK ry) dd.mapOf hw (h w' _ (I.tok _) rw')
 ·subst ey;cases (show u=Value.ref b from ry);obtain⟨z,hd,xs,rel,dd⟩:=GR I.hok e;obtain⟨w',hw,rw'⟩:=qJ.some_of (v:=v) (o:=(atKey xs k).map (·.2)) (by rw[l];exact rel.val k);obtain⟨p,hp,hp2⟩:=abd.mp hw;refine wpAny_getItem_heap (tupleKind_room_in1 hu) (CH I.hok eb) dd hp ?_;rw[hp2];exact h w' _ (I.tok _) rw'
theorem FU {h':Heap}{t':Nat}{ob:HO} (I:Inv X pins σ H s) (mu:wF (H a)) (hs:Heap.SameBut a s.heap h') (he:∃ q,h'.get? a=some q) (new:cY X.prog X.w (upd H a ob) h' a ob) :
  Inv X pins σ (upd H a ob) { s with heap:=h',toks:=t' }:=
 I.write (x:=a) (e:=a) mu (.inl rfl) (λ b q hb z=>(hs.2 b hb).trans z) he new
theorem JI {P:Program}{w:World}{H':Hp}{h':Heap}{kvs:List (fS×V)}{vs:List (fS×Value)} (z:kvs.length<=sizeLine) (hd:(a == sysModules)=false) (rel:KV kvs vs) (dd:h'.DictOf (dI P w) a vs) :
  cY P w H' h' a (.dK kvs):=⟨z,hd,vs,rel,dd⟩
end
section
variable {X:Cx}{pins:List (Addr×Obj)}{σ:St}{H:Hp}{s:Shared}{a:Addr}{kvs:List (fS×V)}{k:fS}{u:Value}{A:Around}{E:Value->Shared->Prop}
end
def LV (i:Expr):Prop:=∀ ov iv,subscripted i false ov iv=operate [ov,iv] (getItem ov iv)
theorem E2 {prog:Program}{w:World}{A:Around}{E:Value->Shared->Prop}{s:Shared}{env:Env}{value slice:Expr}{pos:Pos}{T id:String}{Q:Value->Shared->Prop}
  (hl:typeLookup (.type T) "__getitem__" = pure (some (.builtin id))) (hs:LV slice)
  (h:wpAny (model prog w) A (eval value env) (λ o ad=>wpAny (model prog w) A (eval slice env) (λ i au=>au.TypeIs o T/\wpAny (model prog w) A (getItem o i) Q E au) E ad) E s) :
  wpAny (model prog w) A (eval (.Subscript value slice pos) env) Q E s:=by
 refine Subscript_ (abo h (λ o ad ag=>abo ag (λ i au aq=>?_) λ _ _ x=>x) λ _ _ x=>x);obtain⟨hT,aq⟩:=aq;unfold subscriptTail;refine aac ?_;rw[getitemInPython_of_ne hT.not_modules];refine aac (wpAny_specialOf hT hl ?_);have fin:wpAny (model prog w) A (subscripted slice false o i) (λ r az=>wpAny (model prog w) A (letTemporaryGo value o r >>= λ _=>pure r) Q E az) E au:=by
  rw[hs o i];exact wpAny_operating (abo aq (λ r az ah=>aac (wpAny_letTemporaryGo (aav ah))) λ _ _ x=>x)
 first
  | exact aav (aac fin)
  | exact aac (aav (aac fin))
  | exact aac fin
theorem w4 {X:Cx}{pins:List (Addr×Obj)}{σ:St}{H:Hp}{s:Shared}{a:Addr}{y:V}{o:Option V} (I:Inv X pins σ H s) (g:JU H a y o):s.TypeIs (.ref a) "dict" := by
 rcases g with ⟨kvs,k,e,_,_⟩ | ⟨kvs,k,b,e,_,_,_⟩
 ·obtain⟨_,_,vs,_,dd⟩:=DB I.hok e;exact dd.typeIs
 ·obtain⟨_,_,xs,_,dd⟩:=GR I.hok e;exact dd.typeIs
def K5 (td ty:TE):TE:=λ σ H Q=>td σ H λ x H1=>ty σ H1 λ y H2=>∃ a v,x=.ref a/\JU H2 a y (some v)/\Q v H2
section
variable {X:Cx}{o i e value:Expr}{pos pos' tpos:Pos}{td ty tv:TE}
theorem oC (hu:X.A.units+1 < cLine) (ho:PE X o td) (hi:PE X i ty) (hs:LV i):PE X (.Subscript o i pos) (K5 td ty):=by
 intro pins s σ H Q I h;refine E2 PySem.F.slot_dict_getitem.lookup hs (dF (ho pins s σ H _ I h) λ u s1 ⟨x,H1,I1,rx,q1⟩=>dF (hi pins s1 σ H1 _ I1 q1) λ iv s2 ⟨y,H2,I2,ry,a,v,ex,g,q2⟩=>?_);subst ex;obtain rfl:u=Value.ref a:=rx;exact⟨w4 I2 g,AA hu I2 g ry λ w' s3 I3 rw'=>⟨v,H2,I3,rw',q2⟩⟩
end
theorem DC {P:Program}{w:World}{H:Hp} (h:Heap) (hb:sysModules < h.objs.size):cY P w H (h.push { cls:=.type "dict",data:=.dict #[] }) h.objs.size (.dK []):=
 ⟨abk _,beq_eq_false_iff_ne.mpr (Ne.symm (abi hb)),[],.nil,Heap.DictOf.new h⟩
section
variable {X:Cx}{pos:Pos}
end
def wM:List (TE×TE)->St->Hp->(List (V×V)->Hp->Prop)->Prop
 | [],_,H,Q=>Q [] H
 | (tk,tv)::r,σ,H,Q=>tk σ H λ x H1=>tv σ H1 λ y H2=>wM r σ H2 λ ps H3=>Q ((x,y)::ps) H3
abbrev VV:List (V×V)->List (Value×Value)->Prop:=Paired λ p q=>bF p.1 q.1/\bF p.2 q.2
def PPs (X:Cx) (pos:Pos) (keys:List (Option Expr)) (values:List Expr) (trs:List (TE×TE)):Prop:=
 ∀ (pins:List (Addr×Obj)) (s:Shared) (σ:St) (H:Hp) (Q:List (V×V)->Hp->Prop),Inv X pins σ H s->wM trs σ H Q->
  wpAny (model X.prog X.w) X.A (evalPairs (pairTrees keys values X.env pos)) (λ vs s'=>∃ ps H',Inv X pins σ H' s'/\VV ps vs/\Q ps H') X.xe s
theorem EF {X:Cx}{pos:Pos}:PPs X pos [] [] []:=λ pins s σ H Q I h=>pairTrees_nil_walk ⟨[],H,I,.nil,h⟩
theorem vA {X:Cx}{pos:Pos}{k v:Expr}{ks:List (Option Expr)}{vs:List Expr}{tk tv:TE}{trs:List (TE×TE)} (hk:PE X k tk) (hv:PE X v tv) (hr:PPs X pos ks vs trs) :
  PPs X pos (some k::ks) (v::vs) ((tk,tv)::trs):=λ pins s σ H Q I h=>
 pairTrees_cons_walk (dF (hk pins s σ H _ I h) λ u s1 ⟨x,H1,I1,rx,q1⟩=>dF (hv pins s1 σ H1 _ I1 q1) λ w2 s2 ⟨y,H2,I2,ry,q2⟩=>
  dF (hr pins s2 σ H2 _ I2 q2) λ ws s3 ⟨ps,H3,I3,rel,q3⟩=>⟨(x,y)::ps,H3,I3,.cons ⟨rx,ry⟩ rel,q3⟩)
def nE (kvs more:List (fS×V)):List (fS×V):=more.foldl (λ acc kv=>uY acc kv.1 kv.2) kvs
theorem KV.merge:∀ {more:List (fS×V)}{rs:List (fS×Value)}{kvs:List (fS×V)}{vs:List (fS×Value)},KV more rs->KV kvs vs->KV (nE kvs more) (merged vs rs):=by
 intro more rs kvs vs r;unfold KV at r
 induction r generalizing kvs vs with
 | nil=>intro q;exact q
 | @cons p q ps qs h t ih=>
  intro r0;have e:KV (uY kvs p.1 p.2) (stored vs q.1 q.2):=by
   have:=r0.put p.1 h.2;rw[<- h.1];exact this
  exact ih e
theorem kP:∀ (more kvs:List (fS×V)),(nE kvs more).length<=kvs.length+more.length
 | [],kvs=>by show kvs.length<=kvs.length+0;omega
 | p::r,kvs=>by
  have h1:=kP r (uY kvs p.1 p.2);have h2:=vL kvs p.1 p.2;show (nE (uY kvs p.1 p.2) r).length<=_;rw[abb];omega
theorem pX {P:Program}{w:World}:∀ {kvs:List (fS×V)}{ws:List (Value×Value)},VV (kvs.map λ kv=>(kV kv.1,kv.2)) ws->∃ rs,Carries (dI P w) ws rs/\KV kvs rs
 | [],_,r=>by rw[ack] at r;cases r;exact⟨[],True.intro,.nil⟩
 | p::kvs,_,r=>by
  rw[aaq] at r;cases r with
  | @cons a b as bs h t=>
   obtain⟨rs,c,q⟩:=pX (P:=P) (w:=w) t;obtain⟨b1,b2⟩:=b;exact⟨(p.1,b2)::rs,⟨CK h.1,rfl,c⟩,.cons ⟨rfl,h.2⟩ q⟩
def K4 (trs:List (TE×TE)):TE:=λ σ H Q=>∀ p,H p=none->wM trs σ (upd H p (.dK [])) λ ps H2=>H2 p=some (.dK [])/\∃ kvs:List (fS×V),ps=kvs.map (λ kv=>(kV kv.1,kv.2))/\kvs.length<=15/\Q (.ref p) (upd H2 p (.dK (nE [] kvs)))
theorem EM {X:Cx}{pos:Pos}{keys:List (Option Expr)}{values:List Expr}{trs:List (TE×TE)} (h:PPs X pos keys values trs) (hall:keys.all (·.isSome)=true) (hl:keys.length=values.length) (h0:keys≠[])
  (h15:keys.length<=15):PE X (.Dict keys values pos) (K4 trs):=by
 intro pins s σ H Q I q;have hn:=I.hok.fresh (aag s.heap.objs.size);have I1:=I.laid (a:=s.heap.objs.size) (o:=.dK []) (h':=s.heap.push { cls:=.type "dict",data:=.dict #[] }) (t':=s.toks) (λ _ _ q=>aah _ q) (aag _) (DC s.heap I.big);refine wpAny_Dict_walk (knd:=dI X.prog X.w) hall hl h0 h15 (dF (h pins _ σ _ _ I1 (q _ hn)) λ ws s2 ⟨ps,H2,I2,rel,e,kvs,ep,lk,q2⟩=>?_);subst ep;obtain⟨rs,c,rk⟩:=pX (P:=X.prog) (w:=X.w) rel;obtain⟨z,hd,vs0,r0,dd⟩:=LP I2.hok e;cases r0;refine⟨rs,c,dd,λ h' dd' hs=>⟨.ref s.heap.objs.size,_,?_,rfl,q2⟩⟩;have hz:(nE [] kvs).length<=sizeLine:=by
  have h1:=kP kvs [];rw[List.length_nil] at h1;rw[sizeLine_eq];omega
 have he:∃ q,h'.get? s.heap.objs.size=some q:=let ⟨q,_,_,hq,_⟩:=dd';⟨q,hq⟩;exact FU I2 (by rw[e];exact True.intro) hs he (JI hz hd (rk.merge .nil) dd')
section
variable {X:Cx}{pins:List (Addr×Obj)}{σ:St}{H:Hp}{s:Shared}{a:Addr}{y d:V}{u r:Value}{o:Option V}{A:Around}{E:Value->Shared->Prop}
end
section
variable {X:Cx}{o e f:Expr}{apos cpos:Pos}{td ty tx:TE}
end
section
variable {X:Cx}{pins:List (Addr×Obj)}{σ:St}{H:Hp}{s:Shared}{a:Addr}{kvs:List (fS×V)}{A:Around}{E:Value->Shared->Prop}
end
section
variable {X:Cx}{pins:List (Addr×Obj)}{σ:St}{H:Hp}{s:Shared}{a:Addr}{y:V}{u:Value}{A:Around}{E:Value->Shared->Prop}
end
end L2
namespace Att
open PySem PySem.W PySem.Calls PyProof.Rows
theorem o7 {P:Params}{h:Heap}:∀ (ns:List Int) (vs:List Value),WellAll P h vs (ns.map WData.int)->IntsAre vs ns:=by
 intro ns
 induction ns with
 | nil=>
  intro vs w;rw[ack] at w;cases w;exact .nil
 | cons n ns ih=>
  intro vs w;rw[aaq] at w;cases w with
  | cons a b=>
   cases a;exact .cons _ _ (ih _ b)
theorem zJ {l:OpenLaw}{n:Nat} (hn:l.most=some n) {P:Params}{h:Heap}{args:List WData}{vals:List Value}
  (hpre:l.row.toRowW.claim.pre args=true) (hwl:WellAll P h vals args) :
  ∃ a vs ns,vals=[Value.ref a]/\args=[WData.list (ns.map WData.int)]/\h.get? a=some { cls:=.type "list",data:=.seq vs.toArray }/\IntsAre vs ns/\ns.length<=n:=by
 have hsh:WShape.hasAll [] args [.list .int]=true:=(pre_splitW hpre).1;have hc:l.pre.holds [] { args:=args }=true:=(pre_splitW hpre).2;obtain⟨d,r,rfl,h1,h2⟩:=hasAllW_cons hsh;obtain rfl:=hasAllW_nil h2;obtain⟨xs,rfl,h3⟩:=hasW_list h1;obtain⟨ns,rfl⟩:=items_int h3;have hlen:ns.length<=n:=by
  unfold OpenLaw.pre at hc;have h4:(WTm.not (.lt (.lit (.int (n:Int))) (.len (.arg 0)))).holds [] { args:=[.list (ns.map .int)] }=true:=by
   have h4:=(holds_andW hc).1;rw[hn] at h4;exact h4
  have h5:=condW_of h4 (w_not (w_lt w_lit (w_len_list (w_arg rfl))));rw[aab] at h5;refine Nat.le_of_not_lt λ q=>?_;have q':(n:Int) < ((ns.length:Nat):Int):=by omega
  first
   | (rw[aaw q'] at h5;exact absurd h5 (by decide))
   | (simp at h5;omega)
 cases hwl with
 | cons w1 w2=>
  cases w2;cases w1 with
  | list ho hall=>exact⟨_,_,ns,rfl,rfl,ho,o7 ns _ hall,hlen⟩
theorem zP (l:OpenLaw) (args:List WData):l.row.toRowW.claim.post args (.bool true) args=true:=
 postW_of (r:=l.row.toRowW) (X:=(true == true))
  (show WShape.has [] (.bool true) .bool=true by first | rfl | decide | simp [WShape.has,WShape.arms,WShape.armsAll])
  (show (WTm.eq .res (.lit (.bool true))).value [] { args:=args,res:=some (.bool true),after:=args }=some (.bool (true == true)) from w_eq_bool (w_res rfl) w_lit) rfl
theorem attach_call {l:OpenLaw}{n:Nat}{q:Program}{loose:List Str}{XP:(Str->Option Value)->Heap->Prop}{YP:World->Heap->Prop}{d:DefRec}
  (hn:l.most=some n) (hdf:d.params.defaults=[])
  (call:∀ (w:World) (s₀ ad:Shared) (mg mb:Str->Option Value) (fa:Addr) (o:Obj) (pm cd doc:Value) (a:Addr) (vs:List Value) (ns:List Int),
   Ground q loose [] XP w s₀ mg mb ad.heap->YP w ad.heap->
   ad.heap.get? fa=some o->o.data=.func (docDef d.name d.params d.body d.scope pm cd doc)->ad.heap.CodeRec cd d.name->mg d.name=some (.ref fa)->
   ad.heap.get? a=some { cls:=.type "list",data:=.seq vs.toArray }->IntsAre vs ns->ns.length<=n->ad.gens = #[]->
   codeAny (model l.prog w) callerA (.call (.ref fa) ⟨[.ref a],[]⟩) (λ r s'=>r=.ok (.ret (.bool true))/\OldK ad.heap s'.heap/\s'.os=ad.os/\AllBare s'.gens) ad) :
  WalkO q loose XP YP l.row.toRowW d [] (λ f vs=>PySem.call f vs):=by
 intro w s₀ ad mg mb G Y fa o pm cd doc dV kV ho hd hcd hD hmg hg args vals as hpre hlay hrd hwl hlo;obtain rfl:dV=.none:=Dflts.none hD hdf;obtain rfl:kV=.none:=Dflts.noKw hD;obtain⟨a,vs,ns,rfl,rfl,hobj,hints,hlen⟩:=zJ hn hpre hwl;refine enter_call (codeAny_mono (call w s₀ ad mg mb fa o pm cd doc a vs ns G Y ho (fd_plain hd) hcd hmg hobj hints hlen hg) λ r s' hq=>?_);obtain⟨rfl,h2,h3,h4⟩:=hq;exact⟨.inl ⟨.bool true,.bool true,[],rfl,λ _=>rfl,.bool true,zP l _,λ _=>⟨List.Pairwise.nil,λ _ hm=>(nomatch hm)⟩⟩,h2,h3,h4⟩
section
variable {prog:Program}{A:Around}{E:Value->Shared->Prop}{s:Shared}{K:Frag}
end
end Att
namespace L2
open PySem PySem.Spec PyProof.Rows
theorem qO:∀ {vs:List Value}{ns:List Int},IntsAre vs ns->bA (ns.map V.int) vs
 | _,_,.nil=>.nil
 | _,_,.cons n t h=>.cons ⟨t,rfl⟩ (qO h)
def JO (H:Hp):Prop:=∀ b,H b=none\/∃ o xs,H b=some (.frz o (.lst xs))
theorem CC {P:Program}{w:World}{K:aaa}{mg mb:Str->Option Value}{CX:AJ}{k:Nat}{fa a:Addr}{fd:FuncData}{x:Str}{sp:Sp}{ad:Shared}{vs:List Value}{ns:List Int}
  (KX:K.In ad.heap) (hns:ad.heap.Ns mainGlobals mg) (hb:ad.heap.Ns builtinsNs mb) (hbb:∀ x:Str,x ≠ "__name__" -> mb x=bootBuiltins x) (hlim:ad.heap.NoLimit) (hg:ad.gens = #[])
  (ha:ad.heap.get? a=some { cls:=.type "list",data:=.seq vs.toArray }) (hi:IntsAre vs ns) (hl:ns.length<=sizeLine) (hr:Room k callerA)
  (F:∀ base:Heap,K.In base->base.Ns mainGlobals mg->FnOk P w K mg base CX k fa fd [x] sp) (hbind:∀ (s:Shared) (u:Value),BindsTo s fd ⟨[u],[]⟩ [(x,u)])
  (hsp:∀ H:Hp,JO H->bO K H a (ns.map V.int)->sp [.ref a] H (λ v _=>v=.bl true) λ _ _ _=>False)
  (hCX:∀ H e s',CX [] H ad (λ _ _ _=>False) e s'->False) :
  codeAny (model P w) callerA (.call (.ref fa) ⟨[.ref a],[]⟩) (λ r s'=>r=.ok (.ret (.bool true))/\OldK ad.heap s'.heap/\s'.os=ad.os/\AllBare s'.gens) ad:=by
 have rv:=qO hi;have lenV:=hi.length;have core:∀ H:Hp,JO H->bO K H a (ns.map V.int)->lI P w H ad.heap->(∀ b,H b≠none->b=a)->(H a≠none->K.lookup a=none)->
   codeAny (model P w) callerA (.call (.ref fa) ⟨[.ref a],[]⟩) (λ r s'=>r=.ok (.ret (.bool true))/\OldK ad.heap s'.heap/\s'.os=ad.os/\AllBare s'.gens) ad:=by
  intro H hO hS hok hA hK;have base_of:∀ {b:Addr}{o:Obj},ad.heap.get? b=some o->H b=none->(u8 ad.heap H).get? b=some o:=λ e n=>CW e n;have noA:∀ {b:Addr}{o:Obj}{es:Array DictEntry}{ep:Nat},ad.heap.get? b=some o->o.data=.dict es ep->H b=none:=λ {b o es ep} e d=>by
   cases q:H b with
   | none=>rfl
   | some u=>
    have e':b=a:=hA b (by rw[q];simp);subst e';rw[ha] at e;cases e;have d':Data.seq vs.toArray _=Data.dict es ep:=d;cases d'
  have nsK:∀ {b:Addr}{m:Str->Option Value},ad.heap.Ns b m->(u8 ad.heap H).Ns b m:=λ {b m} ⟨o,es,ep,e,d,r⟩=>⟨o,es,ep,base_of e (noA e d),d,r⟩;have hKb:K.In (u8 ad.heap H):=λ b o e=>base_of (KX b o e) (by
   cases q:H b with
   | none=>rfl
   | some u=>
    have e':b=a:=hA b (by rw[q];simp);subst e';rw[hK (by rw[q];simp)] at e;cases e)
  have hM:Mod K mg (u8 ad.heap H):=⟨hKb,nsK hns,⟨mb,nsK hb,hbb⟩,let ⟨mc,h1,h2⟩:=hlim;⟨mc,nsK h1,h2⟩⟩;have e0:Env0 P w K mg (u8 ad.heap H) callerA [] ad H:=⟨rfl,hM,λ b o e=>EW e,Nat.le_of_eq (A2 _ _),trivial,λ b hb=>absurd (show b∈([]:List Addr) from hb) (by simp),hok,.of_eq hg⟩;refine codeAny_mono ((F _ hKb (nsK hns)).run callerA [] ad H ⟨[.ref a],[]⟩ [.ref a] [.ref a] _ _ hr e0 (hbind ad (.ref a)) (.cons rfl .nil) (hsp H hO hS)) λ r s' h=>?_;cases r with
  | error e=>exact (hCX H e s' h).elim
  | ok fl=>
   cases fl with
   | next=>exact False.elim h
   | brk=>exact False.elim h
   | cont=>exact False.elim h
   | ret u=>
    obtain⟨v,H',os,bare,un,hok',r',q⟩:=h;have q':v=.bl true:=q;subst q';obtain rfl:u=Value.bool true:=r';refine⟨rfl,OldK.of_keep λ b o e=>?_,os,bare⟩;cases q:H b with
    | none=>exact un.keep b o e q (by intro z;exact absurd (show b∈([]:List Addr) from z) (by simp)) (by simp)
    | some u=>
     rcases hO b with z | ⟨ob,xs,z⟩
     ·rw[q] at z;cases z
     ·have z2:=un.frzs b ob _ z;obtain⟨e1,_⟩:=hok b _ z;obtain⟨e2,_⟩:=hok' b _ z2;rw[e] at e1;cases e1;exact e2
 cases hk:K.lookup a with
 | some o=>
  have e:=KX a o hk;rw[ha] at e;cases e;refine core (λ _=>none) (λ _=>.inl rfl) (.inr ⟨_,vs.toArray,_,hk,rfl,rfl,rfl,by rw[aaf,lenV];exact hl,by simpa using rv⟩) (λ b u z=>by have z':(none:Option HO)=some u:=z;cases z') (λ b z=>absurd rfl z) λ z=>absurd rfl z
 | none=>
  refine core (λ b=>if b=a then some (.frz { cls:=.type "list",data:=.seq vs.toArray } (.lst (ns.map V.int))) else none) (λ b=>?_) (.inl (.inr ⟨{ cls:=.type "list",data:=.seq vs.toArray },if_pos rfl⟩)) (λ b u z=>?_) (λ b z=>?_) λ _=>hk
  ·by_cases hb:b=a
   ·exact .inr ⟨_,_,if_pos hb⟩
   ·exact .inl (if_neg hb)
  ·by_cases hb:b=a
   ·have z':=(if_pos hb).symm.trans z;cases z';subst hb;exact⟨ha,by rw[aab];exact hl,vs,_,rv,ha⟩
   ·have z':=(if_neg hb).symm.trans z;cases z'
  ·by_cases hb:b=a
   ·exact hb
   ·exact absurd (if_neg hb) z
theorem walk_of {l:PySem.W.OpenLaw}{n k:Nat}{q:Program}{loose:List Str}{XP:(Str->Option Value)->Heap->Prop}{YP:World->Heap->Prop}{d:DefRec}{K:Params->aaa}{CX:World->AJ}{sp:World->Sp}{x:Str}
  (hn:l.most=some n) (hn2:n<=sizeLine) (hdf:d.params.defaults=[]) (hr:Room k callerA)
  (hY:∀ (w:World) (h:Heap),YP w h->(K w.params).In h)
  (F:∀ (w:World) (mg:Str->Option Value) (fa:Addr) (h:Heap),(K w.params).In h->h.Ns mainGlobals mg->mg d.name=some (.ref fa)->
   ∃ fd:FuncData,(∀ (s:Shared) (u:Value),BindsTo s fd ⟨[u],[]⟩ [(x,u)])/\
    ∀ base:Heap,(K w.params).In base->base.Ns mainGlobals mg->FnOk l.prog w (K w.params) mg base (CX w) k fa fd [x] (sp w))
  (hsp:∀ (w:World) (H:Hp) (a:Addr) (ns:List Int),ns.length<=n->JO H->bO (K w.params) H a (ns.map V.int)->sp w [.ref a] H (λ v _=>v=.bl true) λ _ _ _=>False)
  (hCX:∀ (w:World) (H:Hp) (s:Shared) (e:Value) (s':Shared),CX w [] H s (λ _ _ _=>False) e s'->False) :
  PySem.W.WalkO q loose XP YP l.row.toRowW d [] (λ f vs=>PySem.call f vs):=by
 refine Att.attach_call hn hdf λ w s₀ ad mg mb fa o pm cd doc a vs ns G Y ho hd hcd hmg hobj hints hlen hg=>?_;have KX:=hY w _ Y;obtain⟨fd,hb,hF⟩:=F w mg fa _ KX G.T.g hmg;exact CC KX G.T.g G.T.b G.T.builtins G.T.nolimit hg hobj hints (abn hlen hn2) hr hF hb (λ H hO hS=>hsp w H a ns hlen hO hS) λ H e s'=>hCX w H ad e s'
def gJ (s:Stmt) (j:Nat):Stmt:=match s with
 | .ClassDef _ _ _ body _ _ _ _ _ _ _=>body.getD j (.Pass ⟨0,0,0,0⟩)
 | _=>.Pass ⟨0,0,0,0⟩
def jV (s:Stmt):Arguments:=match s with
 | .FunctionDef _ a _ _ _ _ _ _ _ _=>a
 | _=>{ posonlyargs:=[],args:=[],vararg:=none,kwonlyargs:=[],kw_defaults:=[],kwarg:=none,defaults:=[] }
def gK (s:Stmt):List Stmt:=match s with
 | .FunctionDef _ _ b _ _ _ _ _ _ _=>b
 | _=>[]
def aK (s:Stmt):Scope:=match s with
 | .FunctionDef _ _ _ _ _ _ sc _ _ _=>sc
 | _=>{ kind:=.function,names:=[],isGenerator:=false,isCoroutine:=false }
abbrev hU:AJ:=λ _ _ _ _ _ _=>False
abbrev E0:XK:=λ _ _ _=>False
theorem KU {X:Cx}:jN hU X E0:=λ _ _ _ _ _ _ _ h=>h.elim
structure Fun (K:aaa) (x qual:Str) (st:Stmt) (f:Addr) (fd:FuncData):Prop where
 ex:∃ (oc:Value) (od:Option Addr) (kV doc pm:Value) (an:Option Addr) (cdv ct:Value) (osl:Array (Option Value)),
  fd=PySem.W.fnOf x qual (jV st) (gK st) (aK st) .none kV doc pm an cdv ct/\K.lookup f=some ⟨oc,od,.func fd,osl⟩/\PySem.W.codeIn K cdv qual=true
 kp:PySem.W.keepIn K (.ref f)=true
theorem Fun.ok {x qual:Str}{st:Stmt}{f:Addr}{fd:FuncData}{N ps:List Str}{k:Nat}{sp:Sp} (F:Fun K x qual st f fd) (S:FnScope N ps (aK st)) (len:∀ vs H Q E,sp vs H Q E->vs.length=ps.length)
  (hbody:∀ (cdv:Value) (A:Around) (outer:List Env) (s:Shared) (H:Hp) (vs:List V) (Q:VK) (E:XK),Room k (A.deeper (envOfC qual (aK st) s.heap.objs.size f cdv))->sp vs H Q E->
   ∃ t,xR (w9 hU P w K mg base N qual (aK st) f cdv A outer s H E).nox (gK st) t/\t { nx:=λ _ H'=>Q .non H',rt:=Q } (lN N vs) H):FnOk P w K mg base hU (k+1) f fd ps sp:=by
 obtain⟨oc,od,kV,doc,pm,an,cdv,ct,osl,rfl,lk,hcd⟩:=F.ex;refine GP lk hcd S len λ A outer s H vs Q E hr hsp=>?_;obtain⟨t,h,q⟩:=hbody cdv A outer s H vs Q E hr hsp;exact⟨t,h.nox,q⟩
theorem Fun.binds {x qual:Str}{st:Stmt}{f:Addr}{fd:FuncData}{ps:List Str} (F:Fun K x qual st f fd)
  (h:∀ (kV doc pm:Value) (an:Option Addr) (cdv ct:Value) (us:List Value),us.length=ps.length->bindArgs (PySem.W.fnOf x qual (jV st) (gK st) (aK st) .none kV doc pm an cdv ct) ⟨us,[]⟩=pure (ps.zip us)):kS K fd ps []:=by
 obtain⟨oc,od,kV,doc,pm,an,cdv,ct,osl,rfl,lk,hcd⟩:=F.ex;exact .all (h kV doc pm an cdv ct)
theorem bD {x qual:Str}{st:Stmt}{f:Addr}{oc:Value}{od an:Option Addr}{osl:Array (Option Value)}{kV doc pm cdv ct:Value} (l:K.lookup f=some ⟨oc,od,.func (PySem.W.fnOf x qual (jV st) (gK st) (aK st) .none kV doc pm an cdv ct),osl⟩)
  (c:PySem.W.codeIn K cdv qual=true) (k:PySem.W.keepIn K (.ref f)=true):Fun K x qual st f (PySem.W.fnOf x qual (jV st) (gK st) (aK st) .none kV doc pm an cdv ct):=⟨⟨oc,od,kV,doc,pm,an,cdv,ct,osl,rfl,l,c⟩,k⟩
theorem LG {A:Around}{k:Nat} (hr:Room k A):A.units+1 < cLine:=Nat.lt_of_le_of_lt (Nat.add_le_add_left (by decide:1<=64) _) hr.units
theorem bP {n:Nat} (h:n<=1000):n < sizeLine:=Nat.lt_of_le_of_lt h (by decide)
section
variable {X:Cx}
theorem pv (i:Nat) {x:Str}{pos:Pos} (hN:X.N[i]? = some x:=by with_unfolding_all rfl) (hv:Vis X.env.scope x:=by with_unfolding_all first | exact Or.inl rfl | exact Or.inr (Or.inl rfl) | exact Or.inr (Or.inr rfl)) (hd:(x == ("__debug__" : Str))=false:=by decide)
  (hcd:(x == ("__classdict__" : Str))=false:=by decide):PE X (.Name x pos) (cD i):=IC hN hv hd hcd
end
theorem bM {A B:Prop} (h:B):if false=true then A else B:=by
 rw[if_neg aak];exact h
theorem aX {A B:Prop} (h:A):if true=true then A else B:=by
 rw[if_pos rfl];exact h
theorem dJ {c A B:Prop} [Decidable c] (h1:c->A) (h2:¬ c->B):if c then A else B:=by
 by_cases h:c
 ·rw[if_pos h];exact h1 h
 ·rw[if_neg h];exact h2 h
theorem LC {c A B:Prop} [Decidable c] (hc:c) (h:B):if (!decide c)=true then A else B:=by
 rw[aaw hc];exact bM h
def aG (H H':Hp):Prop:=∀ b o,H b=some o->H' b=some o
theorem aG.refl (H:Hp):aG H H:=λ _ _ h=>h
theorem aG.trans {H H1 H2:Hp} (a:aG H H1) (b:aG H1 H2):aG H H2:=λ c o h=>b c o (a c o h)
theorem aG.free {H H':Hp} (e:aG H H') {l:Addr} (h:H' l=Option.none):H l=Option.none:=by
 cases q:H l with
 | none=>rfl
 | some o=>
  rw[e l o q] at h;cases h
end L2
set_option maxHeartbeats 4000000
namespace L2
open PySem PySem.Spec PyProof.Rows
theorem fK {env:Env} (hk:env.scope.kind=.function):∀ {names:List (Str×NameKind)}{x:Str},names.lookup x=some .free->env.kindOf x=some .cell->
  (names.map λ (n,k)=>if (k == NameKind.free && env.scope.kind == .function && env.kindOf n == some .cell) then (n,NameKind.cell) else (n,k)).lookup x=some .cell
 | [],_,h,_=>by simp at h
 | (n,k)::r,x,h,hc=>by
  have ih:=@fK env hk r x;show List.lookup x ((if (k == NameKind.free && env.scope.kind == .function && env.kindOf n == some .cell)=true then (n,NameKind.cell) else (n,k))::_)=_;cases hx:x == n with
  | true=>
   simp only [List.lookup_cons,hx] at h;cases h;have e:x=n:=by simpa using hx
   subst e;rw[if_pos (by rw[hk,hc];decide)];simp [List.lookup_cons]
  | false=>
   simp only [List.lookup_cons,hx] at h
   by_cases hq:(k == NameKind.free && env.scope.kind == .function && env.kindOf n == some .cell)=true
   ·rw[if_pos hq];simp only [List.lookup_cons,hx];exact ih h hc
   ·rw[if_neg hq];simp only [List.lookup_cons,hx];exact ih h hc
def DN (env:Env):List (Str×Addr)->Prop
 | []=>True
 | p::r=>env.cells.lookup p.1=some p.2/\DN env r
theorem DN.get {env:Env}:∀ {cl:List (Str×Addr)},DN env cl->∀ x c,cl.lookup x=some c->env.cells.lookup x=some c
 | [],_,_,_,e=>by simp at e
 | (n,a)::r,h,x,c,e=>by
  cases hx:x == n with
  | true=>
   simp only [List.lookup_cons,hx] at e;cases e;have e':x=n:=by simpa using hx
   subst e';exact h.1
  | false=>
   simp only [List.lookup_cons,hx] at e;exact DN.get h.2 x c e
def wD (X:Cx) (scope:Scope) (N':List Str):List (Option Nat)->Nat->Prop
 | [],_=>True
 | none::r,i=>wD X scope N' r (i+1)
 | some j::r,i=>(∃ x,N'[i]? = some x/\X.N[j]? = some x/\scope.names.lookup x=some .free/\X.env.kindOf x=some .cell)/\wD X scope N' r (i+1)
theorem wD.get {X:Cx}{scope:Scope}{N':List Str}:∀ {fr:List (Option Nat)}{k:Nat},wD X scope N' fr k->∀ i j,fr[i]? = some (some j)->
  ∃ x,N'[k+i]? = some x/\X.N[j]? = some x/\scope.names.lookup x=some .free/\X.env.kindOf x=some .cell
 | [],_,_,i,j,e=>by simp at e
 | none::r,k,h,0,j,e=>by simp at e
 | some _::r,k,h,0,j,e=>by simp at e;subst e;exact h.1
 | none::r,k,h,i+1,j,e=>by
  have:=wD.get (k:=k+1) (show wD X scope N' r (k+1) from h) i j (by simpa using e)
  rwa [Nat.add_right_comm] at this
 | some _::r,k,h,i+1,j,e=>by
  have:=wD.get (k:=k+1) h.2 i j (by simpa using e)
  rwa [Nat.add_right_comm] at this
structure LcOk (X:Cx) (scope:Scope) (cl:List (Str×Addr)) (N':List Str) (fr:List (Option Nat)):Prop where
 clos:closureFor scope X.env=pure cl
 cls:DN X.env cl
 kind:scope.kind=.function
 nocell:(scope.names.all λ p=>p.2 != NameKind.cell)=true
 locs:(scope.names.all λ p=>p.2 != NameKind.local || scope.names.lookup p.1 == some NameKind.local)=true
 frees:(scope.names.all λ p=>p.2 != NameKind.free || (cl.lookup p.1).isSome)=true
 len:fr.length=N'.length
 fr:wD X scope N' fr 0
def A4 (fr:List (Option Nat)) (σ:St):St:=fr.map λ o=>o.bind λ j=>(σ[j]?).join
def uL (X:Cx) (N':List Str) (scope:Scope) (cl:List (Str×Addr)) (fp:List Addr) (s:Shared) (H:Hp):Cx:=
 { X with N:=N',s₀:=s,H₀:=H,env:=compEnvC scope cl s.heap.objs.size X.env,outer:=X.stack,ex:=fp,fn:=λ _=>false,pn:=[] }
def LU (X:Cx) (ifs:List Expr) (t:TT):Prop:=
 ∀ (pins:List (Addr×Obj)) (s:Shared) (σ:St) (H:Hp) (Q:Bool->Hp->Prop),Inv X pins σ H s->t σ H Q->
  wpAny (model X.prog X.w) X.A (forIn ifs true λ c r=>if r=true then do let ok <- isTrue c X.env (eval c X.env);pure (ForInStep.yield ok) else pure (ForInStep.yield r)) (TP X pins σ Q) X.xe s
def zI:TT:=λ _ H Q=>Q true H
theorem cU {X:Cx}:LU X [] zI:=λ _ _ _ H _ I h=>wpAny_tests_nil ⟨H,I,h⟩
theorem EG {X:Cx}{c:Expr}{t:TT} (h:PT X c t):LU X [c] t:=λ pins s σ H Q I hw=>wpAny_tests_one (h pins s σ H Q I hw)
def iD (J:It) (g:TG) (tc:TT) (te:TE) (fr:List (Option Nat)) (σ:St) (H1:Hp) (Q:Addr->Hp->Prop):Prop:=
 ∀ D,H1 D=none->∃ W:Nat->Nat->List V->St->Hp->Prop,(∃ m,W 0 m [] (A4 fr σ) (upd H1 D (.lst [])))/\
  ∀ i m ys aa H',W i m ys aa H'->(J.stop i H'/\Q D H')\/
   (J.go i H'/\∃ N:List V->St->Hp->Prop,(∀ ys' ci H'',N ys' ci H''->∃ m',m' < m/\W (i+1) m' ys' ci H'')/\
    ∀ x H2,J.yld i H' x H2->g x aa H2 λ af H3=>tc af H3 λ b H4=>
    if b=true then te af H4 λ y H5=>H5 D=some (.lst ys)/\ys.length < sizeLine/\N (ys++[y]) af (upd H5 D (.lst (ys++[y])))
    else N ys af H4)
theorem tU {J:It}{n:Nat}{g:TG}{tc:TT}{te:TE}{fr:List (Option Nat)}{σ:St}{H1:Hp}{Q:Addr->Hp->Prop} (Pv:Addr->Nat->List V->St->Hp->Prop)
  (h0:∀ D,H1 D=none->Pv D 0 [] (A4 fr σ) (upd H1 D (.lst [])))
  (hstop:∀ D ys aa H',Pv D n ys aa H'->J.stop n H'/\Q D H')
  (hgo:∀ D i ys aa H',i < n->Pv D i ys aa H'->J.go i H'/\∀ x H2,J.yld i H' x H2->g x aa H2 λ af H3=>tc af H3 λ b H4=>
    if b=true then te af H4 λ y H5=>H5 D=some (.lst ys)/\ys.length < sizeLine/\Pv D (i+1) (ys++[y]) af (upd H5 D (.lst (ys++[y])))
    else Pv D (i+1) ys af H4):iD J g tc te fr σ H1 Q:=by
 intro D hD;refine⟨λ i m ys σ H=>m=n - i/\i<=n/\Pv D i ys σ H,⟨n,by simp,abk _,h0 D hD⟩,?_⟩;rintro i m ys aa H' ⟨rfl,hi,p⟩
 by_cases hlt:i < n
 ·obtain⟨go,step⟩:=hgo D i ys aa H' hlt p;exact .inr ⟨go,Pv D (i+1),λ ys' ci H'' p'=>⟨n - (i+1),by omega,rfl,hlt,p'⟩,step⟩
 ·have e:i=n:=by omega
  subst e;exact .inl (hstop D ys aa H' p)
theorem FS {J:It}{n:Nat}{g:TG}{tb:TS}{D:Ends}{σ:St}{H:Hp} (Pv:Nat->St->Hp->Prop) (h0:Pv 0 σ H) (hstop:∀ σ H,Pv n σ H->J.stop n H/\D.nx σ H)
  (hgo:∀ i σ H,i < n->Pv i σ H->J.go i H/\∀ x H',J.yld i H x H'->g x σ H' λ ai H2=>tb { D with nx:=Pv (i+1),ct:=Pv (i+1),bk:=D.nx } ai H2) :
  ∃ W:Nat->Nat->St->Hp->Prop,(∃ m,W 0 m σ H)/\∀ i m σ H,W i m σ H->
   (J.stop i H/\D.nx σ H)\/(J.go i H/\∃ N:St->Hp->Prop,(∀ aa H',N aa H'->∃ m',m' < m/\W (i+1) m' aa H')/\∀ x H',J.yld i H x H'->g x σ H' λ ai H2=>tb { D with nx:=N,ct:=N,bk:=D.nx } ai H2):=by
 refine⟨λ i m σ H=>m=n - i/\i<=n/\Pv i σ H,⟨n,by simp,abk _,h0⟩,?_⟩;rintro i m σ H ⟨rfl,hi,p⟩
 by_cases hlt:i < n
 ·obtain⟨go,step⟩:=hgo i σ H hlt p;exact .inr ⟨go,Pv (i+1),λ aa H' p'=>⟨n - (i+1),by omega,rfl,hlt,p'⟩,step⟩
 ·have e:i=n:=by omega
  subst e;exact .inl (hstop σ H p)
def tLC (wi:TI) (fr:List (Option Nat)) (g:TG) (tc:TT) (te:TE):TE:=λ σ H Q=>wi σ H λ J H1=>iD J g tc te fr σ H1 λ D H'=>Q (.ref D) H'
section
variable {prog:Program}{A:Around}{R:Result->Shared->Prop}{s:Shared}
theorem uB {elt target iter:Expr}{ifs:List Expr}{scope:Scope}{pos:Pos}{it acc:Value}{env:Env} (I:Nat->Shared->Prop)
  (turn:∀ n s,I n s->wpAny (model prog w) A (pyNext it) (λ r ad=>match r with
   | none=>R (.ok .next) ad
   | some v=>wpAny (model prog w) A (letOwnedTupleGo target it v) (λ _ ck=>wpAny (model prog w) A (assign target env v) (λ _ au=>
     wpAny (model prog w) A (forIn ifs true λ c r=>if r=true then do let ok <- isTrue c env (eval c env);pure (ForInStep.yield ok) else pure (ForInStep.yield r)) (λ ok az=>
      if ok=true then wpAny (model prog w) A (eval elt env) (λ x bq=>
       wpAny (model prog w) A (call (.builtin "list.append") [acc,x]) (λ _ cz=>∃ m,m < n/\I m cz) (notedBy (model prog w) A env λ e s'=>R (.error e) s') bq) (notedBy (model prog w) A env λ e s'=>R (.error e) s') az
      else ∃ m,m < n/\I m az) (notedBy (model prog w) A env λ e s'=>R (.error e) s') au) (notedBy (model prog w) A env λ e s'=>R (.error e) s') ck) (notedBy (model prog w) A env λ e s'=>R (.error e) s') ad)
    (notedBy (model prog w) A env λ e s'=>R (.error e) s') s)
  (n:Nat) (h:I n s) :
  codeAny (model prog w) A (.compLoop (.ListComp elt [⟨target,iter,ifs,0⟩] scope pos) 0 it acc env) R s:=by
 refine codeAny_loop rfl I (λ n s hI=>?_) n h;show wpAny _ A ((compTurn (.ListComp elt [⟨target,iter,ifs,0⟩] scope pos) 0 it acc env).onRaise (λ x=>do noteFrame x env;theTreesLotGoes x)) _ _ s;refine wpAny_noted ?_;rw[compTurn_list];refine aac (wpAny_standAt (aac (abo (turn n s hI) (λ r ad ag=>?_) λ _ _ h'=>h')));cases r with
 | none=>exact aav ag
 | some v=>
  refine aac (abo ag (λ _ ck h₁'=>?_) λ _ _ h'=>h');refine aac (abo h₁' (λ _ au aq=>aac (abo aq (λ ok az ah=>?_) λ _ _ h'=>h')) λ _ _ h'=>h');cases ok with
  | false=>exact aav ⟨rfl,ah⟩
  | true=>
   exact aac (aac (abo ah (λ x bq bf=>aac (abo bf (λ _ cz ao=>aav (aav ⟨rfl,ao⟩)) λ _ _ h'=>h')) λ _ _ h'=>h'))
end
section
variable {X:Cx}
theorem LcOk.invC {scope:Scope}{cl:List (Str×Addr)}{N':List Str}{fr:List (Option Nat)}{pins:List (Addr×Obj)}{σ:St}{H:Hp}{s:Shared}{h1:Heap}{fp:List Addr}{m1:Str->Option Value}{tk:Nat}
  (S:LcOk X scope cl N' fr) (I:Inv X pins σ H s) (hf:∀ b∈fp,lG X pins H b) (hfo:∀ b∈fp,b < s.heap.objs.size)
  (k:∀ b o,s.heap.get? b=some o->h1.get? b=some o) (hn:h1.Ns s.heap.objs.size m1):Inv (uL X N' scope cl fp s H) [] (A4 fr σ) H { s with heap:=h1,toks:=tk }:=by
 have hfree:=S.frees;have hcell:=S.nocell;rw[abl] at hfree hcell;have fresh:H s.heap.objs.size=none:=I.hok.fresh (aag _);have clg:=S.cls.get;refine⟨⟨I.ok.mod,S.kind,I.ok.glob,I.ok.blt,aag _,λ x y c e1 e2=>I.ok.inj x y c (clg x c e1) (clg y c e2),λ x hx=>?_,(λ x c e=>nomatch e),I.ok.hd,I.ok.frames,.inl rfl,λ b hb=>⟨abi (hfo b hb),λ x c e=>(hf b hb).2.2.2.2.1 x c (clg x c e)⟩,
  I.bs,abn I.ok.bsz I.sz,λ b o e hb=>?_,λ b hb hz=>?_,I.stack,I.stkFree⟩,rfl,I.bare,Un.kept k,⟨m1,hn,λ i x v e1 e2 e3=>?_⟩,λ x c e=>?_,fresh,λ x c e=>I.freeC x c (clg x c e),λ p hp=>absurd (show p∈([]:List (Addr×Obj)) from hp) (by simp),I.hok.kept k,?_⟩
 ·
  have hm:∃ k',(x,k')∈scope.names/\k'=NameKind.free:=by
   have hx':(relabel scope X.env).names.lookup x=some .cell\/(relabel scope X.env).names.lookup x=some .free:=hx;obtain⟨k',e,hk'⟩:∃ k',(relabel scope X.env).names.lookup x=some k'/\(k'=.cell\/k'=.free):=by
    rcases hx' with e | e
    ·exact⟨_,e,.inl rfl⟩
    ·exact⟨_,e,.inr rfl⟩
   have hmem:=abu e;obtain⟨⟨n,kn⟩,hp,he⟩:=aay.mp hmem;dsimp only at he
   split at he
   ·rename_i hc
    cases he;have:kn=.free:=by
     simp only [Bool.and_eq_true,beq_iff_eq] at hc;exact hc.1.1
    exact⟨kn,hp,this⟩
   ·cases he;rcases hk' with e' | e'
    ·subst e';have:=hcell _ hp;simp at this
    ·exact⟨_,hp,e'⟩
  obtain⟨k',hp,rfl⟩:=hm;have:=hfree _ hp;simp only [bne_self_eq_false,Bool.false_or] at this;exact Option.isSome_iff_exists.mp this
 ·rcases (hf b hb).2.2.2.1 with z | z
  ·exact I.ok.noex b o e z
  ·have:=aal e;exact absurd (aan this (abn I.ok.bsz z)) (abx _)
 ·obtain⟨_,f1,f2,_⟩:=hf b hb;rcases aaz.mp (I.stkSub b hz) with e | e
  ·exact f1 e
  ·exact f2 e
 ·
  unfold A4 at e2;rw[aap] at e2;cases ef:fr[i]? with
  | none=>rw[ef] at e2;cases e2
  | some o=>
   rw[ef] at e2;cases o with
   | none=>simp at e2
   | some j=>
    have e2':(σ[j]?).join=some v:=by simpa using e2
    obtain⟨x',h1',h2',h3',h4'⟩:=S.fr.get i j ef;rw[Nat.zero_add] at h1';have ex:x'=x:=by
     have:N'[i]? = some x:=e1;rw[h1'] at this;exact abm this
    subst ex;have e2'':σ[j]? = some (some v):=by
     cases q:σ[j]? with
     | none=>rw[q] at e2';cases e2'
     | some z=>rw[q] at e2';simp at e2';rw[e2']
    obtain⟨m,hm,hl⟩:=I.loc;obtain⟨u,r,lk⟩:=hl j x' v h2' e2'' (.inr (.inl h4'));refine⟨u,r,?_⟩;rcases lk with ⟨q,_⟩ | ⟨_,c,hc,z⟩
    ·rw[h4'] at q;cases q
    ·have hcl:∃ c',cl.lookup x'=some c':=by
      have:=hfree _ (abu h3');simp only [bne_self_eq_false,Bool.false_or] at this;exact Option.isSome_iff_exists.mp this
     obtain⟨c',hc'⟩:=hcl;have e':=clg x' c' hc';rw[hc] at e';cases e';obtain⟨oc,hoc,hd⟩:=z;refine .inr ⟨.inl ?_,c,hc',oc,k c oc hoc,hd⟩;exact fK I.ok.kind h3' h4'
 ·obtain⟨v,oc,hoc,hd⟩:=I.cell x c (clg x c e);exact⟨v,oc,k c oc hoc,hd⟩
 ·show (A4 fr σ).length=N'.length;unfold A4;rw[aab,S.len]
theorem Inv.outC {scope:Scope}{cl:List (Str×Addr)}{N':List Str}{pins pins':List (Addr×Obj)}{σ aa:St}{H H':Hp}{s s':Shared}{fp:List Addr} (I:Inv X pins σ H s) (J:Inv (uL X N' scope cl fp s H) pins' aa H' s')
  (hf:∀ b∈fp,lG X pins H b):Inv X pins σ H' s':=
 I.call' (ch:=fp) J.os J.base J.hok J.bare λ b hb=>by
  obtain⟨_,f1,_,f3,f4,f5⟩:=hf b hb;exact⟨f3,f1,f4,f5⟩
theorem Inv.letgo {pins:List (Addr×Obj)}{σ:St}{H:Hp}{s:Shared}{C:Addr}{h':Heap} (I:Inv X pins σ H s) (f:lG X pins H C) (hsb:Heap.SameBut C s.heap h'):Inv X pins σ H { s with heap:=h' }:=by
 obtain⟨f0,f1,f2,f3,f4,f5⟩:=f;exact I.turned (t':=s.toks) (it:=C) (h':=h') (λ b o hb e=>(hsb.2 b hb).trans e) f0 f1 f3 f4 f5
theorem vS {elt tg iter:Expr}{ifs:List Expr}{scope:Scope}{pos:Pos}{N':List Str}{fr:List (Option Nat)}{cl:List (Str×Addr)}{g:TG}{tc:TT}{te:TE}
  {pins:List (Addr×Obj)}{σ:St}{H:Hp}{s:Shared}{J:It}{fp:List Addr}{it:Addr}{tn:Nat->Heap->Prop}{Q:Addr->Hp->Prop}{RR:Value->Addr->Result->Shared->Prop}{E:Value->Shared->Prop}
  (hx:∀ e s,¬ X.xe e s) (hc:X.calm=true) (S:LcOk X scope cl N' fr)
  (hg:∀ fp s H,PG (uL X N' scope cl fp s H) tg g) (ht:∀ fp s H,LU (uL X N' scope cl fp s H) ifs tc) (he:∀ fp s H,PE (uL X N' scope cl fp s H) elt te)
  (I:Inv X pins σ H s) (T:Turn X.prog X.w X.K tg J fp it tn) (st:tn 0 s.heap) (hf:∀ b∈fp,lG X pins H b) (h:iD J g tc te fr σ H Q)
  (hRR:∀ D C H' s' m',Inv X pins σ H' s'->Q D H'->s'.heap.Ns C m'->lG X pins H' C->RR (.ref D) C (.ok .next) s') :
  wpAny (model X.prog X.w) X.A (newList []) (λ acc az=>wpAny (model X.prog X.w) X.A (newFunctionEnv scope X.env.globals cl [] X.env.qual none .none (some X.env)) (λ cenv bq=>
   codeAny (model X.prog X.w) X.A (.compStart (.ListComp elt [⟨tg,iter,ifs,0⟩] scope pos) 0 (.ref it) acc { cenv with scope:=relabel scope X.env }) (RR acc cenv.locals) bq) E az) E s:=by
 have hcell:=S.nocell;rw[abl] at hcell;refine wpAny_newObj_type (wpAny_newFunctionEnv (λ x hx'=>by simpa using hcell x hx') (by intro y hy;simp at hy) (λ ag bj bn=>?_) S.kind);dsimp only at bj bn ⊢;have fresh:H s.heap.objs.size=none:=I.hok.fresh (aag _);have I3:Inv X pins σ (upd H s.heap.objs.size (.lst [])) { s with heap:=s.heap.push { cls:=.type "list",data:=.seq ([]:List Value).toArray },toks:=s.toks }:=I.lnew (ys:=[]) (its:=[]) .nil (abk _);have hf3:∀ b∈fp,lG X pins (upd H s.heap.objs.size (.lst [])) b:=λ b hb=>by
  obtain⟨o,ho,_⟩:=T.obj _ _ st b hb;exact⟨by rw[aN (abi (aal ho))];exact (hf b hb).1,(hf b hb).2⟩
 generalize hs3:({ s with heap:=s.heap.push { cls:=.type "list",data:=.seq ([]:List Value).toArray },toks:=s.toks }:Shared)=s3 at I3;have e3:s3.heap=s.heap.push { cls:=.type "list",dict:=none,data:=.seq ([]:List Value).toArray }:=by rw[<- hs3]
 have e3s:({ s with heap:=s.heap.push { cls:=.type "list",dict:=none,data:=.seq ([]:List Value).toArray } }:Shared)=s3:=hs3;have hsz3:s3.heap.objs.size=s.heap.objs.size+1:=by rw[e3,Heap.size_push]
 have hfo:∀ b∈fp,b < s3.heap.objs.size:=λ b hb=>by
  obtain⟨o,ho,_⟩:=T.obj _ _ st b hb;rw[hsz3];exact Nat.lt_succ_of_lt (aal ho)
 rw[<- e3] at bj bn ⊢;have old3:∀ b o,s3.heap.get? b=some o->ag.get? b=some o:=λ b o e=>bn.extBut b o (abi (aal e)) (aah _ e);have old:∀ b o,s.heap.get? b=some o->s3.heap.get? b=some o:=λ b o e=>by rw[e3];exact aah _ e
 have I4:=S.invC (tk:=s3.toks) I3 hf3 hfo old3 bj;obtain⟨W,⟨m0,w0⟩,turn⟩:=h s.heap.objs.size fresh;have stat:∀ {H':Hp},(∀ b∈fp,H' b=none)->∀ b∈fp,lG (uL X N' scope cl fp s3 (upd H s.heap.objs.size (.lst []))) [] H' b:=λ hn b hb=>by
  refine⟨hn b hb,abi (hfo b hb),?_,.inl hb,λ x c e=>(hf b hb).2.2.2.2.1 x c (S.cls.get x c e),λ p hp=>absurd (show p∈([]:List (Addr×Obj)) from hp) (by simp)⟩;intro hz;obtain⟨_,f1,f2,_⟩:=hf b hb;rcases aaz.mp (I.stkSub b hz) with e | e
  ·exact f1 e
  ·exact f2 e
 have loop:∀ s4:Shared,s4={ s3 with heap:=ag,toks:=s3.toks }->
   codeAny (model X.prog X.w) X.A (.compLoop (.ListComp elt [⟨tg,iter,ifs,0⟩] scope pos) 0 (.ref it) (.ref s.heap.objs.size) (compEnvC scope cl s3.heap.objs.size X.env)) (RR (.ref s.heap.objs.size) s3.heap.objs.size) s4:=by
  intro s4 hs4;refine uB (λ n s'=>∃ i ys aa H',Inv (uL X N' scope cl fp s3 (upd H s.heap.objs.size (.lst []))) [] aa H' s'/\tn i s'.heap/\(∀ b∈fp,H' b=none)/\W i n ys aa H') ?_ m0
   ⟨0,[],A4 fr σ,_,by rw[hs4];exact I4,by rw[hs4];exact T.keep _ _ _ st λ b _ o e=>old3 b o (old b o e),λ b hb=>(hf3 b hb).1,w0⟩
  rintro n s5 ⟨i,ys,ce,H5,I5,st5,fr5,w5⟩;rcases turn i n ys ce H5 w5 with ⟨stop,qn⟩ | ⟨go,N,hN,step⟩
  ·refine dF (T.done (uL X N' scope cl fp s3 (upd H s.heap.objs.size (.lst []))) rfl rfl rfl hc i [] s5 ce H5 _ I5 (stat fr5) st5 stop) λ r s6 ⟨hr,I6⟩=>?_;subst hr;obtain⟨m',hm',_⟩:=I6.loc;exact hRR _ _ H5 s6 m' (I3.outC I6 hf3) qn hm' (I3.fpOk (aag _) I6.free)
  ·refine dF (T.item (uL X N' scope cl fp s3 (upd H s.heap.objs.size (.lst []))) rfl rfl rfl hc i [] s5 ce H5 _ I5 (stat fr5) st5 go) λ r s6 ⟨u,hr,h6⟩=>?_;subst hr;refine dF h6 λ _ s7 ⟨x,H7,I7,r7,y7,st7,fr7⟩=>?_;have I7':=I7.pinned (stat fr7) (T.obj _ _ st7);refine abo (hg fp s3 _ _ s7 ce H7 x u _ I7' r7 (step x H7 y7)) (λ _ s8 ⟨bg,H8,I8,q8⟩=>?_) λ e s' z=>(hx e s' z).elim;refine abo (ht fp s3 _ _ s8 bg H8 _ I8 q8) (λ ok s9 ⟨H9,I9,q9⟩=>?_) λ e s' z=>(hx e s' z).elim;have again:∀ {s10:Shared}{H10:Hp}{ys':List V},Inv (uL X N' scope cl fp s3 (upd H s.heap.objs.size (.lst []))) ([]++pA fp s7.heap) bg H10 s10->N ys' bg H10->
     ∃ m,m < n/\∃ i ys aa H',Inv (uL X N' scope cl fp s3 (upd H s.heap.objs.size (.lst []))) [] aa H' s10/\tn i s10.heap/\(∀ b∈fp,H' b=none)/\W i m ys aa H':=λ {s10 H10 ys'} I10 n10=>by
    obtain⟨m',hm,w10⟩:=hN ys' bg H10 n10;refine⟨m',hm,i+1,ys',bg,H10,I10.unpinned,T.keep _ _ _ st7 λ b hb o e=>(I10.pin (b,o) (abg _ (abg _ (iB hb e)))).1,λ b hb=>?_,w10⟩;obtain⟨o,e,d⟩:=T.obj _ _ st7 b hb;exact (I10.pin (b,o) (abg _ (abg _ (iB hb e)))).2.1
   cases ok with
   | false=>
    rw[if_neg aak] at q9 ⊢;exact again I9 q9
   | true=>
    rw[if_pos rfl] at q9 ⊢;refine abo (he fp s3 _ _ s9 bg H9 _ I9 q9) (λ y s10 ⟨yv,H10,I10,r10,hD,hlen,q10⟩=>?_) λ e s' z=>(hx e s' z).elim;refine abo (cM (X:=uL X N' scope cl fp s3 (upd H s.heap.objs.size (.lst []))) _ s10 bg H10 (.ref s.heap.objs.size) [yv] (.ref s.heap.objs.size) [y] (λ _ H11=>H11=upd H10 s.heap.objs.size (.lst (ys++[yv]))) I10 rfl (.cons r10 .nil)
     ⟨_,ys,yv,rfl,rfl,hD,hlen,rfl⟩) (λ _ s11 ⟨_,H11,I11,_,e11⟩=>?_) λ e s' z=>(hx e s' z).elim
    subst e11;exact again I11 q10
 exact codeAny_compStart_list (loop _ (by rw[<- e3s];rfl)) (T.self X.A 0 _ _ _ (T.keep _ _ _ st λ b _ o e=>old3 b o (old b o e)) (loop _ (by rw[<- e3s];rfl)))
theorem gB {elt tg iter:Expr}{ifs:List Expr}{scope:Scope}{pos:Pos}{N':List Str}{fr:List (Option Nat)}{cl:List (Str×Addr)}{wi:TI}{g:TG}{tc:TT}{te:TE}
  (hx:∀ e s,¬ X.xe e s) (hc:X.calm=true) (S:LcOk X scope cl N' fr) (hi:PI X tg iter wi)
  (hg:∀ fp s H,PG (uL X N' scope cl fp s H) tg g) (ht:∀ fp s H,LU (uL X N' scope cl fp s H) ifs tc) (he:∀ fp s H,PE (uL X N' scope cl fp s H) elt te)
  (hs:∀ x,foldedSetIterable iter X.env x=pure x:=by intro _;with_unfolding_all rfl):PE X (.ListComp elt [⟨tg,iter,ifs,0⟩] scope pos) (tLC wi fr g tc te):=by
 intro pins s σ H Q I h;have hloc:=S.locs;rw[abl] at hloc;rw[eval_ListComp];refine wpAny_comprehension_free (use:=none) rfl hs S.clos S.kind (λ x hx' hl=>by have:=hloc x hx';rw[hl] at this;simpa using this) (dF (hi pins s σ H _ I h) λ v s1 h1=>dF h1 λ itv s2 h2=>?_);obtain⟨it,fp,tn,J,H2,e,I2,T,st2,f2,rest⟩:=h2;subst e;refine vS (RR:=λ acc C=>compPost (model X.prog X.w) X.A X.xe none (EP X pins σ Q) acc C) hx hc S hg ht he I2 T st2 f2 rest ?_;intro D C H' s' m' I' q hn f;exact⟨m',hn,λ h' hsb=>⟨.ref D,H',I'.letgo f hsb,rfl,q⟩⟩
theorem jQ {i:Nat}{y:Str}{py:Pos}{spos:Pos}{elt tg iter:Expr}{ifs:List Expr}{scope:Scope}{pos:Pos}{N':List Str}{fr:List (Option Nat)}{cl:List (Str×Addr)}{wi:TI}{g:TG}{tc:TT}{te:TE}
  (hN:X.N.Nodup) (hy:X.N[i]? = some y) (hk:X.env.scope.names.lookup y=some .local)
  (hx:∀ e s,¬ X.xe e s) (hc:X.calm=true) (S:LcOk X scope cl N' fr) (hi:PI X tg iter wi)
  (hg:∀ fp s H,PG (uL X N' scope cl fp s H) tg g) (ht:∀ fp s H,LU (uL X N' scope cl fp s H) ifs tc) (he:∀ fp s H,PE (uL X N' scope cl fp s H) elt te)
  (hsw:swapsWith (.ListComp elt [⟨tg,iter,ifs,0⟩] scope pos) (some (.Name y py)) spos.line X.env=pure true:=by with_unfolding_all rfl)
  (hs:∀ x,foldedSetIterable iter X.env x=pure x:=by intro _;with_unfolding_all rfl):PS X (.Assign [.Name y py] (.ListComp elt [⟨tg,iter,ifs,0⟩] scope pos) spos) (iJ (tLC wi fr g tc te) (aW i)):=by
 intro pins s σ H D I h;have hloc:=S.locs;rw[abl] at hloc;rw[exec_Assign_Name_used _ _ _ _ hsw];refine aac (wpAny_standAt (aac ?_));show wpAny _ X.A (do let _ <- comprehension (.ListComp elt [⟨tg,iter,ifs,0⟩] scope pos) scope X.env _ (newList []) false (eval iter X.env) (some (assign (.Name y py) X.env))) _ _ s;refine aac (abo (wpAny_comprehension_free (use:=some (assign (.Name y py) X.env)) (Q:=λ _ s'=>SP X pins D .next s') rfl hs S.clos S.kind (λ x hx' hl=>by have:=hloc x hx';rw[hl] at this;simpa using this)
  (dF (hi pins s σ H _ I h) λ v s1 h1=>dF h1 λ itv s2 h2=>?_)) (λ _ s' hq=>aav (aav hq)) λ _ _ e=>e)
 obtain⟨it,fp,tn,J,H2,e,I2,T,st2,f2,rest⟩:=h2;subst e;refine vS (RR:=λ acc C=>compPost (model X.prog X.w) X.A X.xe (some (assign (.Name y py) X.env)) (λ _ s'=>SP X pins D .next s') acc C) hx hc S hg ht he I2 T st2 f2 rest ?_;intro Da C H' s' m' I' q hn f;show wpAny _ X.A (assign (.Name y py) X.env (.ref Da)) _ _ _;refine wpAny_assign_Name (qR I' hN hy (.inl hk) (v:=.ref Da) rfl (λ s'' I'' hch=>?_) (.inr hk));obtain⟨a,hsb,ha⟩:=hch;have haC:a≠C:=by
  rcases ha with e | e
  ·rw[e];exact Ne.symm f.2.1
  ·exact f.2.2.2.2.1 _ _ e
 exact⟨m',hn.sameBut hsb (Ne.symm haC),λ h' hs'=>⟨_,H',I''.letgo f hs',q⟩⟩
end
end L2
namespace TwZ
open PySem
open Sem (wp)
def iK (h:Heap) (t:Bool) (it a:Addr) (i:Nat):Prop:=if t=true then h.IsTupleIter it a i else h.IsListIter it a i
def iI (h:Heap) (t:Bool) (a:Addr) (items:Array Value):Prop:=if t=true then h.IsTuple a items else h.IsList a items
theorem iK.at {h h':Heap}{t:Bool}{it a:Addr}{i:Nat} (x:iK h t it a i) (k:∀ o,h.get? it=some o->h'.get? it=some o):iK h' t it a i:=by
 cases t <;> (obtain⟨o,ho,r⟩:=x;exact⟨o,k o ho,r⟩)
theorem ex {h h':Heap}{b c:Addr}{o:Obj} (hs:Heap.SameBut b h h') (hc:@Ne Nat c b) (e:h.get? c=some o):h'.get? c=some o:=hs.extBut _ _ hc e
theorem iK.ext {h h':Heap}{t:Bool}{it a b:Addr}{i:Nat} (x:iK h t it a i) (hs:Heap.SameBut b h h') (hab:@Ne Nat it b):iK h' t it a i:=x.at λ o e=>hs.extBut _ _ hab e
theorem iI.lt {h:Heap}{t:Bool}{a:Addr}{xs:Array Value} (x:iI h t a xs):a < h.objs.size:=by
 cases t <;> (obtain⟨o,ho,r⟩:=x;exact aal ho)
theorem iK.obj {h:Heap}{t:Bool}{it a:Addr}{i:Nat} (x:iK h t it a i):∃ o,h.get? it=some o/\∀ v,o.data≠.cell v:=by
 cases t <;> (obtain⟨o,ho,_,d⟩:=x;exact⟨o,ho,λ v z=>by rw[d] at z;cases z⟩)
section
variable {prog:Program}{M:Model}{A:Around}{E:Value->Shared->Prop}{s:Shared}
theorem uN {a:Addr}{Q:Option Obj->Shared->Prop} (h:Q (s.heap.get? a) s):wpAny M A (loadIfAlive a) Q E s:=λ Γ p _=>by
 unfold loadIfAlive;rw[Sem.wp_loadIfAlive];exact h
theorem mE {it l:Addr}{i:Nat}{items}{x:Value}{Q:Value->Shared->Prop} (hit:s.heap.IsTupleIter it l i)
  (hl:s.heap.IsTuple l items) (hx:items[i]? = some x)
  (hQ:∀ h',h'.IsTupleIter it l (i+1)->Heap.SameBut it s.heap h'->Q x { s with heap:=h' }) :
  wpAny (model prog w) A (Builtin.SmallTypes.nextOf (.ref it)) Q E s:=by
 obtain⟨o,ho,hc,hd⟩:=id hit;obtain⟨ol,hol,_,nl,hdl⟩:=hl;unfold Builtin.SmallTypes.nextOf;refine aac (wpAny_callSpecial?_slot (name:=Str.ofString "__next__") hit.typeIs F.slot_tuple_iterator_next
  (wpAny_call_entry F.slot_tuple_iterator_next hit.typeIs F.entry_tuple_iterator_next ?_ (F.args_tuple_iterator_next_1 _)))
 show wpAny _ _ (field (.ref it) 0 >>= _) _ _ s;refine aac (abz ho hd (x:=.ref l) rfl ?_);show wpAny _ _ (if (Value.ref l == Value.none)=true then _ else _) _ _ s;rw[if_neg (show ¬ ((Value.ref l == Value.none)=true) from aak)];show wpAny _ _ (field (.ref it) 1 >>= _) _ _ s;refine aac (abz ho hd (x:=.int i 0) rfl ?_);show wpAny _ _ (seqItems? (.ref l) >>= _) _ _ s;refine aac (wpAny_seqItems hol hdl ?_);simp only [Int.toNat_natCast,hx];refine aac (wpAny_setField ho hd (by simp) (aav ⟨x,rfl,aav (hQ _ ?_ (Heap.SameBut.update ..))⟩));exact⟨_,Heap.get?_update_self _ ho (Obj.isFreed_of_fields (Obj.data_mapFields hd _)),(Obj.cls_mapFields ..).trans hc,by
  rw[Obj.data_mapFields hd];simp [rawInt]⟩
theorem nB {it l:Addr}{i:Nat}{items}{Q:Value->Shared->Prop} (hh:A.handled=none)
  (hit:s.heap.IsTupleIter it l i) (hl:s.heap.IsTuple l items) (hx:items[i]? = none)
  (hE:∀ h' e,Heap.ExtBut it s.heap h'->(∃ o,h'.get? e=some o/\o.cls=.type "StopIteration")->E (.ref e) { s with heap:=h' }) :
  wpAny (model prog w) A (Builtin.SmallTypes.nextOf (.ref it)) Q E s:=by
 obtain⟨o,ho,hc,hd⟩:=id hit;obtain⟨ol,hol,_,nl,hdl⟩:=hl;unfold Builtin.SmallTypes.nextOf;refine aac (wpAny_callSpecial?_slot (name:=Str.ofString "__next__") hit.typeIs F.slot_tuple_iterator_next
  (wpAny_call_entry F.slot_tuple_iterator_next hit.typeIs F.entry_tuple_iterator_next ?_ (F.args_tuple_iterator_next_1 _)))
 show wpAny _ _ (field (.ref it) 0 >>= _) _ _ s;refine aac (abz ho hd (x:=.ref l) rfl ?_);show wpAny _ _ (if (Value.ref l == Value.none)=true then _ else _) _ _ s;rw[if_neg (show ¬ ((Value.ref l == Value.none)=true) from aak)];show wpAny _ _ (field (.ref it) 1 >>= _) _ _ s;refine aac (abz ho hd (x:=.int i 0) rfl ?_);show wpAny _ _ (seqItems? (.ref l) >>= _) _ _ s;refine aac (wpAny_seqItems hol hdl ?_);simp only [Int.toNat_natCast,hx];refine aac (wpAny_rule (aac (wpAny_setField ho hd (by simp) ?_)));show wpAny _ _ (newExc (.type "StopIteration") [] >>= _) _ _ _;refine aac ?_;simp only [newExc,newTuple];refine aac (wpAny_newObj_type ?_ (by size_fits));refine aac (m:=firstArgMember _ _) (wpAny_of_eq (a:=Value.none) (by first | rfl | (simp only [firstArgMember];rfl)) ?_);refine wpAny_newObj_type ?_ (by size_fits);simp only [raiseNew];refine aac (wpAny_handled ?_)
 first | rw[show A.in1.handled=none from hh] | rw[hh]
 refine aac (aav (wpAny_throw ?_));exact hE _ _ (((Heap.SameBut.update ..).extBut.push _).push _) ⟨_,aas _ rfl,rfl⟩
theorem vG {t:Bool}{it l:Addr}{i:Nat}{items}{x:Value}{Q:Value->Shared->Prop} (hit:iK s.heap t it l i)
  (hl:iI s.heap t l items) (hx:items[i]? = some x)
  (hQ:∀ h',iK h' t it l (i+1)->Heap.SameBut it s.heap h'->Q x { s with heap:=h' }) :
  wpAny (model prog w) A (Builtin.SmallTypes.nextOf (.ref it)) Q E s:=by
 cases t with
 | true=>exact mE hit hl hx hQ
 | false=>exact wpAny_nextOf_list_item hit hl hx hQ
theorem xB {t:Bool}{it l:Addr}{i:Nat}{items}{Q:Value->Shared->Prop} (hh:A.handled=none)
  (hit:iK s.heap t it l i) (hl:iI s.heap t l items) (hx:items[i]? = none)
  (hE:∀ h' e,Heap.ExtBut it s.heap h'->(∃ o,h'.get? e=some o/\o.cls=.type "StopIteration")->E (.ref e) { s with heap:=h' }) :
  wpAny (model prog w) A (Builtin.SmallTypes.nextOf (.ref it)) Q E s:=by
 cases t with
 | true=>exact nB hh hit hl hx hE
 | false=>exact wpAny_nextOf_list_end hh hit hl hx hE
abbrev JT (h:Heap) (T:Addr) (vs:Array Value):Prop:=h.get? T=some { cls:=.type "tuple",data:=.seq vs }
def rO (f0:Value):Prop:=f0=.none\/∃ a:Int,f0=.int a 0
def CN (t:Bool) (a:Addr):Obj:={ cls:=.type (if t=true then "tuple_iterator" else "list_iterator"),data:=.fields #[.ref a,.int 0 0] }
theorem kZ {t:Bool}{a:Addr}{items:Array Value}{Q:Value->Shared->Prop} (hs:iI s.heap t a items) (hQ:Q (.ref s.heap.objs.size) { s with heap:=s.heap.push (CN t a) }) :
  wpAny (model prog w) A (pyIter (.ref a)) Q E s:=by
 cases t with
 | true=>exact wpAny_pyIter_tuple hs hQ
 | false=>exact wpAny_pyIter_list hs hQ
theorem CM {h:Heap}{t:Bool}{a it:Addr} (e:h.get? it=some (CN t a)):iK h t it a 0:=by
 cases t <;> exact⟨_,e,rfl,rfl⟩
abbrev zA (h:Heap) (t:Bool) (a:Addr):Heap:=h.push (CN t a)
end
end TwZ
namespace TwZ
open PySem
open Sem (wp)
open AutoSeq1 (wpAny_loadPart')
section
variable {prog:Program}{M:Model}{A:Around}{E:Value->Shared->Prop}{s:Shared}
abbrev gO (h:Heap) (e it:Addr) (f0:Value) (f1:Bool) (i:Int) (old:Value):Prop:=
 h.get? e=some { cls:=.type "enumerate",dict:=none,data:=.fields #[f0,.bool f1,.ref it,rawInt i,.none,old],slots:=#[] }
theorem vC {e it:Addr}{f0:Value}{f1:Bool}{i:Int}{old:Value}{Q:Bool->Shared->Prop} (hz:gO s.heap e it f0 f1 i old) (hf:rO f0) (yes:Q true s)
  (no:∀ h',gO h' e it f0 true i old->Heap.SameBut e s.heap h'->Q false { s with heap:=h' }):wpAny (model prog w) A (Builtin.SmallTypes.ownedTupleIsFree (.ref e)) Q E s:=by
 unfold Builtin.SmallTypes.ownedTupleIsFree;refine aac (abz hz rfl (x:=f0) rfl ?_);rcases hf with rfl | ⟨a,rfl⟩
 ·exact aav yes
 ·refine aac (uN ?_);cases h:s.heap.get? a.toNat with
  | none=>exact aav yes
  | some o=>
   show wpAny _ _ (field (.ref e) 1 >>= _) _ _ _;refine aac (abz hz rfl (x:=.bool f1) rfl ?_);cases f1 with
   | true=>exact aav (no s.heap hz (Heap.SameBut.refl ..))
   | false=>
    show wpAny _ _ (setField (.ref e) 1 (.bool true) >>= _) _ _ _;refine aac (wpAny_setField_rec hz (by simp) λ ag ba ak=>aav (no ag ba ak))
theorem CZ {e it:Addr}{f0:Value}{f1:Bool}{i:Int}{old:Value}{T:Addr}{Q:Unit->Shared->Prop} (hz:gO s.heap e it f0 f1 i old)
  (h:∀ h',gO h' e it (rawInt T) false i old->Heap.SameBut e s.heap h'->Q () { s with heap:=h' }):wpAny (model prog w) A (Builtin.SmallTypes.ownedTupleHandOut (.ref e) (.ref T)) Q E s:=by
 unfold Builtin.SmallTypes.ownedTupleHandOut;refine aac (wpAny_setField_rec hz (by simp) λ ag ba ak=>?_);replace ba:gO ag e it (rawInt T) f1 i old:=ba;refine wpAny_setField_rec ba (by simp) λ aq hz₂ ar=>?_;exact h aq hz₂ (Heap.SameBut.trans ak ar)
theorem A7 {n a:Nat}{t:Bool}{k:Nat}{xs:Array Value}{x old f0:Value}{f1:Bool}{Q:Value->Shared->Prop} (hf:rO f0)
  (he:gO s.heap (n+1) n f0 f1 k old) (i1:iK s.heap t n a k) (s1:iI s.heap t a xs) (l1:a < n) (hx:xs[k]? = some x)
  (hQ:∀ (T:Nat) h' f0' f1' old',s.heap.objs.size<=T->rO f0'->gO h' (n+1) n f0' f1' ((k:Int)+1) old'->iK h' t n a (k+1)->JT h' T #[.int k s.toks,x]->
   (∀ (c:Nat) o,(c < n\/n+1 < c)->s.heap.get? c=some o->h'.get? c=some o)->Q (.ref T) { s with heap:=h',toks:=s.toks+1 }) :
  wpAny (model prog w) A (Builtin.«enumerate.__next__» ⟨[.ref (n+1)],[]⟩) (λ fin s'=>∃ v,fin=.done (.ret v)/\Q v s') E s:=by
 obtain⟨hp,g,d,tk,os⟩:=s;have helt:n+1 < hp.objs.size:=aal he;show wpAny _ _ (field (.ref (n+1)) 2 >>= _) _ _ _;refine aac (abz he rfl (x:=.ref n) rfl ?_);refine aac (vG i1 s1 hx λ ag i1₁ ak=>?_);replace ak:Heap.SameBut n hp ag:=ak;have bu:gO ag (n+1) n f0 f1 k old:=ex ak (by omega) he;show wpAny _ _ (field (.ref (n+1)) 3 >>= _) _ _ ⟨ag,g,d,tk,os⟩;refine aac (abz bu rfl (x:=rawInt k) rfl ?_);show wpAny _ _ (field (.ref (n+1)) 4 >>= _) _ _ ⟨ag,g,d,tk,os⟩;refine aac (abz bu rfl (x:=.none) rfl ?_);show wpAny _ _ (mkInt k >>= _) _ _ ⟨ag,g,d,tk,os⟩;refine aac (wpAny_mkInt ?_);show wpAny _ _ (setField (.ref (n+1)) 3 (rawInt ((k:Int)+1)) >>= _) _ _ ⟨ag,g,d,tk+1,os⟩;refine aac (wpAny_setField_rec bu (by simp) λ aq bv ar=>?_);replace ar:Heap.SameBut (n+1) ag aq:=ar;replace bv:gO aq (n+1) n f0 f1 ((k:Int)+1) old:=bv;show wpAny _ _ (setField (.ref (n+1)) 4 .none >>= _) _ _ ⟨aq,g,d,tk+1,os⟩;refine aac (wpAny_setField_rec bv (by simp) λ ah bw bb=>?_);replace bb:Heap.SameBut (n+1) aq ah:=bb;replace bw:gO ah (n+1) n f0 f1 ((k:Int)+1) old:=bw;show wpAny _ _ (newTuple [.int k tk,x] >>= _) _ _ ⟨ah,g,d,tk+1,os⟩;refine aac (wpAny_newTuple ?_);have bi:gO (ah.push { cls:=.type "tuple",data:=.seq #[.int k tk,x] }) (n+1) n f0 f1 ((k:Int)+1) old:=aah _ bw;have hsz:ah.objs.size=hp.objs.size:=by rw[bb.1,ar.1,ak.1]
 have bx:JT (ah.push { cls:=.type "tuple",data:=.seq #[.int k tk,x] }) ah.objs.size #[.int k tk,x]:=aas _ rfl;have cj:∀ (c:Nat) o,(c < n\/n+1 < c)->hp.get? c=some o->(ah.push { cls:=.type "tuple",data:=.seq #[.int k tk,x] }).get? c=some o:=λ c o hc e=>
  aah _ (ex bb (by omega) (ex ar (by omega) (ex ak (by omega) e)))
 have bz:iK (ah.push { cls:=.type "tuple",data:=.seq #[.int k tk,x] }) t n a (k+1):=((i1₁.ext ar (by omega)).ext bb (by omega)).at λ o e=>aah _ e;have hlt₃:n+1 < ah.objs.size:=by rw[hsz];exact helt
 generalize hh₄:ah.push { cls:=.type "tuple",data:=.seq #[.int k tk,x] }=bf at bi bx cj bz;have hTle:hp.objs.size<=ah.objs.size:=Nat.le_of_eq hsz.symm;show wpAny _ _ (Builtin.SmallTypes.ownedTupleIsFree (.ref (n+1)) >>= _) _ _ ⟨bf,g,d,tk+1,os⟩;refine aac (vC bi hf ?_ ?_)
 ·simp only [if_true];refine aac (wpAny_rule ?_);refine aac (abz bi rfl (x:=old) rfl ?_);refine aac (wpAny_setField_rec bi (by simp) λ ao bc ap=>?_);replace ap:Heap.SameBut (n+1) bf ao:=ap;replace bc:gO ao (n+1) n f0 f1 ((k:Int)+1) x:=bc;refine aac (CZ (s:=⟨ao,g,d,tk+1,os⟩) bc λ bo he₆ be=>?_);replace be:Heap.SameBut (n+1) ao bo:=be;refine aac (wpAny_letGo (aav ⟨_,rfl,?_⟩));exact hQ ah.objs.size bo _ _ _ hTle (.inr ⟨_,rfl⟩) he₆ ((bz.ext ap (by omega)).ext be (by omega)) (ex be (by omega) (ex ap (by omega) bx)) λ c o hc e=>ex be (by omega) (ex ap (by omega) (cj c o hc e))
 ·intro ao bc ap;replace ap:Heap.SameBut (n+1) bf ao:=ap;simp only [Bool.false_eq_true,if_false];refine aav ⟨_,rfl,?_⟩;exact hQ ah.objs.size ao _ _ _ hTle hf bc (bz.ext ap (by omega)) (ex ap (by omega) bx) λ c o hc e=>ex ap (by omega) (cj c o hc e)
theorem DA {n a:Nat}{t:Bool}{k:Nat}{xs:Array Value}{old f0:Value}{f1:Bool}{Q:Fin->Shared->Prop} (hh:A.handled=none)
  (he:gO s.heap (n+1) n f0 f1 k old) (i1:iK s.heap t n a k) (s1:iI s.heap t a xs) (hx:xs[k]? = none)
  (hE:∀ h' e,(∀ (c:Nat) o,(c < n\/n+1 < c)->s.heap.get? c=some o->h'.get? c=some o)->(∃ o,h'.get? e=some o/\o.cls=.type "StopIteration")->E (.ref e) { s with heap:=h' }) :
  wpAny (model prog w) A (Builtin.«enumerate.__next__» ⟨[.ref (n+1)],[]⟩) Q E s:=by
 show wpAny _ _ (field (.ref (n+1)) 2 >>= _) _ _ _;refine aac (abz he rfl (x:=.ref n) rfl ?_);refine aac (xB hh i1 s1 hx λ h' e hk he'=>hE h' e (λ c o hc q=>hk c o (show @Ne Nat c n by omega) q) he')
theorem nS {e it:Addr}{f0:Value}{f1:Bool}{i:Int}{old:Value}{Q:Option Value->Shared->Prop} (he:gO s.heap e it f0 f1 i old)
  (h:wpAny (model prog w) A.in1 (Builtin.«enumerate.__next__» ⟨[.ref e],[]⟩) (λ fin s'=>∃ v,fin=.done (.ret v)/\Q (some v) s') (λ e s'=>(∃ a o,e=.ref a/\s'.heap.get? a=some o/\o.cls=.type "StopIteration")/\Q none s') s) :
  wpAny (model prog w) A (pyNext (.ref e)) Q E s:=by
 have hT:s.TypeIs (.ref e) "enumerate" := ⟨_,he,rfl⟩;unfold pyNext;refine aac (wpAny_attempt (wpAny_callSpecial?_slot (name:=Str.ofString "__next__") hT F.slot_enumerate_next
  (wpAny_call_entry F.slot_enumerate_next hT F.entry_enumerate_next (abo h (λ fin s' h'=>?_) λ e s' h'=>?_) (F.args_enumerate_next_1 _))))
 ·obtain⟨v,rfl,q⟩:=h';exact⟨v,rfl,aav q⟩
 ·obtain⟨⟨a,o,rfl,ho,hc⟩,q⟩:=h';exact aac (wpAny_isInstance (T := "StopIteration") (b:=true) ⟨o,ho,hc⟩ isSubtype_stop (aav q))
theorem xJ {tg:Expr}{e it T:Addr}{f0:Value}{f1:Bool}{i:Int}{old:Value}{Q:Unit->Shared->Prop} (hf:rO f0) (hz:gO s.heap e it f0 f1 i old)
  (hQ:∀ h' f0',rO f0'->gO h' e it f0' f1 i old->Heap.SameBut e s.heap h'->Q () { s with heap:=h' }):wpAny (model prog w) A (letOwnedTupleGo tg (.ref e) (.ref T)) Q E s:=by
 have same:Q () s:=hQ s.heap f0 hf hz (Heap.SameBut.refl ..);have core:wpAny (model prog w) A (do
   let o <- load e
   match o.cls,o.data with
   | .type n,.fields vs=>
    if ["enumerate","zip","dict_itemiterator","dict_reverseitemiterator","odict_iterator","itertools.zip_longest","itertools.pairwise"].contains n && vs[0]? == some (rawInt T) then
     rule "for.unpacks-the-owned-tuple"
     updateField e 0 .none
   | _,_=>pure ()) Q E s:=by
  refine aac (wpAny_load hz ?_);show wpAny _ _ (if (["enumerate","zip","dict_itemiterator","dict_reverseitemiterator","odict_iterator","itertools.zip_longest","itertools.pairwise"].contains "enumerate" &&
   (#[f0,.bool f1,.ref it,rawInt i,.none,old]:Array Value)[0]? == some (rawInt T))=true then _ else _) Q E s
  split
  ·refine aac (wpAny_rule ?_);show wpAny _ _ (setField (.ref e) 0 .none) Q E s;exact wpAny_setField_rec hz (by simp) λ h' hz' hs'=>hQ h' .none (.inl rfl) hz' hs'
  ·exact aav same
 unfold letOwnedTupleGo;cases tg <;> first
  | exact aav same
  | exact core
theorem nU {e it:Addr}{f0:Value}{f1:Bool}{i:Int}{old:Value}{Q:Value->Shared->Prop} (he:gO s.heap e it f0 f1 i old) (h:Q (.ref e) s):wpAny (model prog w) A (pyIter (.ref e)) Q E s:=by
 have hT:s.TypeIs (.ref e) "enumerate" := ⟨_,he,rfl⟩;refine wpAny_pyIter_slot hT F.slot_enumerate_iter (wpAny_call_entry F.slot_enumerate_iter hT F.entry_enumerate_iter ?_ (F.args_enumerate_iter_1 _));show wpAny _ _ (ret (.ref e)) _ _ s;exact aav ⟨_,rfl,"enumerate",_,hT,F.slot_enumerate_next.lookup,h⟩
theorem xF (t:Bool) (l:Addr) (xs:Array Value) :
  Meets (Builtin.«enumerate.__new__» ⟨[.type "enumerate",.ref l],[]⟩) (λ _ R s=>iI s.heap t l xs/\
   R (.ok (.ret (.ref (zA s.heap t l).objs.size))) { s with heap:=(zA s.heap t l).push { cls:=.type "enumerate",data:=.fields #[.none,.bool false,.ref s.heap.objs.size,rawInt 0,.none,.none] } }):=
 .of_wp λ prog w A R s h=>by
  obtain⟨hp,g,d,tk,os⟩:=s;obtain⟨hl,h⟩:=h;have hsub:=sub_enumerate;have hL:iI (Shared.heap ⟨hp,g,d,tk,os⟩) t l xs:=hl
  wp_walk
  refine wpAny_stack_any λ st=>aav ?_
  split
  ·rename_i c _ _ _ _ _
   cases (c == Value.type "enumerate")
   ·wp_walk using kZ hL
    exact⟨_,rfl,h⟩
   ·wp_walk using kZ hL
    exact⟨_,rfl,h⟩
  ·wp_walk using kZ hL
   exact⟨_,rfl,h⟩
theorem AF {t:Bool}{l:Addr}{xs:Array Value}{Q:Value->Shared->Prop} (hL:iI s.heap t l xs)
  (h:∀ h',gO h' (s.heap.objs.size+1) s.heap.objs.size .none false 0 .none->iK h' t s.heap.objs.size l 0->(∀ b o,s.heap.get? b=some o->h'.get? b=some o)->Q (.ref (s.heap.objs.size+1)) { s with heap:=h' }) :
  wpAny (model prog w) A (call (.type "enumerate") [.ref l]) Q E s:=by
 refine callType_new F.called_enumerate (by decide) (F.typeCall_enumerate_1 _) (F.newCall_enumerate_1 _) (λ obj=>F.args_object_init_2 obj _) F.entry_enumerate_new (xF t l xs) ⟨hL,?_⟩;have hz:(zA s.heap t l).objs.size=s.heap.objs.size+1:=Heap.size_push ..;show _/\_;rw[hz];have he:gO ((zA s.heap t l).push { cls:=.type "enumerate",data:=.fields #[.none,.bool false,.ref s.heap.objs.size,rawInt 0,.none,.none] }) (s.heap.objs.size+1) s.heap.objs.size .none false 0 .none:=by
  have:=aas (zA s.heap t l) (o:={ cls:=.type "enumerate",data:=.fields #[.none,.bool false,.ref s.heap.objs.size,rawInt 0,.none,.none] }) rfl;rw[hz] at this;exact this
 exact⟨⟨_,he,rfl⟩,h _ he (CM (aah _ (aas _ rfl))) λ b o x=>aah _ (aah _ x)⟩
end
end TwZ
namespace L2
open PySem PySem.Spec PyProof.Rows TwZ
def G0 (K:aaa) (H:Hp) (t:Bool) (a:Addr) (xs:List V):Prop:=if t=true then bU K H a xs else bO K H a xs
section
variable {X:Cx}{pins:List (Addr×Obj)}{σ:St}{H:Hp}{s:Shared}
theorem Inv.src {t:Bool}{a:Addr}{xs:List V} (I:Inv X pins σ H s) (h:G0 X.K H t a xs):∃ its:List Value,bA xs its/\iI s.heap t a its.toArray/\xs.length<=sizeLine:=by
 cases t with
 | true=>
  obtain⟨its,r,p,z⟩:=I.tuple h;exact⟨its,r,(show s.heap.IsTuple a its.toArray from p),z⟩
 | false=>
  obtain⟨its,r,p,z⟩:=I.list h;exact⟨its,r,p.isList,z⟩
theorem Inv.src_inj {t:Bool}{a:Addr}{xs ys:List V} (I:Inv X pins σ H s) (h:G0 X.K H t a xs) (h':G0 X.K H t a ys):xs=ys:=by
 cases t with
 | true=>exact I.tuple_inj h h'
 | false=>exact I.list_inj h h'
theorem Inv.turnedT {fp:List Addr}{h':Heap}{t':Nat}{T:Addr}{xs:List V}{its:List Value} (I:Inv X pins σ H s) (hf:∀ b∈fp,lG X pins H b) (k:∀ b o,b∉fp->s.heap.get? b=some o->h'.get? b=some o)
  (hT:s.heap.objs.size<=T) (hv:bA xs its) (hz:xs.length<=sizeLine) (ht:IsTup h' T its.toArray):Inv X pins σ (upd H T (.tup xs)) { s with heap:=h',toks:=t' }:=by
 have hn:H T=none:=I.hok.fresh hT;have nT:∀ b u,H b=some u->b≠T:=λ b u e=>aL e hn;have nfp:∀ b u,H b=some u->b∉fp:=λ b u e hb=>by rw[(hf b hb).1] at e;cases e
 have nTh:∀ b o,s.heap.get? b=some o->b≠T:=λ b o e z=>by rw[z] at e;exact absurd (aan (aal e) hT) (abx _)
 refine I.step (g':=s.gens) (d':=s.drawn) (ch:=fp) (λ b hb=>?_) (λ b o _ _ hc e _=>k b o hc e) (λ b o _ _ hc e _=>⟨o.slots,k b o hc e⟩) (λ b o hc e n=>by rw[aN (nTh b o e)];exact n)
  (λ b o hc e=>⟨o,k b o hc e⟩) (λ b ys e=>by rw[aN (nT b _ e)];exact e) (λ b o u e=>by rw[aN (nT b _ e)];exact e) (λ b ps e=>⟨#[],by rw[aN (nT b _ e),e];simp⟩) (λ m hm=>?_) (λ b u e=>?_) I.bare
 ·obtain⟨_,f1,_,f3,f4,f5⟩:=hf b hb;exact⟨f3,f1,f4,f5⟩
 ·obtain⟨o,es,ep,ho,r⟩:=hm;exact⟨o,es,ep,k _ o (λ hb=>(hf _ hb).2.1 rfl) ho,r⟩
 ·by_cases hb:b=T
  ·subst hb;rw[aD] at e;cases e;exact⟨hz,its,hv,ht⟩
  ·rw[aN hb] at e;refine (I.hok b u e).stay (λ c v hc q=>k c v ?_ q) (λ c q=>by rw[aN (nT c _ q)];exact q) λ c ys q=>by rw[aN (nT c _ q)];exact q
   rcases hc with z | z
   ·rw[z];exact nfp b u e
   ·exact nfp c _ z
theorem Inv.turnedL {fp:List Addr}{h':Heap}{t':Nat} (I:Inv X pins σ H s) (hf:∀ b∈fp,lG X pins H b) (k:∀ b o,b∉fp->s.heap.get? b=some o->h'.get? b=some o):Inv X pins σ H { s with heap:=h',toks:=t' }:=by
 have nfp:∀ b u,H b=some u->b∉fp:=λ b u e hb=>by rw[(hf b hb).1] at e;cases e
 refine I.step (g':=s.gens) (d':=s.drawn) (ch:=fp) (λ b hb=>?_) (λ b o _ _ hc e _=>k b o hc e) (λ b o _ _ hc e _=>⟨o.slots,k b o hc e⟩) (λ b o hc e n=>n)
  (λ b o hc e=>⟨o,k b o hc e⟩) (λ b ys e=>e) (λ b o u e=>e) (λ b ps e=>⟨#[],by rw[e];simp⟩) (λ m hm=>?_) (λ b u e=>?_) I.bare
 ·obtain⟨_,f1,_,f3,f4,f5⟩:=hf b hb;exact⟨f3,f1,f4,f5⟩
 ·obtain⟨o,es,ep,ho,r⟩:=hm;exact⟨o,es,ep,k _ o (λ hb=>(hf _ hb).2.1 rfl) ho,r⟩
 ·refine (I.hok b u e).stay (λ c v hc q=>k c v ?_ q) (λ c q=>q) λ c ys q=>q;rcases hc with z | z
  ·rw[z];exact nfp b u e
  ·exact nfp c _ z
end
def JG (n:Nat) (m:Nat):List Addr:=(List.range m).map λ k=>(n+k:Nat)
theorem jS {n m:Nat}{b:Addr}:b∈JG n m↔∃ k,k < m/\b=n+k:=by
 unfold JG;rw[aay];constructor
 ·rintro⟨k,hk,e⟩;exact⟨k,aco.mp hk,e.symm⟩
 ·rintro⟨k,hk,e⟩;exact⟨k,aco.mpr hk,e.symm⟩
theorem tH {n m:Nat}{b:Nat} (h:(b:Addr)∉JG n m) (hm:0 < m):b < n\/n+(m - 1) < b:=by
 by_cases h1:b < n
 ·exact .inl h1
 ·by_cases h2:n+(m - 1) < b
  ·exact .inr h2
  ·exact absurd (jS.mpr ⟨b - n,by omega,by show (b:Nat)=n+(b - n);omega⟩) h
def Ite (K:aaa) (t:Bool) (a:Addr):It:=
 ⟨λ i H=>∃ xs x,G0 K H t a xs/\xs[i]? = some x,
  λ i H v H'=>∃ T x,H T=none/\v=.ref T/\(∀ xs,G0 K H t a xs->xs[i]? = some x)/\H'=upd H T (.tup [.int i,x]),
  λ i H=>∃ xs,G0 K H t a xs/\xs.length<=i⟩
def tne (n a:Nat) (t:Bool) (i:Nat) (h:Heap):Prop:=∃ f0 f1 old,rO f0/\gO h (n+1) n f0 f1 i old/\iK h t n a i/\a < n
theorem zF {P:Program}{w:World}{K:aaa}{tg:Expr} (n a:Nat) (t:Bool):Turn P w K tg (Ite K t a) (JG n 2) (n+1) (tne n a t) where
 mem:=jS.mpr ⟨1,by decide,rfl⟩
 obj:=λ i h st b hb=>by
  obtain⟨f0,f1,old,hf,he,i1,_⟩:=st;obtain⟨k,hk,rfl⟩:=jS.mp hb;have hk':k=0\/k=1:=by omega
  rcases hk' with rfl | rfl
  ·exact i1.obj
  ·exact⟨_,he,λ v z=>by cases z⟩
 keep:=λ i h h' st k=>by
  obtain⟨f0,f1,old,hf,he,i1,l⟩:=st;have m:∀ j,j < 2->((n+j:Nat):Addr)∈JG n 2:=λ j hj=>jS.mpr ⟨j,hj,rfl⟩;exact⟨f0,f1,old,hf,k _ (m 1 (by decide)) _ he,i1.at λ o e=>k _ (m 0 (by decide)) _ e,l⟩
 item:=by
  intro X hP hw hK hc i pins s σ H E I hf st hg;subst hP hw hK;obtain⟨f0,f1,old,f,he,i1,l1⟩:=st;obtain⟨xs,x,q1,hx⟩:=hg;obtain⟨us,r1,p1,_⟩:=I.src q1;obtain⟨u,hu,ru⟩:=r1.get hx;refine nS he (A7 f he i1 p1 l1 (by simpa using hu) λ T h' f0' f1' old' hT f' he' i1' hTp hk=>?_);refine⟨_,rfl,xJ (s:={ s with heap:=h',toks:=s.toks+1 }) f' he' λ h'' f0'' f'' he'' hs=>?_⟩;replace hs:Heap.SameBut (n+1) h' h'':=hs;have hTn:n+1 < T:=aan (aal he) hT;have hTp':JT h'' T #[.int i s.toks,u]:=ex hs (by omega) hTp;have IT:Inv X pins σ (upd H T (.tup [.int i,x])) { s with heap:=h'',toks:=s.toks+1 }:=I.turnedT (fp:=JG n 2) hf (λ b o hb e=>ex (c:=b) hs (by have:=tH (b:=b) hb (by decide);have:n+(2 - 1)=n+1:=rfl;omega) (hk b o (tH (b:=b) hb (by decide)) e)) hT (its:=[.int i s.toks,u]) (.cons ⟨_,rfl⟩ (.cons ru .nil)) (by show 2<=sizeLine;decide) ⟨_,hTp',rfl,_,rfl⟩;have he2:gO h'' (n+1) n f0'' f1' ((i+1:Nat):Int) old':=by
   have:((i+1:Nat):Int)=(i:Int)+1:=by push_cast;rfl
   rw[this];exact he''
  refine⟨.ref T,upd H T (.tup [.int i,x]),IT,rfl,⟨T,x,I.hok.fresh hT,rfl,λ as q=>by rw[I.src_inj q q1];exact hx,rfl⟩,⟨f0'',f1',old',f'',he2,i1'.ext hs (by omega),l1⟩,λ b hb=>?_⟩
  ·obtain⟨j,hj,rfl⟩:=jS.mp hb;rw[aN (show ((n+j:Nat):Addr)≠T from (show @Ne Nat (n+j) T by omega))];exact (hf _ hb).1
 done:=by
  intro X hP hw hK hc i pins s σ H E I hf st hg;subst hP hw hK;obtain⟨f0,f1,old,f,he,i1,l1⟩:=st;obtain⟨xs,q1,hend⟩:=hg;obtain⟨us,r1,p1,_⟩:=I.src q1;have e1:=r1.length;refine nS he (DA (I.ok.hd hc) he i1 p1 (by simp;omega) λ h' e hk he=>?_);obtain⟨o,ho,hcl⟩:=he;exact⟨⟨e,o,rfl,ho,hcl⟩,rfl,I.turnedL (t':=s.toks) hf λ b o hb q=>hk b o (tH (b:=b) hb (by decide)) q⟩
 self:=λ _ _ _ _ _ st h=>by
  obtain⟨f0,f1,old,f,he,_⟩:=st;exact nU he h
section
variable {X:Cx}{tg:Expr}
theorem AH:bootBuiltins "enumerate" = some (.type "enumerate"):=by decide +kernel
def GM (K:aaa) (ta:TA):TI:=λ σ H R=>ta σ H λ vs H1=>∃ t a,vs=[.ref a]/\(∃ xs,G0 K H1 t a xs)/\R (Ite K t a) H1
theorem EJ {a:Expr}{ta:TA}{p pos:Pos} (hg:Gl X "enumerate") (hm:X.mg "enumerate" = none) (ha:PA X [a] ta) (hs:starEach [a] X.env=[(false,eval a X.env)]:=by with_unfolding_all rfl):PI X tg (.Call (.Name "enumerate" p) [a] [] pos) (GM X.K ta):=by
 intro pins s σ H R I h;refine Call_ (pS I hg hm AH (PyProof.Rows.callWith_type1 (dF (ha pos pins s σ H _ I h) λ us s1 ⟨vs,H1,I1,r1,q1⟩=>?_) hs rfl));obtain⟨t,a1,e,⟨xs,hq⟩,q⟩:=q1;subst e;cases r1 with
 | cons r rr=>
  cases rr;cases r;obtain⟨its,rv,p,hz⟩:=I1.src hq;refine AF p λ h' he i1 hk=>?_;refine nU (s:={ s1 with heap:=h' }) he ?_;refine⟨_,JG s1.heap.objs.size 2,tne s1.heap.objs.size a1 t,_,H1,rfl,I1.kept (t':=s1.toks) hk,zF _ _ _,⟨.none,false,.none,.inl rfl,he,i1,p.lt⟩,λ b hb=>?_,q⟩;obtain⟨k,_,rfl⟩:=jS.mp hb;exact I1.fpOk (Nat.le_add_right _ _) (I1.hok.fresh (Nat.le_add_right _ _))
end
section
variable {prog:Program}{A:Around}{E:Value->Shared->Prop}{s:Shared}{l:Addr}{xs:Array (Int×Tok)}
theorem FX {t:Bool}{vs:List Value}{bs:List Bool}{Q:Value->Shared->Prop} (hh:A.handled=none) (hl:iI s.heap t l vs.toArray) (hb:bA (bs.map V.bl) vs)
  (h:∀ h' tk,(∀ b o,s.heap.get? b=some o->h'.get? b=some o)->Q (.bool (bs.all id)) { s with heap:=h',toks:=tk }):wpAny (model prog w) A (call (.builtin "all") [.ref l]) Q E s:=by
 have hlt:l < s.heap.objs.size:=hl.lt;have hlen:=hb.length;rw[aab] at hlen;have key:∀ (P:Nat->Value->Prop),(∀ i v,P i v->vs[i]? = some v)->TruthOf prog w A.in1 P (λ i=>(bs[i]?).getD true):=λ P hP i v s' Q' E' hp hQ=>by
  have hv:=hP i v hp;have hi:i < vs.length:=(aai.mp hv).1;have hb':(bs.map V.bl)[i]? = some (V.bl bs[i]):=by simp [show i < bs.length by omega]
  obtain⟨u,hu,ru⟩:=hb.get hb';rw[hv] at hu;cases hu;cases ru;have e:(bs[i]?).getD true=bs[i]:=by simp [show i < bs.length by omega]
  have hQ2:Q' ((bs[i]?).getD true) s':=hQ;rw[e] at hQ2;exact wpAny_truthy_bool hQ2
 have rng:((List.range vs.toArray.size).all λ i=>(bs[i]?).getD true)=bs.all id:=by
  rw[aaf,<- hlen,Bool.eq_iff_iff,abl,abl];constructor
  ·intro hq b hb';obtain⟨i,hi,rfl⟩:=List.getElem_of_mem hb';have:=hq i (aco.mpr hi);simpa [hi] using this
  ·intro hq i hi;have hi':=aco.mp hi;have:=hq bs[i] (aci hi');simpa [hi'] using this
 have kept:∀ {h':Heap}{o:Obj},(∀ b x,b∉[s.heap.objs.size]->(s.heap.push o).get? b=some x->h'.get? b=some x)->∀ b x,s.heap.get? b=some x->h'.get? b=some x:=λ hk b x e=>
  hk b x (λ hm=>by rw[abt.mp hm] at e;exact abx _ (aal e)) (aah _ e)
 cases t with
 | true=>
  refine call_all_walk (wpAny_pyIter_tuple hl ?_);refine⟨s.heap.objs.size,[s.heap.objs.size,l],[s.heap.objs.size],vs.toArray.size,_,_,λ i=>(bs[i]?).getD true,rfl,Walks.tuple (A:=A.in1) hh _ l (abi hlt) vs.toArray,
   ⟨⟨_,aas _ rfl,rfl,rfl⟩,Heap.IsTuple.push hl _⟩,key _ (λ i v hp=>by simpa using hp),λ h' tk hk=>?_⟩
  rw[rng];exact h h' tk (kept hk)
 | false=>
  refine call_all_walk (wpAny_pyIter_list hl ?_);refine⟨s.heap.objs.size,[s.heap.objs.size,l],[s.heap.objs.size],vs.toArray.size,_,_,λ i=>(bs[i]?).getD true,rfl,Walks.list (A:=A.in1) hh _ l (abi hlt) vs.toArray,
   ⟨⟨_,aas _ rfl,rfl,rfl⟩,Heap.IsList.push hl _⟩,key _ (λ i v hp=>by simpa using hp),λ h' tk hk=>?_⟩
  rw[rng];exact h h' tk (kept hk)
end
section
variable {X:Cx}
def HV (K:aaa):List V->Hp->VK->Prop:=λ xs H Q=>∃ (t:Bool) (p:Addr) (bs:List Bool),xs=[.ref p]/\G0 K H t p (bs.map V.bl)/\Q (.bl (bs.all id)) H
theorem AG (hc:X.calm=true):eN X (.builtin "all") (HV X.K):=by
 intro pins s σ H xs us Q I r h;obtain⟨t,p,bs,rfl,hq,q⟩:=h;obtain⟨u,rfl,ru⟩:=r.one;cases ru;obtain⟨its,rv,p1,hz⟩:=I.src hq;refine FX (I.ok.hd hc) p1 rv λ h' tk hk=>⟨.bl (bs.all id),H,I.kept hk,rfl,q⟩
end
theorem gS:fillsNumberSlot (.type "tuple") "mul" = pure false:=
 PySem.fillsNumberSlot_seq (id := "tuple.__mul__") (r:=some (.builtin "tuple.__rmul__")) F.slot_tuple_mul.lookup (by decide +kernel) F.slot_tuple_rmul.lookup (by decide +kernel)
theorem m6:seqRepeat? (.type "tuple")=pure (some (.builtin "tuple.__mul__")):=by
 unfold seqRepeat?;rw[PySem.seqSlot_of (T := "tuple") (name := "__mul__") (id := "tuple.__mul__") F.slot_tuple_mul.lookup (by decide +kernel),PySem.seqSlot_of (T := "tuple") (name := "__rmul__") (id := "tuple.__rmul__") F.slot_tuple_rmul.lookup (by decide +kernel)];rfl
theorem jH (a:Int) (t:Tok) (l:Addr) (items:Array Value) (n:Nat) (dd:Option Addr) (sl:Array (Option Value)) :
  Meets (Builtin.«int.__rmul__» ⟨[.int a t,.ref l],[]⟩) (λ _ R s=>s.heap.get? l=some { cls:=.type "tuple",dict:=dd,data:=.seq items n,slots:=sl }/\R (.ok (.ret Value.notImplemented)) s):=
 .of_wp λ prog w A R s h=>by obtain⟨hp,g,d,tk,os⟩:=s;obtain⟨hl,h⟩:=h;wp_walk;exact⟨_,rfl,h⟩
theorem qA (l:Addr) (items:Array Value) (n:Nat) (u:Tok) (dd:Option Addr) (sl:Array (Option Value)) :
  Meets (Builtin.«tuple.__mul__» ⟨[.ref l,.int 1 u],[]⟩) (λ _ R s=>s.heap.get? l=some { cls:=.type "tuple",dict:=dd,data:=.seq items n,slots:=sl }/\R (.ok (.ret (.ref l))) s):=
 .of_wp λ prog w A R s h=>by
  obtain⟨hp,g,d,tk,os⟩:=s;obtain⟨hl,h⟩:=h;have c1:(items.isEmpty || (1:Int) == 1)=true:=by simp
  wp_walk
  exact⟨_,rfl,h⟩
theorem oS (l:Addr) (items:Array Value) (n:Nat) (x:Int) (u:Tok) (dd:Option Addr) (sl:Array (Option Value)) (c0:¬ (decide (x < -(2 ^ 63)) || decide (x ≥ 2 ^ 63))=true) (c1:¬ (items.isEmpty || x == 1)=true)
  (c2:¬ (decide (x<=0) || items.isEmpty)=true) (c3:¬ (items.size:Int) * x > (2 ^ 63 - 1) / 8) (c4:¬ Builtin.Tuple.tupleTooMany ((items.size:Int) * x)=true) (hsz:(List.foldl (λ x1 x2=>x1++x2) #[] (List.replicate x.toNat items)).size<=sizeLine) :
  Meets (Builtin.«tuple.__mul__» ⟨[.ref l,.int x u],[]⟩) (λ _ R s=>s.heap.get? l=some { cls:=.type "tuple",dict:=dd,data:=.seq items n,slots:=sl }/\
   R (.ok (.ret (.ref s.heap.objs.size))) { s with heap:=s.heap.push { cls:=.type "tuple",data:=.seq (List.foldl (λ x1 x2=>x1++x2) #[] (List.replicate x.toNat items)) } }):=
 .of_wp λ prog w A R s h=>by
  obtain⟨hp,g,d,tk,os⟩:=s;obtain⟨hl,h⟩:=h
  wp_walk
  rw[if_neg c0]
  wp_walk
  all_goals (try rw[if_neg c1])
  wp_walk
  all_goals (try rw[if_neg c2])
  wp_walk
  all_goals (try rw[if_neg c3])
  wp_walk
  all_goals (try rw[if_neg c4])
  wp_walk
  exact⟨_,rfl,h⟩
theorem aG.tup {K:aaa}{H H':Hp}{a:Addr}{xs:List V} (e:aG H H') (h:bU K H a xs):bU K H' a xs:=by
 rcases h with (h | ⟨o,h⟩) | h
 ·exact .inl (.inl (e _ _ h))
 ·exact .inl (.inr ⟨o,e _ _ h⟩)
 ·exact .inr h
theorem aG.new {H:Hp}{p:Addr}{o:HO} (h:H p=none):aG H (upd H p o):=λ b u e=>by rw[aN (aL e h)];exact e
section
variable {X:Cx}
def GG (K:aaa):R2:=λ x y H Q=>∃ (l:Addr) (k:Int) (xs:List V),x=.ref l/\y=.int k/\bU K H l xs/\1<=k/\k < 1000000/\xs≠[]/\xs.length<=10/\
 ∀ p H',aG H H'->bU K H' p (List.replicate k.toNat xs).flatten->Q (.ref p) H'
theorem yD:gG X (binaryOp .Mult) (GG X.K):=by
 intro pins s σ H x y v u Q I rx ry h;obtain⟨l,k,xs,rfl,rfl,hq,h1,h2,hne,hl10,q⟩:=h;cases rx;obtain⟨t,rfl⟩:=ry;obtain⟨its,r,ht,z⟩:=I.tuple hq;have hlen:=r.length;obtain⟨⟨cls,dd,data,sl⟩,e,hc,n,hd⟩:=id ht;simp only at hc hd;subst hc hd;refine wpAny_binaryOp_repeat_ref (T := "tuple") (U := "int") (by decide) ⟨_,e,rfl⟩ (λ s'=>typeIs_int s' k t) gS F.fills_int_mul F.slot_int_rmul m6 F.slot_int_index.lookup
  (call_meets F.slot_int_rmul (typeIs_int s k t) F.entry_int_rmul (F.args_int_rmul_2 _ _) (jH k t l its.toArray n dd sl) ⟨e,rfl,⟨_,e,rfl⟩,?_⟩)
 by_cases hk:k=1
 ·subst hk;refine call_meets F.slot_tuple_mul ⟨_,e,rfl⟩ F.entry_tuple_mul (F.args_tuple_mul_2 _ _) (qA l its.toArray n t dd sl) ⟨e,?_⟩;refine⟨.ref l,H,I,rfl,q l H (aG.refl H) ?_⟩;have e1:(List.replicate (1:Int).toNat xs).flatten=xs:=by simp
  rw[e1];exact hq
 ·have hne':its≠[]:=λ z=>by rw[z] at hlen;exact hne (List.eq_nil_of_length_eq_zero hlen)
  have f0:List.foldl (λ x1 x2=>x1++x2) #[] (List.replicate k.toNat its.toArray)=(List.replicate k.toNat its).flatten.toArray:=by
   have:=nI its k.toNat [];rw[List.nil_append] at this;exact this
  have hemp:its.toArray.isEmpty=false:=by cases its with
   | nil=>exact absurd rfl hne'
   | cons a r=>rfl
  have hszN:k.toNat * its.length<=sizeLine:=by
   have a1:its.length<=10:=by omega
   have a2:k.toNat<=1000000:=by omega
   have:=Nat.mul_le_mul a2 a1;rw[sizeLine_eq];omega
  have hprod:((its.toArray.size:Nat):Int) * k<=16777216:=by
   have a1:((its.toArray.size:Nat):Int)<=10:=by rw[aaf];omega
   have:=Int.mul_le_mul a1 (show k<=1000000 by omega) (by omega) (by omega);omega
  refine call_meets F.slot_tuple_mul ⟨_,e,rfl⟩ F.entry_tuple_mul (F.args_tuple_mul_2 _ _) (oS l its.toArray n k t dd sl (by simp;omega) (by rw[hemp];simp;exact hk) (by rw[hemp];simp;omega) (by omega) (by
    unfold Builtin.Tuple.tupleTooMany;rw[decide_eq_true_iff];rw[sizeLine_eq];omega) (by rw[f0,aaf,tR];exact hszN)) ⟨e,?_⟩
  have I1:=I.laid (a:=s.heap.objs.size) (o:=.tup (List.replicate k.toNat xs).flatten) (h':=s.heap.push { cls:=.type "tuple",data:=.seq (List.foldl (λ x1 x2=>x1++x2) #[] (List.replicate k.toNat its.toArray)) }) (t':=s.toks)
   (λ _ _ q=>aah _ q) (aag _) ⟨by rw[tR,hlen];exact hszN,(List.replicate k.toNat its).flatten,r.rep k.toNat,⟨_,aas _ rfl,rfl,0,by simp only [f0]⟩⟩
  exact⟨.ref _,_,I1,rfl,q _ _ (aG.new I.fresh) (bU.of aD)⟩
end
open MeetsSeq in
theorem wL (l b:Addr) (items items2:Array Value) (n n2:Nat) (dd dd2:Option Addr) (sl sl2:Array (Option Value)) (hsz:items.size=items2.size) :
  Meets (Builtin.«tuple.__ne__» ⟨[.ref l,.ref b],[]⟩)
   (λ A R s=>s.heap.get? l=some { cls:=.type "tuple",dict:=dd,data:=.seq items n,slots:=sl }/\s.heap.get? b=some { cls:=.type "tuple",dict:=dd2,data:=.seq items2 n2,slots:=sl2 }/\
    (∀ j (h1:j < items.size) (h2:j < items2.size),SeqAt.EqAt A.in1 s items[j] items2[j] true)/\
    R (.ok (.ret (.bool false))) s):=
 .of_wp λ prog w A R s h=>by
  obtain⟨hp,g,d,tk,os⟩:=s;obtain⟨hl,hb,he,h⟩:=h;have f2:=AutoSeq1.sub_tuple_tuple;have hZ:(items.toList.zip items2.toList).length=min items.size items2.size:=by simp
  wp_walk using AutoSeq1.wpAny_loadPart' hl,AutoSeq1.wpAny_loadPart' hb,wpAny_forIn_list _ (λ rest b s'=>b.1=none/\s'=⟨hp,g,d,tk,os⟩/\∃ i,rest=(items.toList.zip items2.toList).drop i) _
  case turn=>
   rintro⟨y,x⟩ rest b s' ⟨hb',rfl,i,hz⟩;have hlt:i < (items.toList.zip items2.toList).length:=by
    rcases Nat.lt_or_ge i (items.toList.zip items2.toList).length with h' | h'
    ·exact h'
    ·rw[List.drop_of_length_le h'] at hz;cases hz
   have hm:i < min items.size items2.size:=hZ ▸ hlt;have h1:i < items.size:=aan hm (Nat.min_le_left _ _);have h2:i < items2.size:=aan hm (Nat.min_le_right _ _);rw[List.drop_eq_getElem_cons hlt] at hz;injection hz with hyx hrest;have hy:y=items[i]:=by have:=congrArg Prod.fst hyx;simpa using this
   have hx:x=items2[i]:=by have:=congrArg Prod.snd hyx;simpa using this
   subst hy hx;refine aac (he i h1 h2 prog w _ _ ?_)
   wp_walk
   exact⟨rfl,rfl,i+1,hrest⟩
  case fin=>
   rintro⟨b1,b2⟩ s' ⟨hb',rfl,i,hz⟩;simp only at hb';subst hb'
   wp_walk
   exact⟨_,rfl,by simpa [Builtin.Tuple.tupleCompareSizes,hsz] using h⟩
  case h=>
   exact⟨rfl,rfl,0,rfl⟩
inductive D where
 | non | bl (b:Bool) | int (i:Int) | str (x:Str) | tup (ds:List D)
mutual
def Is (K:aaa) (H:Hp):D->V->Prop
 | .non,v=>v=.non
 | .bl b,v=>v=.bl b
 | .int i,v=>v=.int i
 | .str x,v=>v=.str x
 | .tup ds,v=>∃ a xs,v=.ref a/\bU K H a xs/\IsL K H ds xs
def IsL (K:aaa) (H:Hp):List D->List V->Prop
 | [],xs=>xs=[]
 | d::ds,xs=>∃ x r,xs=x::r/\Is K H d x/\IsL K H ds r
end
def cS (K:aaa) (H H':Hp):Prop:=∀ a xs,bU K H a xs->bU K H' a xs
theorem cS.refl {K:aaa} (H:Hp):cS K H H:=λ _ _ h=>h
theorem cS.trans {K:aaa}{H H1 H2:Hp} (a:cS K H H1) (b:cS K H1 H2):cS K H H2:=λ c xs h=>b c xs (a c xs h)
theorem aG.ts {K:aaa}{H H':Hp} (e:aG H H'):cS K H H':=λ _ _ h=>e.tup h
mutual
theorem Is.mono {K:aaa}{H H':Hp} (t:cS K H H'):∀ (d:D) (v:V),Is K H d v->Is K H' d v
 | .non,_,h=>h
 | .bl _,_,h=>h
 | .int _,_,h=>h
 | .str _,_,h=>h
 | .tup ds,v,h=>by
  rw[Is] at h ⊢;obtain⟨a,xs,e,q,l⟩:=h;exact⟨a,xs,e,t a xs q,IsL.mono t ds xs l⟩
theorem IsL.mono {K:aaa}{H H':Hp} (t:cS K H H'):∀ (ds:List D) (xs:List V),IsL K H ds xs->IsL K H' ds xs
 | [],xs,h=>h
 | d::ds,xs,h=>by
  rw[IsL] at h ⊢;obtain⟨x,r,e,hx,hr⟩:=h;exact⟨x,r,e,Is.mono t d x hx,IsL.mono t ds r hr⟩
end
theorem IsL.length {K:aaa}{H:Hp}:∀ {ds:List D}{xs:List V},IsL K H ds xs->xs.length=ds.length
 | [],xs,h=>by rw[IsL] at h;subst h;rfl
 | d::ds,xs,h=>by
  rw[IsL] at h;obtain⟨x,r,rfl,_,hr⟩:=h;rw[abb,abb,IsL.length hr]
theorem IsL.get {K:aaa}{H:Hp}:∀ {ds:List D}{xs:List V}{i:Nat}{d:D},IsL K H ds xs->ds[i]? = some d->∃ x,xs[i]? = some x/\Is K H d x
 | [],_,_,_,_,e=>by simp at e
 | d::ds,xs,0,d',h,e=>by
  rw[IsL] at h;obtain⟨x,r,rfl,hx,hr⟩:=h;simp at e;subst e;exact⟨x,rfl,hx⟩
 | d::ds,xs,i+1,d',h,e=>by
  rw[IsL] at h;obtain⟨x,r,rfl,hx,hr⟩:=h;obtain⟨y,h1,h2⟩:=IsL.get hr (i:=i) (by simpa using e);exact⟨y,by simpa using h1,h2⟩
theorem IsL.get' {K:aaa}{H:Hp}{ds:List D}{xs:List V}{i:Nat}{x:V} (h:IsL K H ds xs) (e:xs[i]? = some x):∃ d,ds[i]? = some d/\Is K H d x:=by
 have hl:=h.length;have hi:i < ds.length:=by rw[<- hl];exact (aai.mp e).1
 obtain⟨y,h1,h2⟩:=h.get (i:=i) (d:=ds[i]) (by simp [hi]);rw[e] at h1;cases h1;exact⟨ds[i],by simp [hi],h2⟩
theorem IsL.snoc {K:aaa}{H:Hp}{d:D}{x:V} (hd:Is K H d x):∀ {ds:List D}{xs:List V},IsL K H ds xs->IsL K H (ds++[d]) (xs++[x])
 | [],xs,h=>by
  rw[IsL] at h;subst h;show IsL K H [d] [x];rw[IsL];exact⟨x,[],rfl,hd,by rw[IsL]⟩
 | d'::ds,xs,h=>by
  rw[IsL] at h;obtain⟨y,r,rfl,hy,hr⟩:=h;show IsL K H (d'::(ds++[d])) (y::(r++[x]));rw[IsL];exact⟨y,r++[x],rfl,hy,IsL.snoc hd hr⟩
theorem IsL.of_ints {K:aaa}{H:Hp}:∀ (ns:List Int),IsL K H (ns.map D.int) (ns.map V.int)
 | []=>by rw[ack,ack,IsL]
 | n::ns=>by
  rw[aaq,aaq,IsL];exact⟨_,_,rfl,by rw[Is],IsL.of_ints ns⟩
theorem IsL.of_bools {K:aaa}{H:Hp}:∀ (ns:List Bool),IsL K H (ns.map D.bl) (ns.map V.bl)
 | []=>by rw[ack,ack,IsL]
 | n::ns=>by
  rw[aaq,aaq,IsL];exact⟨_,_,rfl,by rw[Is],IsL.of_bools ns⟩
mutual
def D.depth:D->Nat
 | .tup ds=>cF ds+1
 | _=>0
def cF:List D->Nat
 | []=>0
 | d::ds=>max d.depth (cF ds)
end
section
variable {X:Cx}{pins:List (Addr×Obj)}{σ:St}{H:Hp}{s:Shared}
mutual
theorem Is.eqAt (I:Inv X pins σ H s):∀ (d:D) (A:Around) (x y:V) (u v:Value),A.units+d.depth < cLine->Is X.K H d x->Is X.K H d y->bF x u->bF y v->SeqAt.EqAt A s u v true
 | .non,A,x,y,u,v,_,hx,hy,rx,ry=>by
  rw[Is] at hx hy;subst hx hy;cases rx;cases ry;exact SeqAt.EqAt.same _
 | .bl b,A,x,y,u,v,_,hx,hy,rx,ry=>by
  rw[Is] at hx hy;subst hx hy;cases rx;cases ry;exact SeqAt.EqAt.same _
 | .int i,A,x,y,u,v,_,hx,hy,rx,ry=>by
  rw[Is] at hx hy;subst hx hy;obtain⟨t,rfl⟩:=rx;obtain⟨t',rfl⟩:=ry;have:=SeqAt.EqAt.int_int (A:=A) (s:=s) i t i t';simpa using this
 | .str z,A,x,y,u,v,_,hx,hy,rx,ry=>by
  rw[Is] at hx hy;subst hx hy;obtain⟨t,rfl⟩:=rx;obtain⟨t',rfl⟩:=ry;have:=SeqAt.EqAt.str_str (A:=A) (s:=s) z t z t';simpa using this
 | .tup ds,A,x,y,u,v,hu,hx,hy,rx,ry=>by
  rw[Is] at hx hy;obtain⟨a,xs,rfl,q1,l1⟩:=hx;obtain⟨b,ys,rfl,q2,l2⟩:=hy;cases rx;cases ry
  by_cases hab:a=b
  ·subst hab;exact SeqAt.EqAt.same _
  ·obtain⟨us,r1,p1,_⟩:=I.tuple q1;obtain⟨vs,r2,p2,_⟩:=I.tuple q2;have hdep:D.depth (.tup ds)=cF ds+1:=by rw[D.depth]
   rw[hdep] at hu;have e1:=r1.length;have e2:=r2.length;have e3:=l1.length;have e4:=l2.length;have hu2:A.in1.units+cF ds < cLine:=by
    have:A.in1.units<=A.units+1:=by show A.units+1<=A.units+1;exact aag _
    omega
   have all:=IsL.eqAt I ds A.in1 xs ys us vs hu2 l1 l2 r1 r2;have hsz:us.toArray.size=vs.toArray.size:=by simp;omega
   have:=SeqAt.RcAt.tuples (A:=A) (s:=s) (e:=λ _=>true) (show s.heap.IsTuple a us.toArray from p1) (show s.heap.IsTuple b vs.toArray from p2) (by omega) λ j h1 h2=>all j us.toArray[j] vs.toArray[j] (by simp) (by simp);have e5:((List.range (min us.toArray.size vs.toArray.size)).all (λ _=>true) && us.toArray.size == vs.toArray.size)=true:=by
    rw[hsz];simp
   rw[e5] at this;exact SeqAt.EqAt.of_refs hab this
theorem IsL.eqAt (I:Inv X pins σ H s):∀ (ds:List D) (A:Around) (xs ys:List V) (us vs:List Value),A.units+cF ds < cLine->IsL X.K H ds xs->IsL X.K H ds ys->bA xs us->bA ys vs->∀ (j:Nat) (u v:Value),us[j]? = some u->vs[j]? = some v->SeqAt.EqAt A s u v true
 | [],A,xs,ys,us,vs,_,hx,hy,rx,ry,j,u,v,eu,ev=>by
  rw[IsL] at hx;subst hx;cases rx;simp at eu
 | d::ds,A,xs,ys,us,vs,hu,hx,hy,rx,ry,j,u,v,eu,ev=>by
  rw[IsL] at hx hy;obtain⟨x,xr,rfl,hx,hxr⟩:=hx;obtain⟨y,yr,rfl,hy,hyr⟩:=hy;have hd:cF (d::ds)=max d.depth (cF ds):=by rw[cF]
  rw[hd] at hu;cases rx with
  | cons rx rxr=>
   cases ry with
   | cons ry ryr=>
    cases j with
    | zero=>
     simp at eu ev;subst eu ev;exact Is.eqAt I d A x y _ _ (by omega) hx hy rx ry
    | succ j=>exact IsL.eqAt I ds A xr yr _ _ (by omega) hxr hyr rxr ryr j u v (by simpa using eu) (by simpa using ev)
end
end
section
variable {X:Cx}
def y3 (K:aaa):R2:=λ x y H Q=>∃ ds,ds.length<=1000/\cF ds<=20/\Is K H (.tup ds) x/\Is K H (.tup ds) y/\Q (.bl false) H
theorem zR (hu:X.A.units+64 < cLine):gG X (compareOp .NotEq) (y3 X.K):=by
 intro pins s σ H x y v u Q I rx ry h;obtain⟨ds,hl,hdep,hx,hy,q⟩:=h;rw[Is] at hx hy;obtain⟨a,xs,rfl,q1,l1⟩:=hx;obtain⟨b,ys,rfl,q2,l2⟩:=hy;cases rx;cases ry;obtain⟨us,r1,p1,_⟩:=I.tuple q1;obtain⟨vs,r2,p2,_⟩:=I.tuple q2;have e1:=r1.length;have e2:=r2.length;have e3:=l1.length;have e4:=l2.length;obtain⟨⟨cls,dd,data,sl⟩,ho,hc,n,hd⟩:=id p1;obtain⟨⟨cls2,dd2,data2,sl2⟩,ho2,hc2,n2,hd2⟩:=id p2;simp only at hc hd hc2 hd2;subst hc hd hc2 hd2;have hin:∀ A:Around,A.in1.units=A.units+1:=λ A=>rfl;refine richCompare_meets_room (op:=.NotEq) ⟨_,ho,rfl⟩ ⟨_,ho2,rfl⟩ F.slot_tuple_ne F.entry_tuple_ne (F.args_tuple_ne_2 _ _) (wL a b us.toArray vs.toArray n n2 dd dd2 sl sl2 (by simp;omega))
  ⟨ho,ho2,λ j h1 h2=>IsL.eqAt I ds _ xs ys us vs (by rw[hin];omega) l1 l2 r1 r2 j _ _ (by simp) (by simp),show Value.bool false≠Value.notImplemented/\EP X pins σ Q (.bool false) s from ⟨(λ x=>nomatch x),.bl false,H,I,rfl,q⟩⟩ (by omega)
def HU:V->List V->Hp->VK->Prop:=λ x vs H Q=>∃ (l:Addr) (xs:List V) (y:V) (j:Nat),x=.ref l/\vs=[y]/\H l=some (.lst xs)/\nY y=true/\xs.all nY=true/\j < xs.length/\(∀ z,xs[j]? = some z->GQ z y=true)/\(∀ i z,i < j->xs[i]? = some z->GQ z y=false)/\Q (.int j) H
theorem BX:JY X "list.index" HU:=by
 intro pins s σ H x vs v us Q I rx rv h;obtain⟨l,xs,y,j,rfl,rfl,hH,fy,fx,hj,h1,h2,q⟩:=h;cases rx;obtain⟨u,rfl,ru⟩:=rv.one;obtain⟨z,its,n,r,hl,e⟩:=I.lstM hH;have key:∀ i (hi:i < its.length),∃ x,xs[i]? = some x/\bF x its[i]/\nY x=true:=λ i hi=>by
  have hx:xs[i]? = some xs[i]:=by simp [show i < xs.length by omega]
  obtain⟨w',h1,h2⟩:=r.get hx;have:its[i]? = some its[i]:=by simp [hi]
  rw[this] at h1;cases h1;exact⟨_,hx,h2,(abl.mp fx) _ (aci _)⟩
 refine call_meets F.slot_list_index ⟨_,e,rfl⟩ F.entry_list_index (F.args_list_index_2 _ _)
  (SeqAt.list_indexAt l its.toArray n none #[] u (LN y) j (by rw[aaf];omega) (by rw[sizeLine_eq] at z;omega) ?_ ?_) ⟨e,λ w' hw=>?_,⟨.int j,H,I.tok _,⟨_,rfl⟩,q⟩⟩
 ·obtain⟨x,hx,rx,fx'⟩:=key j (by omega);have:=xM (x:=y) rx fx';show LN y its[j]=true;rw[this];exact h1 x hx
 ·intro i hi hlt;have hi':i < its.length:=by simpa using hi
  obtain⟨x,hx,rx,fx'⟩:=key i hi';have:=xM (x:=y) rx fx';show LN y its[i]=false;rw[this];exact h2 i x hlt hx
 ·exact vK ru fy r fx w' (by simpa using hw)
end
structure Callee (P:Program) (w:World) (K:aaa) (mg:Str->Option Value) (base:Heap) (x:Str) (ps:List Str) (k:Nat) (sp:Sp) (f:Addr) (fd:FuncData):Prop where
 ok:FnOk P w K mg base hU k f fd ps sp
 mg:mg x=some (.ref f)
 kp:PySem.W.keepIn K (.ref f)=true
 bd:kS K fd ps []
theorem cB {X:Cx}{x:Str}{ps:List Str}{k n:Nat}{sp:Sp}{f:Addr}{fd:FuncData}{e:Expr}{es:List Expr}{t:TA}{p pos:Pos} (G:Callee X.prog X.w X.K X.mg X.base x ps k sp f fd) (hr:Room n X.A) (ha:PA X (e::es) t) (hg:Gl X x:=by with_unfolding_all rfl) (hle:k<=n:=by decide)
  (hdb:(x == ("__debug__" : Str))=false:=by decide) (he:starEach (e::es) X.env=(false,eval e X.env)::starEach es X.env:=by with_unfolding_all rfl) (hpl:(backTo pos (starEach es X.env)).any (·.1)=false:=by with_unfolding_all rfl) :
  PE X (.Call (.Name x p) (e::es) [] pos) (iN sp [] E0 t):=dH G.ok (hr.mono hle) hg G.mg G.kp G.bd .nil KU ha hdb he hpl
theorem bE:bootBuiltins "isinstance" = some (.builtin "isinstance"):=by decide +kernel
def dQ (t:Addr) (H H':Hp):Prop:=∀ b o,b≠t->H b=some o->H' b=some o
theorem dQ.refl {t:Addr} (H:Hp):dQ t H H:=λ _ _ _ h=>h
theorem dQ.trans {t:Addr}{H H1 H2:Hp} (a:dQ t H H1) (b:dQ t H1 H2):dQ t H H2:=λ c o hc h=>b c o hc (a c o hc h)
theorem aG.but {t:Addr}{H H':Hp} (a:aG H H'):dQ t H H':=λ b o _ h=>a b o h
theorem dQ.upd {t:Addr}{H:Hp}{o:HO}:dQ t H (upd H t o):=λ b u hb h=>by rw[aN hb];exact h
theorem dQ.ts {K:aaa}{t:Addr}{H H':Hp} (a:dQ t H H') (hm:wF (H t)):cS K H H':=by
 intro b xs h;have ne:∀ {o:HO},H b=some o->¬ wF (some o)->b≠t:=λ e n z=>by rw[<- z,e] at hm;exact n hm
 rcases h with (h | ⟨o,h⟩) | h
 ·exact .inl (.inl (a _ _ (ne h (λ z=>z)) h))
 ·exact .inl (.inr ⟨o,a _ _ (ne h (λ z=>z)) h⟩)
 ·exact .inr h
theorem dQ.free {t l:Addr}{H H':Hp} (a:dQ t H H') (hl:l≠t) (h:H' l=none):H l=none:=by
 cases q:H l with
 | none=>rfl
 | some o=>rw[a l o hl q] at h;cases h
theorem tW {n:Nat}{k:Int} (h0:0<=k) (h1:k < n):DQ n k=some k.toNat:=by
 unfold DQ;rw[if_pos h0,if_pos h1]
theorem yV {ae:Type}{xs:List ae}{k:Int}{v:ae} (h0:0<=k) (h:xs[k.toNat]? = some v):GS xs k=some v:=by
 obtain⟨j,rfl⟩:=Int.eq_ofNat_of_zero_le h0;exact eK (by simpa using h)
theorem Is.tupOf {K:aaa}{H:Hp}{ds:List D}{a:Addr}{xs:List V} (q:bU K H a xs) (l:IsL K H ds xs):Is K H (.tup ds) (.ref a):=by
 rw[Is];exact⟨a,xs,rfl,q,l⟩
theorem Is.un {K:aaa}{H:Hp}{ds:List D}{v:V} (h:Is K H (.tup ds) v):∃ a xs,v=.ref a/\bU K H a xs/\IsL K H ds xs:=by
 rw[Is] at h;exact h
theorem IsL.un {K:aaa}{H:Hp}{d:D}{ds:List D}{xs:List V} (h:IsL K H (d::ds) xs):∃ x r,xs=x::r/\Is K H d x/\IsL K H ds r:=by
 rw[IsL] at h;exact h
theorem IsL.un0 {K:aaa}{H:Hp}{xs:List V} (h:IsL K H [] xs):xs=[]:=by
 rw[IsL] at h;exact h
theorem IsL.cons {K:aaa}{H:Hp}{d:D}{ds:List D}{x:V}{xs:List V} (hd:Is K H d x) (h:IsL K H ds xs):IsL K H (d::ds) (x::xs):=by
 rw[IsL];exact⟨x,xs,rfl,hd,h⟩
theorem IsL.nil {K:aaa}{H:Hp}:IsL K H [] []:=by rw[IsL]
theorem Is.i {K:aaa}{H:Hp} (i:Int):Is K H (.int i) (.int i):=by rw[Is]
theorem Is.b {K:aaa}{H:Hp} (i:Bool):Is K H (.bl i) (.bl i):=by rw[Is]
theorem Is.s {K:aaa}{H:Hp} (i:Str):Is K H (.str i) (.str i):=by rw[Is]
theorem Is.n {K:aaa}{H:Hp}:Is K H .non .non:=by rw[Is]
theorem Is.ui {K:aaa}{H:Hp}{i:Int}{v:V} (h:Is K H (.int i) v):v=.int i:=by rw[Is] at h;exact h
theorem Is.ub {K:aaa}{H:Hp}{i:Bool}{v:V} (h:Is K H (.bl i) v):v=.bl i:=by rw[Is] at h;exact h
theorem Is.us {K:aaa}{H:Hp}{i:Str}{v:V} (h:Is K H (.str i) v):v=.str i:=by rw[Is] at h;exact h
theorem Is.u0 {K:aaa}{H:Hp}{v:V} (h:Is K H .non v):v=.non:=by rw[Is] at h;exact h
end L2
namespace Tw
open PySem L2
structure Vs where
 size:Int
 brim:Int
 outs:List (Option Int×Int)
 holds:Bool
 spill:Option Int
 acts:List (Str×Int)
abbrev oO:=Int×Int×Bool
structure Net where
 vs:List Vs
 sps:List oO
def kT:Option Int->D
 | none=>.non
 | some i=>.int i
def gP:Option Int->V
 | none=>.non
 | some i=>.int i
def i8 (o:Option Int×Int):D:=.tup [kT o.1,.int o.2]
def fF (a:Str×Int):D:=.tup [.str a.1,.int a.2]
def o0 (v:Vs):D:=.tup [.int v.size,.int v.brim,.tup (v.outs.map i8),.bl v.holds,kT v.spill,.tup (v.acts.map fF)]
def qB (s:oO):D:=.tup [.int s.1,.int s.2.1,.bl s.2.2]
def eH (n:Net):D:=.tup [.tup (n.vs.map o0),.tup (n.sps.map qB)]
def stD (held coming:List Int) (doors:List Bool):D:=.tup [.tup (held.map D.int),.tup (coming.map D.int),.tup (doors.map D.bl)]
theorem Is.tg {K:aaa}{H:Hp}{t:Option Int}{v:V} (h:Is K H (kT t) v):v=gP t:=by
 cases t with
 | none=>exact h.u0
 | some i=>exact h.ui
theorem Is.tgOf {K:aaa}{H:Hp} (t:Option Int):Is K H (kT t) (gP t):=by
 cases t with
 | none=>exact Is.n
 | some i=>exact Is.i i
structure OutOk (n:Nat) (o:Option Int×Int):Prop where
 tg:∀ t,o.1=some t->0<=t/\t < n
 lo:1<=o.2
 hi:o.2<=60
structure ActOk (m:Nat) (a:Str×Int):Prop where
 word:a.1 = "open" \/ a.1 = "shut" \/ a.1 = "turn"
 lo:0<=a.2
 hi:a.2 < m
structure VOk (n m:Nat) (v:Vs):Prop where
 size:1<=v.size
 ne:v.outs≠[]
 o3:v.outs.length<=3
 outs:∀ o∈v.outs,OutOk n o
 spill:∀ t,v.spill=some t->0<=t/\t < n
 a3:v.acts.length<=3
 acts:∀ a∈v.acts,ActOk m a
structure NetOk (net:Net):Prop where
 lo:1<=net.vs.length
 hi:net.vs.length<=12
 sp:net.sps.length<=12
 vs:∀ v∈net.vs,VOk net.vs.length net.sps.length v
 sps:∀ s∈net.sps,0<=s.1/\s.1 < net.vs.length
end Tw
namespace L2
open PySem PySem.Spec PyProof.Rows TwZ
section
variable {g:TG}{tc:TT}{te:TE}{fr:List (Option Nat)}{σ:St}{H1:Hp}{Q:Addr->Hp->Prop}
theorem iC {a:Addr}{xs:List V} (Pv:Addr->Nat->List V->St->Hp->Prop) (hq:∀ D i ys σ H,Pv D i ys σ H->bU K H a xs)
  (h0:∀ D,H1 D=none->Pv D 0 [] (A4 fr σ) (upd H1 D (.lst []))) (hstop:∀ D ys aa H',Pv D xs.length ys aa H'->Q D H')
  (hgo:∀ D i x ys aa H',xs[i]? = some x->Pv D i ys aa H'->g x aa H' λ af H3=>tc af H3 λ b H4=>
    if b=true then te af H4 λ y H5=>H5 D=some (.lst ys)/\ys.length < sizeLine/\Pv D (i+1) (ys++[y]) af (upd H5 D (.lst (ys++[y])))
    else Pv D (i+1) ys af H4):iD (JQ K a) g tc te fr σ H1 Q:=by
 refine tU (n:=xs.length) Pv h0 (λ D ys aa H' p=>⟨⟨xs,hq D _ ys aa H' p,aag _⟩,hstop D ys aa H' p⟩) λ D i ys aa H' hi p=>⟨⟨xs,xs[i],hq D _ ys aa H' p,by simp [hi]⟩,λ x H2 y=>?_⟩;obtain⟨e,y⟩:=y;subst e;exact hgo D i x ys aa _ (y xs (hq D _ ys aa _ p)) p
theorem yK {a:Addr}{xs:List V} (Pv:Addr->Nat->List V->St->Hp->Prop) (hq:∀ D i ys σ H,Pv D i ys σ H->bO K H a xs)
  (h0:∀ D,H1 D=none->Pv D 0 [] (A4 fr σ) (upd H1 D (.lst []))) (hstop:∀ D ys aa H',Pv D xs.length ys aa H'->Q D H')
  (hgo:∀ D i x ys aa H',xs[i]? = some x->Pv D i ys aa H'->g x aa H' λ af H3=>tc af H3 λ b H4=>
    if b=true then te af H4 λ y H5=>H5 D=some (.lst ys)/\ys.length < sizeLine/\Pv D (i+1) (ys++[y]) af (upd H5 D (.lst (ys++[y])))
    else Pv D (i+1) ys af H4):iD (JS K a) g tc te fr σ H1 Q:=by
 refine tU (n:=xs.length) Pv h0 (λ D ys aa H' p=>⟨⟨xs,hq D _ ys aa H' p,aag _⟩,hstop D ys aa H' p⟩) λ D i ys aa H' hi p=>⟨⟨xs,xs[i],hq D _ ys aa H' p,by simp [hi]⟩,λ x H2 y=>?_⟩;obtain⟨e,y⟩:=y;subst e;exact hgo D i x ys aa _ (y xs (hq D _ ys aa _ p)) p
theorem CB {n:Nat} (Pv:Addr->Nat->List V->St->Hp->Prop)
  (h0:∀ D,H1 D=none->Pv D 0 [] (A4 fr σ) (upd H1 D (.lst []))) (hstop:∀ D ys aa H',Pv D n ys aa H'->Q D H')
  (hgo:∀ D i ys aa H',i < n->Pv D i ys aa H'->g (.int (i:Int)) aa H' λ af H3=>tc af H3 λ b H4=>
    if b=true then te af H4 λ y H5=>H5 D=some (.lst ys)/\ys.length < sizeLine/\Pv D (i+1) (ys++[y]) af (upd H5 D (.lst (ys++[y])))
    else Pv D (i+1) ys af H4):iD (JR 0 n) g tc te fr σ H1 Q:=by
 refine tU (n:=n) Pv h0 (λ D ys aa H' p=>⟨aag _,hstop D ys aa H' p⟩) λ D i ys aa H' hi p=>⟨hi,λ x H2 y=>?_⟩;obtain⟨e,y⟩:=y;subst e y;rw[Int.zero_add];exact hgo D i ys aa _ hi p
end
section
variable {g:TG}{tb:TS}{D:Ends}{σ:St}{H:Hp}
abbrev G1 (J:It) (g:TG) (tb:TS) (D:Ends) (σ:St) (H:Hp):Prop:=
 ∃ W:Nat->Nat->St->Hp->Prop,(∃ m,W 0 m σ H)/\∀ i m σ H,W i m σ H->
   (J.stop i H/\D.nx σ H)\/(J.go i H/\∃ N:St->Hp->Prop,(∀ aa H',N aa H'->∃ m',m' < m/\W (i+1) m' aa H')/\∀ x H',J.yld i H x H'->g x σ H' λ ai H2=>tb { D with nx:=N,ct:=N,bk:=D.nx } ai H2)
theorem D8 {t:Bool}{a:Addr}{xs:List V} (Pv:Nat->St->Hp->Prop) (hq:∀ i σ H,Pv i σ H->G0 K H t a xs)
  (h0:Pv 0 σ H) (hstop:∀ σ H,Pv xs.length σ H->D.nx σ H)
  (hgo:∀ i x σ H T,xs[i]? = some x->Pv i σ H->H T=none->g (.ref T) σ (upd H T (.tup [.int (i:Int),x])) λ ai H2=>tb { D with nx:=Pv (i+1),ct:=Pv (i+1),bk:=D.nx } ai H2):G1 (Ite K t a) g tb D σ H:=by
 refine FS (n:=xs.length) Pv h0 (λ σ H p=>?_) λ i σ H hi p=>?_
 ·exact⟨⟨xs,hq _ σ H p,aag _⟩,hstop σ H p⟩
 ·refine⟨⟨xs,xs[i],hq _ σ H p,by simp [hi]⟩,?_⟩;rintro v H2 ⟨T,x,hT,rfl,e1,rfl⟩;exact hgo i x σ H T (e1 xs (hq _ σ H p)) p hT
end
theorem AK {σ:St}{H:Hp}{A B:Hp->Prop} (h:A H):zI σ H λ b H4=>if b=true then A H4 else B H4:=by
 show if true=true then A H else B H
 rw[if_pos rfl];exact h
theorem pP {i:Nat}{v:V}{σ:St}{H:Hp}{A B:St->Hp->Prop} (h:A (σ.set i (some v)) H):aW i v σ H λ af H3=>zI af H3 λ b H4=>if b=true then A af H4 else B af H4:=AK (σ:=σ.set i (some v)) (A:=A (σ.set i (some v))) (B:=B (σ.set i (some v))) h
theorem aG.put {H H':Hp}{p:Addr}{o:HO} (a:aG H H') (h:H p=none):aG H (upd H' p o):=λ b u e=>by rw[aN (aL e h)];exact a b u e
theorem cS.put {K:aaa}{H H':Hp}{p:Addr}{o:HO} (a:cS K H H') (h:H' p=none\/wF (H' p)):cS K H (upd H' p o):=a.trans (by
 rcases h with h | h
 ·exact (aG.new h).ts
 ·exact dQ.ts dQ.upd h)
def GU (i j:Int):Prop:=0 < j/\j < 2 ^ 200
theorem BK {X:Cx}:gG X (binaryOp .FloorDiv) (rI GU λ i j=>.int (i / j)):=KZ λ i j _ _ _ _ _ hc q=>by
 have h1:(0:Int) < j:=hc.1;have h2:j < 2 ^ 200:=hc.2;refine floordiv_int (by omega) (by rw[Int.fdiv_eq_ediv_of_nonneg i (by omega)];exact q) (.inl (PyProof.noPylong_of_log2 ?_));have h0:j.natAbs≠0:=by omega
 have h3:j.natAbs < 2 ^ 200:=by omega
 have:=(Nat.log2_lt h0).mpr h3;omega
theorem eU:bootBuiltins "int" = some (.type "int"):=by decide +kernel
theorem bS:bootBuiltins "tuple" = some (.type "tuple"):=by decide +kernel
theorem uF:bootBuiltins "list" = some (.type "list"):=by decide +kernel
theorem jX:bootBuiltins "bool" = some (.type "bool"):=by decide +kernel
section
variable {X:Cx}{tg:Expr}{pos:Pos}
theorem cG {es:List Expr}{k:Nat}{t:yZ}{n:Nat} (hK:X.K=K) (hc:X.calm=true) (h:DS X es t)
  (hn:(assignEach es X.env).length=n:=by with_unfolding_all rfl) (hst:(assignEach es X.env).findIdx? (·.1)=none:=by with_unfolding_all rfl):PG X (.Tuple es k pos) (LI K n t):=by
 subst hK;exact IA hc h hn hst
theorem FN (hK:X.K=K):DT X (uK K):=by subst hK;exact JC
def B6 (K:aaa):List V->Hp->VK->Prop:=λ xs H Q=>∃ p ys,xs=[.ref p]/\(bO K H p ys\/bU K H p ys)/\Q (.int ys.length) H
theorem AC (hK:X.K=K):eN X (.builtin "len") (B6 K):=by subst hK;exact uD
theorem gZ (hK:X.K=K) (hc:X.calm=true):eN X (.builtin "all") (HV K):=by subst hK;exact AG hc
def HN (K:aaa):List V->Hp->VK->Prop:=λ xs H Q=>∃ p ys,xs=[.ref p]/\((bO K H p ys/\∀ l,H l=none->Q (.ref l) (upd H l (.tup ys)))\/(bU K H p ys/\Q (.ref p) H))
theorem cO (hK:X.K=K):eN X (.type "tuple") (HN K):=by subst hK;exact qG
def HR (K:aaa):List V->Hp->VK->Prop:=λ xs H Q=>∃ p ys,xs=[.ref p]/\(bO K H p ys\/bU K H p ys)/\∀ l,H l=none->Q (.ref l) (upd H l (.lst ys))
theorem rH (hK:X.K=K):eN X (.type "list") (HR K):=by subst hK;exact uC
theorem eG {l:Expr}{tl:TE} (hK:X.K=K) (hl:PE X l tl):PI X tg l (yN K tl):=by subst hK;exact EI hl
theorem cV {l:Expr}{tl:TE} (hK:X.K=K) (hl:PE X l tl):PI X tg l (JD K tl):=by subst hK;exact HZ hl
theorem BB {a:Expr}{ta:TA}{p:Pos} (hK:X.K=K) (hg:Gl X "enumerate") (hm:X.mg "enumerate" = none) (ha:PA X [a] ta) (hs:starEach [a] X.env=[(false,eval a X.env)]:=by with_unfolding_all rfl):PI X tg (.Call (.Name "enumerate" p) [a] [] pos) (GM K ta):=by
 subst hK;exact EJ hg hm ha hs
theorem BH (hK:X.K=K):gG X (binaryOp .Mult) (GG K):=by subst hK;exact yD
theorem gD (hK:X.K=K) (hu:X.A.units+64 < cLine):gG X (compareOp .NotEq) (y3 K):=by subst hK;exact zR hu
theorem eC {o e:Expr}{es:List Expr}{to:TE}{t:TA}{name:Str}{apos cpos:Pos}{T id:String}{r:V->List V->Hp->VK->Prop} (hK:X.K=K)
  (pa:PlainAttrs T) (slot:Slot T name id) (hty:typeOf (.builtin id)=pure (.type "method_descriptor")) (hm:DM X id r) (ho:PE X o to) (ha:PA X (e::es) t)
  (hbase:attributeBase o name X.env (eval o X.env)=eval o X.env:=by with_unfolding_all rfl)
  (hfew:((backTo cpos (starEach (e::es) X.env)).all (λ x=>!x.1) && (backToKw cpos (keywordEach [] X.env)).all (λ x=>x.1.isSome)
   && decide ((e::es).length+([]:List Keyword).length+(if ([]:List Keyword).isEmpty then 0 else 1) < 30))=true:=by with_unfolding_all rfl)
  (hline:(apos.endLine == cpos.line)=true:=by with_unfolding_all rfl) (hs:starEach (e::es) X.env=(false,eval e X.env)::starEach es X.env:=by with_unfolding_all rfl) (hplain:(backTo cpos (starEach es X.env)).any (·.1)=false:=by with_unfolding_all rfl) :
  PE X (.Call (.Attribute o name apos) (e::es) [] cpos) (tBM K T r to t):=by subst hK;exact GK pa slot hty hm ho ha hbase hfew hline hs hplain
end
section
variable {X:Cx}{pos p:Pos}
theorem pL (i:Nat) {x:Str}{e:Expr}{te:TE}{pos':Pos} (hN:X.N.Nodup) (he:PE X e te) (hi:X.N[i]? = some x:=by with_unfolding_all rfl) (hx:JP X.env.scope x:=by with_unfolding_all exact Or.inl rfl) (hs:swapsWith e (some (.Name x pos')) pos.line X.env=pure false:=by with_unfolding_all rfl) (hf:X.fn x=true\/X.env.scope.names.lookup x=some .local:=by with_unfolding_all first | exact .inl rfl | exact .inr rfl | assumption) :
  PS X (.Assign [.Name x pos'] e pos) (iJ te (aW i)):=sO hN hi hx he hs hf
theorem gL (i:Nat) {x:Str} (hN:X.N.Nodup) (hi:X.N[i]? = some x:=by with_unfolding_all rfl) (hx:JP X.env.scope x:=by with_unfolding_all exact Or.inl rfl) (hf:X.fn x=true\/X.env.scope.names.lookup x=some .local:=by with_unfolding_all first | exact .inl rfl | exact .inr rfl | assumption):PG X (.Name x pos) (aW i):=sQ hN hi hx hf
theorem gC (i:Nat) (N:List Str) {x:Str} (hN:N.Nodup:=by decide +kernel) (e:X.N=N:=by with_unfolding_all rfl) (hi:N[i]? = some x:=by with_unfolding_all rfl) (hx:JP X.env.scope x:=by with_unfolding_all exact Or.inl rfl) (hf:X.fn x=true\/X.env.scope.names.lookup x=some .local:=by with_unfolding_all exact Or.inr rfl):PG X (.Name x pos) (aW i):=sQ (by rw[e];exact hN) (by rw[e];exact hi) hx hf
theorem px (K:aaa) {a b:Expr}{ta tb:TE} (ha:PE X a ta) (hb:PE X b tb) (hK:X.K=K:=by with_unfolding_all rfl) (hs:zB b:=by with_unfolding_all exact λ _ _=>rfl):PE X (.Subscript a b pos) (fJ (uK K) ta tb):=KS (FN hK) ha hb hs
theorem kA (K:aaa) {a:Expr}{ta:TE} (hm:X.mg "len" = none) (ha:PE X a ta) (hK:X.K=K:=by with_unfolding_all rfl) (hg:Gl X "len" := by with_unfolding_all rfl) (hs:starEach [a] X.env=[(false,eval a X.env)]:=by with_unfolding_all rfl):PE X (.Call (.Name "len" p) [a] [] pos) (DP (B6 K) (bV ta fP)):=
 aT (AC hK) hg hm ach (aA ha aB hs) (by decide) (by decide) hs rfl
end
def LK (K:aaa) (n:Nat) (t:yZ):TG:=λ v σ H Q=>∃ a xs,v=.ref a/\bO K H a xs/\xs.length=n/\t xs σ H Q
theorem IB {X:Cx}{pos:Pos}{es:List Expr}{k:Nat}{t:yZ}{n:Nat} (hc:X.calm=true) (h:DS X es t)
  (hn:(assignEach es X.env).length=n:=by with_unfolding_all rfl) (hst:(assignEach es X.env).findIdx? (·.1)=none:=by with_unfolding_all rfl):PG X (.Tuple es k pos) (LK X.K n t):=by
 intro pins s σ H v u Q I r hw;obtain⟨a,xs,e1,hq,hl,hw⟩:=hw;subst e1;cases r;obtain⟨its,rv,ht,hz⟩:=I.list hq;rw[assign_Tuple];refine aac (wpAny_standAt ?_);unfold unpack;have e:(assignEach es X.env).length=its.toArray.size:=by simp [hn,<- hl,rv.length]
 rw[e,hst];refine aac (abv (PySem.W.kun_itemsOf (I.ok.hd hc) ht.isList λ h' hx=>?_));have I1:Inv X pins σ H { s with heap:=h' }:=I.kept (t':=s.toks) λ b o e=>hx b o (abi (aal e)) e;exact h pins _ σ H xs _ Q I1 (by simpa using rv) hw
theorem y6 {X:Cx}{K:aaa}{pos:Pos}{es:List Expr}{k:Nat}{t:yZ}{n:Nat} (hK:X.K=K) (hc:X.calm=true) (h:DS X es t)
  (hn:(assignEach es X.env).length=n:=by with_unfolding_all rfl) (hst:(assignEach es X.env).findIdx? (·.1)=none:=by with_unfolding_all rfl):PG X (.Tuple es k pos) (LK K n t):=by
 subst hK;exact IB hc h hn hst
end L2
namespace Tw
open PySem L2
theorem eQ {n:Nat} (h:n<=10000000):n < sizeLine:=by rw[sizeLine_eq];omega
end Tw
namespace L2
open PySem PySem.Spec PyProof.Rows
open Builtin Builtin.Str
def aV (i:Int):Str:=Str.ofString (toString i)
section
variable {X:Cx}{pins:List (Addr×Obj)}{σ:St}{H:Hp}{s:Shared}
theorem qN:∀ (l:List (Str×Tok)),bA (l.map λ p=>V.str p.1) (strValues l)
 | []=>.nil
 | p::l=>.cons ⟨p.2,rfl⟩ (qN l)
theorem qQ:∀ {xs:List Str}{us:List Value},bA (xs.map V.str) us->∃ l:List (Str×Tok),us=strValues l/\l.map (·.1)=xs
 | [],_,h=>by cases h;exact⟨[],rfl,rfl⟩
 | x::xs,_,h=>by
  cases h with
  | cons r rr=>
   obtain⟨t,rfl⟩:=r;obtain⟨l,rfl,e⟩:=qQ rr;exact⟨(x,t)::l,rfl,by rw[aaq,e]⟩
def B7 (K:aaa):V->List V->Hp->VK->Prop:=λ x vs H Q=>∃ (sep:Str) (l:Addr) (ts:List Str),x=.str sep/\vs=[.ref l]/\bO K H l (ts.map V.str)/\JoinOk sep ts=true/\Q (.str (Str.join sep ts)) H
theorem BV:DM X "str.join" (B7 X.K):=by
 intro pins s σ H x vs v us Q I rx rv h;obtain⟨sep,l,ts,rfl,rfl,hq,hok,q⟩:=h;obtain⟨t,rfl⟩:=rx;obtain⟨u,rfl,ru⟩:=rv.one;cases ru;obtain⟨its,r,hp,hz⟩:=I.list hq;obtain⟨ls,rfl,e⟩:=qQ r;refine SC.join hp.isList e hok λ t' k=>⟨.str _,H,I.tok _,⟨t',rfl⟩,?_⟩;show Q (.str (glued sep ts)) H;rw[StrLaws.glued_eq_join];exact q
def EA:V->List V->Hp->VK->Prop:=λ x vs H Q=>∃ (y sep:Str),x=.str y/\vs=[.str sep]/\0 < sep.length/\y.length<=1000000/\∀ p,H p=none->Q (.ref p) (upd H p (.lst ((Txt.split y sep).map V.str)))
theorem dX (x y:Str) (hy:1<=y.length):(Txt.split x y).length<=x.length+1:=by have:=split_weight x y hy;omega
theorem dM:DM X "str.split" EA:=by
 intro pins s σ H x vs v us Q I rx rv h;obtain⟨x,y,rfl,rfl,hy,hx,q⟩:=h;obtain⟨t,rfl⟩:=rx;obtain⟨u,rfl,ru⟩:=rv.one;obtain⟨u,rfl⟩:=ru;have hy':(y.length == 0)=false:=by rw[beq_eq_false_iff_ne];omega
 have hn:=dX x y (by omega);have hxs:x.length<=sizeLine:=by rw[sizeLine_eq];omega
 cases h1:(decide (x.length < y.length) || decide (strKind x < strKind y))
 ·cases hf:(occurrences x y 0 x.length (x.length+1)).isEmpty
  ·have e:Txt.split x y=partsBetween x (occurrences x y 0 x.length (x.length+1)) y.length:=(if_neg (ne_true_of_eq_false h1)).trans (if_neg (ne_true_of_eq_false hf));rw[e] at hn;have hz:(partsBetween x (occurrences x y 0 x.length (x.length+1)) y.length).length<=sizeLine:=by rw[sizeLine_eq];omega
   refine call_meets F.slot_str_split (typeIs_str _ _ _) F.entry_str_split (F.args_str_split_2 _ _) (meets_str_split_sep x y t u h1 hy' hf hxs hz) ?_;show wants _ _ _ { s with toks:=_,heap:=s.heap.push { cls:=.type "list",data:=.seq (strsFrom s.toks (partsBetween x (occurrences x y 0 x.length (x.length+1)) y.length)).toArray } };rw[strsFrom_eq];have hv:=qN (numbered s.toks (partsBetween x (occurrences x y 0 x.length (x.length+1)) y.length));have em:(numbered s.toks (partsBetween x (occurrences x y 0 x.length (x.length+1)) y.length)).map (λ p=>V.str p.1)=(Txt.split x y).map V.str:=by rw[e,<- numbered_texts s.toks (partsBetween _ _ _),acd,numbered_texts];rfl
   rw[em] at hv;exact⟨.ref _,_,I.lnew hv (by rw[aab,e];exact hz),rfl,q _ I.fresh⟩
  ·have e:Txt.split x y=[x]:=(if_neg (ne_true_of_eq_false h1)).trans (if_pos hf);rw[e] at q;exact call_meets F.slot_str_split (typeIs_str _ _ _) F.entry_str_split (F.args_str_split_2 _ _) (meets_str_split_not_found x y t u h1 hy' hf) ⟨.ref _,_,I.lnew (t':=s.toks) (ys:=[.str x]) (.cons ⟨t,rfl⟩ .nil) (show 1<=sizeLine by decide),rfl,q _ I.fresh⟩
 ·have e:Txt.split x y=[x]:=if_pos h1;rw[e] at q;exact call_meets F.slot_str_split (typeIs_str _ _ _) F.entry_str_split (F.args_str_split_2 _ _) (meets_str_split_cannot_occur x y t u h1) ⟨.ref _,_,I.lnew (t':=s.toks) (ys:=[.str x]) (.cons ⟨t,rfl⟩ .nil) (show 1<=sizeLine by decide),rfl,q _ I.fresh⟩
def HQ:V->List V->Hp->VK->Prop:=λ x vs H Q=>∃ (y sep:Str),x=.str y/\vs=[.str sep]/\0 < sep.length/\y.length<=1000000/\∀ p,H p=none->Q (.ref p) (upd H p (.tup [.str (Txt.partition y sep).1,.str (Txt.partition y sep).2.1,.str (Txt.partition y sep).2.2]))
theorem mF:DM X "str.partition" HQ:=by
 intro pins s σ H x vs v us Q I rx rv h;obtain⟨x,y,rfl,rfl,hy,hx,q⟩:=h;obtain⟨t,rfl⟩:=rx;obtain⟨u,rfl,ru⟩:=rv.one;obtain⟨u,rfl⟩:=ru;have hy':(y.length == 0)=false:=by rw[beq_eq_false_iff_ne];omega
 have hxs:x.length<=sizeLine:=by rw[sizeLine_eq];omega
 refine call_meets F.slot_str_partition (typeIs_str _ _ _) F.entry_str_partition (F.args_str_partition_2 _ _) (meets_str_partition x y t u hy' hxs) ?_;have q':=q s.heap.objs.size I.fresh;unfold Txt.partition at q';cases ho:occurrences x y 0 x.length 1 with
 | nil=>
  rw[ho] at q';exact⟨.ref _,_,I.laid (o:=.tup [.str x,.str Str.empty,.str Str.empty]) (t':=s.toks+1) (λ _ _ q=>aah _ q) (aag _) ⟨(show 3<=sizeLine by decide),_,.cons ⟨t,rfl⟩ (.cons ⟨s.toks,rfl⟩ (.cons ⟨s.toks,rfl⟩ .nil)),⟨_,aas _ rfl,rfl,_,rfl⟩⟩,rfl,q'⟩
 | cons i r=>
  rw[ho] at q';exact⟨.ref _,_,I.laid (o:=.tup [.str (strSub x 0 i),.str y,.str (strSub x (i+y.length) x.length)]) (t':=s.toks+1+1) (λ _ _ q=>aah _ q) (aag _) ⟨(show 3<=sizeLine by decide),_,.cons ⟨s.toks,rfl⟩ (.cons ⟨u,rfl⟩ (.cons ⟨s.toks+1,rfl⟩ .nil)),⟨_,aas _ rfl,rfl,_,rfl⟩⟩,rfl,q'⟩
def HS:V->List V->Hp->VK->Prop:=λ x vs H Q=>∃ y:Str,x=.str y/\vs=[]/\Q (.bl (Txt.isdecimal y)) H
theorem BW:DM X "str.isdecimal" HS:=by
 intro pins s σ H x vs v us Q I rx rv h;obtain⟨y,rfl,rfl,q⟩:=h;obtain⟨t,rfl⟩:=rx;have:=rv.zero;subst this;exact SC.isdecimal ⟨.bl _,H,I,rfl,q⟩
def KN:List V->Hp->VK->Prop:=λ xs H Q=>∃ (y:Str) (n:Int),xs=[.str y]/\PySem.intText? y=some n/\y.length<=640/\Q (.int n) H
theorem nK:eN X (.type "int") KN:=by
 intro pins s σ H xs us Q I r h;obtain⟨y,n,rfl,hn,hl,q⟩:=h;obtain⟨u,rfl,t,rfl⟩:=kI r;exact PySem.W.KIN.call_text hn hl ⟨.int n,H,I.tok _,⟨_,rfl⟩,q⟩
def K8:V->Option Str
 | .int i=>if i.natAbs.log2 < 1920 then some (aV i) else none
 | .non=>some "None"
 | .str x=>some x
 | _=>none
def KH:List V->Hp->VK->Prop:=λ xs H Q=>∃ x y,xs=[x]/\K8 x=some y/\Q (.str y) H
theorem dY:eN X (.type "str") KH:=by
 intro pins s σ H xs us Q I r h;obtain⟨x,y,rfl,e,q⟩:=h;obtain⟨u,rfl,rx⟩:=kI r;cases x with
 | int i=>
  have e:(if i.natAbs.log2 < 1920 then some (aV i) else none)=some y:=e;obtain⟨t,rfl⟩:=rx
  split at e
  ·rename_i hi
   cases e;exact PySem.P.str_of_int hi ⟨.str _,H,I.tok _,⟨_,rfl⟩,q⟩
  ·cases e
 | non=>cases rx;cases e;exact PySem.P.str_of_none ⟨.str _,H,I.tok _,⟨_,rfl⟩,q⟩
 | str z=>obtain⟨t,rfl⟩:=rx;cases e;exact PySem.P.str_of_str ⟨.str _,H,I,⟨_,rfl⟩,q⟩
 | bl b=>cases e
 | byt b=>cases e
 | flt b=>cases e
 | ref a=>cases e
 | ty n=>cases e
theorem pR {i:Int} (h0:0<=i) (h1:i < 10 ^ 9):i.natAbs.log2 < 1920:=by
 have:i.natAbs < 2 ^ 30:=by omega
 by_cases hz:i.natAbs=0
 ·rw[hz];decide
 ·exact Nat.lt_trans ((Nat.log2_lt hz).mpr this) (by decide)
theorem eO {i:Int} (h0:0<=i) (h1:i < 10 ^ 9):K8 (.int i)=some (aV i):=if_pos (pR h0 h1)
def KJ:List V->Hp->VK->Prop:=λ xs H Q=>∃ y:Str,xs=[.str y]/\y.length<=1000000/\Q (.int y.length) H
theorem gY:eN X (.builtin "len") KJ:=by
 intro pins s σ H xs us Q I r h;obtain⟨y,rfl,hl,q⟩:=h;exact DH pins s σ H _ us Q I r ⟨.str y,y.length,rfl,⟨by rw[sizeLine_eq];omega,rfl⟩,q⟩
def KQ:R2:=λ x y H Q=>∃ i j,x=.str i/\y=.str j/\i.length+j.length<=1000000/\Q (.str (i++j)) H
theorem mD:gG X (binaryOp .Add) KQ:=λ pins s σ H x y v u Q I rx ry ⟨i,j,e1,e2,hl,q⟩=>wZ pins s σ H x y v u Q I rx ry ⟨i,j,e1,e2,by rw[sizeLine_eq];omega,q⟩
def LL:V->Option Str
 | .str x=>some x
 | .int i=>if i.natAbs.log2 < 1920 then some (aV i) else none
 | _=>none
theorem D9 {i:Int} (h0:0<=i) (h1:i < 10 ^ 9):LL (.int i)=some (aV i):=if_pos (pR h0 h1)
def AT (t:TE):TE:=λ σ H Q=>t σ H λ x H1=>∃ y,LL x=some y/\y.length<=1000000/\Q (.str y) H1
theorem eW {e:Expr}{t:TE}{pos:Pos} (h:PE X e t):PE X (.FormattedValue e (-1) none pos) (AT t):=by
 intro pins s σ H Q I hw;refine FormattedValue_plain (dF (h pins s σ H _ I hw) λ v s1 ⟨x,H1,I1,r1,y,e1,hl,q1⟩=>?_);cases x with
 | str z=>
  obtain⟨t,rfl⟩:=r1;cases e1;exact formatField_str (λ t' k=>⟨.str _,H1,I1.tok _,⟨t',rfl⟩,q1⟩) (by rw[sizeLine_eq];omega)
 | int i=>
  obtain⟨t,rfl⟩:=r1;have e1:(if i.natAbs.log2 < 1920 then some (aV i) else none)=some y:=e1
  split at e1
  ·rename_i hi
   cases e1;exact formatField_int_small hi ⟨.str _,H1,I1.tok _,⟨_,rfl⟩,q1⟩
  ·cases e1
 | non=>cases e1
 | bl b=>cases e1
 | byt b=>cases e1
 | flt b=>cases e1
 | ref a=>cases e1
 | ty n=>cases e1
def gR:List TE->Str->TE
 | [],acc=>λ _ H Q=>Q (.str acc) H
 | t::ts,acc=>λ σ H Q=>t σ H λ x H1=>∃ y,x=.str y/\(acc++y).length<=1000000/\gR ts (acc++y) σ H1 Q
def PJ (X:Cx) (es:List Expr) (ts:List TE):Prop:=∀ (acc:Str) (pins:List (Addr×Obj)) (s:Shared) (σ:St) (H:Hp) (Q:VK),acc.length<=1000000->Inv X pins σ H s->gR ts acc σ H Q->wpAny (model X.prog X.w) X.A (joinParts acc (evalEach es X.env)) (EP X pins σ Q) X.xe s
theorem sP:PJ X [] []:=λ acc pins s σ H Q ha I q=>joinParts_nil ⟨.str acc,H,I.tok _,⟨_,rfl⟩,q⟩ (by rw[sizeLine_eq];omega)
theorem bX {e:Expr}{es:List Expr}{t:TE}{ts:List TE} (h:PE X e t) (hs:PJ X es ts):PJ X (e::es) (t::ts):=by
 intro acc pins s σ H Q ha I hw;show wpAny _ _ (joinParts acc (eval e X.env::evalEach es X.env)) _ _ s;refine joinParts_cons (dF (h pins s σ H _ I hw) λ v s1 ⟨x,H1,I1,r1,y,e1,hl,q1⟩=>?_);subst e1;obtain⟨t,rfl⟩:=r1;exact⟨by rw[sizeLine_eq];omega,hs (acc++y) pins s1 σ H1 Q hl I1 q1⟩
theorem y9 {da db:Expr}{rest:List Expr}{pos:Pos}{ts:List TE} (h:PJ X (da::db::rest) ts):PE X (.JoinedStr (da::db::rest) pos) (gR ts Str.empty):=λ pins s σ H Q I hw=>
 JoinedStr_many (h Str.empty pins s σ H Q (by decide) I hw)
theorem BC {e:Expr}{pos:Pos}{t:TG} (h1:PG X e t):DS X [.Starred e pos] (GO t LJ):=by
 intro pins s σ H vs us Q I r h;obtain⟨v,vr,e1,h⟩:=h;subst e1;cases r with
 | cons r rr=>
  show wpAny _ _ (assignInOrder (assign e X.env::[]) _) _ _ s;refine assignInOrder_cons (dF (h1 pins s σ H _ _ _ I r h) λ _ s1 ⟨cy,H1,I1,q1⟩=>?_);exact bY pins s1 cy H1 _ _ Q I1 rr q1
theorem wH {prog:Program}{w:World}{A:Around} (hh:A.handled=none) (I ax:Addr) (hne:ax≠I) (items:Array Value) (h1:1<=items.size) :
  Walks prog w A I [I,ax] [I] (items.size - 1) (λ i v=>items[i+1]? = some v) (λ i h=>h.IsListIter I ax (i+1)/\h.IsList ax items) where
 sub:=λ b hb=>by simp at hb;simp [hb]
 frame:=λ _ _ _ st hk=>⟨st.1.at λ o e=>hk I (by simp) o e,st.2.at λ o e=>hk ax (by simp) o e⟩
 item:=λ i s Q E hi st hQ=>by
  have hi':i+1 < items.size:=by omega
  refine wpAny_pyNext_list_item st.1 st.2 (x:=items[i+1]) (by simp [hi']) λ h' hit' hs'=>?_;exact hQ _ h' s.toks (by simp [hi']) ⟨hit',st.2.extBut hs'.extBut hne⟩ λ b o hb e=>hs'.extBut b o (λ h=>hb (by simp [h])) e
 done:=λ s Q E st hQ=>wpAny_pyNext_list_end hh st.1 st.2 (by rw[Nat.sub_add_cancel h1];simp) λ h' he'=>hQ h' s.toks λ b o hb e=>he' b o (λ h=>hb (by simp [h])) e
 self:=λ _ _ _ _ st hQ=>wpAny_pyIter_listiter st.1 hQ
theorem wN {prog:Program}{w:World}{A:Around}{E:Value->Shared->Prop}{s:Shared}{l:Addr}{x:Value}{r:List Value}{Q:List Value->Shared->Prop} (hh:A.handled=none) (hl:s.heap.IsList l (x::r).toArray) (hr:r.length<=1000000)
  (hQ:∀ (s':Shared),(∀ b o,s.heap.get? b=some o->s'.heap.get? b=some o)->s'.gens=s.gens->s'.drawn=s.drawn->s'.os=s.os->Q [x,.ref s'.heap.objs.size] { s' with heap:=s'.heap.push { cls:=.type "list",data:=.seq r.toArray } }) :
  wpAny (model prog w) A (unpackItems (.ref l) 2 (some 1)) Q E s:=by
 have hlt:l≠s.heap.objs.size:=by obtain⟨o,ho,_⟩:=hl;exact abi (aal ho)
 unfold unpackItems;refine aac ?_
 ·unfold notIterableAtAll;refine aac (wpAny_specialOf hl.typeIs slot_list_iter.lookup ?_);refine aav ?_;simp only [Bool.false_eq_true,if_false];refine aac (abv (wpAny_pyIter_list hl ?_));refine aac (abv (PySem.W.kun_draw hlt 1 0 _ _ ⟨_,aas _ rfl,rfl,rfl⟩ (hl.push _) (by simp) λ ag cf ak=>?_));have hall:List.take 1 (List.drop 0 (x::r).toArray.toList)=[x]:=by simp
  rw[hall];rw[if_neg (by simp)];have cn:ag.IsList l (x::r).toArray:=(hl.push _).extBut ak.extBut hlt;have hk1:∀ b o,b≠s.heap.objs.size->s.heap.get? b=some o->ag.get? b=some o:=λ b o hb e=>ak.extBut b o hb (aah _ e);have hz:(x::r).toArray.size - 1=r.length:=by simp
  refine aac (abv (wpAny_collect_iter (T := "list_iterator") (.inr (.inr (.inl rfl))) (wH (by first | exact hh | simpa using hh) s.heap.objs.size l hlt (x::r).toArray (by simp)).toS (λ i s' st=>st.1.typeIs) ⟨cf,cn⟩ ?_ (by simp) (λ s' acc mv it=>?_) (by rw[hz,sizeLine_eq];omega)))
  ·intro b hb;simp only [aaz,abp,or_false] at hb;rcases hb with rfl | rfl
   ·obtain⟨o,ho,_⟩:=cf;exact aal ho
   ·obtain⟨o,ho,_⟩:=cn;exact aal ho
  ·have ea:acc.toList=r:=by
    apply List.ext_getElem?;intro j;rw[Array.getElem?_toList];have h1:acc.size=r.length:=by rw[it.1,hz]
    by_cases hj:j < r.length
    ·have e1:=it.2 j acc[j] (by simp [h1,hj]);simp at e1;rw[Array.getElem?_eq_getElem (by omega)];exact e1.symm
    ·rw[Array.getElem?_eq_none (by omega),List.getElem?_eq_none (by omega)]
   rw[ea];rw[if_neg (by simp)];have e0:(2 - 1 - 1:Nat)=0:=rfl;simp only [Nat.sub_self,Nat.sub_zero,List.take_length,List.drop_length];refine aac (wpAny_newList (aav ?_) (by rw[sizeLine_eq];omega));refine hQ s' (λ b o e=>?_) mv.gens mv.drawn mv.os;have hb:b≠s.heap.objs.size:=abi (aal e);exact mv.heap b o (by simp [hb]) (hk1 b o hb e)
def GN (K:aaa) (t:yZ):TG:=λ v σ H Q=>∃ a x xs,v=.ref a/\bO K H a (x::xs)/\xs.length<=1000000/\∀ p,H p=none->t [x,.ref p] σ (upd H p (.lst xs)) Q
theorem EK {es:List Expr}{k:Nat}{pos:Pos}{t:yZ} (hc:X.calm=true) (h:DS X es t) (hn:(assignEach es X.env).length=2:=by with_unfolding_all rfl) (hst:(assignEach es X.env).findIdx? (·.1)=some 1:=by with_unfolding_all rfl):PG X (.Tuple es k pos) (GN X.K t):=by
 intro pins s σ H v u Q I r hw;obtain⟨a,x,xs,e1,hq,hl,hw⟩:=hw;subst e1;cases r;obtain⟨its,rv,ht,hz⟩:=I.list hq;cases rv with
 | @cons _ u _ us ru rr=>
  have hlen:=rr.length;rw[assign_Tuple];refine aac (wpAny_standAt ?_);unfold unpack;rw[hn,hst];refine aac (abv (wN (I.ok.hd hc) ht.isList (by omega) λ s' hk hg hd ho=>?_));have e:s'={ s with heap:=s'.heap,toks:=s'.toks }:=by cases s';cases s;cases hg;cases hd;cases ho;rfl
  have I1:Inv X pins σ H s':=by rw[e];exact I.kept hk
  exact h pins _ σ _ _ _ Q (I1.lnew (t':=s'.toks) rr (by rw[sizeLine_eq];omega)) (.cons ru (.cons (show bF (.ref _) _ from rfl) .nil)) (hw _ I1.fresh)
end
section
variable {X:Cx}
theorem d0 (hK:X.K=K):DM X "str.join" (B7 K):=by subst hK;exact BV
theorem BD {es:List Expr}{k:Nat}{pos:Pos}{t:yZ} (hK:X.K=K) (hc:X.calm=true) (h:DS X es t) (hn:(assignEach es X.env).length=2:=by with_unfolding_all rfl) (hst:(assignEach es X.env).findIdx? (·.1)=some 1:=by with_unfolding_all rfl):PG X (.Tuple es k pos) (GN K t):=by subst hK;exact EK hc h hn hst
theorem dC {o e:Expr}{es:List Expr}{to:TE}{t:TA}{name:Str}{apos cpos:Pos}{id:String}{r:V->List V->Hp->VK->Prop} (hK:X.K=K)
  (slot:Slot "str" name id) (hty:typeOf (.builtin id)=pure (.type "method_descriptor")) (hm:DM X id r) (ho:PE X o to) (ha:PA X (e::es) t)
  (hbase:attributeBase o name X.env (eval o X.env)=eval o X.env:=by with_unfolding_all rfl)
  (hfew:((backTo cpos (starEach (e::es) X.env)).all (λ x=>!x.1) && (backToKw cpos (keywordEach [] X.env)).all (λ x=>x.1.isSome)
   && decide ((e::es).length+([]:List Keyword).length+(if ([]:List Keyword).isEmpty then 0 else 1) < 30))=true:=by with_unfolding_all rfl)
  (hline:(apos.endLine == cpos.line)=true:=by with_unfolding_all rfl) (hs:starEach (e::es) X.env=(false,eval e X.env)::starEach es X.env:=by with_unfolding_all rfl) (hplain:(backTo cpos (starEach es X.env)).any (·.1)=false:=by with_unfolding_all rfl) :
  PE X (.Call (.Attribute o name apos) (e::es) [] cpos) (tBM K "str" r to t):=by subst hK;exact GK F.plainAttrs_str slot hty hm ho ha hbase hfew hline hs hplain
theorem ID {o:Expr}{to:TE}{name:Str}{apos cpos:Pos}{id:String}{r:V->List V->Hp->VK->Prop} (hK:X.K=K)
  (slot:Slot "str" name id) (hty:typeOf (.builtin id)=pure (.type "method_descriptor")) (hm:DM X id r) (ho:PE X o to)
  (hbase:attributeBase o name X.env (eval o X.env)=eval o X.env:=by with_unfolding_all rfl) (hline:(apos.endLine == cpos.line)=true:=by with_unfolding_all rfl):PE X (.Call (.Attribute o name apos) [] [] cpos) (K6 K "str" r to):=by subst hK;exact IE F.plainAttrs_str slot hty hm ho hbase hline
end
end L2
namespace Tw
open PySem L2
abbrev one (c:Nat):Str:=⟨#[c]⟩
abbrev sg (x:Str):List Nat:=x.cps.toList
theorem iQ {a b:Str} (h:sg a=sg b):a=b:=Str.ext' (Array.toList_inj.mp h)
theorem eS (a b:Str):sg (a++b)=sg a++sg b:=by show (a.cps++b.cps).toList=_;simp
theorem fG (a:Str):(sg a).length=a.length:=by simp [sg,Str.length]
theorem eR (c:Nat) (x y:Str) (r:List Str):sg (Str.join (one c) (x::y::r))=sg x++c::sg (Str.join (one c) (y::r)):=by
 show sg (x++one c++Str.join (one c) (y::r))=_;rw[eS,eS,acn];rfl
theorem yX {c:Nat}:∀ {x x' t t':List Nat},c∉x->c∉x'->x++c::t=x'++c::t'->x=x'/\t=t'
 | [],[],_,_,_,_,e=>⟨rfl,(List.cons.inj e).2⟩
 | [],y::_,_,_,_,h,e=>absurd (by rw[(List.cons.inj e).1];simp) h
 | y::_,[],_,_,h,_,e=>absurd (by rw[<- (List.cons.inj e).1];simp) h
 | y::x,y'::x',_,_,h,h',e=>by
  obtain⟨a,b⟩:=yX (λ z=>h (aam _ z)) (λ z=>h' (aam _ z)) (List.cons.inj e).2;exact⟨by rw[(List.cons.inj e).1,a],b⟩
theorem vT (c:Nat):∀ (l m:List Str),l≠[]->m≠[]->(∀ a∈l,c∉sg a)->(∀ a∈m,c∉sg a)->Str.join (one c) l=Str.join (one c) m->l=m
 | [],_,h,_,_,_,_=>absurd rfl h
 | _,[],_,h,_,_,_=>absurd rfl h
 | [x],[y],_,_,_,_,e=>by rw[show x=y from e]
 | [x],y::z::r,_,_,h1,_,e=>by
  have e1:sg x=sg (Str.join (one c) (y::z::r)):=congrArg sg (show x=_ from e);rw[eR] at e1;exact absurd (e1 ▸ (by simp:c∈sg y++c::sg (Str.join (one c) (z::r)))) (h1 x (by simp))
 | y::z::r,[x],_,_,_,h1,e=>by
  have e1:sg (Str.join (one c) (y::z::r))=sg x:=congrArg sg (show _=x from e);rw[eR] at e1;exact absurd (e1 ▸ (by simp:c∈sg y++c::sg (Str.join (one c) (z::r)))) (h1 x (by simp))
 | x::y::r,x'::y'::r',_,_,h1,h2,e=>by
  have e1:=congrArg sg e;rw[eR,eR] at e1;obtain⟨a,b⟩:=yX (h1 x (by simp)) (h2 x' (by simp)) e1;have ih:=vT c (y::r) (y'::r') (by simp) (by simp) (λ a ha=>h1 a (aam _ ha)) (λ a ha=>h2 a (aam _ ha)) (iQ b);rw[iQ a,ih]
theorem dR {c:Nat}{l:List Str} (hl:l≠[]) (hf:∀ a∈l,c∉sg a):Txt.split (Str.join (one c) l) (one c)=l:=by
 have h:=StrLaws.join_split (Str.join (one c) l) (one c);have hf2:=StrLaws.split_free (Str.join (one c) l) c;refine vT c _ _ (λ z=>?_) hl hf2 hf h;unfold Txt.split at z
 split at z
 ·cases z
 ·split at z
  ·cases z
  ·rw[StrLaws.partsBetween_eq] at z;obtain⟨p,r,e⟩:=StrLaws.partsFrom_ne (Str.join (one c) l) (one c).length 0 (Builtin.Str.occurrences (Str.join (one c) l) (one c) 0 (Str.join (one c) l).length ((Str.join (one c) l).length+1));rw[e] at z;cases z
theorem oE {c:Nat}{a b:Str} (hf:c∉sg a):Txt.partition (a++one c++b) (one c)=(a,one c,b):=by
 have ex:sg (a++one c++b)=sg a++c::sg b:=by rw[eS,eS,acn];rfl
 rcases PyProof.Rows.partition_whole (a++one c++b) (one c) with ⟨_,hn⟩ | ⟨i,hp,hi,hk⟩
 ·exfalso;obtain⟨i,h⟩:=(PyProof.Rows.mem_iff_at (a++one c++b) c).mp (by show c∈sg _;rw[ex];simp);exact hn i h
 ·have hi':=(StrLaws.subAt_one _ c i).mp hi;have hi2:(sg a++c::sg b)[i]? = some c:=by rw[<- ex];exact hi'
  have hil:i=(sg a).length:=by
   rcases Nat.lt_trichotomy i (sg a).length with h | h | h
   ·rw[acg h] at hi2;exact absurd (aad hi2) hf
   ·exact h
   ·exfalso;refine hk _ h ((StrLaws.subAt_one _ c _).mpr ?_);show (sg (a++one c++b))[(sg a).length]? = some c;rw[ex,acf (aag _)];simp
  rw[hp];have e1:Builtin.Str.strSub (a++one c++b) 0 i=a:=iQ (by show (Builtin.Str.strSub _ _ _).cps.toList=_;rw[StrLaws.strSub_toList,show (a++one c++b).cps.toList=_ from ex,hil];simp);have e2:Builtin.Str.strSub (a++one c++b) (i+(one c).length) (a++one c++b).length=b:=iQ (by
   show (Builtin.Str.strSub _ _ _).cps.toList=_;rw[StrLaws.strSub_toList];show List.take _ (List.drop ((i+1)) (sg (a++one c++b)))=sg b;have el:=congrArg List.length ex;rw[fG,aao,abb] at el;have ed:List.drop ((sg a).length+1) (sg a++c::sg b)=sg b:=by
    rw[List.drop_append,List.drop_of_length_le (by omega),List.nil_append,show (sg a).length+1 - (sg a).length=1 by omega];rfl
   rw[ex,hil,ed,el];exact aar (by show (sg b).length<=(sg a).length+((sg b).length+1) - ((sg a).length+1);omega))
  rw[e1,e2]
theorem eM {n:Int} (h0:0<=n):∀ c∈sg (aV n),48<=c/\c<=57:=by
 obtain⟨m,rfl⟩:=Int.eq_ofNat_of_zero_le h0;intro c hc;have hc:c∈(Str.ofString (toString ((m:Nat):Int))).cps.toList:=hc;rw[PySem.W.KIN.signs_num] at hc;obtain⟨ch,hch,e⟩:=aay.mp hc;have r:=PyProof.Rows.digit_range (Nat.isDigit_of_mem_toDigits (by decide) (by decide) hch);rw[<- e];exact r
theorem BO {n:Int} (h0:0<=n):sg (aV n)≠[]:=by
 obtain⟨m,rfl⟩:=Int.eq_ofNat_of_zero_le h0;show (Str.ofString (toString ((m:Nat):Int))).cps.toList≠[];rw[PySem.W.KIN.signs_num];intro e;have h:=toDigits_len_ge 10 m;rw[List.map_eq_nil_iff.mp e] at h;exact absurd h (by decide)
theorem eJ {n:Int} (h0:0<=n) (h:n < 10 ^ 9):(aV n).length<=9:=PyProof.Rows.toString_length_le h0 (by decide) h
theorem EY {n:Int} (h0:0<=n):Txt.isdecimal (aV n)=true:=by
 have h1:=BO h0;have h2:=eM h0;show (decide ((aV n).length > 0) && (aV n).cps.all Unicode.isDecimal)=true;rw[Bool.and_eq_true];refine⟨aaw ?_,?_⟩
 ·rw[<- fG];exact List.length_pos_iff.mpr h1
 ·rw[Array.all_eq_true'];intro x hx;have:=h2 x (by simpa using hx);exact (by decide +kernel:∀ c,c < 58->48<=c->Unicode.isDecimal c=true) x (by omega) (by omega)
def bT:Option Int->Str
 | none => "ground"
 | some i=>aV i
def gN (o:Option Int×Int):Str:=bT o.1++one 42++aV o.2
def cK (os:List (Option Int×Int)):Str:=Str.join (one 44) (os.map gN)
def eZ (a:Str×Int):Str:=a.1++one 46++aV a.2
def dA (as:List (Str×Int)):Str:=if as=[] then "-" else Str.join (one 44) (as.map eZ)
def d9 (b:Bool):Str:=if b then "holds" else "loses"
def fN (b:Bool):Str:=if b then "open" else "shut"
def jY (v:Vs):List Str:=[aV v.size,aV v.brim,cK v.outs,d9 v.holds,bT v.spill,dA v.acts]
def dW (v:Vs):Str:=Str.join (one 32) ("vessel" :: jY v)
def lO (s:oO):List Str:=[aV s.1,aV s.2.1,fN s.2.2]
def eP (s:oO):Str:=Str.join (one 32) ("spout" :: lO s)
def fE (n:Net):Str:=Str.join (one 10) (n.vs.map dW++n.sps.map eP)
def cP (w:Str):Option Int:=if Txt.isdecimal w=true/\w.length<=9 then (match PySem.intText? w with
 | some n=>if aV n=w then some n else none
 | none=>none) else none
def m7 (w:Str):Option (Option Int):=if w = "ground" then some none else (cP w).map some
def j7 (w:Str):Option (Option Int×Int):=(m7 (Txt.partition w (one 42)).1).bind λ t=>(cP (Txt.partition w (one 42)).2.2).map λ p=>(t,p)
def m9 (w:Str):Option (Str×Int):=(cP (Txt.partition w (one 46)).2.2).map λ p=>((Txt.partition w (one 46)).1,p)
def dB {ae:Type} (f:Str->Option ae):List Str->Option (List ae)
 | []=>some []
 | w::ws=>(f w).bind λ a=>(dB f ws).map λ r=>a::r
def j8 (w:Str):Option (List (Str×Int)):=if w = "-" then some [] else dB m9 (Txt.split w (one 44))
def qX:List Str->Option Vs
 | [a,b,c,d,e,f]=>(dB j7 (Txt.split c (one 44))).bind λ os=>(cP a).bind λ z=>(cP b).bind λ m=>(m7 e).bind λ s=>(j8 f).map λ as=>⟨z,m,os,decide (d = "holds"),s,as⟩
 | _=>none
def uV:List Str->Option oO
 | [a,b,c]=>(cP a).bind λ t=>(cP b).map λ f=>(t,f,decide (c = "open"))
 | _=>none
def hV (x:Str):Option (Vs ⊕ oO):=match Txt.split x (one 32) with
 | []=>none
 | w::r=>if w = "vessel" /\ r.length=6 then (qX r).map Sum.inl else if w = "spout" /\ r.length=3 then (uV r).map Sum.inr else none
def fL (l:List (Vs ⊕ oO)):List Vs:=l.filterMap λ x=>x.getLeft?
def eB (l:List (Vs ⊕ oO)):List oO:=l.filterMap λ x=>x.getRight?
def m8 (x:Str):Option Net:=(dB hV (Txt.split x (one 10))).map λ l=>⟨fL l,eB l⟩
theorem n8 {ae:Type}{f:Str->Option ae}{g:ae->Str}:∀ {l:List ae},(∀ a∈l,f (g a)=some a)->dB f (l.map g)=some l
 | [],_=>rfl
 | a::l,h=>by
  rw[aaq,dB,h a abr,n8 λ b hb=>h b (aam _ hb)];rfl
theorem eV {n:Int} (h0:0<=n) (h1:n < 10 ^ 9):cP (aV n)=some n:=by
 unfold cP;rw[if_pos ⟨EY h0,eJ h0 h1⟩,show PySem.intText? (aV n)=some n from PySem.W.KIN.num_reads h0 (by omega)];exact if_pos rfl
theorem vF {n:Int} (h0:0<=n) {w:Str} (hw:∃ c∈sg w,57 < c\/c < 48):aV n≠w:=by
 intro e;obtain⟨c,hc,h⟩:=hw;have:=eM h0 c (by rw[e];exact hc);omega
def qI (t:Option Int):Prop:=∀ i,t=some i->0<=i/\i < 10 ^ 9
theorem oZ {t:Option Int} (h:qI t):m7 (bT t)=some t:=by
 cases t with
 | none=>rfl
 | some i=>
  obtain⟨h0,h1⟩:=h i rfl;show (if aV i = "ground" then some none else (cP (aV i)).map some)=_;rw[if_neg (vF h0 (w := "ground") ⟨103,by decide +kernel,.inl (by decide)⟩),eV h0 h1];rfl
def NB (x:Str):Prop:=∀ c∈sg x,33<=c
def NC (x:Str):Prop:=∀ c∈sg x,33<=c/\c≠44
theorem lC {n:Int} (h0:0<=n):NC (aV n):=λ c hc=>by have:=eM h0 c hc;omega
theorem tM {a b:Str} (ha:NC a) (hb:NC b):NC (a++b):=λ c hc=>by
 rw[eS] at hc;rcases aba.mp hc with h | h
 ·exact ha c h
 ·exact hb c h
theorem BS {c:Nat} (h:33<=c/\c≠44):NC (one c):=λ d hd=>by
 have:d=c:=(by simpa [sg,one] using hd);rw[this];exact h
theorem yI {t:Option Int} (h:qI t):NC (bT t):=by
 cases t with
 | none=>exact (by decide +kernel:∀ c∈sg (Str.ofString "ground"),33<=c/\c≠44)
 | some i=>exact lC (h i rfl).1
theorem tO:∀ {l:List Str},(∀ a∈l,NC a)->NB (Str.join (one 44) l)
 | [],_=>λ c hc=>absurd hc (by simp [sg,Str.join,Str.empty])
 | [x],h=>λ c hc=>(h x (by simp) c hc).1
 | x::y::r,h=>λ c hc=>by
  rw[eR] at hc;rcases aba.mp hc with h1 | h1
  ·exact (h x (by simp) c h1).1
  ·rcases aaz.mp h1 with rfl | h1
   ·decide
   ·exact tO (l:=y::r) (λ a ha=>h a (aam _ ha)) c h1
structure OutIn (o:Option Int×Int):Prop where
 tg:qI o.1
 lo:0<=o.2
 hi:o.2 < 10 ^ 9
structure ActIn (a:Str×Int):Prop where
 w:a.1 = "open" \/ a.1 = "shut" \/ a.1 = "turn"
 lo:0<=a.2
 hi:a.2 < 10 ^ 9
theorem ActIn.sg {a:Str×Int} (h:ActIn a):∀ c∈Tw.sg a.1,97<=c/\c<=122:=by
 rcases h.w with e | e | e <;> rw[e] <;> decide +kernel
theorem BR {o:Option Int×Int} (h:OutIn o):NC (gN o):=tM (tM (yI h.tg) (BS (by decide))) (lC h.lo)
theorem xC {a:Str×Int} (h:ActIn a):NC (eZ a):=tM (tM (λ c hc=>by have:=h.sg c hc;omega) (BS (by decide))) (lC h.lo)
theorem zL {o:Option Int×Int} (h:OutIn o):j7 (gN o)=some o:=by
 unfold j7 gN;rw[oE (λ z=>?_)]
 ·show (m7 (bT o.1)).bind _=_;rw[oZ h.tg];show (cP (aV o.2)).map _=_;rw[eV h.lo h.hi];rfl
 ·cases e:o.1 with
  | none=>rw[e] at z;exact absurd z (by decide +kernel)
  | some i=>rw[e] at z;have:=eM (h.tg i e).1 42 z;omega
theorem zN {a:Str×Int} (h:ActIn a):m9 (eZ a)=some a:=by
 unfold m9 eZ;rw[oE (λ z=>by have:=h.sg _ z;omega)];show (cP (aV a.2)).map _=_;rw[eV h.lo h.hi];rfl
theorem oT {os:List (Option Int×Int)} (hn:os≠[]) (h:∀ o∈os,OutIn o):Txt.split (cK os) (one 44)=os.map gN:=
 dR (by simpa using hn) λ a ha=>by
  obtain⟨o,ho,rfl⟩:=aay.mp ha;exact λ z=>(BR (h o ho) 44 z).2 rfl
theorem wC {as:List (Str×Int)} (hn:as≠[]):dA as ≠ "-" := by
 unfold dA;rw[if_neg hn];obtain⟨a,r,rfl⟩:=List.exists_cons_of_ne_nil hn;intro e;have e1:=congrArg sg e;have h46:46∈sg (Str.join (one 44) ((a::r).map eZ)):=by
  have hm:46∈sg (eZ a):=by unfold eZ;rw[eS,eS];simp [sg,one]
  cases r with
  | nil=>exact hm
  | cons b r=>rw[aaq,aaq,eR];exact abq _ hm
 rw[e1] at h46;exact absurd h46 (by decide +kernel)
theorem uX {as:List (Str×Int)} (h:∀ a∈as,ActIn a):j8 (dA as)=some as:=by
 by_cases hn:as=[]
 ·subst hn;rfl
 ·unfold j8;rw[if_neg (wC hn)];unfold dA;rw[if_neg hn,dR (by simpa using hn) (λ a ha=>by
   obtain⟨o,ho,rfl⟩:=aay.mp ha;exact λ z=>(xC (h o ho) 44 z).2 rfl)]
  exact n8 λ a ha=>zN (h a ha)
structure VsIn (v:Vs):Prop where
 s0:0<=v.size
 s1:v.size < 10 ^ 9
 b0:0<=v.brim
 b1:v.brim < 10 ^ 9
 on:v.outs≠[]
 os:∀ o∈v.outs,OutIn o
 sp:qI v.spill
 as:∀ a∈v.acts,ActIn a
 o3:v.outs.length<=3
 a3:v.acts.length<=3
theorem rE (b:Bool):decide (d9 b = "holds")=b:=by cases b <;> decide +kernel
theorem rF (b:Bool):decide (fN b = "open")=b:=by cases b <;> decide +kernel
theorem zK {v:Vs} (h:VsIn v):qX (jY v)=some v:=by
 show (dB j7 (Txt.split (cK v.outs) (one 44))).bind (λ os=>(cP (aV v.size)).bind λ z=>(cP (aV v.brim)).bind λ m=>(m7 (bT v.spill)).bind λ s=>(j8 (dA v.acts)).map λ as=>(⟨z,m,os,decide (d9 v.holds = "holds"),s,as⟩:Vs))=_;rw[oT h.on h.os,n8 (λ o ho=>zL (h.os o ho)),eV h.s0 h.s1,eV h.b0 h.b1,oZ h.sp,uX h.as];simp only [Option.bind_some,Option.map_some,rE]
theorem FC {as:List (Str×Int)} (h:∀ a∈as,ActIn a):NB (dA as):=by
 unfold dA
 split
 ·exact (by decide +kernel:∀ c∈sg (Str.ofString "-"),33<=c)
 ·exact tO λ a ha=>by obtain⟨o,ho,rfl⟩:=aay.mp ha;exact xC (h o ho)
theorem FA {os:List (Option Int×Int)} (h:∀ o∈os,OutIn o):NB (cK os):=tO λ a ha=>by obtain⟨o,ho,rfl⟩:=aay.mp ha;exact BR (h o ho)
theorem NC.nb {x:Str} (h:NC x):NB x:=λ c hc=>(h c hc).1
theorem xD {v:Vs} (h:VsIn v):∀ w∈("vessel" : Str)::jY v,NB w:=by
 intro w hw;simp only [jY,aaz,abp,or_false] at hw;rcases hw with rfl | rfl | rfl | rfl | rfl | rfl | rfl
 ·exact (by decide +kernel:∀ c∈sg (Str.ofString "vessel"),33<=c)
 ·exact (lC h.s0).nb
 ·exact (lC h.b0).nb
 ·exact FA h.os
 ·cases v.holds
  ·exact (by decide +kernel:∀ c∈sg (Str.ofString "loses"),33<=c)
  ·exact (by decide +kernel:∀ c∈sg (Str.ofString "holds"),33<=c)
 ·exact (yI h.sp).nb
 ·exact FC h.as
structure SptIn (s:oO):Prop where
 t0:0<=s.1
 t1:s.1 < 10 ^ 9
 f0:0<=s.2.1
 f1:s.2.1 < 10 ^ 9
theorem xE {s:oO} (h:SptIn s):∀ w∈("spout" : Str)::lO s,NB w:=by
 intro w hw;simp only [lO,aaz,abp,or_false] at hw;rcases hw with rfl | rfl | rfl | rfl
 ·exact (by decide +kernel:∀ c∈sg (Str.ofString "spout"),33<=c)
 ·exact (lC h.t0).nb
 ·exact (lC h.f0).nb
 ·cases s.2.2
  ·exact (by decide +kernel:∀ c∈sg (Str.ofString "shut"),33<=c)
  ·exact (by decide +kernel:∀ c∈sg (Str.ofString "open"),33<=c)
theorem wW {v:Vs} (h:VsIn v):hV (dW v)=some (.inl v):=by
 unfold hV dW;rw[dR (by simp) λ a ha z=>by have:=xD h a ha 32 z;omega];refine (if_pos (show ("vessel" : Str) = "vessel" /\ (jY v).length=6 from ⟨rfl,rfl⟩)).trans ?_;rw[zK h];rfl
theorem wX {s:oO} (h:SptIn s):hV (eP s)=some (.inr s):=by
 unfold hV eP;rw[dR (by simp) λ a ha z=>by have:=xE h a ha 32 z;omega];refine (if_neg (show ¬ (("spout" : Str) = "vessel" /\ (lO s).length=6) from λ z=>absurd (show (3:Nat)=6 from z.2) (by decide))).trans ?_;refine (if_pos (show ("spout" : Str) = "spout" /\ (lO s).length=3 from ⟨rfl,rfl⟩)).trans ?_;show ((cP (aV s.1)).bind λ t=>(cP (aV s.2.1)).map λ f=>((t,f,decide (fN s.2.2 = "open")):oO)).map Sum.inr=_;rw[eV h.t0 h.t1,eV h.f0 h.f1];simp only [Option.bind_some,Option.map_some,rF]
theorem yG {l:List Str} (h:∀ a∈l,NB a):∀ c∈sg (Str.join (one 32) l),32<=c:=by
 induction l with
 | nil=>intro c hc;exact absurd hc (by simp [sg,Str.join,Str.empty])
 | cons x r ih=>
  cases r with
  | nil=>intro c hc;have:=h x (by simp) c hc;omega
  | cons y r=>
   intro c hc;rw[eR] at hc;rcases aba.mp hc with h1 | h1
   ·have:=h x (by simp) c h1;omega
   ·rcases aaz.mp h1 with rfl | h1
    ·decide
    ·exact ih (λ a ha=>h a (aam _ ha)) c h1
theorem n9 {ae:Type}{f:Str->Option ae}:∀ {l m:List Str}{a b:List ae},dB f l=some a->dB f m=some b->dB f (l++m)=some (a++b)
 | [],m,a,b,h1,h2=>by cases h1;exact h2
 | x::l,m,a,b,h1,h2=>by
  rw[dB] at h1;cases e:f x with
  | none=>rw[e] at h1;cases h1
  | some y=>
   rw[e] at h1;cases e2:dB f l with
   | none=>rw[e2] at h1;cases h1
   | some r=>
    rw[e2] at h1;cases h1;rw[List.cons_append,dB,e,n9 e2 h2];rfl
theorem kY {ae cu:Type}{f:Str->Option cu}{g:ae->Str}{k:ae->cu}:∀ {l:List ae},(∀ a∈l,f (g a)=some (k a))->dB f (l.map g)=some (l.map k)
 | [],_=>rfl
 | a::l,h=>by
  rw[aaq,dB,h a abr,kY λ b hb=>h b (aam _ hb)];rfl
theorem gU (a b):fL (a++b)=fL a++fL b:=List.filterMap_append ..
theorem fZ (a b):eB (a++b)=eB a++eB b:=List.filterMap_append ..
theorem FL (l:List Vs):fL (l.map Sum.inl)=l:=by unfold fL;induction l with | nil=>rfl | cons a l ih=>rw[aaq,List.filterMap_cons];simp [ih]
theorem FK (l:List oO):fL (l.map Sum.inr)=[]:=by unfold fL;induction l with | nil=>rfl | cons a l ih=>rw[aaq,List.filterMap_cons];simp [ih]
theorem AZ (l:List Vs):eB (l.map Sum.inl)=[]:=by unfold eB;induction l with | nil=>rfl | cons a l ih=>rw[aaq,List.filterMap_cons];simp [ih]
theorem AY (l:List oO):eB (l.map Sum.inr)=l:=by unfold eB;induction l with | nil=>rfl | cons a l ih=>rw[aaq,List.filterMap_cons];simp [ih]
structure NetIn (n:Net):Prop where
 ne:n.vs≠[]
 vs:∀ v∈n.vs,VsIn v
 sps:∀ s∈n.sps,SptIn s
 v12:n.vs.length<=12
 s12:n.sps.length<=12
theorem qT {n:Net} (h:NetIn n):Txt.split (fE n) (one 10)=n.vs.map dW++n.sps.map eP:=
 dR (λ z=>h.ne (List.map_eq_nil_iff.mp (List.append_eq_nil_iff.mp z).1)) λ a ha z=>by
  rcases aba.mp ha with ha | ha
  ·obtain⟨v,hv,rfl⟩:=aay.mp ha;have:=yG (xD (h.vs v hv)) 10 z;omega
  ·obtain⟨v,hv,rfl⟩:=aay.mp ha;have:=yG (xE (h.sps v hv)) 10 z;omega
theorem zM {n:Net} (h:NetIn n):m8 (fE n)=some n:=by
 unfold m8;rw[qT h,n9 (kY (k:=Sum.inl) λ v hv=>wW (h.vs v hv)) (kY (k:=Sum.inr) λ s hs=>wX (h.sps s hs))];show some (Net.mk _ _)=_;rw[gU,fZ,FL,FK,AZ,AY,acb,List.nil_append]
theorem o8 {B:Nat}:∀ {l:List Str},(∀ a∈l,a.length<=B)->(l.map (·.length)).sum<=l.length * B
 | [],_=>by simp
 | a::l,h=>by
  have h1:=h a abr;have h2:=o8 λ b hb=>h b (aam _ hb);rw[aaq,List.sum_cons,abb,Nat.succ_mul];omega
theorem jG {B:Nat}{c:Nat}{l:List Str} (h:∀ a∈l,a.length<=B):(Str.join (one c) l).length<=l.length * B+l.length:=by
 have h1:=StrLaws.join_length_le (one c) l;have h2:=o8 h;have:(one c).length=1:=rfl;rw[this] at h1;omega
theorem gI {B:Nat}{sep:Str}{l:List Str} (h:∀ a∈l,a.length<=B) (h1:sep.length<=1) (h2:l.length * B+l.length<=1000000):JoinOk sep l=true:=by
 have h3:=o8 h;have h4:l.length * sep.length<=l.length * 1:=Nat.mul_le_mul_left _ h1;exact PyProof.Rows.joinOk_of (by omega)
theorem mJ {t:Option Int} (h:qI t):(bT t).length<=9:=by
 cases t with
 | none=>decide
 | some i=>exact eJ (h i rfl).1 (h i rfl).2
theorem tS {o:Option Int×Int} (h:OutIn o):(gN o).length<=19:=by
 have h1:=mJ h.tg;have h2:=eJ h.lo h.hi;have h3:(one 42).length=1:=rfl;unfold gN;rw[Str.length_append,Str.length_append];omega
theorem CA {a:Str×Int} (h:ActIn a):a.1.length=4:=by
 rcases h.w with e | e | e <;> rw[e] <;> rfl
theorem tT {a:Str×Int} (h:ActIn a):(eZ a).length<=19:=by
 have h1:=CA h;have h2:=eJ h.lo h.hi;have h3:(one 46).length=1:=rfl;unfold eZ;rw[Str.length_append,Str.length_append];omega
theorem vO {os:List (Option Int×Int)} (h:∀ o∈os,OutIn o) (h3:os.length<=3):(cK os).length<=60:=by
 have:=jG (c:=44) (l:=os.map gN) (B:=19) λ a ha=>by obtain⟨o,ho,rfl⟩:=aay.mp ha;exact tS (h o ho)
 rw[aab] at this;unfold cK;omega
theorem vR {as:List (Str×Int)} (h:∀ a∈as,ActIn a) (h3:as.length<=3):(dA as).length<=60:=by
 unfold dA
 split
 ·decide
 ·have:=jG (c:=44) (l:=as.map eZ) (B:=19) λ a ha=>by obtain⟨o,ho,rfl⟩:=aay.mp ha;exact tT (h o ho)
  rw[aab] at this;omega
theorem vP (b:Bool):(d9 b).length=5:=by cases b <;> rfl
theorem vQ (b:Bool):(fN b).length=4:=by cases b <;> rfl
theorem vM {v:Vs} (h:VsIn v):∀ w∈("vessel" : Str)::jY v,w.length<=60:=by
 intro w hw;simp only [jY,aaz,abp,or_false] at hw;rcases hw with rfl | rfl | rfl | rfl | rfl | rfl | rfl
 ·decide
 ·have:=eJ h.s0 h.s1;omega
 ·have:=eJ h.b0 h.b1;omega
 ·exact vO h.os h.o3
 ·rw[vP];decide
 ·have:=mJ h.sp;omega
 ·exact vR h.as h.a3
theorem FH {v:Vs} (h:VsIn v):(dW v).length<=500:=by
 have:=jG (c:=32) (vM h);have e:(("vessel" : Str)::jY v).length=7:=rfl;rw[e] at this;unfold dW;omega
theorem vN {s:oO} (h:SptIn s):∀ w∈("spout" : Str)::lO s,w.length<=60:=by
 intro w hw;simp only [lO,aaz,abp,or_false] at hw;rcases hw with rfl | rfl | rfl | rfl
 ·decide
 ·have:=eJ h.t0 h.t1;omega
 ·have:=eJ h.f0 h.f1;omega
 ·rw[vQ];decide
theorem FI {s:oO} (h:SptIn s):(eP s).length<=500:=by
 have:=jG (c:=32) (vN h);have e:(("spout" : Str)::lO s).length=4:=rfl;rw[e] at this;unfold eP;omega
theorem nF {n:Net} (h:NetIn n):∀ a∈n.vs.map dW++n.sps.map eP,a.length<=500:=λ a ha=>by
 rcases aba.mp ha with ha | ha
 ·obtain⟨v,hv,rfl⟩:=aay.mp ha;exact FH (h.vs v hv)
 ·obtain⟨v,hv,rfl⟩:=aay.mp ha;exact FI (h.sps v hv)
theorem FJ {n:Net} (h:NetIn n):(fE n).length<=20000:=by
 have:=jG (c:=10) (nF h);rw[aao,aab,aab] at this;have h1:=h.v12;have h2:=h.s12;unfold fE;omega
def eA (x:Str):Prop:=∀ c∈sg x,c < 128
theorem vU {w:Str} (ha:eA w) (h:Txt.isdecimal w=true):sg w≠[]/\∀ c∈sg w,48<=c/\c<=57:=by
 have h:(decide (w.length > 0) && w.cps.all Unicode.isDecimal)=true:=h;rw[Bool.and_eq_true] at h;refine⟨λ z=>?_,λ c hc=>?_⟩
 ·have:=aax h.1;rw[<- fG,z] at this;cases this
 ·have h2:=(Array.all_eq_true'.mp h.2) c (by simpa using hc);have h3:=ha c hc;have:∀ c,c < 128->Unicode.isDecimal c=true->48<=c/\c<=57:=by decide +kernel
  exact this c h3 h2
theorem yR:∀ (cs:List Nat) (a:Nat),(∀ c∈cs,48<=c/\c<=57)->cs.foldl (λ acc c=>acc * 10+(c - 48)) a < (a+1) * 10 ^ cs.length
 | [],a,_=>by simp
 | c::cs,a,h=>by
  have h1:=yR cs (a * 10+(c - 48)) λ d hd=>h d (aam _ hd);have h2:=h c abr;have h3:(a * 10+(c - 48)+1) * 10 ^ cs.length<=((a+1) * 10) * 10 ^ cs.length:=Nat.mul_le_mul_right _ (by omega);rw[List.foldl_cons,abb,Nat.pow_succ,Nat.mul_comm (10 ^ cs.length) 10,<- Nat.mul_assoc];omega
theorem AN (cs:List Nat) (h:∀ c∈cs,48<=c/\c<=57):NumText.digitsVal cs < 10 ^ cs.length:=by
 have:=yR cs 0 h;rw[Nat.zero_add,Nat.one_mul] at this;exact this
theorem nX {w:Str} (ha:eA w) (h:Txt.isdecimal w=true) (hl:w.length<=9):∃ n:Int,PySem.intText? w=some n/\0<=n/\n < 10 ^ 9:=by
 obtain⟨h1,h2⟩:=vU ha h;refine⟨_,intText_digits h2 h1 (by omega),by omega,?_⟩;have:=AN (sg w) h2;have h3:10 ^ (sg w).length<=10 ^ 9:=Nat.pow_le_pow_right (by decide) (by rw[fG];exact hl);show ((NumText.digitsVal (sg w):Nat):Int) < 10 ^ 9;omega
theorem B1 {w:Str} (ha:eA w) {n:Int} (h:cP w=some n):0<=n/\n < 10 ^ 9/\PySem.intText? w=some n/\w.length<=9:=by
 unfold cP at h
 split at h
 ·rename_i hc
  obtain⟨m,hm,h0,h1⟩:=nX ha hc.1 hc.2;rw[hm] at h;simp only at h
  split at h
  ·cases h;exact⟨h0,h1,hm,hc.2⟩
  ·cases h
 ·cases h
theorem uU (c:Nat):∀ {l:List Str}{p:Str},p∈l->∀ d∈sg p,d∈sg (Str.join (one c) l)
 | [],_,h=>nomatch h
 | [x],p,h=>by rw[abt.mp h];exact λ d hd=>hd
 | x::y::r,p,h=>λ d hd=>by
  rw[eR];rcases aaz.mp h with rfl | h
  ·exact abq _ hd
  ·exact abg _ (aam _ (uU c h d hd))
theorem dN {c:Nat}{x p:Str} (h:eA x) (hp:p∈Txt.split x (one c)):eA p:=λ d hd=>h d (by
 have e:=StrLaws.join_split x (one c);rw[<- e];exact uU c hp d hd)
theorem mR {c:Nat}{x:Str} (h:eA x):eA (Txt.partition x (one c)).1/\eA (Txt.partition x (one c)).2.2:=by
 have e:=StrLaws.partition_sum x (one c);constructor
 ·exact λ d hd=>h d (by rw[<- e,eS,eS];exact abq _ (abq _ hd))
 ·exact λ d hd=>h d (by rw[<- e,eS,eS];exact abg _ hd)
theorem mI {c:Nat}{x:Str}:(Txt.partition x (one c)).1.length<=x.length/\(Txt.partition x (one c)).2.2.length<=x.length:=⟨(PyProof.Rows.fact_partition x (one c)).1,(PyProof.Rows.fact_partition x (one c)).2.2⟩
theorem hW {ae:Type}{f:Str->Option ae}{w:Str}{a:ae}:∀ {l:List Str}{r:List ae},dB f l=some r->f w=some a->dB f (l++[w])=some (r++[a]):=λ h e=>n9 h (by rw[dB,e];rfl)
theorem hX {ae:Type}{f:Str->Option ae}{w:Str} (e:f w=none):∀ {l:List Str},w∈l->dB f l=none
 | [],h=>nomatch h
 | x::l,h=>by
  rw[dB];rcases aaz.mp h with rfl | h
  ·rw[e];rfl
  ·rw[hX e h];cases f x <;> rfl
theorem cL {ae:Type}{l:List ae}{i:Nat}{x:ae} (h:l[i]? = some x):l.take (i+1)=l.take i++[x]:=by rw[aby,h];rfl
theorem E8 {a b c d e f:Str}:qX [a,b,c,d,e,f]=(dB j7 (Txt.split c (one 44))).bind λ os=>(cP a).bind λ z=>(cP b).bind λ m=>(m7 e).bind λ s=>(j8 f).map λ as=>⟨z,m,os,decide (d = "holds"),s,as⟩:=rfl
theorem sM {a b c:Str}:uV [a,b,c]=(cP a).bind λ t=>(cP b).map λ f=>(t,f,decide (c = "open")):=rfl
theorem B0 {w:Str} (ha:eA w):(Txt.isdecimal w=false/\cP w=none)\/(Txt.isdecimal w=true/\¬ w.length<=9/\cP w=none)\/∃ n,Txt.isdecimal w=true/\w.length<=9/\PySem.intText? w=some n/\0<=n/\n < 10 ^ 9/\(cP w).isSome=decide (aV n=w):=by
 by_cases h1:Txt.isdecimal w=true
 ·by_cases h2:w.length<=9
  ·obtain⟨n,hn,h0,h9⟩:=nX ha h1 h2;refine .inr (.inr ⟨n,h1,h2,hn,h0,h9,?_⟩);unfold cP;rw[if_pos ⟨h1,h2⟩,hn]
   by_cases hw:aV n=w
   ·simp [hw]
   ·simp [hw]
  ·exact .inr (.inl ⟨h1,h2,if_neg λ z=>h2 z.2⟩)
 ·exact .inl ⟨by simpa using h1,if_neg λ z=>h1 z.1⟩
end Tw
namespace L2
open PySem PySem.Spec PyProof.Rows
open Builtin Builtin.Str
def HJ (x:Str):List V:=x.cps.toList.map λ c=>V.str ⟨#[c]⟩
def Itc (x:Str):It:=⟨λ i _=>i < x.cps.size,λ i H v H'=>H'=H/\∃ c,x.cps[i]? = some c/\v=.str ⟨#[c]⟩,λ i _=>x.cps.size<=i⟩
theorem JE {M:Model}{A:Around}{E:Value->Shared->Prop}{s:Shared}{tg:Expr}{it:Addr}{x:Str}{t:Tok}{Q:Unit->Shared->Prop} (hQ:Q () s):wpAny M A (letOwnedTupleGo tg (.ref it) (.str x t)) Q E s:=by
 unfold letOwnedTupleGo;cases tg <;> exact aav hQ
theorem AQ {P:Program}{w:World}{K:aaa}{tg:Expr} (it:Addr) (x:Str) (t:Tok):Turn P w K tg (Itc x) [it] it (λ i h=>h.IsStrIter it "str_ascii_iterator" x t i) where
 mem:=by simp
 obj:=λ i h st b hb=>by
  have e:b=it:=by simpa using hb
  subst e;obtain⟨o,e,c,d⟩:=st;exact⟨o,e,λ v z=>by rw[d] at z;cases z⟩
 keep:=λ i h h' st k=>by
  obtain⟨o,e,r⟩:=st;exact⟨o,k it (by simp) o e,r⟩
 item:=by
  intro X hP hw hK hc i pins s σ H E I hf st hg;subst hP hw hK;obtain⟨f0,f1,f2,f3,f4,f5⟩:=hf it (by simp);refine (Walks.strAscii (prog:=X.prog) (w:=X.w) (I.ok.hd hc) it x t).item i s _ _ hg st λ v h' tk hv st' kk=>?_;obtain⟨c,u,hx,rfl⟩:=hv;have I1:Inv X pins σ H { s with heap:=h',toks:=tk }:=I.turned (λ b o hb e=>kk b o (by simpa using hb) e) f0 f1 f3 f4 f5;exact⟨_,rfl,JE ⟨.str ⟨#[c]⟩,H,I1,⟨u,rfl⟩,⟨rfl,c,hx,rfl⟩,st',λ b hb=>(hf b hb).1⟩⟩
 done:=by
  intro X hP hw hK hc i pins s σ H E I hf st hg;subst hP hw hK;obtain⟨f0,f1,f2,f3,f4,f5⟩:=hf it (by simp);exact wpAny_pyNext_ascii_end (I.ok.hd hc) st (by have:x.cps.size<=i:=hg;simp;omega) λ h' eb=>⟨rfl,I.turned (t':=s.toks) (λ b o hb e=>eb b o hb e) f0 f1 f3 f4 f5⟩
 self:=λ _ _ _ _ _ st h=>wpAny_pyIter_striter_ascii st h
section
variable {X:Cx}{tg:Expr}
def LD (tl:TE):TI:=λ σ H R=>tl σ H λ v H1=>∃ x:Str,v=.str x/\x.cps.all (· < 128)=true/\R (Itc x) H1
theorem I0 {l:Expr}{tl:TE} (hl:PE X l tl):PI X tg l (LD tl):=by
 intro pins s σ H R I h;refine dF (hl pins s σ H _ I h) λ v s1 ⟨x,H1,I1,r1,q1⟩=>?_;obtain⟨x,e,ha,q⟩:=q1;subst e;obtain⟨t,rfl⟩:=r1;refine wpAny_pyIter_ascii ha ?_;refine⟨s1.heap.objs.size,[s1.heap.objs.size],_,_,H1,rfl,I1.kept (t':=s1.toks) λ b o e=>aah _ e,AQ _ x t,⟨_,aas _ rfl,rfl,rfl⟩,λ b hb=>?_,q⟩;have e:b=s1.heap.objs.size:=by simpa using hb
 subst e;exact I1.fpOk (aag _) (I1.hok.fresh (aag _))
theorem EH {K:aaa}{l:Expr}{tl:TE} (hK:X.K=K) (hl:PE X l tl):PI X tg l (LD tl):=I0 hl
theorem J0 {x:Str}{g:TG}{tc:TT}{te:TE}{fr:List (Option Nat)}{σ:St}{H1:Hp}{Q:Addr->Hp->Prop} (Pv:Addr->Nat->List V->St->Hp->Prop)
  (h0:∀ D,H1 D=none->Pv D 0 [] (A4 fr σ) (upd H1 D (.lst []))) (hstop:∀ D ys aa H',Pv D x.cps.size ys aa H'->Q D H')
  (hgo:∀ D i c ys aa H',x.cps[i]? = some c->Pv D i ys aa H'->g (.str ⟨#[c]⟩) aa H' λ af H3=>tc af H3 λ b H4=>
    if b=true then te af H4 λ y H5=>H5 D=some (.lst ys)/\ys.length < sizeLine/\Pv D (i+1) (ys++[y]) af (upd H5 D (.lst (ys++[y])))
    else Pv D (i+1) ys af H4):iD (Itc x) g tc te fr σ H1 Q:=by
 refine tU (n:=x.cps.size) Pv h0 (λ D ys aa H' p=>⟨aag _,hstop D ys aa H' p⟩) λ D i ys aa H' hi p=>⟨hi,λ v H2 y=>?_⟩;obtain⟨e,c,hc,rfl⟩:=y;subst e;exact hgo D i c ys aa _ hc p
def KI:List V->Hp->VK->Prop:=λ xs H Q=>∃ y:Str,xs=[.str y]/\y.length<=1000000/\∀ l,H l=none->Q (.ref l) (upd H l (.lst (HJ y)))
theorem AB (hc:X.calm=true):eN X (.type "list") KI:=by
 intro pins s σ H xs us Q I r h;obtain⟨y,rfl,hl,q⟩:=h;obtain⟨u,rfl,t,rfl⟩:=kI r;have hl':y.cps.size<=sizeLine:=by rw[sizeLine_eq];have:y.cps.size=y.length:=rfl;omega
 refine call_list_str (I.ok.hd hc) y t (λ h' tk acc c' hk hS hacc=>?_) (hn:=hl');have hv:bA (HJ y) acc.toList:=by
  have hlen:acc.size=y.cps.size:=hacc.1;have:∀ (l:List Value) (cs:List Nat),l.length=cs.length->(∀ (j:Nat) v,l[j]? = some v->∃ (c:Nat) (u:Tok),cs[j]? = some c/\v=Value.str ⟨#[c]⟩ u)->bA (cs.map λ c=>V.str ⟨#[c]⟩) l:=by
   intro l
   induction l with
   | nil=>intro cs h _;cases cs with
    | nil=>exact .nil
    | cons a b=>cases h
   | cons v l ih=>
    intro cs h k;cases cs with
    | nil=>cases h
    | cons c cs=>
     obtain⟨c',u,hc',rfl⟩:=k 0 v rfl;cases hc';exact .cons ⟨u,rfl⟩ (ih cs (by simpa using h) λ j v hj=>k (j+1) v (by simpa using hj))
  refine this acc.toList y.cps.toList (by simp [hlen]) λ j v hj=>?_;obtain⟨c,u,hc,rfl⟩:=hacc.2 j v (by simpa using hj);exact⟨c,u,by simpa using hc,rfl⟩
 refine⟨.ref _,_,I.laid (o:=.lst (HJ y)) (t':=tk) hk (aag _) ⟨?_,acc.toList,c',hv,by simpa using hS⟩,rfl,q _ I.fresh⟩;unfold HJ;rw[aab];simpa using hl'
def y4:V->List V->Hp->VK->Prop:=λ x vs H Q=>∃ (l:Addr) (xs:List V) (i:Int) (y:V),x=.ref l/\vs=[.int i,y]/\H l=some (.lst xs)/\0<=i/\i<=xs.length/\xs.length < 1000000/\Q .non (upd H l (.lst (xs.take i.toNat++y::xs.drop i.toNat)))
theorem uP {a:List V}{b:List Value} (h:bA a b):∀ k:Nat,bA (a.take k) (b.take k)/\bA (a.drop k) (b.drop k):=by
 induction h with
 | nil=>intro k;simp;exact .nil
 | cons r rr ih=>
  intro k;cases k with
  | zero=>exact⟨.nil,.cons r rr⟩
  | succ k=>exact⟨.cons r (ih k).1,(ih k).2⟩
theorem zU:JY X "list.insert" y4:=by
 intro pins s σ H x vs v us Q I rx rv h;obtain⟨l,xs,i,y,rfl,rfl,hH,h0,hk,hx,q⟩:=h;cases rx;obtain⟨u1,u2,rfl,r1,r2⟩:=rv.two;obtain⟨t,rfl⟩:=r1;obtain⟨z,its,n,r,hl,e⟩:=I.lstM hH;have hsz:its.toArray.size<=sizeLine:=by rw[aaf];omega
 have hfit:¬ (!Builtin.List.listFitsIndex i)=true:=by
  rw[fitsIndex_both (by omega) (by omega)];decide
 have M:=AutoSeq1.list_insert_list_int_val_1 l its.toArray n i t u2 hfit hsz;refine call_meets F.slot_list_insert ⟨_,e,rfl⟩ F.entry_list_insert (F.args_list_insert_3 _ _ _) M ⟨e,?_⟩;have rt:bA (xs.take i.toNat++y::xs.drop i.toNat) (its.take i.toNat++u2::its.drop i.toNat):=(uP r i.toNat).1.append (.cons r2 (uP r i.toNat).2);refine⟨.non,_,I.lset (its':=its.take i.toNat++u2::its.drop i.toNat) hH e ?_ rt ?_,rfl,q⟩
 ·have h1:¬ (i < 0):=by omega
  have h2:min i.toNat its.toArray.size=i.toNat:=by rw[aaf];omega
  have h3:its.length - i.toNat ≥ 0:=abk _;simp only [h1,if_false,h2];apply Array.toList_inj.mp;simp [aar]
 ·rw[aao,abb,abj,List.length_drop,sizeLine_eq];omega
def rInS:R2:=λ x y H Q=>∃ a b:Str,x=.str a/\y=.str b/\Q (.bl (Txt.contains b a)) H
theorem IJ:gG X (compareOp .In) rInS:=by
 intro pins s σ H x y v u Q I rx ry h;obtain⟨a,b,rfl,rfl,q⟩:=h;obtain⟨t,rfl⟩:=rx;obtain⟨t',rfl⟩:=ry;exact P.in_str ⟨.bl _,H,I,rfl,q⟩
end
end L2
namespace Tw
open PySem L2
def nL (l:List Str):Nat:=(l.map λ w=>w.length+1).sum
theorem eD (a:Str) (l:List Str):nL (a::l)=a.length+1+nL l:=by unfold nL;rw[aaq,List.sum_cons]
theorem xS (a b:List Str):nL (a++b)=nL a+nL b:=by unfold nL;rw[aaj,List.sum_append]
theorem lK:∀ {l:List Str}{i:Nat}{a z:Str},l[i]? = some a->nL (l.set i z)+(a.length+1)=nL l+(z.length+1)
 | [],_,_,_,h=>by simp at h
 | x::l,0,a,z,h=>by simp at h;subst h;rw[List.set_cons_zero,eD,eD];omega
 | x::l,i+1,a,z,h=>by
  have:=lK (l:=l) (i:=i) (a:=a) (z:=z) (by simpa using h);rw[List.set_cons_succ,eD,eD];omega
theorem qL:∀ (l:List Str) (i:Nat),nL (l.eraseIdx i)<=nL l
 | [],i=>by simp
 | x::l,0=>by rw[List.eraseIdx_cons_zero,eD];omega
 | x::l,i+1=>by
  have:=qL l i;rw[List.eraseIdx_cons_succ,eD,eD];omega
theorem DV (l:List Str) (i:Nat):nL (l.take i)+nL (l.drop i)=nL l:=by rw[<- xS,List.take_append_drop]
theorem lJ:∀ l:List Str,(l.map (·.length)).sum+l.length=nL l
 | []=>rfl
 | a::l=>by have:=lJ l;rw[eD,aaq,List.sum_cons,abb];omega
theorem nG {sep:Str}{l:List Str} (h:sep.length<=1):(Str.join sep l).length<=nL l:=by
 have h1:=StrLaws.join_length_le sep l;have h2:l.length * sep.length<=l.length * 1:=Nat.mul_le_mul_left _ h;have h3:=lJ l;omega
theorem mM {sep:Str}{l:List Str} (h:sep.length<=1) (hw:nL l<=1000000):JoinOk sep l=true:=by
 have h2:l.length * sep.length<=l.length * 1:=Nat.mul_le_mul_left _ h;have h3:=lJ l;exact PyProof.Rows.joinOk_of (by omega)
theorem tQ (l:List Str):l.length<=nL l:=by have:=lJ l;omega
theorem qK (x:Str) (c:Nat):nL (Txt.split x (one c))<=x.length+1:=by
 have:=PyProof.Rows.split_weight x (one c) (aag 1);rw[<- lJ];exact this
theorem hG {sep:Str} (hs:eA sep):∀ {l:List Str},(∀ a∈l,eA a)->eA (Str.join sep l)
 | [],_=>λ c hc=>absurd hc (by simp [sg,Str.join,Str.empty])
 | [x],h=>h x (by simp)
 | x::y::r,h=>λ d hd=>by
  have e:sg (Str.join sep (x::y::r))=sg x++sg sep++sg (Str.join sep (y::r)):=by
   show sg (x++sep++Str.join sep (y::r))=_;rw[eS,eS]
  rw[e] at hd;rcases aba.mp hd with h1 | h1
  ·rcases aba.mp h1 with h1 | h1
   ·exact h x (by simp) d h1
   ·exact hs d h1
  ·exact hG hs (l:=y::r) (λ a ha=>h a (aam _ ha)) d h1
def GD (x:Str):List Str:=x.cps.toList.map λ c=>one c
theorem KA (x:Str):HJ x=(GD x).map V.str:=by unfold HJ GD;rw[acd];rfl
theorem E5 (x:Str):nL (GD x)=2 * x.length:=by
 have:∀ l:List Nat,nL (l.map λ c=>one c)=2 * l.length:=by
  intro l
  induction l with
  | nil=>rfl
  | cons a l ih=>rw[aaq,eD,ih,abb];show 1+1+_=_;omega
 unfold GD;rw[this,fG]
theorem E6 {x:Str} (h:eA x):∀ a∈GD x,eA a/\a.length<=1:=λ a ha=>by
 obtain⟨c,hc,rfl⟩:=aay.mp ha;exact⟨λ d hd=>by have:d=c:=(by simpa [sg,one] using hd);rw[this];exact h c hc,aag _⟩
theorem r9:∀ l:List Str,(Str.join Str.empty l).length=(l.map (·.length)).sum
 | []=>rfl
 | [x]=>by simp [Str.join]
 | x::y::r=>by
  have e:Str.join Str.empty (x::y::r)=x++Str.empty++Str.join Str.empty (y::r):=rfl;have e0:Str.empty.length=0:=rfl;rw[e,Str.length_append,Str.length_append,r9 (y::r),e0,Nat.add_zero];simp only [aaq,List.sum_cons]
theorem E1 {l:List Str} (h:∀ a∈l,a.length<=1):(l.map (·.length)).sum<=l.length:=by
 have:=o8 (B:=1) h;omega
def A8 (w:Str):Bool:=(sg w).all λ c=>decide (48<=c) && decide (c<=57)
def d7 (w:Str):Option Int:=if w = "" \/ 9 < w.length\/A8 w=false then none else if (sg w)[0]? = some 48/\w ≠ "0" then none else PySem.intText? w
theorem FQ:∀ c,c < 128->Txt.contains "0123456789" (one c)=(decide (48<=c) && decide (c<=57)):=by decide +kernel
theorem xN {w:Str} (h:A8 w=true) (hn:w ≠ "") (hl:w.length<=9):∃ n:Int,PySem.intText? w=some n/\0<=n/\n < 10 ^ 9:=by
 have h2:∀ c∈sg w,48<=c/\c<=57:=λ c hc=>by
  have:=abl.mp h c hc;simpa using this
 have h1:sg w≠[]:=λ z=>hn (iQ (by rw[z];rfl));refine⟨_,intText_digits h2 h1 (by omega),by omega,?_⟩;have:=AN (sg w) h2;have h3:10 ^ (sg w).length<=10 ^ 9:=Nat.pow_le_pow_right (by decide) (by rw[fG];exact hl);show ((NumText.digitsVal (sg w):Nat):Int) < 10 ^ 9;omega
theorem BP {n:Int} (h0:0<=n) (h:(sg (aV n))[0]? = some 48):aV n = "0" := by
 have hd:NumText.AllDigits (sg (aV n)):=eM h0;obtain⟨m,rfl⟩:=Int.eq_ofNat_of_zero_le h0;have e:sg (aV (m:Int))=(Nat.toDigits 10 m).map Char.toNat:=PySem.W.KIN.signs_num m;have ev:NumText.digitsVal (sg (aV (m:Int)))=m:=by rw[e];exact PySem.W.KIN.val_back m
 have ea:=NumText.toDigits_all _ hd;rw[ev] at ea;generalize sg (aV (m:Int))=cs at h e ea;cases cs with
 | nil=>cases h
 | cons c r=>
  obtain rfl:c=48:=by simpa using h
  have ed:(48::r).dropWhile (· == 48)=r.dropWhile (· == 48):=by simp [List.dropWhile_cons]
  rw[ed] at ea;cases er:r.dropWhile (· == 48) with
  | nil=>
   rw[er] at ea;have e2:sg (aV (m:Int))=(Nat.toDigits 10 m).map Char.toNat:=PySem.W.KIN.signs_num m;rw[ea] at e2;exact iQ (e2.trans (by decide +kernel))
  | cons d r'=>
   rw[er] at ea;have h1:=congrArg List.length e;rw[aab,ea] at h1;have h2:=NumText.len_dropWhile (· == 48) r;rw[er] at h2;simp at h1 h2;omega
theorem gE {n:Int} (h0:0<=n) (h1:n < 10 ^ 9):d7 (aV n)=some n:=by
 have hl:=eJ h0 h1;have hne:aV n ≠ "" := λ z=>BO h0 (by rw[z];rfl);have hd:A8 (aV n)=true:=abl.mpr λ c hc=>by have:=eM h0 c hc;simp;exact this
 unfold d7;rw[if_neg (λ z=>by rcases z with z | z | z;exact hne z;omega;rw[hd] at z;cases z),if_neg (λ z=>z.2 (BP h0 z.1))];exact PySem.W.KIN.num_reads h0 (by omega)
def bB (i:Nat):Stmt:=PySem.Challenge.pw_tipwell_k15_whole_nets_spoilt_anywhere.main.body.getD i (.Pass ⟨0,0,0,0⟩)
structure Txt (mg:Str->Option Value):Prop where
 b_len:mg "len" = none
 b_sum:mg "sum" = none
 b_all:mg "all" = none
 b_max:mg "max" = none
 b_min:mg "min" = none
 b_int:mg "int" = none
 b_tuple:mg "tuple" = none
 b_list:mg "list" = none
 b_bool:mg "bool" = none
 b_range:mg "range" = none
 b_zip:mg "zip" = none
 b_enumerate:mg "enumerate" = none
 b_isinstance:mg "isinstance" = none
 b_divmod:mg "divmod" = none
 b_set:mg "set" = none
 b_sorted:mg "sorted" = none
theorem rT {ae:Type}{xs:List ae}{i:Nat}{x:ae} (h:xs[i]? = some x):xs.take (i+1)=xs.take i++[x]:=by
 rw[aby,h];rfl
theorem yC {H:Hp}{outs:List (Option Int×Int)}{xs:List V}{i:Nat}{x:V} (l:IsL K H (outs.map i8) xs) (h:xs[i]? = some x) :
  ∃ o,outs[i]? = some o/\∃ a,x=.ref a/\bU K H a [gP o.1,.int o.2]:=by
 obtain⟨d,hd,hx⟩:=l.get' h;rw[aap] at hd;cases e:outs[i]? with
 | none=>rw[e] at hd;cases hd
 | some o=>
  rw[e] at hd;cases hd;refine⟨o,rfl,?_⟩;obtain⟨a,ys,rfl,q,l⟩:=(show Is K H (.tup [kT o.1,.int o.2]) x from hx).un;obtain⟨y,r,rfl,hy,l⟩:=l.un;obtain⟨z,r,rfl,hz,l⟩:=l.un;have:=l.un0;subst this;rw[Is.tg hy,hz.ui] at q;exact⟨a,rfl,q⟩
theorem G5 {H:Hp}{v:Vs}{x:V} (h:Is K H (o0 v) x):∃ (a:Addr) (o c:V),x=.ref a/\bU K H a [.int v.size,.int v.brim,o,.bl v.holds,gP v.spill,c]/\Is K H (.tup (v.outs.map i8)) o/\Is K H (.tup (v.acts.map fF)) c:=by
 obtain⟨a,xs,rfl,q,l⟩:=(show Is K H (.tup [.int v.size,.int v.brim,.tup (v.outs.map i8),.bl v.holds,kT v.spill,.tup (v.acts.map fF)]) x from h).un;obtain⟨x1,r,rfl,h1,l⟩:=l.un;obtain⟨x2,r,rfl,h2,l⟩:=l.un;obtain⟨x3,r,rfl,h3,l⟩:=l.un;obtain⟨x4,r,rfl,h4,l⟩:=l.un;obtain⟨x5,r,rfl,h5,l⟩:=l.un;obtain⟨x6,r,rfl,h6,l⟩:=l.un;have:=l.un0;subst this;rw[h1.ui,h2.ui,h4.ub,Is.tg h5] at q;exact⟨a,x3,x6,rfl,q,h3,h6⟩
theorem yY {H:Hp}{acts:List (Str×Int)}{xs:List V}{i:Nat}{x:V} (l:IsL K H (acts.map fF) xs) (h:xs[i]? = some x) :
  ∃ o,acts[i]? = some o/\∃ a,x=.ref a/\bU K H a [.str o.1,.int o.2]:=by
 obtain⟨d,hd,hx⟩:=l.get' h;rw[aap] at hd;cases e:acts[i]? with
 | none=>rw[e] at hd;cases hd
 | some o=>
  rw[e] at hd;cases hd;refine⟨o,rfl,?_⟩;obtain⟨a,ys,rfl,q,l⟩:=(show Is K H (.tup [.str o.1,.int o.2]) x from hx).un;obtain⟨y,r,rfl,hy,l⟩:=l.un;obtain⟨z,r,rfl,hz,l⟩:=l.un;have:=l.un0;subst this;rw[hy.us,hz.ui] at q;exact⟨a,rfl,q⟩
theorem HH {H:Hp}{sps:List oO}{xs:List V}{i:Nat}{x:V} (l:IsL K H (sps.map qB) xs) (h:xs[i]? = some x) :
  ∃ s,sps[i]? = some s/\∃ a,x=.ref a/\bU K H a [.int s.1,.int s.2.1,.bl s.2.2]:=by
 obtain⟨d,hd,hx⟩:=l.get' h;rw[aap] at hd;cases e:sps[i]? with
 | none=>rw[e] at hd;cases hd
 | some o=>
  rw[e] at hd;cases hd;refine⟨o,rfl,?_⟩;obtain⟨a,ys,rfl,q,l⟩:=(show Is K H (.tup [.int o.1,.int o.2.1,.bl o.2.2]) x from hx).un;obtain⟨y,r,rfl,hy,l⟩:=l.un;obtain⟨z,r,rfl,hz,l⟩:=l.un;obtain⟨z2,r,rfl,hz2,l⟩:=l.un;have:=l.un0;subst this;rw[hy.ui,hz.ui,hz2.ub] at q;exact⟨a,rfl,q⟩
theorem K9 {H:Hp}{held coming:List Int}{doors:List Bool}{a b c d:Addr} (q:bU K H a [.ref b,.ref c,.ref d]) (q1:bU K H b (held.map V.int)) (q2:bU K H c (coming.map V.int)) (q3:bU K H d (doors.map V.bl)):Is K H (stD held coming doors) (.ref a):=
 Is.tupOf q (.cons (Is.tupOf q1 (IsL.of_ints _)) (.cons (Is.tupOf q2 (IsL.of_ints _)) (.cons (Is.tupOf q3 (IsL.of_bools _)) .nil)))
theorem nC {H:Hp}{net:Net}{x:V} (h:Is K H (eH net) x):∃ (a b c:Addr) (xs ys:List V),x=.ref a/\bU K H a [.ref b,.ref c]/\bU K H b xs/\IsL K H (net.vs.map o0) xs/\bU K H c ys/\IsL K H (net.sps.map qB) ys:=by
 obtain⟨a,zs,rfl,q,l⟩:=(show Is K H (.tup [.tup (net.vs.map o0),.tup (net.sps.map qB)]) x from h).un;obtain⟨x1,r,rfl,h1,l⟩:=l.un;obtain⟨x2,r,rfl,h2,l⟩:=l.un;have:=l.un0;subst this;obtain⟨b,xs,rfl,q1,l1⟩:=h1.un;obtain⟨c,ys,rfl,q2,l2⟩:=h2.un;exact⟨a,b,c,xs,ys,rfl,q,q1,l1,q2,l2⟩
def eI (H:Hp) (t sl:Addr):Prop:=∃ (ns:List Int) (pos cell:Int),H t=some (.lst [.ref sl,.int pos,.int cell])/\H sl=some (.lst (ns.map V.int))/\ns.length<=1000
theorem eI.mut {H:Hp}{t sl:Addr} (h:eI H t sl):wF (H t):=by obtain⟨ns,pos,cell,e,_⟩:=h;rw[e];exact trivial
theorem eI.same {H H':Hp}{t sl:Addr} (h:eI H t sl) (s:aG H H'):eI H' t sl:=by
 obtain⟨ns,pos,cell,e,f,g⟩:=h;exact⟨ns,pos,cell,s _ _ e,s _ _ f,g⟩
def fY:Sp:=λ vs H Q _=>∃ (t sl:Addr) (many:Int),vs=[.ref t,.int many]/\eI H t sl/\0 < many/\many < 1000000/\
 ∀ (r:Int) H',dQ t H H'->eI H' t sl->0<=r->r < many->Q (.int r) H'
def E3:Sp:=λ vs H Q _=>∃ (t sl:Addr) (many:Int),vs=[.ref t,.int many]/\eI H t sl/\0 < many/\many < 2 ^ 200/\
 ∀ (r:Int) H',dQ t H H'->eI H' t sl->0<=r->r < many->Q (.int r) H'
abbrev sL (K:aaa):TS:=fB (iJ (fJ (rI (λ _ j=>0 < j) λ i j=>.int (i % j)) (fJ (uK K) (cD 0) (tC (.int 2))) (cD 1)) (aW 4)) (fB (iJ (fJ (rI GU λ i j=>.int (i / j)) (fJ (uK K) (cD 0) (tC (.int 2))) (cD 1)) (FR (cD 0) (tC (.int 2)) y1)) (HB (cD 4)))
abbrev B2 (K:aaa):TS:=fB (iJ (fJ (qY λ i j=>.int (i+j)) (fJ (uK K) (cD 0) (tC (.int 1))) (tC (.int 1))) (FR (cD 0) (tC (.int 1)) y1)) (iJ (cD 3) (FR (cD 0) (tC (.int 2)) y1))
abbrev B3 (K:aaa):TS:=fB (iJ (fJ (rI (λ _ j=>0 < j) λ i j=>.int (i % j)) (fJ (qY λ i j=>.int (i+j)) (cD 3) (fJ (rI wE λ i j=>.int (i * j)) (tC (.int 1000003)) (fJ (uK K) (cD 0) (tC (.int 1))))) (cD 2)) (aW 3)) (fB (iJ (fJ (rI (λ _ j=>0 < j) λ i j=>.int (i % j)) (fJ (qY λ i j=>.int (i+j)) (fJ (qY λ i j=>.int (i+j)) (fJ (rI wE λ i j=>.int (i * j)) (cD 3) (cD 3)) (fJ (rI wE λ i j=>.int (i * j)) (tC (.int 1181783497276652981)) (cD 3))) (tC (.int 2049848353892358983))) (cD 2)) (aW 3)) (iJ (fJ (rI (λ _ j=>0 < j) λ i j=>.int (i % j)) (fJ (qY λ i j=>.int (i+j)) (fJ (rI wE λ i j=>.int (i * j)) (cD 3) (cD 3)) (tC (.int 1442695040888963407))) (cD 2)) (aW 3)))
abbrev HM (K:aaa):TT:=tOr (lM (fJ (qY λ i j=>.bl (decide (j<=i))) (fJ (uK K) (cD 0) (tC (.int 1))) (DP (B6 K) (bV (fJ (uK K) (cD 0) (tC (.int 0))) fP)))) (lM (fJ (qY λ i j=>.bl (decide (i < j))) (cD 3) (fJ (rI LW λ i j=>.int (i ^ j.toNat)) (tC (.int 10)) (tC (.int 18)))))
abbrev dE (Q:VK):Ends:={ nx:=λ _ H'=>Q .non H',rt:=Q }
theorem lZ:FnScope ["tape","many","prime","cell","found"] ["tape","many"] (aK (bB 62)):={}
theorem qF {f:Addr}{fd:FuncData} (F:Fun K "_law_draw" "_law_draw" (bB 62) f fd) (T:Txt mg):FnOk P w K mg base hU 1 f fd ["tape","many"] E3:=by
 refine F.ok lZ (λ vs H Q E h=>?_) (λ cdv A outer s H vs Q E hr h=>?_)
 ·obtain⟨t,sl,many,rfl,_⟩:=h;rfl
 ·obtain⟨t,sl,many,rfl,⟨ns,pos,cell,ht,hsl,hns⟩,hm0,hm1,k⟩:=h;have sc:=lZ;refine⟨_,(aE (pL 2 sc.nd aF)
   (aE (bC (aQ BJ (px K (pv 0) aF) (pv 1) (aP _)) (aE (pL 3 sc.nd aF)
   (aE (bC (aQ r6 (kA K T.b_len (px K (pv 0) aF)) aF (aP _)) (aH (pL 3 sc.nd (px K (px K (pv 0) aF) (aU i9 (px K (pv 0) aF) (kA K T.b_len (px K (pv 0) aF)))))) aS)
   (aE (bC (PW.pt (d4 (aQ KW (px K (pv 0) aF) (kA K T.b_len (px K (pv 0) aF)) (aP _)) (cQ (aQ BJ (pv 3) (aU II aF aF) (aP _))))) (aE (pL 3 sc.nd (aU i9 (aU cZ (pv 3) (aU pB aF (px K (pv 0) aF))) (pv 2)))
   (aE (pL 3 sc.nd (aU i9 (aU cZ (aU cZ (aU pB (pv 3) (pv 3)) (aU pB aF (pv 3))) aF) (pv 2)))
   (aH (pL 3 sc.nd (aU i9 (aU cZ (aU pB (pv 3) (pv 3)) aF) (pv 2)))))) aS)
   (aE (cR (aU cZ (px K (pv 0) aF) aF) (jB (pv 0) aF fC))
   (aH (cR (pv 3) (jB (pv 0) aF fC))))))) aS)
   (aE (pL 4 sc.nd (aU i9 (px K (pv 0) aF) (pv 1)))
   (aE (cR (aU BK (px K (pv 0) aF) (pv 1)) (jB (pv 0) aF fC))
   (aH (aM (pv 4))))))),?_⟩
  have nst:sl≠t:=L7 hsl ht (by intro z;injection z with z;cases ns <;> simp at z);have ix:∀ {H1:Hp}{p' c':Int}{Q:VK},H1 t=some (.lst [.ref sl,.int p',.int c'])->Q (.ref sl) H1->uK K (.ref t) (.int 0) H1 Q:=λ e q=>.inl ⟨t,_,0,_,rfl,rfl,bO.of e,rfl,q⟩;have ix1:∀ {H1:Hp}{p' c':Int}{Q:VK},H1 t=some (.lst [.ref sl,.int p',.int c'])->Q (.int p') H1->uK K (.ref t) (.int 1) H1 Q:=λ e q=>.inl ⟨t,_,1,_,rfl,rfl,bO.of e,rfl,q⟩;have ix2:∀ {H1:Hp}{p' c':Int}{Q:VK},H1 t=some (.lst [.ref sl,.int p',.int c'])->Q (.int c') H1->uK K (.ref t) (.int 2) H1 Q:=λ e q=>.inl ⟨t,_,2,_,rfl,rfl,bO.of e,rfl,q⟩;have tail:∀ (v3:Option V) (H1:Hp) (p' c':Int),dQ t H H1->H1 t=some (.lst [.ref sl,.int p',.int c'])->sL K (dE Q) [some (.ref t),some (.int many),some (.int 2305843009213693951),v3,none] H1:=by
   intro v3 H1 p' c' bt e;refine⟨_,rfl,ix2 e ⟨_,rfl,_,_,rfl,rfl,hm0,?_⟩⟩;refine⟨_,rfl,ix2 e ⟨_,rfl,_,_,rfl,rfl,⟨hm0,hm1⟩,_,rfl,t,_,2,2,rfl,rfl,e,rfl,_,rfl,?_⟩⟩;refine k _ _ (bt.trans dQ.upd) ⟨ns,p',c' / many,aD,?_,hns⟩ (Int.emod_nonneg _ (by omega)) (Int.emod_lt_of_pos _ hm0);rw[aN nst];exact bt sl _ nst hsl
  refine⟨_,rfl,ix2 ht ⟨_,rfl,_,_,rfl,rfl,_,rfl,?_⟩⟩;refine dJ (λ _=>?_) (λ _=>tail none H pos cell (dQ.refl H) ht);have mid:∀ (c':Int),B2 K { nx:=sL K (dE Q),rt:=Q } [some (.ref t),some (.int many),some (.int 2305843009213693951),some (.int c'),none] H:=by
   intro c';refine⟨_,rfl,ix1 ht ⟨_,_,rfl,rfl,_,rfl,t,_,1,1,rfl,rfl,ht,rfl,?_⟩⟩;refine⟨_,rfl,_,rfl,t,_,2,2,rfl,rfl,aD,rfl,?_⟩;exact tail (some (.int c')) _ (pos+1) c' (dQ.upd.trans dQ.upd) aD
  have big:∀ (c':Int),fB (AS (HM K) (B3 K) bL) (B2 K) { nx:=sL K (dE Q),rt:=Q } [some (.ref t),some (.int many),some (.int 2305843009213693951),some (.int c'),none] H:=by
   intro c';have body:∀ σ,σ=[some (.ref t),some (.int many),some (.int 2305843009213693951),some (.int c'),none]->B3 K { nx:=B2 K { nx:=sL K (dE Q),rt:=Q },rt:=Q } σ H:=by
    rintro σ rfl;have prime:(0:Int) < 2305843009213693951:=by decide
    refine⟨_,rfl,_,rfl,ix1 ht ⟨_,_,rfl,rfl,.inl ⟨by decide,by decide⟩,_,_,rfl,rfl,_,rfl,_,_,rfl,rfl,prime,?_⟩⟩;have b1:=Int.emod_nonneg (c'+1000003 * pos) (show (2305843009213693951:Int)≠0 by decide);have b2:=Int.emod_lt_of_pos (c'+1000003 * pos) prime;generalize (c'+1000003 * pos) % 2305843009213693951=c1 at b1 b2;refine⟨_,rfl,_,rfl,_,_,rfl,rfl,.inl ⟨by omega,by omega⟩,_,rfl,_,_,rfl,rfl,.inl ⟨by decide,by decide⟩,_,_,rfl,rfl,_,_,rfl,rfl,_,rfl,_,_,rfl,rfl,prime,?_⟩;have b3:=Int.emod_nonneg (c1 * c1+1181783497276652981 * c1+2049848353892358983) (show (2305843009213693951:Int)≠0 by decide);have b4:=Int.emod_lt_of_pos (c1 * c1+1181783497276652981 * c1+2049848353892358983) prime;generalize (c1 * c1+1181783497276652981 * c1+2049848353892358983) % 2305843009213693951=c2 at b3 b4;refine⟨_,rfl,_,rfl,_,_,rfl,rfl,.inl ⟨by omega,by omega⟩,_,_,rfl,rfl,_,rfl,_,_,rfl,rfl,prime,?_⟩;exact mid _
   refine⟨_,rfl,ix1 ht ⟨_,rfl,ix ht ⟨sl,_,rfl,.inl (bO.of hsl),_,_,rfl,rfl,_,rfl,?_⟩⟩⟩;refine dJ (λ _=>?_) (λ _=>?_)
   ·refine aX ?_;exact body _ rfl
   ·refine⟨_,rfl,_,_,rfl,rfl,⟨by decide,by decide,by decide⟩,_,_,rfl,rfl,_,rfl,?_⟩;refine dJ (λ _=>body _ rfl) (λ _=>mid _)
  refine⟨_,rfl,ix ht ⟨sl,_,rfl,.inl (bO.of hsl),_,_,rfl,rfl,_,rfl,?_⟩⟩;refine dJ (λ hlen=>?_) (λ _=>big 0);have hpos:0 < ns.length:=by have:=aax hlen;simpa using this
  refine⟨_,rfl,ix ht ⟨_,rfl,ix1 ht ⟨_,rfl,ix ht ⟨sl,_,rfl,.inl (bO.of hsl),_,_,rfl,rfl,(show (0:Int) < (((ns.map V.int).length:Nat):Int) by rw[aab];omega),?_⟩⟩⟩⟩;have m1:=Int.emod_nonneg pos (show (((ns.map V.int).length:Nat):Int)≠0 by rw[aab];omega);have m2:=Int.emod_lt_of_pos pos (show (0:Int) < (((ns.map V.int).length:Nat):Int) by rw[aab];omega);rw[aab] at m1 m2;have hix:(ns.map V.int)[(pos % ((ns.map V.int).length:Int)).toNat]? = some (.int (ns[(pos % (ns.length:Int)).toNat]'(by omega))):=by
   rw[aab,aap];simp [show (pos % (ns.length:Int)).toNat < ns.length by omega]
  refine .inl ⟨sl,_,_,_,rfl,rfl,bO.of hsl,yV (by rw[aab];exact m1) hix,?_⟩;exact big _
theorem tF {f:Addr}{fd:FuncData} (F:Fun K "_law_draw" "_law_draw" (bB 62) f fd) (T:Txt mg):FnOk P w K mg base hU 1 f fd ["tape","many"] fY:=
 (qF F T).imp λ vs H Q E ⟨t,sl,many,e,tp,h0,h1,k⟩=>⟨t,sl,many,e,tp,h0,Int.lt_of_lt_of_le h1 (by decide),k⟩
structure Ext (t sl:Addr) (H H':Hp):Prop where
 bt:dQ t H H'
 tp:eI H' t sl
theorem eI.some {H:Hp}{t sl:Addr} (h:eI H t sl):∃ o,H t=some o:=by obtain⟨ns,pos,cell,e,_⟩:=h;exact⟨_,e⟩
theorem eI.put {H:Hp}{t sl p:Addr}{o:HO} (h:eI H t sl) (h1:p≠t) (h2:p≠sl):eI (upd H p o) t sl:=by
 obtain⟨ns,pos,cell,e,f,g⟩:=h;exact⟨ns,pos,cell,by rw[aN (Ne.symm h1)];exact e,by rw[aN (Ne.symm h2)];exact f,g⟩
theorem eI.ne_sl {H:Hp}{t sl p:Addr} (h:eI H t sl) (hp:H p=none):p≠sl:=by
 obtain⟨ns,pos,cell,e,f,g⟩:=h;exact λ z=>by rw[z,f] at hp;cases hp
theorem Ext.new {t sl p:Addr}{H H':Hp}{o:HO} (e:Ext t sl H H') (hp:H' p=none):Ext t sl H (upd H' p o):=⟨e.bt.trans (aG.new hp).but,e.tp.same (aG.new hp)⟩
theorem Ext.ne {t sl p:Addr}{H H':Hp} (e:Ext t sl H H') (hp:H' p=none):p≠t:=by
 obtain⟨o,h⟩:=e.tp.some;intro z;rw[z,h] at hp;cases hp
theorem Ext.ts {K:aaa}{t sl:Addr}{H H':Hp} (e:Ext t sl H H') (tp:eI H t sl):cS K H H':=e.bt.ts tp.mut
def Gn (t sl:Addr) (σ:St) (H0:Hp) (P:V->Prop) (te:TE):Prop:=∀ H Q,Ext t sl H0 H->(∀ v H',Ext t sl H0 H'->dQ t H H'->P v->Q v H')->te σ H Q
section
variable {t sl:Addr}{σ:St}{H0:Hp}{P:V->Prop}{a b c d:TE}
def d6 (lo hi:Int):V->Prop:=λ v=>∃ i,v=.int i/\lo<=i/\i < hi
theorem Gn.imp {P':V->Prop} (h:Gn t sl σ H0 P a) (f:∀ v,P v->P' v):Gn t sl σ H0 P' a:=λ H Q e k=>h H Q e λ v H' e' b p=>k v H' e' b (f v p)
theorem pU {v:V} (h:P v):Gn t sl σ H0 P (tC v):=λ H Q e k=>k v H e (dQ.refl H) h
theorem LH {i:Nat}{v:V} (aj:σ[i]? = some (some v)) (h:P v):Gn t sl σ H0 P (cD i):=λ H Q e k=>⟨v,aj,k v H e (dQ.refl H) h⟩
theorem gF (ha:Gn t sl σ H0 P a) (hb:Gn t sl σ H0 P b) (hc:Gn t sl σ H0 (d6 0 2) c):Gn t sl σ H0 P (fJ (uK K) (rV (bV a (bV b fP))) c):=by
 intro H Q e k;refine ha H _ e λ v1 H1 e1 b1 p1=>hb H1 _ e1 λ v2 H2 e2 b2 p2=>⟨(show 2<=sizeLine by decide),λ p hp=>hc _ _ (e2.new hp) λ v H3 e3 b3 ⟨i,hi,h0,h1⟩=>?_⟩;subst hi;have hl:=b3 p _ (e2.ne hp) aD;have hb:dQ t H H3:=b1.trans (b2.trans ((aG.new hp).but.trans b3));rcases (show i=0\/i=1 by omega) with rfl | rfl
 ·exact .inl ⟨p,_,0,v1,rfl,rfl,bO.of hl,rfl,k v1 H3 e3 hb p1⟩
 ·exact .inl ⟨p,_,1,v2,rfl,rfl,bO.of hl,rfl,k v2 H3 e3 hb p2⟩
theorem vY (ha:Gn t sl σ H0 P a) (hb:Gn t sl σ H0 P b) (hd:Gn t sl σ H0 P d) (hc:Gn t sl σ H0 (d6 0 3) c):Gn t sl σ H0 P (fJ (uK K) (rV (bV a (bV b (bV d fP)))) c):=by
 intro H Q e k;refine ha H _ e λ v1 H1 e1 b1 p1=>hb H1 _ e1 λ v2 H2 e2 b2 p2=>hd H2 _ e2 λ v4 H4 e4 b4 p4=>⟨(show 3<=sizeLine by decide),λ p hp=>hc _ _ (e4.new hp) λ v H3 e3 b3 ⟨i,hi,h0,h1⟩=>?_⟩;subst hi;have hl:=b3 p _ (e4.ne hp) aD;have hb:dQ t H H3:=b1.trans (b2.trans (b4.trans ((aG.new hp).but.trans b3)));rcases (show i=0\/i=1\/i=2 by omega) with rfl | rfl | rfl
 ·exact .inl ⟨p,_,0,v1,rfl,rfl,bO.of hl,rfl,k v1 H3 e3 hb p1⟩
 ·exact .inl ⟨p,_,1,v2,rfl,rfl,bO.of hl,rfl,k v2 H3 e3 hb p2⟩
 ·exact .inl ⟨p,_,2,v4,rfl,rfl,bO.of hl,rfl,k v4 H3 e3 hb p4⟩
theorem u9 {i:Nat}{lo hi:Int} (aj:σ[i]? = some (some (.ref t))) (hlo:0 < lo) (hhi:hi<=1000000) (ha:Gn t sl σ H0 (d6 lo hi) a):Gn t sl σ H0 (λ v=>∃ r m,v=.int r/\0<=r/\r < m/\lo<=m/\m < hi) (iN fY [] E0 (bV (cD i) (bV a fP))):=by
 intro H Q e k;refine⟨_,aj,ha H _ e λ v H1 e1 b1 ⟨m,hm,h0,h1⟩=>?_⟩;subst hm;exact⟨t,sl,m,rfl,e1.tp,by omega,by omega,λ r H2 b2 t2 r0 r1=>k _ H2 ⟨e1.bt.trans b2,t2⟩ (b1.trans b2) ⟨r,m,rfl,r0,r1,h0,h1⟩⟩
theorem bW {i:Nat}{m:Int} (aj:σ[i]? = some (some (.ref t))) (h0:0 < m) (h1:m < 1000000):Gn t sl σ H0 (d6 0 m) (iN fY [] E0 (bV (cD i) (bV (tC (.int m)) fP))):=
 (u9 (lo:=m) (hi:=m+1) aj h0 (by omega) (pU ⟨m,rfl,by omega,by omega⟩)).imp λ v ⟨r,m',e,a,b,c,d⟩=>⟨r,e,a,by omega⟩
theorem jI {i j:Nat}{m:Int} (aj:σ[i]? = some (some (.ref t))) (hj:σ[j]? = some (some (.int m))) (h0:0 < m) (h1:m < 1000000):Gn t sl σ H0 (d6 0 m) (iN fY [] E0 (bV (cD i) (bV (cD j) fP))):=
 (u9 (lo:=m) (hi:=m+1) aj h0 (by omega) (LH hj ⟨m,rfl,by omega,by omega⟩)).imp λ v ⟨r,m',e,a,b,c,d⟩=>⟨r,e,a,by omega⟩
theorem uA {x y l h:Int} (ha:Gn t sl σ H0 (d6 x y) a) (hb:Gn t sl σ H0 (d6 l h) b):Gn t sl σ H0 (d6 (x+l) (y+h - 1)) (fJ (qY λ i j=>.int (i+j)) a b):=by
 intro H Q e k;refine ha H _ e λ v1 H1 e1 b1 ⟨i,hi,i0,i1⟩=>hb H1 _ e1 λ v2 H2 e2 b2 ⟨j,hj,j0,j1⟩=>?_;subst hi hj;exact⟨i,j,rfl,rfl,k _ H2 e2 (b1.trans b2) ⟨_,rfl,by omega,by omega⟩⟩
theorem D7 {y m:Int} (hm:0 < m) (hm2:m < 1000000) (ha:Gn t sl σ H0 (d6 0 y) a):Gn t sl σ H0 (λ v=>∃ i,v=.int (i / m)/\0<=i/\i < y) (fJ (rI JV λ i j=>.int (i / j)) a (tC (.int m))):=by
 intro H Q e k;refine ha H _ e λ v1 H1 e1 b1 ⟨i,hi,i0,i1⟩=>?_;subst hi;exact⟨i,m,rfl,rfl,⟨hm,by omega⟩,k _ H1 e1 b1 ⟨i,rfl,i0,i1⟩⟩
theorem xL {y c0:Int} (ha:Gn t sl σ H0 (d6 0 y) a):Gn t sl σ H0 (λ v=>∃ b:Bool,v=.bl b) (fJ JW a (tC (.int c0))):=by
 intro H Q e k;refine ha H _ e λ v1 H1 e1 b1 ⟨i,hi,i0,i1⟩=>?_;subst hi;exact⟨rfl,k _ H1 e1 b1 ⟨_,rfl⟩⟩
theorem JF {y c0:Int} (ha:Gn t sl σ H0 (d6 0 y) a):Gn t sl σ H0 (λ v=>∃ b:Bool,v=.bl b) (fJ (qY λ i j=>.bl (decide (j < i))) a (tC (.int c0))):=by
 intro H Q e k;refine ha H _ e λ v1 H1 e1 b1 ⟨i,hi,i0,i1⟩=>?_;subst hi;exact⟨i,c0,rfl,rfl,k _ H1 e1 b1 ⟨_,rfl⟩⟩
abbrev B8:List V->Hp->VK->Prop:=λ xs H Q=>(∃ i,xs=[.int i]/\Q (.int i) H)\/∃ k,xs=[.bl k]/\Q (.int (if k then 1 else 0)) H
theorem D6 {i:Nat}{s:Bool} (aj:σ[i]? = some (some (.bl s))):Gn t sl σ H0 (d6 0 2) (DP B8 (bV (cD i) fP)):=by
 intro H Q e k;refine⟨_,aj,.inr ⟨s,rfl,k _ H e (dQ.refl H) ?_⟩⟩;cases s
 ·exact⟨0,rfl,by omega,by omega⟩
 ·exact⟨1,rfl,by omega,by omega⟩
theorem oJ {i:Nat}{s:Bool}{x y lo hi:Int} (aj:σ[i]? = some (some (.bl s))) (h1:lo<=x/\x < hi) (h2:lo<=y/\y < hi):Gn t sl σ H0 (d6 lo hi) (fJ (uK K) (rV (bV (tC (.int x)) (bV (tC (.int y)) fP))) (DP B8 (bV (cD i) fP))):=
 gF (pU ⟨x,rfl,h1.1,h1.2⟩) (pU ⟨y,rfl,h2.1,h2.2⟩) (D6 aj)
theorem oK (ha:Gn t sl σ H0 (d6 0 4) a):Gn t sl σ H0 (d6 0 2) (fJ (rI JV λ i j=>.int (i / j)) a (tC (.int 3))):=
 (D7 (by decide) (by decide) ha).imp λ v ⟨i,e,a,b⟩=>⟨i / 3,e,by omega,by omega⟩
theorem kR {lo hi lo' hi':Int} (h:Gn t sl σ H0 (d6 lo hi) a) (h1:lo'<=lo) (h2:hi<=hi'):Gn t sl σ H0 (d6 lo' hi') a:=h.imp λ v ⟨i,e,a,b⟩=>⟨i,e,by omega,by omega⟩
theorem jJ {i:Nat}{lo hi:Int} (aj:σ[i]? = some (some (.ref t))) (hlo:0 < lo) (hhi:hi<=1000000) (ha:Gn t sl σ H0 (d6 lo hi) a):Gn t sl σ H0 (d6 0 (hi - 1)) (iN fY [] E0 (bV (cD i) (bV a fP))):=
 (u9 aj hlo hhi ha).imp λ v ⟨r,m,e,a,b,c,d⟩=>⟨r,e,a,by omega⟩
end
def wR (K:aaa):Sp:=λ args H Q _=>∃ (t sl:Addr) (n:Nat) (small:Bool),args=[.ref t,.int (n:Int),.bl small]/\eI H t sl/\1<=n/\n<=12/\
 ∀ (outs:List (Option Int×Int)) p H',Ext t sl H H'->outs≠[]->outs.length<=3->(∀ o∈outs,OutOk n o)->Is K H' (.tup (outs.map i8)) p->Q p H'
theorem lX:FnScope ["tape","many","small","outs","k","target","parts"] ["tape","many","small"] (aK (bB 65)):={}
theorem t8 {f fD:Addr}{fd fdD:FuncData} (F:Fun K "_law_outs" "_law_outs" (bB 65) f fd) (T:Txt mg) (G__law_draw:Callee P w K mg base "_law_draw" ["tape","many"] 1 fY fD fdD):FnOk P w K mg base hU 2 f fd ["tape","many","small"] (wR K):=by
 refine F.ok lX (λ vs H Q E h=>?_) (λ cdv A outer s H vs Q E hr h=>?_)
 ·obtain⟨t,sl,n,small,rfl,_⟩:=h;rfl
 ·obtain⟨t,sl,n,small,rfl,tp,n1,n2,k⟩:=h;have sc:=lX;refine⟨_,(aE (pL 3 sc.nd (aZ aB))
   (aE (dS PassesOwn.never rfl (fT rfl T.b_range (aA (aU cZ aF (px K (aZ (aA (cB G__law_draw hr (aA (pv 0) (aA aF aB))) (aA (cB G__law_draw hr (aA (pv 0) (aA aF aB))) aB))) (cB G__law_draw hr (aA (pv 0) (aA aF aB))))) aB)) (gL 4 sc.nd) (aE (pL 5 sc.nd (px K (aZ (aA d8 (aA (cB G__law_draw hr (aA (pv 0) (aA (pv 1) aB))) (aA (cB G__law_draw hr (aA (pv 0) (aA (pv 1) aB))) aB)))) (cB G__law_draw hr (aA (pv 0) (aA aF aB)))))
   (aE (pL 6 sc.nd (px K (aZ (aA (cB G__law_draw hr (aA (pv 0) (aA aF aB))) (aA (cB G__law_draw hr (aA (pv 0) (aA (px K (aZ (aA aF (aA aF aB))) (aR dZ rfl T.b_int eU (aA (pv 2) aB))) aB))) aB))) (aU mC (cB G__law_draw hr (aA (pv 0) (aA aF aB))) aF)))
   (aH (dG (eC (K:=K) rfl aat abe abf cM (pv 3) (aA (bQ (aA (pv 5) (aA (aU cZ aF (pv 6)) aB))) aB)))))))
   (aH (aM (aR (cO (K:=K) rfl) rfl T.b_tuple bS (aA (pv 3) aB)))))),?_⟩
  refine⟨abk _,λ ol hol=>?_⟩;have e0:Ext t sl H (upd H ol (.lst [])):=Ext.new ⟨dQ.refl H,tp⟩ hol;have no:ol≠t:=Ext.ne ⟨dQ.refl H,tp⟩ hol;refine uA (x:=1) (y:=2) (l:=0) (h:=3) (H0:=upd H ol (.lst [])) (t:=t) (sl:=sl) (pU ⟨1,rfl,by omega,by omega⟩)
   (gF (kR (bW rfl (by decide) (by decide)) (Int.le_refl _) (by decide)) (bW rfl (by decide) (by decide)) (bW rfl (by decide) (by decide))) _ _ ⟨dQ.refl _,e0.tp⟩ ?_
  rintro v H1 e1 _ ⟨m,rfl,m0,m1⟩;refine⟨m,rfl,by omega,by omega,?_⟩;refine gX (lo:=0) (n:=m.toNat) (λ i aa H'=>Ext t sl H H'/\∃ (outs:List (Option Int×Int)) (xs:List V),H' ol=some (.lst xs)/\IsL K H' (outs.map i8) xs/\outs.length=i/\(∀ o∈outs,OutOk n o)/\
   ∃ v4 v5 v6,aa=[some (.ref t),some (.int (n:Int)),some (.bl small),some (.ref ol),v4,v5,v6]) ?_ ?_ ?_
  ·exact⟨⟨e0.bt.trans e1.bt,e1.tp⟩,[],[],e1.bt ol _ no aD,.nil,rfl,λ o ho=>(nomatch ho),none,none,none,rfl⟩
  ·rintro i aa H2 hi ⟨e2,outs,xs,ho,hl,hlen,hok,v4,v5,v6,rfl⟩;refine vY (H0:=H2) (t:=t) (sl:=sl) (P:=λ v=>∃ o:Option Int,v=gP o/\∀ z,o=some z->0<=z/\z < n) (pU ⟨none,rfl,λ z h=>nomatch h⟩)
    ((jI (m:=(n:Int)) rfl rfl (by omega) (by omega)).imp λ v ⟨r,e,a,b⟩=>⟨some r,e,λ z h=>by cases h;exact⟨a,by omega⟩⟩)
    ((jI (m:=(n:Int)) rfl rfl (by omega) (by omega)).imp λ v ⟨r,e,a,b⟩=>⟨some r,e,λ z h=>by cases h;exact⟨a,by omega⟩⟩) (bW rfl (by decide) (by decide)) _ _ ⟨dQ.refl _,e2.tp⟩ ?_
   rintro v H3 e3 _ ⟨tg,rfl,htg⟩;refine gF (H0:=H3) (t:=t) (sl:=sl) (P:=d6 0 60) (kR (bW rfl (by decide) (by decide)) (Int.le_refl _) (by decide))
    (kR (jJ (lo:=3) (hi:=61) rfl (by decide) (by decide) (oJ rfl ⟨by decide,by decide⟩ ⟨by decide,by decide⟩)) (Int.le_refl _) (by decide)) (oK (bW rfl (by decide) (by decide))) _ _ ⟨dQ.refl _,e3.tp⟩ ?_
   rintro v H4 e4 _ ⟨pt,rfl,p0,p1⟩;have ho4:H4 ol=some (.lst xs):=e4.bt ol _ no (e3.bt ol _ no ho);refine⟨_,rfl,.inl ⟨rfl,_,bO.of ho4⟩,_,rfl,_,rfl,_,_,rfl,rfl,(show 2<=sizeLine by decide),λ q hq=>?_⟩;have nq:ol≠q:=aL ho4 hq;have hxl:xs.length=outs.length:=by rw[hl.length,aab]
   have hm3:m.toNat<=3:=by omega
   refine⟨ol,xs,_,rfl,rfl,by rw[aN nq];exact ho4,bP (by omega),?_⟩;have e5:Ext t sl H2 (upd H4 q (.tup [gP tg,.int (1+pt)])):=Ext.new ⟨e3.bt.trans e4.bt,e4.tp⟩ hq;have ts:cS K H2 (upd (upd H4 q (.tup [gP tg,.int (1+pt)])) ol (.lst (xs++[.ref q]))):=cS.put (e5.ts e2.tp) (.inr (by rw[aN nq,ho4];exact trivial));refine⟨⟨λ b o hb e=>?_,?_⟩,outs++[(tg,1+pt)],xs++[.ref q],aD,?_,by simp [hlen],?_,_,_,_,rfl⟩
   ·rw[aN (aL e hol)];exact e5.bt b o hb (e2.bt b o hb e)
   ·exact e5.tp.put no (eI.ne_sl tp hol)
   ·rw[aaj];exact IsL.snoc (Is.tupOf (ds:=[kT tg,.int (1+pt)]) (cS.put (cS.refl _) (.inr (by rw[aN nq,ho4];exact trivial)) _ _ (bU.of aD)) (.cons (Is.tgOf tg) (.cons (Is.i _) .nil))) (IsL.mono ts _ _ hl)
   ·intro o ho;rcases aba.mp ho with ho | ho
    ·exact hok o ho
    ·rw[abt.mp ho];exact⟨λ z hz=>htg z hz,by show 1<=1+pt;omega,by show 1+pt<=60;omega⟩
  ·rintro aa H2 ⟨e2,outs,xs,ho,hl,hlen,hok,v4,v5,v6,rfl⟩;refine⟨_,rfl,ol,_,rfl,.inl ⟨bO.of ho,λ l hlf=>?_⟩⟩;refine k outs _ _ (e2.new hlf) (λ z=>by rw[z] at hlen;simp at hlen;omega) (by omega) hok (Is.tupOf (bU.of aD) (IsL.mono (aG.new hlf).ts _ _ hl))
end Tw
namespace L2
theorem CU {c:TT}{a b:TS}{D:Ends}{σ:St}{H:Hp} (I:St->Hp->Prop) (h1:∀ D':Ends,(∀ aa H',I aa H'->D'.nx aa H')->AS c a b D' σ H) (h2:∀ aa H',I aa H'->D.nx aa H'):AS c a b D σ H:=h1 D h2
theorem n4 {s R:TS}{D:Ends}{σ:St}{H:Hp} (I:St->Hp->Prop) (h1:∀ D':Ends,(∀ aa H',I aa H'->D'.nx aa H')->s D' σ H) (h2:∀ aa H',I aa H'->R D aa H'):fB s R D σ H:=h1 _ h2
end L2
namespace Tw
open PySem L2
section
variable {t sl:Addr}{σ:St}{H0:Hp}{P:V->Prop}{a b c d:TE}
theorem CS {y c0:Int}{t' u':TS}{D':Ends}{H:Hp} (ha:Gn t sl σ H0 (d6 0 y) a) (e:Ext t sl H0 H) (k:∀ (b:Bool) H',Ext t sl H0 H'->dQ t H H'->if b=true then t' D' σ H' else u' D' σ H'):AS (lM (fJ JW a (tC (.int c0)))) t' u' D' σ H:=
 xL ha H _ e λ v H' e' b ⟨c,hc⟩=>⟨c,hc,k c H' e' b⟩
theorem A3 {i:Nat}{s:Bool} (aj:σ[i]? = some (some (.bl s))) (ha:Gn t sl σ H0 (d6 0 2) a):Gn t sl σ H0 (d6 0 2) (fJ (rI wE λ i j=>.int (i * j)) a (DP B8 (bV (GB (cD i)) fP))):=by
 intro H Q e k;refine ha H _ e λ v1 H1 e1 b1 ⟨j,hj,j0,j1⟩=>⟨_,aj,s,rfl,.inr ⟨!s,rfl,?_⟩⟩;subst hj;refine⟨j,_,rfl,rfl,.inl ⟨by omega,by omega⟩,k _ H1 e1 b1 ?_⟩;cases s
 ·exact⟨j,by simp,j0,j1⟩
 ·exact⟨0,by simp,by omega,by omega⟩
theorem D5 {j:Nat}{x y:Int} (hj:σ[j]? = some (some (.int y))):Gn t sl σ H0 (d6 (x - y) (x - y+1)) (fJ (qY λ i j=>.int (i - j)) (tC (.int x)) (cD j)):=λ H Q e k=>
 ⟨_,hj,x,y,rfl,rfl,k _ H e (dQ.refl H) ⟨_,rfl,by omega,by omega⟩⟩
theorem yP {j:Nat}{y l h:Int} (hj:σ[j]? = some (some (.int y))) (hb:Gn t sl σ H0 (d6 l h) b):Gn t sl σ H0 (d6 (y+l) (y+h)) (fJ (qY λ i j=>.int (i+j)) (cD j) b):=
 kR (uA (x:=y) (y:=y+1) (LH hj ⟨y,rfl,by omega,by omega⟩) hb) (by omega) (by omega)
end
structure VFull (i:Nat) (v:Vs):Prop where
 sz:v.size<=60
 br:v.size<=v.brim
 bh:v.brim<=200
 sp:∀ t,v.spill=some t->(i:Int) < t
structure NetFull (net:Net):Prop where
 vs:∀ i v,net.vs[i]? = some v->VFull i v
 sps:∀ s∈net.sps,0<=s.2.1/\s.2.1<=60
def oU (K:aaa):Sp:=λ args H Q _=>∃ (t sl:Addr) (i n m:Nat) (small:Bool),args=[.ref t,.int (i:Int),.int (n:Int),.int (m:Int),.bl small]/\eI H t sl/\i < n/\n<=12/\m<=12/\
 ∀ (v:Vs) p H',Ext t sl H H'->VOk n m v->VFull i v->Is K H' (o0 v) p->Q p H'
theorem iY:FnScope ["tape","number","many","spouts","small","size","brim","spill","acts","k"] ["tape","number","many","spouts","small"] (aK (bB 66)):={}
theorem pJ {f fD fO:Addr}{fd fdD fdO:FuncData} (F:Fun K "_law_vessel" "_law_vessel" (bB 66) f fd) (T:Txt mg) (G__law_draw:Callee P w K mg base "_law_draw" ["tape","many"] 1 fY fD fdD)
  (G__law_outs:Callee P w K mg base "_law_outs" ["tape","many","small"] 2 (wR K) fO fdO):FnOk P w K mg base hU 3 f fd ["tape","number","many","spouts","small"] (oU K):=by
 refine F.ok iY (λ vs H Q E h=>?_) (λ cdv A outer s H vs Q E hr h=>?_)
 ·obtain⟨t,sl,i,n,m,small,rfl,_⟩:=h;rfl
 ·obtain⟨t,sl,i,n,m,small,rfl,tp,hi,hn,hm,k⟩:=h;have sc:=iY;refine⟨_,(aE (pL 5 sc.nd (aU cZ aF (px K (aZ (aA (cB G__law_draw hr (aA (pv 0) (aA (px K (aZ (aA aF (aA aF aB))) (aR dZ rfl T.b_int eU (aA (pv 4) aB))) aB))) (aA (cB G__law_draw hr (aA (pv 0) (aA (px K (aZ (aA aF (aA aF aB))) (aR dZ rfl T.b_int eU (aA (pv 4) aB))) aB))) aB))) (aU mC (cB G__law_draw hr (aA (pv 0) (aA aF aB))) aF))))
   (aE (pL 6 sc.nd (aU cZ (pv 5) (px K (aZ (aA aF (aA (cB G__law_draw hr (aA (pv 0) (aA (aU fH aF (pv 5)) aB))) aB))) (aU pB (cB G__law_draw hr (aA (pv 0) (aA aF aB))) (aR dZ rfl T.b_int eU (aA (wY (pv 4)) aB))))))
   (aE (bC (aQ d5 (cB G__law_draw hr (aA (pv 0) (aA aF aB))) aF (aP _)) (aH (pL 6 sc.nd (aU cZ (pv 5) (cB G__law_draw hr (aA (pv 0) (aA aF aB)))))) aS)
   (aE (pL 7 sc.nd d8)
   (aE (bC (PW.pt (nA (aQ BJ (aU cZ (pv 1) aF) (pv 2) (aP _)) (jP (aQ d5 (cB G__law_draw hr (aA (pv 0) (aA aF aB))) aF (aP _))))) (aH (pL 7 sc.nd (aU cZ (aU cZ (pv 1) aF) (cB G__law_draw hr (aA (pv 0) (aA (aU fH (aU fH (pv 2) (pv 1)) aF) aB)))))) aS)
   (aE (pL 8 sc.nd (aZ aB))
   (aE (bC (aQ r6 (pv 3) aF (aP _)) (aH (dS PassesOwn.never rfl (fT rfl T.b_range (aA (aU mC (cB G__law_draw hr (aA (pv 0) (aA aF aB))) aF) aB)) (gL 9 sc.nd) (aH (dG (eC (K:=K) rfl aat abe abf cM (pv 8) (aA (bQ (aA (px K (aZ (aA aI (aA aI (aA aI aB)))) (cB G__law_draw hr (aA (pv 0) (aA aF aB)))) (aA (cB G__law_draw hr (aA (pv 0) (aA (pv 3) aB))) aB))) aB)))))) aS)
   (aH (aM (bQ (aA (pv 5) (aA (pv 6) (aA (cB G__law_outs hr (aA (pv 0) (aA (pv 2) (aA (pv 4) aB)))) (aA (d2 d5 (cB G__law_draw hr (aA (pv 0) (aA aF aB))) aF (aP _)) (aA (pv 7) (aA (aR (cO (K:=K) rfl) rfl T.b_tuple bS (aA (pv 8) aB)) aB)))))))))))))))),?_⟩
  refine uA (t:=t) (sl:=sl) (H0:=H) (x:=1) (y:=2) (l:=0) (h:=60) (pU ⟨1,rfl,by omega,by omega⟩)
   (gF (kR (jJ (lo:=4) (hi:=10) rfl (by decide) (by decide) (oJ rfl ⟨by decide,by decide⟩ ⟨by decide,by decide⟩)) (Int.le_refl _) (by decide))
    (kR (jJ (lo:=4) (hi:=61) rfl (by decide) (by decide) (oJ rfl ⟨by decide,by decide⟩ ⟨by decide,by decide⟩)) (Int.le_refl _) (by decide)) (oK (bW rfl (by decide) (by decide)))) _ _ ⟨dQ.refl _,tp⟩ ?_
  rintro v H1 e1 _ ⟨size,rfl,s0,s1⟩;refine yP (t:=t) (sl:=sl) (H0:=H) (y:=size) (l:=0) (h:=201 - size) rfl (gF (pU ⟨0,rfl,by omega,by omega⟩)
   (kR (jJ (lo:=201 - size) (hi:=201 - size+1) rfl (by omega) (by omega) (D5 rfl)) (Int.le_refl _) (by omega)) (A3 rfl (bW rfl (by decide) (by decide)))) _ _ e1 ?_
  rintro v H2 e2 _ ⟨brim,rfl,br0,br1⟩;dsimp only [fB,iJ,tC,aW];refine CU (λ aa H'=>Ext t sl H H'/\∃ brim,size<=brim/\brim<=200/\aa=[some (.ref t),some (.int (i:Int)),some (.int (n:Int)),some (.int (m:Int)),some (.bl small),some (.int size),some (.int brim),none,none,none]) (λ D' hD=>?_) ?_
  ·refine CS (t:=t) (sl:=sl) (H0:=H) (bW rfl (by decide) (by decide)) e2 λ b H3 e3 _=>?_;cases b with
   | false=>exact bM (hD _ _ ⟨e3,brim,by omega,by omega,rfl⟩)
   | true=>
    refine aX ?_;refine yP (t:=t) (sl:=sl) (H0:=H) (y:=size) (l:=0) (h:=3) rfl (bW rfl (by decide) (by decide)) _ _ e3 ?_;rintro v H4 e4 _ ⟨b2,rfl,c0,c1⟩;exact hD _ _ ⟨e4,b2,by omega,by omega,rfl⟩
  rintro af H3 ⟨e3,brim,hb1,hb2,rfl⟩;dsimp only [fB,iJ,tC,aW];refine CU (λ aa H'=>Ext t sl H H'/\∃ sp:Option Int,(∀ z,sp=some z->(0<=z/\z < n)/\(i:Int) < z)/\aa=[some (.ref t),some (.int (i:Int)),some (.int (n:Int)),some (.int (m:Int)),some (.bl small),some (.int size),some (.int brim),some (gP sp),none,none]) (λ D' hD=>?_) ?_
  ·refine⟨_,rfl,_,_,rfl,rfl,_,rfl,_,_,rfl,rfl,_,rfl,?_⟩;refine dJ (λ hlt=>?_) (λ _=>bM (hD _ _ ⟨e3,none,(λ z h=>nomatch h),rfl⟩));have hlt':(i:Int)+1 < n:=aax hlt;refine xL (t:=t) (sl:=sl) (H0:=H) (bW rfl (by decide) (by decide)) _ _ e3 ?_;rintro v H4 e4 _ ⟨b,rfl⟩;refine⟨b,rfl,?_⟩;cases b with
   | false=>exact bM (hD _ _ ⟨e4,none,(λ z h=>nomatch h),rfl⟩)
   | true=>
    refine aX ?_;refine⟨_,rfl,_,_,rfl,rfl,_,rfl,_,rfl,_,rfl,_,_,rfl,rfl,_,_,rfl,rfl,t,sl,(n:Int) - i - 1,rfl,e4.tp,by omega,by omega,λ r H5 b5 t5 r0 r1=>⟨_,_,rfl,rfl,?_⟩⟩;exact hD _ _ ⟨⟨e4.bt.trans b5,t5⟩,some ((i:Int)+1+r),λ z h=>by cases h;omega,rfl⟩
  rintro σ4 H4 ⟨e4,sp,hsp,rfl⟩;refine⟨abk _,λ al hal=>?_⟩;dsimp only [fB,iJ,tC,aW];have fal:H al=none:=e4.bt.free (e4.ne hal) hal;have nal:al≠t:=e4.ne hal;refine CU (λ aa H'=>Ext t sl H H'/\∃ (acts:List (Str×Int)) (xs:List V),H' al=some (.lst xs)/\L2.IsL K H' (acts.map fF) xs/\acts.length<=3/\(∀ a∈acts,ActOk m a)/\
   ∃ v9,aa=[some (.ref t),some (.int (i:Int)),some (.int (n:Int)),some (.int (m:Int)),some (.bl small),some (.int size),some (.int brim),some (gP sp),some (.ref al),v9]) (λ D' hD=>?_) ?_
  ·refine⟨_,rfl,_,_,rfl,rfl,_,rfl,?_⟩;refine dJ (λ hlt=>?_) (λ _=>hD _ _ ⟨e4.new hal,[],[],aD,.nil,by simp,λ a ha=>(nomatch ha),none,rfl⟩);have hm0:(0:Int) < m:=aax hlt;refine D7 (t:=t) (sl:=sl) (H0:=H) (by decide) (by decide) (bW (m:=11) rfl (by decide) (by decide)) _ _ (e4.new hal) ?_;rintro v H5 e5 b5 ⟨c,rfl,c0,c1⟩;refine⟨_,rfl,by omega,by omega,?_⟩;refine gX (lo:=0) (n:=(c / 3).toNat) (λ j aa H'=>Ext t sl H H'/\∃ (acts:List (Str×Int)) (xs:List V),H' al=some (.lst xs)/\L2.IsL K H' (acts.map fF) xs/\acts.length=j/\(∀ a∈acts,ActOk m a)/\
    ∃ v9,aa=[some (.ref t),some (.int (i:Int)),some (.int (n:Int)),some (.int (m:Int)),some (.bl small),some (.int size),some (.int brim),some (gP sp),some (.ref al),v9]) ?_ ?_ ?_
   ·exact⟨e5,[],[],b5 al _ nal aD,.nil,rfl,λ a ha=>(nomatch ha),none,rfl⟩
   ·rintro j aa H6 hj ⟨e6,acts,xs,ha,hl,hlen,hok,v9,rfl⟩;refine⟨_,rfl,.inl ⟨rfl,_,bO.of ha⟩,?_⟩;refine vY (t:=t) (sl:=sl) (H0:=H) (P:=λ v=>∃ wd:Str,v=.str wd/\(wd = "open" \/ wd = "shut" \/ wd = "turn")) (pU ⟨_,rfl,.inl rfl⟩) (pU ⟨_,rfl,.inr (.inl rfl)⟩) (pU ⟨_,rfl,.inr (.inr rfl)⟩) (bW rfl (by decide) (by decide)) _ _ e6 ?_;rintro v H7 e7 b7 ⟨wd,rfl,hwd⟩;refine jI (t:=t) (sl:=sl) (H0:=H) (m:=(m:Int)) rfl rfl hm0 (by omega) _ _ e7 ?_;rintro v H8 e8 b8 ⟨r,rfl,r0,r1⟩;refine⟨(show 2<=sizeLine by decide),λ q hq=>?_⟩;have ha8:H8 al=some (.lst xs):=b8 al _ nal (b7 al _ nal ha);have nq:al≠q:=aL ha8 hq;have hxl:xs.length=acts.length:=by rw[hl.length,aab]
    refine⟨al,xs,_,rfl,rfl,by rw[aN nq];exact ha8,bP (by omega),?_⟩;have e9:Ext t sl H (upd H8 q (.tup [.str wd,.int r])):=e8.new hq;have mt:wF (upd H8 q (.tup [.str wd,.int r]) al):=by rw[aN nq,ha8];exact trivial
    have ts:cS K H6 (upd (upd H8 q (.tup [.str wd,.int r])) al (.lst (xs++[.ref q]))):=cS.put (((b7.trans b8).trans (aG.new hq).but).ts e6.tp.mut) (.inr mt);refine⟨⟨λ b o hb e=>?_,e9.tp.put nal (eI.ne_sl tp fal)⟩,acts++[(wd,r)],xs++[.ref q],aD,?_,by simp [hlen],?_,_,rfl⟩
    ·rw[aN (aL e fal)];exact e9.bt b o hb e
    ·rw[aaj];exact L2.IsL.snoc (Is.tupOf (ds:=[.str wd,.int r]) (cS.put (cS.refl _) (.inr mt) _ _ (bU.of aD)) (.cons (Is.s _) (.cons (Is.i _) .nil))) (L2.IsL.mono ts _ _ hl)
    ·intro a ha';rcases aba.mp ha' with ha' | ha'
     ·exact hok a ha'
     ·rw[abt.mp ha'];exact⟨hwd,r0,r1⟩
   ·rintro aa H6 ⟨e6,acts,xs,ha,hl,hlen,hok,v9,rfl⟩;exact hD _ _ ⟨e6,acts,xs,ha,hl,by omega,hok,v9,rfl⟩
  rintro ce H5 ⟨e5,acts,xs,ha,hl,hlen,hok,v9,rfl⟩;refine⟨_,rfl,_,rfl,_,rfl,_,rfl,_,rfl,t,sl,n,small,rfl,e5.tp,by omega,hn,λ outs p H6 e6 o1 o2 o3 hp=>?_⟩;refine xL (t:=t) (sl:=sl) (H0:=H) (bW rfl (by decide) (by decide)) _ _ ⟨e5.bt.trans e6.bt,e6.tp⟩ ?_;rintro v H7 e7 b7 ⟨b,rfl⟩;have ha7:H7 al=some (.lst xs):=b7 al _ nal (e6.bt al _ nal ha);have b57:dQ t H5 H7:=e6.bt.trans b7;refine⟨_,rfl,_,rfl,al,_,rfl,.inl ⟨bO.of ha7,λ q hq=>⟨(show 6<=sizeLine by decide),λ r hr'=>?_⟩⟩⟩;have m1:=aG.new (o:=HO.tup xs) hq;have m2:aG (upd H7 q (.tup xs)) (upd (upd H7 q (.tup xs)) r (.tup [.int size,.int brim,p,.bl b,gP sp,.ref q])):=aG.new hr';refine k ⟨size,brim,outs,b,sp,acts⟩ _ _ ((e7.new hq).new hr') ⟨s0,o1,o2,o3,λ z h=>(hsp z h).1,hlen,hok⟩ ⟨by show size<=60;omega,hb1,hb2,λ z h=>(hsp z h).2⟩ ?_;refine Is.tupOf (bU.of aD) (.cons (Is.i _) (.cons (Is.i _) (.cons ?_ (.cons (Is.b _) (.cons (Is.tgOf _) (.cons ?_ .nil))))))
  ·exact Is.mono m2.ts _ _ (Is.mono m1.ts _ _ (Is.mono (b7.ts e6.tp.mut) _ _ hp))
  ·exact Is.mono m2.ts _ _ (Is.tupOf (bU.of aD) (L2.IsL.mono m1.ts _ _ (L2.IsL.mono (b57.ts e5.tp.mut) _ _ hl)))
theorem Ext.put {t sl p:Addr}{H H':Hp}{o:HO} (e:Ext t sl H H') (tp:eI H t sl) (hp:H p=none):Ext t sl H (upd H' p o):=
 ⟨λ b u hb e1=>by rw[aN (aL e1 hp)];exact e.bt b u hb e1,e.tp.put (λ z=>by obtain⟨o,h⟩:=tp.some;rw[z,h] at hp;cases hp) (eI.ne_sl tp hp)⟩
theorem Ext.trans {t sl:Addr}{H H1 H2:Hp} (a:Ext t sl H H1) (b:Ext t sl H1 H2):Ext t sl H H2:=⟨a.bt.trans b.bt,b.tp⟩
def wT (K:aaa):Sp:=λ args H Q _=>∃ (t sl:Addr) (most:Int) (small:Bool),args=[.ref t,.int most,.bl small]/\1<=most/\most<=12/\eI H t sl/\
 ∀ (net:Net) p H',Ext t sl H H'->NetOk net->NetFull net->(net.vs.length:Int)<=most->Is K H' (eH net) p->Q p H'
theorem nR:FnScope ["tape","most","small","many","spouts","vessels","found","k","flow"] ["tape","most","small"] (aK (bB 67)):={}
theorem tD {f fD fV:Addr}{fd fdD fdV:FuncData} (F:Fun K "_law_net" "_law_net" (bB 67) f fd) (T:Txt mg) (G__law_draw:Callee P w K mg base "_law_draw" ["tape","many"] 1 fY fD fdD)
  (G__law_vessel:Callee P w K mg base "_law_vessel" ["tape","number","many","spouts","small"] 3 (oU K) fV fdV):FnOk P w K mg base hU 4 f fd ["tape","most","small"] (wT K):=by
 refine F.ok nR (λ vs H Q E h=>?_) (λ cdv A outer s H vs Q E hr h=>?_)
 ·obtain⟨t,sl,most,small,rfl,_⟩:=h;rfl
 ·obtain⟨t,sl,most,small,rfl,mo1,mo2,tp,k⟩:=h;have sc:=nR;refine⟨_,(aE (sO (i:=3) sc.nd rfl (Or.inr rfl) (aU cZ aF (cB G__law_draw hr (aA (pv 0) (aA (pv 1) aB)))))
   (aE (sO (i:=4) sc.nd rfl (Or.inr rfl) (px K (aZ (aA (cB G__law_draw hr (aA (pv 0) (aA aF aB))) (aA (cB G__law_draw hr (aA (pv 0) (aA aF aB))) aB))) (aU mC (cB G__law_draw hr (aA (pv 0) (aA aF aB))) aF)))
   (aE (jQ (i:=5) sc.nd rfl rfl (λ _ _ h=>h) rfl (LcOk.mk (N':=["k","tape","many","spouts","small"]) (fr:=[none,some 0,some 3,some 4,some 2]) rfl ⟨rfl,rfl,rfl,rfl,trivial⟩ rfl rfl rfl rfl rfl ⟨⟨_,rfl,rfl,rfl,rfl⟩,⟨_,rfl,rfl,rfl,rfl⟩,⟨_,rfl,rfl,rfl,rfl⟩,⟨_,rfl,rfl,rfl,rfl⟩,trivial⟩) (fT rfl T.b_range (aA (pv 3) aB)) (λ _ _ _=>(gC 0 ["k","tape","many","spouts","small"])) (λ _ _ _=>cU) (λ _ _ _=>(cB G__law_vessel hr (aA (pv 1) (aA (pv 0) (aA (pv 2) (aA (pv 3) (aA (pv 4) aB))))))))
   (aE (pL 6 sc.nd (aZ aB))
   (aE (dS PassesOwn.never rfl (fT rfl T.b_range (aA (pv 4) aB)) (gL 7 sc.nd) (aE (pL 8 sc.nd (px K (aZ (aA (cB G__law_draw hr (aA (pv 0) (aA aF aB))) (aA (cB G__law_draw hr (aA (pv 0) (aA (px K (aZ (aA aF (aA aF aB))) (aR dZ rfl T.b_int eU (aA (pv 2) aB))) aB))) aB))) (aU mC (cB G__law_draw hr (aA (pv 0) (aA aF aB))) aF)))
   (aH (dG (eC (K:=K) rfl aat abe abf cM (pv 6) (aA (bQ (aA (cB G__law_draw hr (aA (pv 0) (aA (pv 3) aB))) (aA (pv 8) (aA (d2 r6 (cB G__law_draw hr (aA (pv 0) (aA aF aB))) aF (aP _)) aB)))) aB))))))
   (aH (aM (bQ (aA (aR (cO (K:=K) rfl) rfl T.b_tuple bS (aA (pv 5) aB)) (aA (aR (cO (K:=K) rfl) rfl T.b_tuple bS (aA (pv 6) aB)) aB)))))))))),?_⟩
  refine uA (t:=t) (sl:=sl) (H0:=H) (x:=1) (y:=2) (l:=0) (h:=most) (pU ⟨1,rfl,by omega,by omega⟩) (jI (m:=most) rfl rfl (by omega) (by omega)) _ _ ⟨dQ.refl _,tp⟩ ?_;rintro v H1 e1 _ ⟨n',rfl,n0,n1⟩;obtain⟨n,rfl⟩:=Int.eq_ofNat_of_zero_le (show 0<=n' by omega);refine gF (t:=t) (sl:=sl) (H0:=H) (P:=d6 0 13) (kR (bW rfl (by decide) (by decide)) (Int.le_refl _) (by decide)) (bW rfl (by decide) (by decide)) (oK (bW rfl (by decide) (by decide))) _ _ e1 ?_;rintro v H2 e2 _ ⟨m',rfl,m0,m1⟩;obtain⟨m,rfl⟩:=Int.eq_ofNat_of_zero_le m0;refine⟨_,rfl,_,rfl,by omega,by omega,?_⟩;refine CB (n:=n) (λ D i r aa H'=>H2 D=none/\Ext t sl H H'/\H' D=some (.lst r)/\∃ vs:List Vs,vs.length=i/\L2.IsL K H' (vs.map o0) r/\(∀ v∈vs,VOk n m v)/\(∀ i v,vs[i]? = some v->VFull i v)/\∃ v0,aa=[v0,some (.ref t),some (.int (n:Int)),some (.int (m:Int)),some (.bl small)])
   (λ D hD=>⟨hD,e2.new hD,aD,[],rfl,.nil,(λ v hv=>nomatch hv),(λ i v hv=>by simp at hv),none,rfl⟩) ?_ ?_
  rotate_left
  ·rintro D i r aa H3 hi ⟨hD,e3,hl,vs,hlen,hvl,hok,hfu,v0,rfl⟩;refine pP ?_;refine⟨_,rfl,_,rfl,_,rfl,_,rfl,_,rfl,t,sl,i,n,m,small,rfl,e3.tp,hi,by omega,by omega,λ v p H4 e4 vok vfu hp=>?_⟩;have nD:D≠t:=e2.ne hD;have fD:H D=none:=e2.bt.free nD hD;have hl4:H4 D=some (.lst r):=e4.bt D _ nD hl;have hrl:r.length=vs.length:=by rw[hvl.length,aab]
   have mt:wF (H4 D):=by rw[hl4];exact trivial
   refine⟨hl4,bP (by omega),hD,(e3.trans e4).put tp fD,aD,vs++[v],by simp [hlen],?_,?_,?_,_,rfl⟩
   ·rw[aaj];exact L2.IsL.snoc (Is.mono (cS.put (cS.refl _) (.inr mt)) _ _ hp) (L2.IsL.mono (cS.put (e4.bt.ts e3.tp.mut) (.inr mt)) _ _ hvl)
   ·intro u hu;rcases aba.mp hu with hu | hu
    ·exact hok u hu
    ·rw[abt.mp hu];exact vok
   ·intro j u hu;rcases Nat.lt_or_ge j vs.length with hj | hj
    ·rw[acg hj] at hu;exact hfu j u hu
    ·rw[acf hj] at hu;have e0:j - vs.length=0:=by
      rcases Nat.eq_zero_or_pos (j - vs.length) with h | h
      ·exact h
      ·rw[List.getElem?_eq_none (show [v].length<=j - vs.length from h)] at hu;cases hu
     rw[e0] at hu;have e1:j=i:=by omega
     cases hu;rw[e1];exact vfu
  rintro D r aa H3 ⟨hD,e3,hl,vs,hlen,hvl,hok,hfu,_⟩;have nD:D≠t:=e2.ne hD;have fD:H D=none:=e2.bt.free nD hD;refine⟨abk _,λ fl hfl=>?_⟩;have nf:fl≠t:=e3.ne hfl;have ff:H fl=none:=e3.bt.free nf hfl;have nDf:D≠fl:=aL hl hfl;refine⟨_,rfl,_,rfl,by omega,by omega,?_⟩;refine gX (lo:=0) (n:=m) (λ j aa H'=>Ext t sl H H'/\H' D=some (.lst r)/\L2.IsL K H' (vs.map o0) r/\∃ (sps:List oO) (xs:List V),H' fl=some (.lst xs)/\L2.IsL K H' (sps.map qB) xs/\sps.length=j/\(∀ s∈sps,(0<=s.1/\s.1 < n)/\0<=s.2.1/\s.2.1<=60)/\
   ∃ v7 v8,aa=[some (.ref t),some (.int most),some (.bl small),some (.int (n:Int)),some (.int (m:Int)),some (.ref D),some (.ref fl),v7,v8]) ?_ ?_ ?_
  ·exact⟨e3.new hfl,by rw[aN nDf];exact hl,L2.IsL.mono (aG.new hfl).ts _ _ hvl,[],[],aD,.nil,rfl,(λ s hs=>nomatch hs),none,none,rfl⟩
  ·rintro j aa H4 hj ⟨e4,hl4,hv4,sps,xs,hf4,hs4,hslen,hsok,v7,v8,rfl⟩;refine gF (t:=t) (sl:=sl) (H0:=H) (P:=d6 0 61) (kR (bW rfl (by decide) (by decide)) (Int.le_refl _) (by decide))
    (kR (jJ (lo:=4) (hi:=62) rfl (by decide) (by decide) (oJ rfl ⟨by decide,by decide⟩ ⟨by decide,by decide⟩)) (Int.le_refl _) (by decide)) (oK (bW rfl (by decide) (by decide))) _ _ e4 ?_
   rintro v H5 e5 b5 ⟨flow,rfl,fl0,fl1⟩;have hf5:H5 fl=some (.lst xs):=b5 fl _ nf hf4;refine⟨_,rfl,.inl ⟨rfl,_,bO.of hf5⟩,?_⟩;refine jI (t:=t) (sl:=sl) (H0:=H) (m:=(n:Int)) rfl rfl (by omega) (by omega) _ _ e5 ?_;rintro v H6 e6 b6 ⟨tg,rfl,tg0,tg1⟩;refine⟨_,rfl,?_⟩;refine JF (t:=t) (sl:=sl) (H0:=H) (bW rfl (by decide) (by decide)) _ _ e6 ?_;rintro v H7 e7 b7 ⟨dr,rfl⟩;refine⟨(show 3<=sizeLine by decide),λ q hq=>?_⟩;have b47:dQ t H4 H7:=b5.trans (b6.trans b7);have hf7:H7 fl=some (.lst xs):=b47 fl _ nf hf4;have hl7:H7 D=some (.lst r):=b47 D _ nD hl4;have nq:fl≠q:=aL hf7 hq;have nDq:D≠q:=aL hl7 hq;have hxl:xs.length=sps.length:=by rw[hs4.length,aab]
   refine⟨fl,xs,_,rfl,rfl,by rw[aN nq];exact hf7,bP (by omega),?_⟩;have mt:wF (upd H7 q (.tup [.int tg,.int flow,.bl dr]) fl):=by rw[aN nq,hf7];exact trivial
   have ts:cS K H4 (upd (upd H7 q (.tup [.int tg,.int flow,.bl dr])) fl (.lst (xs++[.ref q]))):=cS.put ((b47.trans (aG.new hq).but).ts e4.tp.mut) (.inr mt);refine⟨(e7.new hq).put tp ff,by rw[aN nDf,aN nDq];exact hl7,L2.IsL.mono ts _ _ hv4,sps++[(tg,flow,dr)],xs++[.ref q],aD,?_,by simp [hslen],?_,_,_,rfl⟩
   ·rw[aaj];exact L2.IsL.snoc (Is.tupOf (ds:=[.int tg,.int flow,.bl dr]) (cS.put (cS.refl _) (.inr mt) _ _ (bU.of aD)) (.cons (Is.i _) (.cons (Is.i _) (.cons (Is.b _) .nil)))) (L2.IsL.mono ts _ _ hs4)
   ·intro s hs;rcases aba.mp hs with hs | hs
    ·exact hsok s hs
    ·rw[abt.mp hs];exact⟨⟨tg0,tg1⟩,fl0,show flow<=60 by omega⟩
  ·rintro aa H4 ⟨e4,hl4,hv4,sps,xs,hf4,hs4,hslen,hsok,v7,v8,rfl⟩;refine⟨_,rfl,D,_,rfl,.inl ⟨bO.of hl4,λ q1 hq1=>⟨_,rfl,fl,_,rfl,.inl ⟨bO.of (aG.new hq1 _ _ hf4),λ q2 hq2=>⟨(show 2<=sizeLine by decide),λ q3 hq3=>?_⟩⟩⟩⟩⟩;have m1:aG H4 (upd H4 q1 (.tup r)):=aG.new hq1;have m2:aG (upd H4 q1 (.tup r)) (upd (upd H4 q1 (.tup r)) q2 (.tup xs)):=aG.new hq2;have m3:aG (upd (upd H4 q1 (.tup r)) q2 (.tup xs)) (upd (upd (upd H4 q1 (.tup r)) q2 (.tup xs)) q3 (.tup [.ref q1,.ref q2])):=aG.new hq3;refine k ⟨vs,sps⟩ _ _ (((e4.new hq1).new hq2).new hq3) ⟨by show 1<=vs.length;omega,by show vs.length<=12;omega,by show sps.length<=12;omega,λ v hv=>by rw[hlen,hslen];exact hok v hv,λ s hs=>by rw[hlen];exact (hsok s hs).1⟩ ⟨hfu,λ s hs=>(hsok s hs).2⟩ (by show (vs.length:Int)<=most;omega) ?_;refine Is.tupOf (bU.of aD) (.cons (Is.tupOf (m3.tup (m2.tup (bU.of aD))) ?_) (.cons (Is.tupOf (m3.tup (bU.of aD)) ?_) .nil))
   ·exact L2.IsL.mono m3.ts _ _ (L2.IsL.mono m2.ts _ _ (L2.IsL.mono m1.ts _ _ hv4))
   ·exact L2.IsL.mono m3.ts _ _ (L2.IsL.mono m2.ts _ _ (L2.IsL.mono m1.ts _ _ hs4))
theorem HL:∀ n:Nat,(List.replicate n [V.int 0]).flatten=(List.replicate n (0:Int)).map V.int
 | 0=>rfl
 | n+1=>by rw[List.replicate_succ,List.replicate_succ,List.flatten_cons,HL n,aaq];rfl
def kH (n:Nat):List Int:=List.replicate n 0
def sG (K:aaa):Sp:=λ args H Q _=>∃ (x:V) (net:Net),args=[x]/\Is K H (eH net) x/\NetOk net/\
 ∀ p H',aG H H'->Is K H' (stD (kH net.vs.length) (kH net.vs.length) (net.sps.map (·.2.2))) p->Q p H'
theorem iX:FnScope ["net","vessels","spouts","empty"] ["net"] (aK (bB 44)):={}
theorem pH {f:Addr}{fd:FuncData} (F:Fun K "first_state" "first_state" (bB 44) f fd) (T:Txt mg):FnOk P w K mg base hU 1 f fd ["net"] (sG K):=by
 refine F.ok iX (λ vs H Q E h=>?_) (λ cdv A outer s H vs Q E hr h=>?_)
 ·obtain⟨x,net,rfl,_⟩:=h;rfl
 ·obtain⟨x,net,rfl,hx,nok,k⟩:=h;have sc:=iX;refine⟨_,(aE (cR (pv 0) (cG (K:=K) (n:=2) rfl rfl (aJ (gL 1 sc.nd) (aJ (gL 2 sc.nd) bY))))
   (aE (pL 3 sc.nd (aU (BH (K:=K) rfl) (bQ (aA aF aB)) (kA K T.b_len (pv 1))))
   (aH (aM (bQ (aA (pv 3) (aA (pv 3) (aA (aR (cO (K:=K) rfl) rfl T.b_tuple bS (aA (gB (λ _ _ h=>h) rfl (LcOk.mk (N':=["target","flow","door"]) (fr:=[none,none,none]) rfl trivial rfl rfl rfl rfl rfl trivial) (cV (K:=K) rfl (pv 2)) (λ _ _ _=>(cG (K:=K) (n:=3) rfl rfl (aJ (gC 0 ["target","flow","door"]) (aJ (gC 1 ["target","flow","door"]) (aJ (gC 2 ["target","flow","door"]) bY))))) (λ _ _ _=>cU) (λ _ _ _=>(pv 2))) aB)) aB)))))))),?_⟩
  obtain⟨a,b,c,xs,ys,rfl,q,q1,l1,q2,l2⟩:=nC hx;have exl:xs.length=net.vs.length:=by rw[l1.length,aab]
  have eyl:ys.length=net.sps.length:=by rw[l2.length,aab]
  have n1:=nok.lo;have n2:=nok.hi;have n3:=nok.sp;refine⟨_,rfl,a,_,rfl,q,rfl,_,_,rfl,_,_,rfl,rfl,?_⟩;refine⟨(show 1<=sizeLine by decide),λ z hz=>⟨_,rfl,b,xs,rfl,.inr ((aG.new hz).tup q1),z,_,[.int 0],rfl,rfl,bU.of aD,by omega,by omega,by simp,by simp,λ e H1 sm1 qe=>?_⟩⟩;have s1:aG H H1:=(aG.new hz).trans sm1;have en:((xs.length:Nat):Int).toNat=net.vs.length:=by rw[exl];simp
  rw[en,HL] at qe;refine⟨_,rfl,_,rfl,_,rfl,c,rfl,⟨_,s1.tup q2⟩,iC (K:=K) (a:=c) (xs:=ys) (λ D i r aa H'=>H1 D=none/\aG H1 H'/\H' D=some (.lst r)/\r=((net.sps.take i).map (·.2.2)).map V.bl/\∃ u v w,aa=[u,v,w])
   (λ D i r aa H' p=>p.2.1.tup (s1.tup q2)) (λ D hD=>⟨hD,aG.new hD,aD,by simp,none,none,none,rfl⟩) ?_ ?_⟩
  rotate_left
  ·rintro D i x r aa H2 hx ⟨hD,sm,hDl,rfl,u,v,w',rfl⟩;obtain⟨sp,hsi,sa,rfl,qs⟩:=HH l2 hx;have hil:=(aai.mp hsi).1;refine⟨sa,_,rfl,sm.tup (s1.tup qs),rfl,_,_,rfl,_,_,rfl,_,_,rfl,rfl,?_⟩;refine AK ⟨_,rfl,hDl,bP (by simp;omega),hD,sm.put hD,aD,?_,_,_,_,rfl⟩;rw[rT hsi];simp
  ·rintro D r aa H2 ⟨hD,sm,hDl,rfl,_⟩;rw[eyl,List.take_length] at hDl;refine⟨D,_,rfl,.inl ⟨bO.of hDl,λ d hd=>⟨(show 3<=sizeLine by decide),λ r hr'=>?_⟩⟩⟩;have m1:aG H2 (upd H2 d (.tup ((net.sps.map (·.2.2)).map V.bl))):=aG.new hd;have m2:aG (upd H2 d (.tup ((net.sps.map (·.2.2)).map V.bl))) (upd (upd H2 d (.tup ((net.sps.map (·.2.2)).map V.bl))) r (.tup [.ref e,.ref e,.ref d])):=aG.new hr';refine k _ _ (((s1.trans sm).trans m1).trans m2) (K9 (bU.of aD) ?_ ?_ (m2.tup (bU.of aD)))
   ·exact m2.tup (m1.tup (sm.tup qe))
   ·exact m2.tup (m1.tup (sm.tup qe))
theorem eX (i:Int):(L2.D.int i).depth=0:=by rw[L2.D.depth] <;> intros <;> (first | rfl | (intro z;cases z) | (rename_i z;cases z))
theorem w8 (i:Bool):(L2.D.bl i).depth=0:=by rw[L2.D.depth] <;> intros <;> (first | rfl | (intro z;cases z) | (rename_i z;cases z))
def xX (K:aaa):Sp:=λ vs H Q _=>∃ (a:Addr) (ns:List Int),vs=[.ref a]/\bO K H a (ns.map V.int)/\ns.length<=63/\∀ H',Q (.bl true) H'
end Tw
namespace L2
open PySem PySem.Spec PyProof.Rows TwZ
section
variable {X:Cx}
theorem cE {x:Str}{v:V}{pos:Pos} (hg:Gl X x) (h:∃ u,X.mg x=some u/\bF v u) (hd:(x == ("__debug__" : Str))=false:=by decide):PE X (.Name x pos) (tC v):=by
 obtain⟨u,e,r⟩:=h;exact EL hg e r hd
end
theorem tX {c A B:Prop} [Decidable c] (hc:c) (h:A):if decide c=true then A else B:=by
 rw[if_pos (aaw hc)];exact h
end L2
namespace Tw
open PySem L2
structure TxtN (K:aaa) (mg:Str->Option Value) (aw:Addr):Prop where
 g_MOST_VESSELS:∃ u,mg "MOST_VESSELS" = some u/\bF (.int 12) u
 g_MOST_SPOUTS:∃ u,mg "MOST_SPOUTS" = some u/\bF (.int 12) u
 g_MOST_SIZE:∃ u,mg "MOST_SIZE" = some u/\bF (.int 60) u
 g_MOST_BRIM:∃ u,mg "MOST_BRIM" = some u/\bF (.int 200) u
 g_MOST_OUTS:∃ u,mg "MOST_OUTS" = some u/\bF (.int 3) u
 g_MOST_PARTS:∃ u,mg "MOST_PARTS" = some u/\bF (.int 60) u
 g_MOST_ACTS:∃ u,mg "MOST_ACTS" = some u/\bF (.int 3) u
 g_MOST_FLOW:∃ u,mg "MOST_FLOW" = some u/\bF (.int 60) u
 g_ACT_WORDS:∃ u,mg "ACT_WORDS" = some u/\bF (.ref aw) u
 words:∀ H,bU K H aw [.str "open",.str "shut",.str "turn"]
section
variable {aw:Addr}
theorem nP:FnScope ["thing","least","most"] ["thing","least","most"] (aK (bB 27)):={}
theorem nO:FnScope ["thing","least","most"] ["thing","least","most"] (aK (bB 28)):={}
theorem qU:FnScope ["thing","vessel_count","target","parts"] ["thing","vessel_count"] (aK (bB 23)):={}
theorem qW:FnScope ["thing","spout_count","word","spout"] ["thing","spout_count"] (aK (bB 24)):={}
theorem nQ:FnScope ["thing","vessel_count","target","flow","door"] ["thing","vessel_count"] (aK (bB 25)):={}
theorem lR:FnScope ["thing","number","vessel_count","spout_count","size","brim","outs","holds","spill","acts"] ["thing","number","vessel_count","spout_count"] (aK (bB 22)):={}
theorem qV:FnScope ["thing","vessels","spouts","number","vessel"] ["thing"] (aK (bB 21)):={}
end
end Tw
namespace L2
open PySem PySem.Spec PyProof.Rows TwZ
section
variable {X:Cx}
theorem mB {o value:Expr}{f:Str}{pos pos':Pos}{ta tv:TE} (hK:X.K=K) (ha:PE X o ta) (hv:PE X value tv) (hs:swapsWith value (some (.Attribute o f pos')) pos.line X.env=pure false):PS X (.Assign [.Attribute o f pos'] value pos) (KG K ta tv f):=by subst hK;exact HY ha hv hs
theorem BM (hK:X.K=K):gG X (binaryOp .Add) (GJ K):=by subst hK;exact yF
theorem oR (l:Addr) (items:Array Value) (n:Nat) (x:Int) (u:Tok) (dd:Option Addr) (sl:Array (Option Value)) (c0:¬ (decide (x < -(2 ^ 63)) || decide (x ≥ 2 ^ 63))=true) (c1:¬ (items.isEmpty || x == 1)=true)
  (c2:(decide (x<=0) || items.isEmpty)=true) :
  Meets (Builtin.«tuple.__mul__» ⟨[.ref l,.int x u],[]⟩) (λ _ R s=>s.heap.get? l=some { cls:=.type "tuple",dict:=dd,data:=.seq items n,slots:=sl }/\
   R (.ok (.ret (.ref s.heap.objs.size))) { s with heap:=s.heap.push { cls:=.type "tuple",data:=.seq #[] } }):=
 .of_wp λ prog w A R s h=>by
  obtain⟨hp,g,d,tk,os⟩:=s;obtain⟨hl,h⟩:=h
  wp_walk
  rw[if_neg c0]
  wp_walk
  all_goals (try rw[if_neg c1])
  wp_walk
  all_goals (try rw[if_pos c2])
  wp_walk
  exact⟨_,rfl,h⟩
def GF (K:aaa):R2:=λ x y H Q=>∃ (l:Addr) (k:Int) (xs:List V),x=.ref l/\y=.int k/\bU K H l xs/\0<=k/\k < 1000000/\xs≠[]/\xs.length<=10/\
 ∀ p H',aG H H'->bU K H' p (List.replicate k.toNat xs).flatten->Q (.ref p) H'
theorem EQ:gG X (binaryOp .Mult) (GF X.K):=by
 intro pins s σ H x y v u Q I rx ry h;obtain⟨l,k,xs,rfl,rfl,hq,h1,h2,hne,hl10,q⟩:=h
 by_cases hk:1<=k
 ·exact yD pins s σ H _ _ v u Q I rx ry ⟨l,k,xs,rfl,rfl,hq,hk,h2,hne,hl10,q⟩
 ·have hk0:k=0:=by omega
  subst hk0;cases rx;obtain⟨t,rfl⟩:=ry;obtain⟨its,r,ht,z⟩:=I.tuple hq;have hlen:=r.length;obtain⟨⟨cls,dd,data,sl⟩,e,hc,n,hd⟩:=id ht;simp only at hc hd;subst hc hd;refine wpAny_binaryOp_repeat_ref (T := "tuple") (U := "int") (by decide) ⟨_,e,rfl⟩ (λ s'=>typeIs_int s' 0 t) gS F.fills_int_mul F.slot_int_rmul m6 F.slot_int_index.lookup
   (call_meets F.slot_int_rmul (typeIs_int s 0 t) F.entry_int_rmul (F.args_int_rmul_2 _ _) (jH 0 t l its.toArray n dd sl) ⟨e,rfl,⟨_,e,rfl⟩,?_⟩)
  have hne':its≠[]:=λ z=>by rw[z] at hlen;exact hne (List.eq_nil_of_length_eq_zero hlen)
  have hemp:its.toArray.isEmpty=false:=by cases its with
   | nil=>exact absurd rfl hne'
   | cons a r=>rfl
  refine call_meets F.slot_tuple_mul ⟨_,e,rfl⟩ F.entry_tuple_mul (F.args_tuple_mul_2 _ _) (oR l its.toArray n 0 t dd sl (by decide) (by rw[hemp];decide) (by simp)) ⟨e,?_⟩;have I1:=I.laid (a:=s.heap.objs.size) (o:=.tup []) (h':=s.heap.push { cls:=.type "tuple",data:=.seq #[] }) (t':=s.toks)
   (λ _ _ q=>aah _ q) (aag _) ⟨abk _,[],.nil,⟨_,aas _ rfl,rfl,0,rfl⟩⟩
  exact⟨.ref _,_,I1,rfl,q _ _ (aG.new I.fresh) (bU.of aD)⟩
theorem BG (hK:X.K=K):gG X (binaryOp .Mult) (GF K):=by subst hK;exact EQ
end
section
variable {X:Cx}{pins:List (Addr×Obj)}{σ:St}{H:Hp}{s:Shared}
end
section
variable {H:Hp}
end
theorem cY.some {P:Program}{w:World}{H:Hp}{h:Heap}{a:Addr}{o:HO} (x:cY P w H h a o):∃ ob,h.get? a=some ob:=by
 cases o with
 | lst xs=>obtain⟨_,_,_,_,e⟩:=x;exact⟨_,e⟩
 | tup xs=>obtain⟨_,_,_,ob,e,_⟩:=x;exact⟨_,e⟩
 | dK kvs=>obtain⟨_,_,_,_,o,_,_,e,_⟩:=x;exact⟨_,e⟩
 | dT kvs=>obtain⟨_,_,_,_,o,_,_,e,_⟩:=x;exact⟨_,e⟩
 | set S n=>obtain⟨o,_,_,_,e,_⟩:=x;exact⟨_,e⟩
 | ins C dx fs=>obtain⟨_,_,_,e,_⟩:=x;exact⟨_,e⟩
 | own y=>obtain⟨_,e⟩:=x;exact⟨_,e⟩
 | xd fs=>obtain⟨_,⟨_,_,_,e,_⟩,_⟩:=x;exact⟨_,e⟩
 | rng lo hi=>obtain⟨_,_,_,e⟩:=x;exact⟨_,e⟩
 | frz ob u=>obtain⟨e,_⟩:=x;exact⟨_,e⟩
 | tbl ps=>exact⟨_,(show h.get? a=Option.some _ from x)⟩
 | met f y=>exact⟨_,(show h.get? a=Option.some _ from x)⟩
 | ext cg=>obtain⟨_,⟨_,e⟩,_⟩:=x;exact⟨_,e⟩
structure Fly (P:Program) (w:World) (stack:List Env) (H:Hp) (h:Heap) (ea:Addr) (cls a0:Value) (H':Hp) (h' B:Heap):Prop where
 fl:Heap.FlyingW B stack ea cls a0 h'
 keep:∀ b o,h.get? b=some o->H b=none->b∉lH stack->B.get? b=some o
 slot:∀ b o,h.get? b=some o->H b=none->b∈lH stack->∃ sl,h'.get? b=some { o with slots:=sl }
 free:∀ b o,h.get? b=some o->H b=none->H' b=none
 there:∀ b o,h.get? b=some o->b∉lH stack->∃ o',B.get? b=some o'
 tups:∀ b xs,H b=some (.tup xs)->H' b=some (.tup xs)
 frzs:∀ b o u,H b=some (.frz o u)->H' b=some (.frz o u)
 tbls:∀ b ps,H b=some (.tbl ps)->∃ more,H' b=some (.tbl (ps++more))
 hok:lI P w H' B
def uM (P:Program) (w:World):AJ:=λ outer H s E e s'=>∃ (ea:Addr) (cls a0:Value) (H':Hp) (B:Heap),e=.ref ea/\s'.os=s.os/\AllBare s'.gens/\Fly P w outer H s.heap ea cls a0 H' s'.heap B/\E cls none H'
structure Leaves (X:Cx) (E:XK):Prop where
 stk:X.stack=X.env::X.outer
 fr:X.env.frame=some X.env.locals
 ex:X.ex=[]
 xe:∀ e s',wpAny (model X.prog X.w) X.A (leaving X.env e) (λ _ s''=>uM X.prog X.w X.outer X.H₀ X.s₀ E e s'') (λ e' s''=>uM X.prog X.w X.outer X.H₀ X.s₀ E e' s'') s'->X.xe e s'
section
variable {X:Cx}{pins:List (Addr×Obj)}{σ:St}{H H':Hp}{s s':Shared}{E:XK}
theorem FD {l:List Env}{b:Addr}{env:Env} (he:env∈l) (hf:env.frame=some b):b∈lH l:=List.mem_filterMap.mpr ⟨env,he,hf⟩
theorem mG {l:List Env}{b L:Addr}{env:Env} (hf:env.frame=some L) (h:b∈lH (env::l)):b=L\/b∈lH l:=by
 unfold lH at h ⊢;rw[List.filterMap_cons,hf] at h;exact aaz.1 h
theorem B5 {h':Heap}{ea:Addr}{cls:Value}{vs:List Value} (L:Leaves X E) (I:Inv X pins σ H s) (hx:Heap.MadeExcOf s.heap h' ea cls vs) (hE:E cls none H):X.xe (.ref ea) { s with heap:=h' }:=by
 refine L.xe _ _ ?_;have fr:X.A.frames=some (X.env::X.outer):=by rw[<- L.stk];exact I.ok.frames
 have hs:s.heap.FunFrames X.base (X.env::X.outer):=by rw[<- L.stk];exact I.stack
 have hfree:∀ b∈lH (X.env::X.outer),H b=none:=by rw[<- L.stk];exact I.stkFree
 have nex:∀ b:Addr,b∉X.ex:=λ b z=>by rw[L.ex] at z;cases z
 have out:∀ b o,X.s₀.heap.get? b=some o->b∉lH X.outer->b∉lH (X.env::X.outer):=λ b o e hb z=>by
  rcases mG L.fr z with z | z
  ·exact absurd (aan (aal e) I.ok.above) (by rw[z];exact abx _)
  ·exact hb z
 refine wpAny_leaves_madeW (base:=PySem.W.hideAll s.heap (lH (X.env::X.outer))) fr L.fr (λ b o q=>PySem.W.of_hideAll _ q) (PySem.W.funFrames_hide hs λ env he a hf=>FD he hf) hx λ h2 t x1 x2 x3 x4=>?_;refine⟨ea,cls,.ref t,H,_,rfl,I.os,I.bare,⟨x1,λ b o e n hb=>?_,λ b o e n hb=>?_,λ b o e n=>I.base.free b o e n (nex b),λ b o e hb=>?_,I.base.tups,I.base.frzs,I.base.tbls,λ a o e=>?_⟩,hE⟩
 ·exact PySem.W.hideAll_get _ (I.base.keep b o e n hb (nex b)) (out b o e hb)
 ·obtain⟨sl,e1⟩:=I.base.slot b o e n hb (nex b);obtain⟨_,o',ho',hd⟩:=I.ok.funs.mem hb;rw[e] at ho';cases ho';obtain⟨sl',e2⟩:=x4 b _ (hx.keeps _ _ e1) hd;exact⟨sl',e2⟩
 ·obtain⟨o',e1⟩:=I.base.there b o e (nex b);exact⟨o',PySem.W.hideAll_get _ e1 (out b o e hb)⟩
 ·refine (I.hok a o e).stay (λ b u hb q=>PySem.W.hideAll_get _ q λ z=>?_) (λ _ q=>q) λ _ _ q=>q;have:=hfree b z;rcases hb with rfl | hb
  ·rw[e] at this;cases this
  ·rw[hb] at this;cases this
theorem dP (L:Leaves X E):jN (uM X.prog X.w) X E:=by
 intro pins σ H s e s' I h;obtain⟨ea,cls,a0,H',B,rfl,os,bare,F,hE⟩:=h;refine L.xe _ _ ?_;have fr:X.A.frames=some (X.env::X.outer):=by rw[<- L.stk];exact I.ok.frames
 have nex:∀ b:Addr,b∉X.ex:=λ b z=>by rw[L.ex] at z;cases z
 have out:∀ b o,X.s₀.heap.get? b=some o->b∉lH X.outer->b∉lH X.stack:=λ b o e hb z=>by
  rw[L.stk] at z;rcases mG L.fr z with z | z
  ·exact absurd (aan (aal e) I.ok.above) (by rw[z];exact abx _)
  ·exact hb z
 have inn:∀ b,b∈lH X.outer->b∈lH X.stack:=λ b hb=>by
  rw[L.stk];unfold lH at hb ⊢;rw[List.filterMap_cons,L.fr];exact aam _ hb
 refine wpAny_leaves_onW fr L.fr (by rw[<- L.stk];exact F.fl) λ h2 x1 x2=>?_;refine⟨ea,cls,a0,H',B,rfl,os.trans I.os,bare,⟨x1,λ b o e n hb=>?_,λ b o e n hb=>?_,λ b o e n=>?_,λ b o e hb=>?_,λ b xs e=>F.tups b xs (I.base.tups b xs e),λ b o u e=>F.frzs b o u (I.base.frzs b o u e),λ b ps e=>?_,F.hok⟩,hE⟩
 ·exact F.keep b o (I.base.keep b o e n hb (nex b)) (I.base.free b o e n (nex b)) (out b o e hb)
 ·obtain⟨sl,e1⟩:=I.base.slot b o e n hb (nex b);obtain⟨sl',e2⟩:=F.slot b _ e1 (I.base.free b o e n (nex b)) (inn b hb);obtain⟨_,o',ho',hd⟩:=I.ok.funs.mem hb;rw[e] at ho';cases ho';obtain⟨sl'',e3⟩:=x2 b _ e2 hd;exact⟨sl'',e3⟩
 ·obtain⟨o',e1⟩:=I.base.there b o e (nex b);exact F.free b o' e1 (I.base.free b o e n (nex b))
 ·obtain⟨o',e1⟩:=I.base.there b o e (nex b);exact F.there b o' e1 (out b o e hb)
 ·obtain⟨m1,e1⟩:=I.base.tbls b ps e;obtain⟨m2,e2⟩:=F.tbls b _ e1;exact⟨m1++m2,by rw[e2,Array.append_assoc]⟩
def A6 (ea:Addr) (cls:Value):HO:=.ext λ h=>∃ o,h.get? ea=some o/\o.cls=cls
theorem Inv.caught {ea:Addr}{cls a0:Value}{B:Heap} (I:Inv X pins σ H s) (os:s'.os=s.os) (bare:AllBare s'.gens) (F:Fly X.prog X.w X.stack H s.heap ea cls a0 H' s'.heap B):H' ea=none/\Inv X pins σ (upd H' ea (A6 ea cls)) s':=by
 obtain⟨ob,hob,hcls⟩:=F.fl.there;obtain⟨oe,vs,hoe,_,hfd,_⟩:=F.fl.first
 have hea:H' ea=none:=by
  cases q:H' ea with
  | none=>rfl
  | some o=>
   obtain⟨o',e⟩:=(F.hok ea o q).some;rw[F.fl.2.1] at e;cases e
 have frne:∀ b∈lH X.stack,b≠ea:=λ b hb z=>by
  obtain⟨_,o',ho',hd⟩:=F.fl.2.2.1.mem hb;rw[z,hoe] at ho';cases ho';exact hd _ hfd
 have ne:∀ b o,s.heap.get? b=some o->b≠ea:=λ b o e z=>by
  by_cases hb:b∈lH X.stack
  ·exact frne b hb z
  ·obtain⟨o',e'⟩:=F.there b o e hb;rw[z,F.fl.2.1] at e';cases e'
 have kb:∀ b u,B.get? b=some u->s'.heap.get? b=some u:=F.fl.1;refine⟨hea,I.call' (ch:=[]) os ⟨λ b o e n hb _=>kb _ _ (F.keep b o e n hb),λ b o e n hb _=>F.slot b o e n hb,λ b o e n _=>?_,λ b o e _=>?_,λ b xs e=>?_,λ b o u e=>?_,λ b ps e=>?_⟩ (λ b u e=>?_) bare (λ b z=>absurd z (by simp))⟩
 ·rw[aN (ne b o e)];exact F.free b o e n
 ·by_cases hb:b∈lH X.stack
  ·obtain⟨_,o',ho',_⟩:=F.fl.2.2.1.mem hb;exact⟨o',ho'⟩
  ·obtain⟨o',e'⟩:=F.there b o e hb;exact⟨o',kb _ _ e'⟩
 ·have:=F.tups b xs e;rw[aN (aL this hea)];exact this
 ·have:=F.frzs b o u e;rw[aN (aL this hea)];exact this
 ·obtain⟨m,e1⟩:=F.tbls b ps e;exact⟨m,by rw[aN (aL e1 hea)];exact e1⟩
 ·by_cases hb:b=ea
  ·subst hb;rw[aD] at e;cases e;exact⟨⟨ob,hob,hcls⟩,⟨ob,hob⟩,λ h1 h2 ⟨o,e1,e2⟩ k=>⟨o,k _ e1,e2⟩⟩
  ·rw[aN hb] at e;exact (F.hok b u e).stay (λ c v _ q=>kb c v q) (λ c q=>by rw[aN (aL q hea)];exact q) λ c xs q=>by rw[aN (aL q hea)];exact q
def HC (E:XK) (C:Addr) (t:TA):TS:=λ _ σ H=>t σ H λ vs H1=>vs.length<=100/\E (.ref C) none H1
theorem jA {x:Str}{C:Addr}{bm:List Value}{newId initId B:String}{np cpos pos:Pos}{cb:Expr}{rest:List Expr}{t:TA} (L:Leaves X E) (hc:X.calm=true) (hg:Gl X x) (O:PySem.W.excIn X.K C bm newId=true) (hm:PySem.W.nsIn X.K mainGlobals x=some (some (.ref C))) (FB:ExcBaseFacts B newId initId bm) (ha:PA X (cb::rest) t)
  (he:starEach (cb::rest) X.env=(false,eval cb X.env)::starEach rest X.env:=by with_unfolding_all rfl) (hplain:(backTo cpos (starEach rest X.env)).any (·.1)=false:=by with_unfolding_all rfl) (hd:(x == ("__debug__" : Str))=false:=by decide) :
  PS X (.Raise (some (.Call (.Name x np) (cb::rest) [] cpos)) none pos) (HC E C t):=by
 intro pins s σ H D I h;have G:X.mg x=some (.ref C):=aae I.ok.mod.kin I.ok.mod.glob hm;have ocl:OwnCls x C bm newId X.mg X.base:=by
  refine⟨G,?_⟩;have q:=O;unfold PySem.W.excIn at q
  split at q
  ·rename_i dd cd sl ho
   split at q
   ·rename_i C' bm' k0 k1 k2 k3 n k5 hm' hs
    simp only [Bool.and_eq_true,Bool.not_eq_true',beq_iff_eq] at q;obtain⟨⟨⟨⟨⟨rfl,rfl⟩,hdel⟩,ht⟩,hok⟩,hni⟩:=q;obtain⟨nm,bs,mro,ns,qn,hd',sn,sub,ab,col,del⟩:=cd;dsimp only at hm' hdel hok hni;subst hm' hdel;have hsl:sl = #[k0,k1,k2,k3,some (.builtin n),k5]:=by obtain⟨l⟩:=sl;simp only at hs;rw[hs]
    subst hsl;exact⟨bm',ns,nm,qn,bs,hd',sn,sub,ab,col,dd,k0,k1,k2,k3,k5,_,I.ok.mod.kin _ _ ho,.of_isNs (PySem.W.isNs_of_in I.ok.mod.kin hok),PySem.W.nsMap_none_of_in I.ok.mod.kin hok hni,PySem.W.tail_of_in I.ok.mod.kin ht⟩
   ·cases q
  ·cases q
 obtain⟨tl,N,nm,q,bs,hdct,sn,sub,ab,col,dd,k0,k1,k2,k3,k5,mN,hC,hN,hni,T⟩:=ocl.obj;refine wpAny_Raise_call_subT (C:=C) (nm:=nm) (q:=q) (N:=N) (bs:=bs) (bm:=tl) (hdct:=hdct) (sn:=sn) (sub:=sub) (ab:=ab) (col:=col) (dd:=dd) (k0:=k0) (k1:=k1) (k2:=k2) (k3:=k3) (k5:=k5) FB (mN:=mN) (T.hasType FB.hasBase) (I.ok.hd hc) (by rw[he];show (false || (backTo cpos (starEach rest X.env)).any (·.1))=false;rw[hplain];rfl) hni (mK I hg G ⟨rfl,?_⟩ hd);have ha':=ha cpos pins s σ H _ I h;rw[he] at ha' ⊢;refine Calls.evalArgs_plain (abo ha' (λ us au ⟨vs,H1,I1,r1,hlen,hE⟩=>⟨rfl,?_,I1.bk _ _ hC,hN.keeps I1.bk,T.keeps I1.bk,λ h' e hme=>B5 L I1 hme hE⟩) λ _ _ y=>y);have:=r1.length;show us.length<=sizeLine;rw[sizeLine_eq];omega
end
abbrev Cx.within (X:Cx) (pn:List (Addr×Obj)) (E:Value->Shared->Prop):Cx:={ X with pn:=pn,xe:=E }
abbrev Cx.caughtIn (X:Cx) (ea:Addr):Cx:={ X with A:=X.A.mark (some (.ref ea)),calm:=false,xe:=λ _ _=>False }
section
variable {X:Cx}{pins:List (Addr×Obj)}{σ:St}{H:Hp}{s:Shared}{pn:List (Addr×Obj)}{E:Value->Shared->Prop}{ea:Addr}
theorem Cx.Ok.within (ok:X.Ok):(X.within pn E).Ok:=
 ⟨ok.mod,ok.kind,ok.glob,ok.blt,ok.above,ok.inj,ok.has,ok.cab,ok.hd,ok.frames,ok.stk,ok.exf,ok.bs,ok.bsz,ok.noex,ok.exfs,ok.funs,ok.frf⟩
theorem Cx.Ok.unwithin (ok:(X.within pn E).Ok):X.Ok:=
 ⟨ok.mod,ok.kind,ok.glob,ok.blt,ok.above,ok.inj,ok.has,ok.cab,ok.hd,ok.frames,ok.stk,ok.exf,ok.bs,ok.bsz,ok.noex,ok.exfs,ok.funs,ok.frf⟩
theorem Inv.within (I:Inv X pins σ H s):Inv (X.within (X.pn++pins) E) [] σ H s:=
 ⟨I.ok.within,I.os,I.bare,I.base,I.loc,I.cell,I.free,I.freeC,λ p hp=>I.pin p (by simpa using hp),I.hok,I.len⟩
theorem Inv.unwithin {p2:List (Addr×Obj)} (I:Inv (X.within (X.pn++pins) E) p2 σ H s):Inv X pins σ H s:=
 ⟨I.ok.unwithin,I.os,I.bare,I.base,I.loc,I.cell,I.free,I.freeC,λ p hp=>I.pin p (abq _ hp),I.hok,I.len⟩
theorem Inv.mark (I:Inv X pins σ H s):Inv (X.caughtIn ea) pins σ H s:=
 ⟨⟨I.ok.mod,I.ok.kind,I.ok.glob,I.ok.blt,I.ok.above,I.ok.inj,I.ok.has,I.ok.cab,λ z=>Bool.noConfusion z,I.ok.frames,I.ok.stk,I.ok.exf,I.ok.bs,I.ok.bsz,I.ok.noex,I.ok.exfs,I.ok.funs,I.ok.frf⟩,I.os,I.bare,I.base,I.loc,I.cell,I.free,I.freeC,I.pin,I.hok,I.len⟩
theorem Inv.unmark (ok:X.Ok) (I:Inv (X.caughtIn ea) pins σ H s):Inv X pins σ H s:=
 ⟨ok,I.os,I.bare,I.base,I.loc,I.cell,I.free,I.freeC,I.pin,I.hok,I.len⟩
theorem BT {M:Model}{A:Around}{E:Value->Shared->Prop}{i:Nat}{n:Str}{pos:Pos}{Q:Unit->Shared->Prop} (I:Inv X pins σ H s) (hN:X.N.Nodup) (hi:X.N[i]? = some n) (hk:X.env.scope.names.lookup n=some .local)
  (h:∀ s',Inv X pins (σ.set i none) H s'->Q () s'):wpAny M A (do bindName X.env n .none;unbindBehindTheSuite X.env n pos) Q E s:=by
 obtain⟨m,hn,hl⟩:=id I.loc;have hcls:(X.env.scope.kind == .class || (X.env.scope.kind == .module && X.env.locals != X.env.globals))=false:=by rw[I.ok.kind];rfl
 have hlo:X.env.kindOf n=some .local:=hk;have bp:i < σ.length:=by rw[I.len];exact (aai.mp hi).1
 refine aac (wpAny_bindName (wpAny_storeName_local hk hn (λ ag hn₁ ak=>?_) hcls));unfold unbindBehindTheSuite;refine wpAny_onRaise ?_;unfold unbindName;refine aac (wpAny_point (aac ?_));unfold deleteName;simp only [hlo,hcls];rw[if_neg (by decide)];refine aac (wpAny_nsDel_keeps hn₁ λ aq v hn₂ ar=>?_);simp only [if_true,Option.isSome_some,Bool.not_true,Bool.false_eq_true,if_false];have hs:=ak.trans ar;obtain⟨oL,_,_,hoL,_⟩:=id hn;have cne:=I.cne;refine aav (wpAny_point (h _ ⟨I.ok,I.os,I.bare,⟨λ b o e n hb hx=>?_,λ b o e n hb hx=>?_,I.base.free,λ b o e hx=>?_,I.base.tups,I.base.frzs,I.base.tbls⟩,⟨_,hn₂,λ j y v' e1 e2 e3=>?_⟩,λ y c e=>?_,I.free,I.freeC,λ p hp=>?_,λ b ob e=>?_,by simpa using I.len⟩))
 ·exact (hs.2 b (abi (aan (aal e) I.ok.above))).trans (I.base.keep b o e n hb hx)
 ·obtain⟨sl,e1⟩:=I.base.slot b o e n hb hx;exact⟨sl,(hs.2 b (abi (aan (aal e) I.ok.above))).trans e1⟩
 ·obtain⟨o',e1⟩:=I.base.there b o e hx;exact⟨o',(hs.2 b (abi (aan (aal e) I.ok.above))).trans e1⟩
 ·by_cases hj:j=i
  ·subst hj;rw[acm bp] at e2;cases e2
  ·rw[acq (Ne.symm hj)] at e2;obtain⟨u',r',q⟩:=hl j y v' e1 e2 e3;refine⟨u',r',?_⟩;rcases q with ⟨k,e⟩ | ⟨k,c,e,z⟩
   ·refine .inl ⟨k,?_⟩;have:y≠n:=λ e=>hj (pO hN e1 (e ▸ hi));simp [this,e]
   ·exact .inr ⟨k,c,e,z.sameBut hs (cne y c e)⟩
 ·obtain⟨w',z⟩:=I.cell y c e;exact⟨w',z.sameBut hs (cne y c e)⟩
 ·obtain⟨e,n,ne,nf,d⟩:=I.pin p hp;exact⟨(hs.2 p.1 ne).trans e,n,ne,nf,d⟩
 ·refine (I.hok b ob e).stay (λ c w' hc q=>(hs.2 c ?_).trans q) (λ _ q=>q) λ _ _ q=>q;rintro rfl;rcases hc with rfl | hc
  ·rw[I.free] at e;cases e
  ·rw[I.free] at hc;cases hc
def tTry (K:aaa) (E:XK) (CT:Addr) (k i:Nat) (tb ts:TS):TS:=λ D σ H=>tb D σ H/\
 ∀ (cls:Value) (H':Hp) (ea:Addr) (aa:St),E cls none H'->aa.length=k->H' ea=none->PySem.W.exmOne K cls (.ref CT)=some true/\
  ts { nx:=λ ai H2=>D.nx (ai.set i none) H2,rt:=λ _ _=>False } (aa.set i (some (.ref ea))) (upd H' ea (A6 ea cls))
theorem HW {EX:XK}{CT:Addr}{x n:Str}{i:Nat}{body suite:List Stmt}{de:Stmt}{np hpos pos:Pos}{tb ts:TS} (hstk:X.stack=X.env::X.outer) (hfr:X.env.frame=some X.env.locals)
  (hb:∀ (pn:List (Addr×Obj)) (xe:Value->Shared->Prop),jN (uM X.prog X.w) (X.within pn xe) EX->xR (X.within pn xe) body tb)
  (hg:Gl X x) (hm:X.mg x=some (.ref CT)) (hN:X.N.Nodup) (hi:X.N[i]? = some n) (hk:X.env.scope.names.lookup n=some .local)
  (hs:∀ ea:Addr,xR (X.caughtIn ea) (de::suite) ts) (hd:(x == ("__debug__" : Str))=false:=by decide) :
  PS X (.Try body [.ExceptHandler (some (.Name x np)) (some n) (de::suite) hpos] [] [] pos) (tTry X.K EX CT X.N.length i tb ts):=by
 intro pins s σ H D I h;obtain⟨h1,h2⟩:=h;refine wpAny_Try_except ?_;let XE:Value->Shared->Prop:=λ e s'=>∃ (σ:St) (H:Hp) (s:Shared) (ea:Addr) (cls a0:Value) (H':Hp) (B:Heap),e=.ref ea/\Inv X pins σ H s/\s'.os=s.os/\AllBare s'.gens/\Fly X.prog X.w X.stack H s.heap ea cls a0 H' s'.heap B/\EX cls none H';have hpass:jN (uM X.prog X.w) (X.within (X.pn++pins) XE) EX:=by
  intro p2 σ H s e s' J hx;obtain⟨ea,cls,a0,H',B,rfl,os,bare,F,hE⟩:=hx;exact⟨σ,H,s,ea,cls,a0,H',B,rfl,J.unwithin,os,bare,F,hE⟩
 refine abo (hb (X.pn++pins) XE hpass [] s σ H D I.within h1) (λ f ad hf=>?_) λ e ad hx=>?_
 ·cases f with
  | next=>
   obtain⟨aa,H',J,q⟩:=hf;exact aS pins ad aa H' D J.unwithin q
  | brk=>obtain⟨aa,H',J,q⟩:=hf;exact⟨aa,H',J.unwithin,q⟩
  | cont=>obtain⟨aa,H',J,q⟩:=hf;exact⟨aa,H',J.unwithin,q⟩
  | ret u=>obtain⟨v,aa,H',J,r,q⟩:=hf;exact⟨v,aa,H',J.unwithin,r,q⟩
 ·obtain⟨aa,H0,s0,ea,cls,a0,H',B,rfl,J,os,bare,F,hE⟩:=hx;have fr:X.A.frames=some (X.env::X.outer):=by rw[<- hstk];exact I.ok.frames
  have again:∀ h',Heap.FlyingW B X.stack ea cls a0 h'->ad.heap.UpToSlots h'->Fly X.prog X.w X.stack H0 s0.heap ea cls a0 H' h' B:=λ h' fl sm=>
   ⟨fl,F.keep,λ b o e n hb=>by
    obtain⟨sl,e1⟩:=F.slot b o e n hb;obtain⟨_,o',ho',hd⟩:=J.stack.mem hb;rw[e] at ho';cases ho';obtain⟨sl',e2⟩:=sm b _ e1 hd;exact⟨sl',e2⟩,F.free,F.there,F.tups,F.frzs,F.tbls,F.hok⟩
  refine wpAny_looks_onW fr hfr (by rw[<- hstk];exact F.fl) λ bf cr cp=>?_;refine wpAny_landsW cr λ ao cc cq=>?_;have F5:=again ao (by rw[hstk];exact cc) (cp.trans cq);obtain⟨hea,J5⟩:=J.caught (s':={ ad with heap:=ao }) os bare F5;have hlen:aa.length=X.N.length:=J.len;obtain⟨hmat,hts⟩:=h2 cls H' ea aa hE hlen hea;refine wpAny_handleBy_cons (codeAny_handlers_test (mK (X:=X.caughtIn ea) J5.mark hg hm ?_ hd)) (by intro q;cases q);obtain⟨ob,hob,hobc⟩:=cc.there;have LT0:PySem.W.Looks (model X.prog X.w) ao (typeOf (.ref ea)) ob.cls:=(PySem.W.Looks.ld hob).andThen .now;have LT:PySem.W.Looks (model X.prog X.w) ao (typeOf (.ref ea)) cls:=by rw[<- hobc];exact LT0
  refine (PySem.W.exm_one (M:=model X.prog X.w) J5.kIn LT hmat).here ?_;refine codeAny_handlers_suite_as (lands_againW cc λ bo fl₆ sm₆=>?_);have F6:=again bo (by rw[hstk];exact fl₆) ((cp.trans cq).trans sm₆);obtain⟨_,J6⟩:=J.caught (s':={ ad with heap:=bo }) os bare F6;refine iP (X:=X.caughtIn ea) J6.mark hN hi (.inl hk) (v:=.ref ea) rfl (λ s7 J7=>?_) (.inr hk);refine abo (hs ea pins s7 _ _ _ J7 hts) (λ f s8 hf=>?_) λ _ _ z=>False.elim z;cases f with
  | next=>
   obtain⟨bg,H8,J8,q⟩:=hf;exact BT (J8.unmark I.ok) hN hi hk λ s9 J9=>⟨_,_,J9,q⟩
  | brk=>obtain⟨_,_,_,q⟩:=hf;exact False.elim q
  | cont=>obtain⟨_,_,_,q⟩:=hf;exact False.elim q
  | ret u=>obtain⟨_,_,_,_,_,q⟩:=hf;exact False.elim q
end
end L2
namespace L2
open PySem PySem.Spec PyProof.Rows TwZ PySem.Builtin PySem.Builtin.ObjectAttr PySem.Builtin.Getset_descriptor
structure ExcKit (K:aaa) (D:Addr):Prop where
 ga:PySem.W.findIn K (.ref D) "__getattribute__" = some (some (.builtin "BaseException.__getattribute__"))
 gt:PySem.W.findIn K (.ref D) "__getattr__" = some none
 ca:PySem.W.findIn K (.ref D) "__class__" = some (some (.builtin "object.__class__"))
 gg:PySem.W.specialIn K (.builtin "object.__class__") "__get__" = some (some (.builtin "getset_descriptor.__get__"))
 tk:PySem.W.takesIn K (.builtin "object.__class__")=some true
 mo:PySem.W.mroIn K D (.type "object")=some true
 mb:PySem.W.mroIn K D (.type "BaseException")=some true
def zC (x D:Addr) (h:Heap):Prop:=∃ o,h.get? x=some o/\o.cls=.ref D
theorem zC.ty {x D:Addr}{h:Heap} (p:zC x D h) (M:Model):PySem.W.Looks M h (typeOf (.ref x)) (.ref D):=by
 obtain⟨o,h1,h2⟩:=p;exact h2 ▸ (PySem.W.Looks.ld h1).andThen .now
section
variable {prog:Program}{x D:Addr}
theorem DG {M:Model}{A:Around}{E:Value->Shared->Prop}{s:Shared} (nameV:Value) {Q:Unit->Shared->Prop} (L0:PySem.W.Looks M s.heap (typeOf (.ref x)) (.ref D)) (LB:PySem.W.Looks M s.heap (isSubtype (.ref D) (.type "BaseException")) true) (hq:Q () s) :
  wpAny M A (checkBuiltinCall "BaseException.__getattribute__" ⟨[.ref x,nameV],[]⟩) Q E s:=by
 obtain⟨h,g,d,t,os⟩:=s;have hk:builtinKind "BaseException.__getattribute__" = some .slot:=by decide +kernel
 have hsplit:splitId "BaseException.__getattribute__" = some ("BaseException","__getattribute__"):=by decide +kernel
 have ha:=PySem.F.args_bexc_ga (.ref x) nameV;simp only [checkBuiltinCall,hk,hsplit];refine aac ?_;unfold isInstance
 repeat (first | with_reducible refine L0.at ?_ | with_reducible refine LB.at ?_ | wp_step)
 exact hq
theorem A5 {A:Around}{E:Value->Shared->Prop}{s:Shared}{Q:Option Value->Shared->Prop} (Z:ExcKit K D) (X:K.In s.heap) (p:zC x D s.heap) (hq:Q (some (.ref D)) { s with toks:=s.toks+1 }):wpAny (model prog w) A (getAttr? (.ref x) "__class__") Q E s:=by
 obtain⟨hh,g,d,t,os⟩:=s;have L0:=p.ty (model prog w);have L1:=PySem.W.looks_findIn (M:=model prog w) X Z.ga;have L2:=PySem.W.looks_findIn (M:=model prog w) X Z.gt;have L3:=PySem.W.looks_findIn (M:=model prog w) X Z.ca;have L4:PySem.W.Looks (model prog w) hh (getOf (some (.builtin "object.__class__"))) (some (.builtin "getset_descriptor.__get__")):=PySem.W.looks_specialIn X Z.gg;have L5:=PySem.W.looks_takesIn (M:=model prog w) X Z.tk;have L6:=PySem.W.looks_mroIn (M:=model prog w) X Z.mo;have LF:PySem.W.Looks (model prog w) hh (find (.ref x) (.ref D) "__class__") (.bind (.builtin "getset_descriptor.__get__") (.builtin "object.__class__")):=
  L3.andThen (L4.andThen ((show PySem.W.Looks (model prog w) hh (dataDescriptor? (some (.builtin "object.__class__")) (some (.builtin "getset_descriptor.__get__"))) (some (.builtin "getset_descriptor.__get__",.builtin "object.__class__")) from L5.andThen .now).andThen (PySem.W.Looks.tag .now)))
 have LB:=PySem.W.looks_mroIn (M:=model prog w) X Z.mb;have hk:builtinKind "BaseException.__getattribute__" = some .slot:=by decide +kernel
 have hsplit:splitId "BaseException.__getattribute__" = some ("BaseException","__getattribute__"):=by decide +kernel
 have hx2:(Value.builtin "BaseException.__getattribute__" == Value.builtin "object.__getattribute__")=false:=by decide +kernel
 unfold getAttr? getAttrBy? getAttrBy;refine aac (wpAny_mkText (aac (wpAny_attempt (abv (aac (L0.at (aac (L1.at ?_))))))));simp only [hx2,Bool.and_false,Bool.false_eq_true,if_false];unfold getAttrByItsOwn hookBefore;refine aac ?_;rw[show onTheHeap (Value.ref D)=true from rfl,if_pos rfl];refine L2.at (aac (wpAny_attempt (abv ?_)));unfold callGetattribute boundAndCalled;rw[if_neg (by decide)];refine aac (wpAny_of_eq (PySem.F.excAttr_ValueError.ga.bind (.ref x)) ?_);show wpAny _ _ (call (.builtin "BaseException.__getattribute__") [.ref x,.str "__class__" t]) _ _ _;refine wpAny_call (codeAny_call_builtin PySem.F.excAttr_ValueError.ga.plain PySem.F.entry_bexc_ga ?_);refine DG (.str "__class__" t) L0 LB ?_;unfold Builtin.«object.__getattribute__»;refine aac (aav ?_);refine aac (aav ?_);refine aac (L0.at (aac (LF.at ?_)));show wpAny _ _ (holding [.builtin "object.__class__"] (call (.builtin "getset_descriptor.__get__") [.builtin "object.__class__",.ref x,.ref D]) >>= ret) _ _ _;refine aac (abv (wpAny_call ?_));refine codeAny_call_builtin PySem.W.KF.slot_gs.plain PySem.W.KF.entry_gs (PySem.W.KF.slot_gs.check _ _ _ _ _ _ _ _ PySem.W.KF.type_class (PySem.W.KF.args_gs _ _ _) ?_);unfold Builtin.«getset_descriptor.__get__» descrGet;rw[PySem.W.dga_obj];refine aac (aav ?_);unfold descrGetter descrCheckInstance descrNameAndClass isInstance;simp only [PySem.W.KF.owner_class];repeat lk
 refine⟨Code.quiet_builtin _ (by decide +kernel),codeAny_builtin PySem.W.KF.entry_class ?_⟩;unfold Builtin.«object.__class__» shownTypeOf;repeat lk
 exact hq
theorem CF (Z:ExcKit K D) (hcl:∃ c d cd sl,K.lookup D=some ⟨c,d,.cls cd,sl⟩):PySem.W.KitX K (.ref x) (.ref D) (zC x D) where
 ty:=λ M _ _ p=>p.ty M
 it:=λ _ _ X _=>by
  obtain⟨c',d',cd',sl',ho⟩:=hcl;intro A' Q' E' s' k q;unfold isType loadHead;exact aac (wpAny_loadPart (k _ _ (X _ _ ho)) (aav q))
 ne:=λ _ _ _ _ _ _ X htp=>by
  obtain⟨c',d',cd',sl',ho⟩:=hcl;refine Bool.eq_false_iff.mpr λ q=>?_;have e:=Value.ref.inj (beq_iff_eq.mp q);rw[<- e,X _ _ ho] at htp;cases htp
 ca:=λ X p k=>A5 Z X p k
end
def GH (K:aaa):List V->Hp->VK->Prop:=λ xs H Q=>∃ (ea D:Addr) (c:V) (cv:Value) (b:Bool),xs=[.ref ea,c]/\bF c cv/\H ea=some (A6 ea (.ref D))/\ExcKit K D/\(∃ c d cd sl,K.lookup D=some ⟨c,d,.cls cd,sl⟩)/\PySem.W.kitOne K (.ref D) cv=some b/\(∀ u,bF c u->u=cv)/\Q (.bl b) H
section
variable {X:Cx}
theorem AD:eN X (.builtin "isinstance") (GH X.K):=by
 intro pins s σ H xs us Q I r h;obtain⟨ea,D,c,cv,b,rfl,rc,he,Z,hcl,e,hu,q⟩:=h;obtain⟨u,v,rfl,ru,rv⟩:=r.two;cases (show u=Value.ref ea from ru);have:=hu v rv;subst this;obtain⟨p,_,_⟩:=(show cY X.prog X.w H s.heap ea (A6 ea (.ref D)) from I.hok ea _ he);exact PySem.W.kia_one (CF Z hcl) I.kIn p e (λ z=>nomatch z) λ tk=>⟨.bl b,H,I.tok tk,rfl,q⟩
theorem dL {K:aaa} (hK:X.K=K):eN X (.builtin "isinstance") (GH K):=by subst hK;exact AD
def EC:V->List V->Hp->VK->Prop:=λ x vs H Q=>∃ (l:Addr) (bs:List Bool),x=.ref l/\vs=[.bl true]/\H l=some (.lst (bs.map V.bl))/\Q (.int (bs.countP id:Nat)) H
theorem zV:JY X "list.count" EC:=by
 intro pins s σ H x vs v us Q I rx rv h;obtain⟨l,bs,rfl,rfl,hH,q⟩:=h;cases rx;obtain⟨u,rfl,ru⟩:=rv.one;cases ru;obtain⟨z,its,n,r,hl,e⟩:=I.lstM hH;have key:∀ (bs:List Bool) (its:List Value),bA (bs.map V.bl) its->its=bs.map Value.bool:=by
  intro bs
  induction bs with
  | nil=>intro its r;cases r;rfl
  | cons b bs ih=>intro its r;cases r with | cons r1 r2=>cases r1;rw[ih _ r2];rfl
 have ek:=key bs its r;subst ek;refine call_meets F.slot_list_count ⟨_,e,rfl⟩ F.entry_list_count (F.args_list_count_2 _ _) (SeqAt.list_countAt l (bs.map Value.bool).toArray n none #[] (.bool true) (λ v=>match v with | .bool b=>b | _=>false)) ⟨e,λ y hy=>?_,?_⟩
 ·obtain⟨b,_,rfl⟩:=aay.1 (show y∈bs.map Value.bool by simpa using hy);cases b
  ·exact SeqAt.EqAt.bool_bool false true
  ·exact SeqAt.EqAt.same _
 ·have ec:(List.countP (λ v=>match v with | Value.bool b=>b | _=>false) (bs.map Value.bool).toArray.toList)=bs.countP id:=by
   rw[List.toList_toArray,List.countP_map];rfl
  rw[ec];exact⟨.int _,H,I.tok _,⟨_,rfl⟩,q⟩
def B9 (K:aaa):R2:=λ x y H Q=>∃ a b xs ys,x=.ref a/\y=.ref b/\bU K H a xs/\bU K H b ys/\xs.length+ys.length<=sizeLine/\∀ p H',aG H H'->bU K H' p (xs++ys)->Q (.ref p) H'
theorem BL:gG X (binaryOp .Add) (B9 X.K):=by
 intro pins s σ H x y v u Q I rx ry h;obtain⟨a,b,xs,ys,rfl,rfl,ha,hb,hz,q⟩:=h
 by_cases hx:xs=[]
 ·subst hx;cases rx;cases ry;obtain⟨its,r1,p1,_⟩:=I.tuple ha;obtain⟨its2,r2,p2,_⟩:=I.tuple hb;cases r1;obtain⟨⟨cls,dd,data,sl⟩,ho,hc,n,hd⟩:=id p1;obtain⟨⟨cls2,dd2,data2,sl2⟩,ho2,hc2,n2,hd2⟩:=id p2;simp only at hc hd hc2 hd2;subst hc hd hc2 hd2;exact concat_meets ⟨_,ho,rfl⟩ ⟨_,ho2,rfl⟩ noFill_tuple_add seq_tuple_add PySem.F.slot_tuple_add PySem.F.entry_tuple_add (PySem.F.args_tuple_add_2 _ _) (tuple_addW0 a b _ its2.toArray n n2 dd dd2 sl sl2 (by simp)) ⟨ho,ho2,⟨.ref b,H,I,rfl,q b H (aG.refl H) hb⟩⟩
 ·refine yF pins s σ H _ _ v u Q I rx ry ⟨a,b,xs,ys,rfl,rfl,ha,hb,hx,hz,λ e=>?_,λ _ p hp=>?_⟩
  ·subst e;exact q a H (aG.refl H) (by rw[acb];exact ha)
  ·exact q p _ (aG.new hp) (bU.of aD)
theorem jR (hK:X.K=K):gG X (binaryOp .Add) (B9 K):=by subst hK;exact BL
end
end L2
namespace Tw
open PySem L2
structure TxtS (mg:Str->Option Value):Prop where
 b_str:mg "str" = none
theorem dU:bootBuiltins "str" = some (.type "str"):=by decide +kernel
section
variable {aw:Addr}
theorem kL:FnScope ["thing","low","high"] ["thing","low","high"] (aK (bB 63)):={}
theorem gH:FnScope ["thing","number","many","spouts","pair","target","parts","word","spout"] ["thing","number","many","spouts"] (aK (bB 69)):={}
theorem j6:FnScope ["thing","number","spout"] ["thing"] (aK (bB 68)):={}
end
end Tw
namespace L2
open PySem PySem.Spec PyProof.Rows
section
variable {M:Model}{A:Around}{E:Value->Shared->Prop}{s:Shared}
end
section
variable {X:Cx}
end
end L2
namespace Tw
open PySem L2
end Tw
namespace L2
open PySem PySem.Spec PyProof.Rows TwZ
section
variable {g:TG}{tc:TT}{te:TE}{fr:List (Option Nat)}{σ:St}{H1:Hp}{Q:Addr->Hp->Prop}
end
end L2
namespace Tw
open PySem L2
structure Mom where
 tick:Int
 held:List Int
 coming:List Int
 doors:List Bool
 poured:List Int
 came:Int
 ground:Int
def L8 (m:Mom):L2.D:=.tup [.int m.tick,stD m.held m.coming m.doors,.tup (m.poured.map L2.D.int),.int m.came,.int m.ground]
def L9 (net:Net):Mom:=⟨0,kH net.vs.length,kH net.vs.length,net.sps.map (·.2.2),kH net.vs.length,0,0⟩
theorem wG {n:Nat} (h:1<=n):(0:Int)::kH (n - 1)=kH n:=by
 obtain⟨k,rfl⟩:∃ k,n=k+1:=⟨n - 1,by omega⟩;simp [kH,List.replicate_succ]
structure RunTx (K:aaa) (C:Addr):Prop where
 cls:Cls K C
 net:iG K C "net"
 rows:iG K C "rows"
 moments:iG K C "moments"
 tips:iG K C "tip_ticks"
section
variable {r dx R M T:Addr}{H H':Hp}{S:RunS}{fp:List Addr}{np mv:V}{ts:List Addr}{rs ms:List V}
theorem IN {m:Mom}{a po:Addr}{st:V} (q:bU K H a [.int m.tick,st,.ref po,.int m.came,.int m.ground]) (hs:Is K H (stD m.held m.coming m.doors) st) (hp:bU K H po (m.poured.map V.int)):Is K H (L8 m) (.ref a):=
 Is.tupOf q (.cons (Is.i _) (.cons hs (.cons (Is.tupOf hp (IsL.of_ints _)) (.cons (Is.i _) (.cons (Is.i _) .nil)))))
end
def mY (K:aaa):Sp:=λ vs H Q _=>∃ (x:V) (net:Net) (v:Int),vs=[x,.int v]/\Is K H (eH net) x/\NetOk net/\∀ p H',aG H H'->bU K H' p ((v::kH (net.vs.length - 1)).map V.int)->Q (.ref p) H'
theorem oY:FnScope ["net","amount","vessels","spouts"] ["net","amount"] (aK (bB 45)):={}
theorem x0 {f:Addr}{fd:FuncData} (F:Fun K "pouring" "pouring" (bB 45) f fd) (T:Txt mg):FnOk P w K mg base hU 1 f fd ["net","amount"] (mY K):=by
 refine F.ok oY (λ vs H Q E h=>?_) (λ cdv A outer s H vs Q E hr h=>?_)
 ·obtain⟨x,net,v,rfl,_⟩:=h;rfl
 ·obtain⟨x,net,v,rfl,hx,nok,k⟩:=h;have sc:=oY;refine⟨_,(aE (cR (pv 0) (cG (K:=K) (n:=2) rfl rfl (aJ (gL 2 sc.nd) (aJ (gL 3 sc.nd) bY))))
   (aH (aM (aU (BM (K:=K) rfl) (bQ (aA (pv 1) aB)) (aU (BG (K:=K) rfl) (bQ (aA aF aB)) (aU fH (kA K T.b_len (pv 2)) aF)))))),?_⟩
  obtain⟨a,b,c,xs,ys,rfl,q,q1,l1,q2,l2⟩:=nC hx;have exl:xs.length=net.vs.length:=by rw[l1.length,aab]
  have n1:=nok.lo;have n2:=nok.hi;refine⟨_,rfl,a,_,rfl,q,rfl,_,_,rfl,_,_,rfl,rfl,?_⟩;refine⟨_,rfl,(show 1<=sizeLine by decide),λ y hy=>⟨(show 1<=sizeLine by decide),λ z hz=>?_⟩⟩;have m1:=aG.new (o:=HO.tup [.int v]) hy;have m2:=aG.new (o:=HO.tup [.int 0]) hz;refine⟨_,rfl,b,xs,rfl,.inr (m2.tup (m1.tup q1)),_,_,rfl,rfl,z,_,[.int 0],rfl,rfl,bU.of aD,by omega,by omega,by simp,by simp,λ e H1 sm1 qe=>?_⟩;have en:(((xs.length:Nat):Int) - 1).toNat=net.vs.length - 1:=by rw[exl];omega
  rw[en,HL] at qe;refine⟨y,e,[.int v],_,rfl,rfl,sm1.tup (m2.tup (bU.of aD)),qe,by simp,bP (by simp;omega) |> acr,λ he=>?_,λ _ p hp=>?_⟩
  ·refine k _ _ ((m1.trans m2).trans sm1) ?_;have e0:kH (net.vs.length - 1)=[]:=List.map_eq_nil_iff.mp he;rw[e0];exact sm1.tup (m2.tup (bU.of aD))
  ·exact k _ _ (((m1.trans m2).trans sm1).trans (aG.new hp)) (bU.of aD)
end Tw
namespace L2
open PySem PySem.Spec PyProof.Rows TwZ
theorem Fun.okR {x qual:Str}{st:Stmt}{f:Addr}{fd:FuncData}{N ps:List Str}{k:Nat}{sp:Sp} (F:Fun K x qual st f fd) (S:FnScope N ps (aK st)) (len:∀ vs H Q E,sp vs H Q E->vs.length=ps.length)
  (hbody:∀ (cdv:Value) (A:Around) (outer:List Env) (s:Shared) (H:Hp) (vs:List V) (Q:VK) (E:XK),Room k (A.deeper (envOfC qual (aK st) s.heap.objs.size f cdv))->sp vs H Q E->
   Leaves (w9 (uM P w) P w K mg base N qual (aK st) f cdv A outer s H E) E->
   ∃ t,xR (w9 (uM P w) P w K mg base N qual (aK st) f cdv A outer s H E) (gK st) t/\t { nx:=λ _ H'=>Q .non H',rt:=Q } (lN N vs) H):FnOk P w K mg base (uM P w) (k+1) f fd ps sp:=by
 obtain⟨oc,od,kV,doc,pm,an,cdv,ct,osl,rfl,lk,hcd⟩:=F.ex;exact GP lk hcd S len λ A outer s H vs Q E hr hsp=>hbody cdv A outer s H vs Q E hr hsp ⟨rfl,rfl,rfl,λ _ _ h=>h⟩
structure CalleeR (P:Program) (w:World) (K:aaa) (mg:Str->Option Value) (base:Heap) (x:Str) (ps:List Str) (k:Nat) (sp:Sp) (f:Addr) (fd:FuncData):Prop where
 ok:FnOk P w K mg base (uM P w) k f fd ps sp
 mg:mg x=some (.ref f)
 kp:PySem.W.keepIn K (.ref f)=true
 bd:kS K fd ps []
structure ExC (K:aaa) (x:Str) (C:Addr):Prop where
 ns:PySem.W.nsIn K mainGlobals x=some (some (.ref C))
 exc:PySem.W.excIn K C [.type "ValueError",.type "Exception",.type "BaseException",.type "object"] "ValueError.__new__" = true
theorem EN {X:Cx}{a1 a2 a3 a4 a5 a6 a7 a8:Str}{k1 k2 k3 k4 k5 k6 k7 k8:Nat}{p1 p2 p3 p4 p5 p6 p7 p8:Pos} :
  PA X [.Constant (.str a1) k1 p1,.Constant (.str a2) k2 p2,.Constant (.str a3) k3 p3,.Constant (.str a4) k4 p4,.Constant (.str a5) k5 p5,.Constant (.str a6) k6 p6,.Constant (.str a7) k7 p7,.Constant (.str a8) k8 p8]
   (bV (tC (.str a1)) (bV (tC (.str a2)) (bV (tC (.str a3)) (bV (tC (.str a4)) (bV (tC (.str a5)) (bV (tC (.str a6)) (bV (tC (.str a7)) (bV (tC (.str a8)) fP)))))))):=
 have h8:=aA (X:=X) (aI (x:=a8)) aB;have h7:=aA (aI (x:=a7)) h8;have h6:=aA (aI (x:=a6)) h7;have h5:=aA (aI (x:=a5)) h6;have h4:=aA (aI (x:=a4)) h5;have h3:=aA (aI (x:=a3)) h4;have h2:=aA (aI (x:=a2)) h3
 aA (aI (x:=a1)) h2
theorem qH:bootBuiltins "ValueError" = some (.type "ValueError"):=by decide +kernel
end L2
namespace Tw
open PySem L2
theorem rG (i:Str):(L2.D.str i).depth=0:=by rw[L2.D.depth] <;> intros <;> (first | rfl | (intro z;cases z) | (rename_i z;cases z))
structure TxtW (mg:Str->Option Value) (c_TipError c_NoNet c_NoVessel c_TooLong c_TooMany c_TooMuch c_Nothing c_NoText c_NoRow:Addr):Prop where
 m_TipError:mg "TipError" = some (.ref c_TipError)
 m_NoNet:mg "NoNet" = some (.ref c_NoNet)
 m_NoVessel:mg "NoVessel" = some (.ref c_NoVessel)
 m_TooLong:mg "TooLong" = some (.ref c_TooLong)
 m_TooMany:mg "TooMany" = some (.ref c_TooMany)
 m_TooMuch:mg "TooMuch" = some (.ref c_TooMuch)
 m_Nothing:mg "Nothing" = some (.ref c_Nothing)
 m_NoText:mg "NoText" = some (.ref c_NoText)
 m_NoRow:mg "NoRow" = some (.ref c_NoRow)
 b_ValueError:mg "ValueError" = none
structure KindOf (K:aaa) (c_NoNet c_NoVessel c_TooLong c_TooMany c_TooMuch c_Nothing c_NoText c_NoRow:Addr) (D:Addr) (bs:List Bool):Prop where
 kit:ExcKit K D
 cl:∃ c d cd sl,K.lookup D=some ⟨c,d,.cls cd,sl⟩
 val:PySem.W.kitOne K (.ref D) (.type "ValueError")=some true
 ks:∃ b0 b1 b2 b3 b4 b5 b6 b7,bs=[b0,b1,b2,b3,b4,b5,b6,b7]/\PySem.W.kitOne K (.ref D) (.ref c_NoNet)=some b0/\PySem.W.kitOne K (.ref D) (.ref c_NoVessel)=some b1/\PySem.W.kitOne K (.ref D) (.ref c_TooLong)=some b2/\
  PySem.W.kitOne K (.ref D) (.ref c_TooMany)=some b3/\PySem.W.kitOne K (.ref D) (.ref c_TooMuch)=some b4/\PySem.W.kitOne K (.ref D) (.ref c_Nothing)=some b5/\PySem.W.kitOne K (.ref D) (.ref c_NoText)=some b6/\PySem.W.kitOne K (.ref D) (.ref c_NoRow)=some b7
def G2:List Str:=["net","vessel","long","many","much","nothing","text","row"]
def wP (K:aaa) (c_NoNet c_NoVessel c_TooLong c_TooMany c_TooMuch c_Nothing c_NoText c_NoRow:Addr):Sp:=λ vs H Q _=>∃ (ea D:Addr) (bs:List Bool) (j:Nat) (wd:Str),vs=[.ref ea]/\H ea=some (A6 ea (.ref D))/\
 KindOf K c_NoNet c_NoVessel c_TooLong c_TooMany c_TooMuch c_Nothing c_NoText c_NoRow D bs/\bs.countP id=1/\bs[j]? = some true/\(∀ i b,i < j->bs[i]? = some b->b=false)/\G2[j]? = some wd/\∀ p H',aG H H'->bU K H' p [.str wd]->Q (.ref p) H'
theorem lU:FnScope ["error","kinds"] ["error"] (aK (bB 64)):={}
theorem sX {f:Addr}{fd:FuncData} (F:Fun K "_law_word" "_law_word" (bB 64) f fd) (T:Txt mg) (W:TxtW mg c_TipError c_NoNet c_NoVessel c_TooLong c_TooMany c_TooMuch c_Nothing c_NoText c_NoRow) :
  FnOk P w K mg base hU 1 f fd ["error"] (wP K c_NoNet c_NoVessel c_TooLong c_TooMany c_TooMuch c_Nothing c_NoText c_NoRow):=by
 refine F.ok lU (λ vs H Q E h=>?_) (λ cdv A outer s H vs Q E hr h=>?_)
 ·obtain⟨ea,D,bs,j,wd,rfl,_⟩:=h;rfl
 ·obtain⟨ea,D,bs,j,wd,rfl,he,kd,hc,hj,hlt,hw,k⟩:=h;have sc:=lU
  (with_reducible refine⟨_,(aE (pL 1 sc.nd (aZ (aA (aT (dL (K:=K) rf) rf (by with_unfolding_all exact T.b_isinstance) bE (aA (pv 0) (aA (cE (v:=.ref c_NoNet) rf (by with_unfolding_all exact⟨_,W.m_NoNet,rfl⟩)) aB))) (aA (aT (dL (K:=K) rf) rf (by with_unfolding_all exact T.b_isinstance) bE (aA (pv 0) (aA (cE (v:=.ref c_NoVessel) rf (by with_unfolding_all exact⟨_,W.m_NoVessel,rfl⟩)) aB))) (aA (aT (dL (K:=K) rf) rf (by with_unfolding_all exact T.b_isinstance) bE (aA (pv 0) (aA (cE (v:=.ref c_TooLong) rf (by with_unfolding_all exact⟨_,W.m_TooLong,rfl⟩)) aB))) aB)))))
   (aE (pL 1 sc.nd (aU lA (pv 1) (aZ (aA (aT (dL (K:=K) rf) rf (by with_unfolding_all exact T.b_isinstance) bE (aA (pv 0) (aA (cE (v:=.ref c_TooMany) rf (by with_unfolding_all exact⟨_,W.m_TooMany,rfl⟩)) aB))) (aA (aT (dL (K:=K) rf) rf (by with_unfolding_all exact T.b_isinstance) bE (aA (pv 0) (aA (cE (v:=.ref c_TooMuch) rf (by with_unfolding_all exact⟨_,W.m_TooMuch,rfl⟩)) aB))) (aA (aT (dL (K:=K) rf) rf (by with_unfolding_all exact T.b_isinstance) bE (aA (pv 0) (aA (cE (v:=.ref c_Nothing) rf (by with_unfolding_all exact⟨_,W.m_Nothing,rfl⟩)) aB))) aB))))))
   (aE (pL 1 sc.nd (aU lA (pv 1) (aZ (aA (aT (dL (K:=K) rf) rf (by with_unfolding_all exact T.b_isinstance) bE (aA (pv 0) (aA (cE (v:=.ref c_NoText) rf (by with_unfolding_all exact⟨_,W.m_NoText,rfl⟩)) aB))) (aA (aT (dL (K:=K) rf) rf (by with_unfolding_all exact T.b_isinstance) bE (aA (pv 0) (aA (cE (v:=.ref c_NoRow) rf (by with_unfolding_all exact⟨_,W.m_NoRow,rfl⟩)) aB))) aB)))))
   (aE (bC (PW.pt (d4 (bI (bG (aT (dL (K:=K) rf) rf (by with_unfolding_all exact T.b_isinstance) bE (aA (pv 0) (aA (cJ (v:=.ty "ValueError") rf W.b_ValueError qH rf) aB))))) (cQ (aQ kO (eC (K:=K) rf aat PySem.F.slot_list_count PySem.F.type_list_count (um zV) (pv 1) (aA cX aB)) aF (aP _))))) (aH (aM (bQ (aA aI aB)))) aS)
   (aH (aM (bQ (aA (px K (aZ EN) (eC (K:=K) rf aat PySem.F.slot_list_index PySem.F.type_list_index (um BX) (pv 1) (aA cX aB))) aB)))))))),?_⟩)
  obtain⟨b0,b1,b2,b3,b4,b5,b6,b7,rfl,k0,k1,k2,k3,k4,k5,k6,k7⟩:=kd.ks;refine⟨_,rfl,ea,D,_,_,b0,rfl,rfl,he,kd.kit,kd.cl,k0,λ u h=>h,?_⟩;refine⟨_,rfl,ea,D,_,_,b1,rfl,rfl,he,kd.kit,kd.cl,k1,λ u h=>h,?_⟩;refine⟨_,rfl,ea,D,_,_,b2,rfl,rfl,he,kd.kit,kd.cl,k2,λ u h=>h,(show 3<=sizeLine by decide),λ l1 h1=>?_⟩;have he1:=aG.new (o:=HO.lst [.bl b0,.bl b1,.bl b2]) h1 _ _ he;refine⟨_,rfl,_,rfl,ea,D,_,_,b3,rfl,rfl,he1,kd.kit,kd.cl,k3,λ u h=>h,?_⟩;refine⟨_,rfl,ea,D,_,_,b4,rfl,rfl,he1,kd.kit,kd.cl,k4,λ u h=>h,?_⟩;refine⟨_,rfl,ea,D,_,_,b5,rfl,rfl,he1,kd.kit,kd.cl,k5,λ u h=>h,(show 3<=sizeLine by decide),λ l2 h2=>?_⟩;have s2:=aG.new (o:=HO.lst [.bl b3,.bl b4,.bl b5]) h2;refine⟨l1,l2,_,_,rfl,rfl,s2 _ _ aD,aD,(show 6<=sizeLine by decide),λ l3 h3=>?_⟩;have s3:=aG.new (o:=HO.lst ([.bl b0,.bl b1,.bl b2]++[.bl b3,.bl b4,.bl b5])) h3;have he3:=s3 _ _ (s2 _ _ he1);refine⟨_,rfl,_,rfl,ea,D,_,_,b6,rfl,rfl,he3,kd.kit,kd.cl,k6,λ u h=>h,?_⟩;refine⟨_,rfl,ea,D,_,_,b7,rfl,rfl,he3,kd.kit,kd.cl,k7,λ u h=>h,(show 2<=sizeLine by decide),λ l4 h4=>?_⟩;have s4:=aG.new (o:=HO.lst [.bl b6,.bl b7]) h4;refine⟨l3,l4,_,_,rfl,rfl,s4 _ _ aD,aD,(show 8<=sizeLine by decide),λ l5 h5=>?_⟩;have s5:=aG.new (o:=HO.lst ([.bl b0,.bl b1,.bl b2]++[.bl b3,.bl b4,.bl b5]++[.bl b6,.bl b7])) h5;have sH:aG H _:=((((aG.new h1).trans s2).trans s3).trans s4).trans s5;have he5:=s5 _ _ (s4 _ _ he3);refine⟨_,rfl,ea,D,_,_,true,rfl,rfl,he5,kd.kit,kd.cl,kd.val,λ u h=>h,_,rfl,bM ?_⟩;refine⟨_,rfl,.inl ⟨rfl,_,bO.of aD⟩,l5,[b0,b1,b2,b3,b4,b5,b6,b7],rfl,rfl,aD,rfl,_,rfl,LC (by rw[hc];rfl) ?_⟩;refine⟨(show 8<=sizeLine by decide),λ l6 h6=>?_⟩;have s6:=aG.new (o:=HO.lst [.str "net",.str "vessel",.str "long",.str "many",.str "much",.str "nothing",.str "text",.str "row"]) h6;have hj8:j < 8:=(aai.mp hj).1;refine⟨_,rfl,.inl ⟨rfl,_,bO.of (s6 _ _ aD)⟩,l5,_,_,j,rfl,rfl,s6 _ _ aD,rfl,rfl,hj8,λ z hz=>?_,λ i z hi hz=>?_,?_⟩
  ·have:([b0,b1,b2,b3,b4,b5,b6,b7].map V.bl)[j]? = some z:=hz;rw[aap,hj] at this;cases this;rfl
  ·have:([b0,b1,b2,b3,b4,b5,b6,b7].map V.bl)[i]? = some z:=hz;rw[aap] at this;obtain⟨b,hb,rfl⟩:=abd.mp this;rw[hlt i b hi hb];rfl
  ·refine .inl ⟨l6,_,(j:Int),_,rfl,rfl,bO.of aD,eK (show (G2.map V.str)[j]? = some (.str wd) by rw[aap,hw];rfl),(show 1<=sizeLine by decide),λ p hp=>?_⟩;exact k p _ ((sH.trans s6).trans (aG.new hp)) (bU.of aD)
end Tw
namespace L2
open PySem PySem.Spec PyProof.Rows TwZ
section
variable {prog:Program}
end
noncomputable instance decD:DecidableEq D:=λ a b=>Classical.propDecidable (a=b)
section
variable {prog:Program}
end
section
variable {X:Cx}{pins:List (Addr×Obj)}{σ:St}{H:Hp}{s:Shared}
end
section
variable {H H':Hp}{a:Addr}{S:D}{kvs:List (D×V)}
end
section
variable {X:Cx}{pins:List (Addr×Obj)}{σ:St}{H:Hp}{s:Shared}{a:Addr}{S:D}{kvs:List (D×V)}
end
end L2
namespace Tw
open PySem L2
end Tw
namespace L2
open PySem PySem.Spec PyProof.Rows TwZ
section
variable {X:Cx}
theorem EE {st:Stmt}{t:TS} (h:∀ pn:List (Addr×Obj),PS (X.within pn λ _ _=>False) st t):PS X st t:=by
 intro pins s σ H D I h1;refine abo (h (X.pn++pins) [] s σ H D I.within h1) (λ f ad hf=>?_) λ _ _ z=>z.elim;cases f with
 | next=>obtain⟨aa,H',J,q⟩:=hf;exact⟨aa,H',J.unwithin,q⟩
 | brk=>obtain⟨aa,H',J,q⟩:=hf;exact⟨aa,H',J.unwithin,q⟩
 | cont=>obtain⟨aa,H',J,q⟩:=hf;exact⟨aa,H',J.unwithin,q⟩
 | ret u=>obtain⟨v,aa,H',J,r,q⟩:=hf;exact⟨v,aa,H',J.unwithin,r,q⟩
def tTru (K:aaa) (ta:TE):TT:=λ σ H Q=>ta σ H λ x H'=>∃ k,JM K x H' k/\Q k H'
theorem zO {a:Expr}{ta:TE} (hK:X.K=K) (ha:PE X a ta) (he:∀ whole,isTrue a X.env whole=(do let v <- whole;standAt a.pos;holding [v] (truthy v))):PT X a (tTru K ta):=by subst hK;exact BA ha he
end
end L2
namespace Tw
open PySem L2
def oB:Sp:=λ vs H Q _=>∃ b:Bool,vs=[.bl b]/\Q (.str (fN b)) H
theorem lT:FnScope ["door"] ["door"] (aK (bB 35)):={}
theorem sW {f:Addr}{fd:FuncData} (F:Fun K "door_word" "door_word" (bB 35) f fd) (T:Txt mg):FnOk P w K mg base hU 1 f fd ["door"] oB:=by
 refine F.ok lT (λ vs H Q E h=>?_) (λ cdv A outer s H vs Q E hr h=>?_)
 ·obtain⟨b,rfl,_⟩:=h;rfl
 ·obtain⟨b,rfl,k⟩:=h;have sc:=lT;refine⟨_,(aH (aM (jC (bG (pv 0)) aI aI))),?_⟩;refine⟨_,rfl,_,rfl,?_⟩;cases b with
  | true=>exact k
  | false=>exact k
def rX:Sp:=λ vs H Q _=>∃ t:Option Int,vs=[gP t]/\qI t/\Q (.str (bT t)) H
theorem iS:FnScope ["target"] ["target"] (aK (bB 34)):={}
theorem pD {f:Addr}{fd:FuncData} (F:Fun K "target_word" "target_word" (bB 34) f fd) (T:Txt mg) (TS:TxtS mg):FnOk P w K mg base hU 1 f fd ["target"] rX:=by
 refine F.ok iS (λ vs H Q E h=>?_) (λ cdv A outer s H vs Q E hr h=>?_)
 ·obtain⟨t,rfl,_⟩:=h;rfl
 ·obtain⟨t,rfl,ht,k⟩:=h;have sc:=iS;refine⟨_,(aH (aM (jC (aQ jE (pv 0) d8 (aP _)) aI (aR dY rfl TS.b_str dU (aA (pv 0) aB))))),?_⟩;cases t with
  | none=>exact⟨_,rfl,rfl,_,rfl,k⟩
  | some i=>exact⟨_,rfl,rfl,_,rfl,_,rfl,.int i,aV i,rfl,eO (ht i rfl).1 (ht i rfl).2,k⟩
section
variable {σ:St}{H:Hp}{Q:VK}{ts:List TE}{acc x:Str}{n m i:Nat}
theorem CL (ha:acc.length<=n) (hx:x.length<=m) (hn:n+m<=1000000) (k:(acc++x).length<=n+m->gR ts (acc++x) σ H Q):gR (tC (.str x)::ts) acc σ H Q:=by
 have h:(acc++x).length<=n+m:=by rw[Str.length_append];omega
 exact⟨x,rfl,by omega,k h⟩
theorem j_s (aj:σ[i]? = some (some (.str x))) (ha:acc.length<=n) (hx:x.length<=m) (hn:n+m<=1000000) (k:(acc++x).length<=n+m->gR ts (acc++x) σ H Q):gR (AT (cD i)::ts) acc σ H Q:=by
 have h:(acc++x).length<=n+m:=by rw[Str.length_append];omega
 exact⟨_,aj,x,rfl,by omega,x,rfl,by omega,k h⟩
theorem JX {j:Int} (aj:σ[i]? = some (some (.int j))) (h0:0<=j) (h1:j < 10 ^ 9) (ha:acc.length<=n) (hn:n+9<=1000000) (k:(acc++aV j).length<=n+9->gR ts (acc++aV j) σ H Q):gR (AT (cD i)::ts) acc σ H Q:=by
 have hx:=eJ h0 h1;have h:(acc++aV j).length<=n+9:=by rw[Str.length_append];omega
 exact⟨_,aj,aV j,D9 h0 h1,by omega,aV j,rfl,by omega,k h⟩
theorem j_t {t:Option Int} (aj:σ[i]? = some (some (gP t))) (ht:qI t) (ha:acc.length<=n) (hn:n+9<=1000000) (k:(acc++bT t).length<=n+9->gR ts (acc++bT t) σ H Q):gR (AT (iN rX [] E0 (bV (cD i) fP))::ts) acc σ H Q:=by
 have hx:=mJ ht;have h:(acc++bT t).length<=n+9:=by rw[Str.length_append];omega
 exact⟨_,aj,t,rfl,ht,bT t,rfl,by omega,bT t,rfl,by omega,k h⟩
theorem j_d {b:Bool} (aj:σ[i]? = some (some (.bl b))) (ha:acc.length<=n) (hn:n+4<=1000000) (k:(acc++fN b).length<=n+4->gR ts (acc++fN b) σ H Q):gR (AT (iN oB [] E0 (bV (cD i) fP))::ts) acc σ H Q:=by
 have hx:=vQ b;have h:(acc++fN b).length<=n+4:=by rw[Str.length_append];omega
 exact⟨_,aj,b,rfl,fN b,rfl,by omega,fN b,rfl,by omega,k h⟩
theorem G4:(" " : Str)=one 32:=by decide +kernel
theorem G3:("," : Str)=one 44:=by decide +kernel
theorem w_s:("*" : Str)=one 42:=by decide +kernel
theorem w_p:("." : Str)=one 46:=by decide +kernel
theorem K1:("\n" : Str)=one 10:=by decide +kernel
theorem K0:("spout " : Str) = "spout" ++ one 32:=by decide +kernel
theorem JZ:("vessel " : Str) = "vessel" ++ one 32:=by decide +kernel
theorem HG (sp:oO):Str.empty ++ "spout " ++ aV sp.1 ++ " " ++ aV sp.2.1 ++ " " ++ fN sp.2.2=eP sp:=by
 show _ = "spout" ++ one 32++(aV sp.1++one 32++(aV sp.2.1++one 32++fN sp.2.2));rw[G4,K0];simp only [Str.append_assoc,Str.empty_append]
theorem GX (v:Vs):Str.empty ++ "vessel " ++ aV v.size ++ " " ++ aV v.brim ++ " " ++ cK v.outs ++ " " ++ d9 v.holds ++ " " ++ bT v.spill ++ " " ++ dA v.acts=dW v:=by
 show _ = "vessel" ++ one 32++(aV v.size++one 32++(aV v.brim++one 32++(cK v.outs++one 32++(d9 v.holds++one 32++(bT v.spill++one 32++dA v.acts)))));rw[G4,JZ];simp only [Str.append_assoc,Str.empty_append]
end
def mX (K:aaa):Sp:=λ vs H Q _=>∃ (x:V) (sp:oO),vs=[x]/\Is K H (qB sp) x/\SptIn sp/\Q (.str (eP sp)) H
theorem kJ:FnScope ["spout","target","flow","door"] ["spout"] (aK (bB 33)):={}
theorem qC {f f1:Addr}{fd fd1:FuncData} (F:Fun K "spout_line" "spout_line" (bB 33) f fd) (T:Txt mg) (G_door_word:Callee P w K mg base "door_word" ["door"] 1 oB f1 fd1):FnOk P w K mg base hU 2 f fd ["spout"] (mX K):=by
 refine F.ok kJ (λ vs H Q E h=>?_) (λ cdv A outer s H vs Q E hr h=>?_)
 ·obtain⟨x,sp,rfl,_⟩:=h;rfl
 ·obtain⟨x,sp,rfl,hx,hi,k⟩:=h;have sc:=kJ;refine⟨_,(aE (cR (pv 0) (cG (K:=K) (n:=3) rfl rfl (aJ (gL 1 sc.nd) (aJ (gL 2 sc.nd) (aJ (gL 3 sc.nd) bY)))))
   (aH (aM (y9 (bX aI (bX (eW (pv 1)) (bX aI (bX (eW (pv 2)) (bX aI (bX (eW (cB G_door_word hr (aA (pv 3) aB))) sP)))))))))),?_⟩
  obtain⟨a,xs,rfl,q,lx⟩:=(show Is K H (.tup [.int sp.1,.int sp.2.1,.bl sp.2.2]) x from hx).un;obtain⟨x1,r,rfl,h1,lx⟩:=lx.un;obtain⟨x2,r,rfl,h2,lx⟩:=lx.un;obtain⟨x3,r,rfl,h3,lx⟩:=lx.un;have:=lx.un0;subst this;have e1:=h1.ui;have e2:=h2.ui;have e3:=h3.ub;subst e1 e2 e3;refine⟨_,rfl,a,_,rfl,q,rfl,_,_,rfl,_,_,rfl,_,_,rfl,rfl,?_⟩;refine CL (n:=0) (m:=6) (aag _) (by decide) (by decide) λ l1=>?_;refine JX rfl hi.t0 hi.t1 l1 (by decide) λ l2=>?_;refine CL (m:=1) l2 (by decide) (by decide) λ l3=>?_;refine JX rfl hi.f0 hi.f1 l3 (by decide) λ l4=>?_;refine CL (m:=1) l4 (by decide) (by decide) λ l5=>?_;refine j_d rfl l5 (by decide) λ l6=>?_;show Q (.str _) H;rw[HG];exact k
def mV (K:aaa):Sp:=λ vs H Q _=>∃ (x:V) (v:Vs),vs=[x]/\Is K H (o0 v) x/\VsIn v/\∀ H',aG H H'->Q (.str (dW v)) H'
theorem IG (o:Option Int×Int):Str.empty++bT o.1 ++ "*" ++ aV o.2=gN o:=by unfold gN;rw[w_s,Str.empty_append]
theorem JL (a:Str×Int):Str.empty++a.1 ++ "." ++ aV a.2=eZ a:=by unfold eZ;rw[w_p,Str.empty_append]
theorem iR:FnScope ["vessel","size","brim","outs","holds","spill","acts","out_words","act_words","holds_word"] ["vessel"] (aK (bB 32)):={}
theorem pC {f f1:Addr}{fd fd1:FuncData} (F:Fun K "vessel_line" "vessel_line" (bB 32) f fd) (T:Txt mg) (G_target_word:Callee P w K mg base "target_word" ["target"] 1 rX f1 fd1):FnOk P w K mg base hU 2 f fd ["vessel"] (mV K):=by
 refine F.ok iR (λ vs H Q E h=>?_) (λ cdv A outer s H vs Q E hr h=>?_)
 ·obtain⟨x,v,rfl,_⟩:=h;rfl
 ·obtain⟨x,v,rfl,hx,hi,k⟩:=h;have sc:=iR;refine⟨_,(aE (cR (pv 0) (cG (K:=K) (n:=6) rfl rfl (aJ (gL 1 sc.nd) (aJ (gL 2 sc.nd) (aJ (gL 3 sc.nd) (aJ (gL 4 sc.nd) (aJ (gL 5 sc.nd) (aJ (gL 6 sc.nd) bY))))))))
   (aE (pL 7 sc.nd (dC (K:=K) rfl PySem.F.slot_str_join PySem.F.type_str_join (d0 (K:=K) rfl) aI (aA (gB (λ _ _ h=>h) rfl (LcOk.mk (N':=["target","parts"]) (fr:=[none,none]) rfl trivial rfl rfl rfl rfl rfl trivial) (cV (K:=K) rfl (pv 3)) (λ _ _ _=>(cG (K:=K) (n:=2) rfl rfl (aJ (gC 0 ["target","parts"]) (aJ (gC 1 ["target","parts"]) bY)))) (λ _ _ _=>cU) (λ _ _ _=>(y9 (bX (eW (cB G_target_word hr (aA (pv 0) aB))) (bX aI (bX (eW (pv 1)) sP)))))) aB)))
   (aE (pL 8 sc.nd (jC (zO (K:=K) rfl (pv 6) (λ _=>rfl)) (dC (K:=K) rfl PySem.F.slot_str_join PySem.F.type_str_join (d0 (K:=K) rfl) aI (aA (gB (λ _ _ h=>h) rfl (LcOk.mk (N':=["word","spout"]) (fr:=[none,none]) rfl trivial rfl rfl rfl rfl rfl trivial) (cV (K:=K) rfl (pv 6)) (λ _ _ _=>(cG (K:=K) (n:=2) rfl rfl (aJ (gC 0 ["word","spout"]) (aJ (gC 1 ["word","spout"]) bY)))) (λ _ _ _=>cU) (λ _ _ _=>(y9 (bX (eW (pv 0)) (bX aI (bX (eW (pv 1)) sP)))))) aB)) aI))
   (aE (pL 9 sc.nd (jC (bG (pv 4)) aI aI))
   (aH (aM (y9 (bX aI (bX (eW (pv 1)) (bX aI (bX (eW (pv 2)) (bX aI (bX (eW (pv 7)) (bX aI (bX (eW (pv 9)) (bX aI (bX (eW (cB G_target_word hr (aA (pv 5) aB))) (bX aI (bX (eW (pv 8)) sP))))))))))))))))))),?_⟩
  obtain⟨va,o,c,rfl,qv,ho,hc⟩:=G5 hx;obtain⟨oa,os,rfl,qo,lo⟩:=ho.un;obtain⟨ca,cs,rfl,qc,lc⟩:=hc.un;have eol:os.length=v.outs.length:=by rw[lo.length,aab]
  have ecl:cs.length=v.acts.length:=by rw[lc.length,aab]
  have o3:=hi.o3;have a3:=hi.a3;refine⟨_,rfl,va,_,rfl,qv,rfl,_,_,rfl,_,_,rfl,_,_,rfl,_,_,rfl,_,_,rfl,_,_,rfl,rfl,?_⟩;dsimp only [bL];have el:∀ i o,v.outs[i]? = some o->OutIn o:=λ i o e=>hi.os o (aad e);refine⟨rfl,_,rfl,oa,rfl,⟨_,qo⟩,iC (K:=K) (a:=oa) (xs:=os) (λ D i r aa H'=>H D=none/\aG H H'/\H' D=some (.lst r)/\r=((v.outs.take i).map gN).map V.str/\∃ u1 u2,aa=[u1,u2])
   (λ D i r aa H' p=>p.2.1.tup qo) (λ D hD=>⟨hD,aG.new hD,aD,rfl,none,none,rfl⟩) ?_ ?_⟩
  rotate_left
  ·rintro D i y r aa H1 hy ⟨hD,sm,hDl,rfl,u1,u2,rfl⟩;obtain⟨t,ht,ta,rfl,qt⟩:=yC lo hy;have ti:=el i t ht;refine⟨ta,_,rfl,sm.tup qt,rfl,_,_,rfl,_,_,rfl,rfl,?_⟩;refine j_t rfl ti.tg (n:=0) (aag _) (by decide) λ l1=>?_;refine CL (m:=1) l1 (by decide) (by decide) λ l2=>?_;refine JX rfl ti.lo ti.hi l2 (by decide) λ l3=>?_;refine⟨hDl,bP (by rw[aab,aab,abj];omega),hD,sm.put hD,aD,?_,_,_,rfl⟩;rw[aby,ht,aaj,aaj,IG];rfl
  rintro D1 r aa H1 ⟨hD1,s1,hD1l,rfl,_⟩;rw[eol,aar (aag _)] at hD1l;have e1:Str.join "," (v.outs.map gN)=cK v.outs:=by rw[G3];rfl
  refine⟨",",D1,v.outs.map gN,rfl,rfl,bO.of hD1l,gI (B:=19) (λ a ha=>by obtain⟨o,ho,rfl⟩:=aay.mp ha;exact tS (hi.os o ho)) (by decide) (by rw[aab];omega),?_⟩;rw[e1];dsimp only [aW,bL];refine n4 (λ aa H'=>aG H H'/\aa=[some (.ref va),some (.int v.size),some (.int v.brim),some (.ref oa),some (.bl v.holds),some (gP v.spill),some (.ref ca),some (.str (cK v.outs)),some (.str (dA v.acts)),none]) (λ D' hD'=>?_) ?_
  ·by_cases hn:v.acts=[]
   ·have hc0:cs=[]:=List.eq_nil_of_length_eq_zero (by rw[ecl,hn];rfl);refine⟨_,rfl,false,.inr (.inl ⟨cs,s1.tup qc,by rw[hc0];rfl⟩),bM ?_⟩;exact hD' _ _ ⟨s1,by rw[show dA v.acts = "-" from if_pos hn];rfl⟩
   ·have hc0:cs.isEmpty=false:=by
     cases cs with
     | nil=>exact absurd (List.eq_nil_of_length_eq_zero ecl.symm) hn
     | cons a b=>rfl
    refine⟨_,rfl,true,.inr (.inl ⟨cs,s1.tup qc,by rw[hc0];rfl⟩),aX ?_⟩;refine⟨rfl,_,rfl,ca,rfl,⟨_,s1.tup qc⟩,iC (K:=K) (a:=ca) (xs:=cs) (λ D i r aa H'=>H1 D=none/\aG H1 H'/\H' D=some (.lst r)/\r=((v.acts.take i).map eZ).map V.str/\∃ u1 u2,aa=[u1,u2])
     (λ D i r aa H' p=>p.2.1.tup (s1.tup qc)) (λ D hD=>⟨hD,aG.new hD,aD,rfl,none,none,rfl⟩) ?_ ?_⟩
    rotate_left
    ·rintro D i y r aa H2 hy ⟨hD,sm,hDl,rfl,u1,u2,rfl⟩;obtain⟨t,ht,ta,rfl,qt⟩:=yY lc hy;have ti:=hi.as t (aad ht);refine⟨ta,_,rfl,(s1.trans sm).tup qt,rfl,_,_,rfl,_,_,rfl,rfl,?_⟩;refine j_s rfl (n:=0) (m:=4) (aag _) (Nat.le_of_eq (CA ti)) (by decide) λ l1=>?_;refine CL (m:=1) l1 (by decide) (by decide) λ l2=>?_;refine JX rfl ti.lo ti.hi l2 (by decide) λ l3=>?_;refine⟨hDl,bP (by rw[aab,aab,abj];omega),hD,sm.put hD,aD,?_,_,_,rfl⟩;rw[aby,ht,aaj,aaj,JL];rfl
    rintro D2 r aa H2 ⟨hD2,s2,hD2l,rfl,_⟩;rw[ecl,aar (aag _)] at hD2l;have e2:Str.join "," (v.acts.map eZ)=dA v.acts:=by unfold dA;rw[if_neg hn,G3]
    refine⟨",",D2,v.acts.map eZ,rfl,rfl,bO.of hD2l,gI (B:=19) (λ a ha=>by obtain⟨o,ho,rfl⟩:=aay.mp ha;exact tT (hi.as o ho)) (by decide) (by rw[aab];omega),?_⟩;rw[e2];exact hD' _ _ ⟨s1.trans s2,rfl⟩
  rintro aa H2 ⟨s2,rfl⟩;refine⟨_,rfl,v.holds,rfl,?_⟩;have eh:∀ {R:V->Hp->Prop},R (.str (d9 v.holds)) H2->(if v.holds=true then tC (V.str "holds") [some (.ref va),some (.int v.size),some (.int v.brim),some (.ref oa),some (.bl v.holds),some (gP v.spill),some (.ref ca),some (.str (cK v.outs)),some (.str (dA v.acts)),none] H2 R else tC (V.str "loses") [some (.ref va),some (.int v.size),some (.int v.brim),some (.ref oa),some (.bl v.holds),some (gP v.spill),some (.ref ca),some (.str (cK v.outs)),some (.str (dA v.acts)),none] H2 R):=λ {R} h=>by
   cases e:v.holds with
   | true=>rw[e] at h;exact h
   | false=>rw[e] at h;exact h
  refine eh ?_;refine CL (n:=0) (m:=7) (aag _) (by decide) (by decide) λ l1=>?_;refine JX rfl hi.s0 hi.s1 l1 (by decide) λ l2=>?_;refine CL (m:=1) l2 (by decide) (by decide) λ l1=>?_;refine JX rfl hi.b0 hi.b1 l1 (by decide) λ l2=>?_;refine CL (m:=1) l2 (by decide) (by decide) λ l1=>?_;refine j_s rfl l1 (vO hi.os hi.o3) (by decide) λ l2=>?_;refine CL (m:=1) l2 (by decide) (by decide) λ l1=>?_;refine j_s rfl l1 (Nat.le_of_eq (vP v.holds)) (by decide) λ l2=>?_;refine CL (m:=1) l2 (by decide) (by decide) λ l1=>?_;refine j_t rfl hi.sp l1 (by decide) λ l2=>?_;refine CL (m:=1) l2 (by decide) (by decide) λ l1=>?_;refine j_s rfl l1 (vR hi.as hi.a3) (by decide) λ l2=>?_;show Q (.str _) H2;rw[GX];exact k _ s2
def mZ (K:aaa):Sp:=λ vs H Q _=>∃ (x:V) (net:Net),vs=[x]/\Is K H (eH net) x/\NetIn net/\∀ H',aG H H'->Q (.str (fE net)) H'
theorem nN:FnScope ["net","vessels","spouts"] ["net"] (aK (bB 31)):={}
theorem vE {f f1 f2:Addr}{fd fd1 fd2:FuncData} (F:Fun K "net_text" "net_text" (bB 31) f fd) (T:Txt mg) (G_vessel_line:Callee P w K mg base "vessel_line" ["vessel"] 2 (mV K) f1 fd1) (G_spout_line:Callee P w K mg base "spout_line" ["spout"] 2 (mX K) f2 fd2):FnOk P w K mg base hU 3 f fd ["net"] (mZ K):=by
 refine F.ok nN (λ vs H Q E h=>?_) (λ cdv A outer s H vs Q E hr h=>?_)
 ·obtain⟨x,v,rfl,_⟩:=h;rfl
 ·obtain⟨x,net,rfl,hx,hi,k⟩:=h;have sc:=nN;refine⟨_,(aE (cR (pv 0) (cG (K:=K) (n:=2) rfl rfl (aJ (gL 1 sc.nd) (aJ (gL 2 sc.nd) bY))))
   (aH (aM (dC (K:=K) rfl PySem.F.slot_str_join PySem.F.type_str_join (d0 (K:=K) rfl) aI (aA (aU lA (gB (λ _ _ h=>h) rfl (LcOk.mk (N':=["vessel"]) (fr:=[none]) rfl trivial rfl rfl rfl rfl rfl trivial) (cV (K:=K) rfl (pv 1)) (λ _ _ _=>(gC 0 ["vessel"])) (λ _ _ _=>cU) (λ _ _ _=>(cB G_vessel_line hr (aA (pv 0) aB)))) (gB (λ _ _ h=>h) rfl (LcOk.mk (N':=["spout"]) (fr:=[none]) rfl trivial rfl rfl rfl rfl rfl trivial) (cV (K:=K) rfl (pv 2)) (λ _ _ _=>(gC 0 ["spout"])) (λ _ _ _=>cU) (λ _ _ _=>(cB G_spout_line hr (aA (pv 0) aB))))) aB))))),?_⟩
  obtain⟨na,nb,nc,xs,ys,rfl,qn,q1,l1,q2,l2⟩:=nC hx;have e1:xs.length=net.vs.length:=by rw[l1.length,aab]
  have e2:ys.length=net.sps.length:=by rw[l2.length,aab]
  have v12:=hi.v12;have s12:=hi.s12;refine⟨_,rfl,na,_,rfl,qn,rfl,_,_,rfl,_,_,rfl,rfl,?_⟩;dsimp only [bL];refine⟨rfl,_,rfl,nb,rfl,⟨_,q1⟩,iC (K:=K) (a:=nb) (xs:=xs) (λ D i r aa H'=>H D=none/\aG H H'/\H' D=some (.lst r)/\r=((net.vs.take i).map dW).map V.str/\∃ u1,aa=[u1])
   (λ D i r aa H' p=>p.2.1.tup q1) (λ D hD=>⟨hD,aG.new hD,aD,rfl,none,rfl⟩) ?_ ?_⟩
  rotate_left
  ·rintro D i y r aa H1 hy ⟨hD,sm,hDl,rfl,u1,rfl⟩;obtain⟨d,hd,iy⟩:=l1.get' hy;rw[aap] at hd;obtain⟨v,hv,rfl⟩:=abd.mp hd;refine⟨_,rfl,y,v,rfl,Is.mono sm.ts _ _ iy,hi.vs v (aad hv),λ H2 s2=>?_⟩;refine⟨s2 _ _ hDl,bP (by rw[aab,aab,abj];omega),hD,(sm.trans s2).put hD,aD,?_,_,rfl⟩;rw[aby,hv,aaj,aaj];rfl
  rintro D1 r aa H1 ⟨hD1,s1,hD1l,rfl,_⟩;rw[e1,aar (aag _)] at hD1l;refine⟨_,rfl,nc,rfl,⟨_,s1.tup q2⟩,iC (K:=K) (a:=nc) (xs:=ys) (λ D i r aa H'=>H1 D=none/\aG H1 H'/\H' D=some (.lst r)/\r=((net.sps.take i).map eP).map V.str/\∃ u1,aa=[u1])
   (λ D i r aa H' p=>p.2.1.tup (s1.tup q2)) (λ D hD=>⟨hD,aG.new hD,aD,rfl,none,rfl⟩) ?_ ?_⟩
  rotate_left
  ·rintro D i y r aa H2 hy ⟨hD,sm,hDl,rfl,u1,rfl⟩;obtain⟨d,hd,iy⟩:=l2.get' hy;rw[aap] at hd;obtain⟨v,hv,rfl⟩:=abd.mp hd;refine⟨_,rfl,y,v,rfl,Is.mono (s1.trans sm).ts _ _ iy,hi.sps v (aad hv),?_⟩;refine⟨hDl,bP (by rw[aab,aab,abj];omega),hD,sm.put hD,aD,?_,_,rfl⟩;rw[aby,hv,aaj,aaj];rfl
  rintro D2 r aa H2 ⟨hD2,s2,hD2l,rfl,_⟩;rw[e2,aar (aag _)] at hD2l;refine⟨D1,D2,_,_,rfl,rfl,s2 _ _ hD1l,hD2l,acr (bP (by rw[aab,aab,aab,aab];omega)),λ p hp=>?_⟩;have hp2:upd H2 p (.lst ((net.vs.map dW).map V.str++(net.sps.map eP).map V.str)) p=some (.lst ((net.vs.map dW++net.sps.map eP).map V.str)):=by rw[aD,aaj]
  have e3:Str.join "\n" (net.vs.map dW++net.sps.map eP)=fE net:=by rw[K1];rfl
  refine⟨"\n",p,net.vs.map dW++net.sps.map eP,rfl,rfl,bO.of hp2,gI (nF hi) (by decide) (by rw[aao,aab,aab];omega),?_⟩;rw[e3];exact k _ ((s1.trans s2).trans (aG.new hp))
theorem jF {ws:List Str}{i:Nat}{z:Str} (h:ws[i]? = some z):(ws.map V.str)[i]? = some (.str z):=by rw[aap,h];rfl
theorem sK {i n:Nat} (h:i < n):seqIndex? ((i:Nat):Int) n=some i:=by
 unfold seqIndex?;have h1:¬ ((i:Nat):Int) < 0:=by omega
 simp [h1,h]
theorem r8:∀ (ws:List Str) (i:Nat),(ws.map V.str).eraseIdx i=(ws.eraseIdx i).map V.str
 | [],i=>rfl
 | x::ws,0=>rfl
 | x::ws,i+1=>by rw[aaq,List.eraseIdx_cons_succ,List.eraseIdx_cons_succ,aaq,r8 ws i]
theorem FE (ws:List Str) (i:Nat) (z:Str):(ws.map V.str).take i++V.str z::(ws.map V.str).drop i=(ws.take i++z::ws.drop i).map V.str:=by rw[aaj,aaq,List.map_take,List.map_drop]
def oV (K:aaa):Sp:=λ vs H Q _=>∃ (l:Addr) (ws:List Str) (way at':Int) (z:Str),vs=[.ref l,.int way,.int at',.str z]/\H l=some (.lst (ws.map V.str))/\0<=at'/\nL ws<=500000/\
 ∀ p us H',aG H H'->H p=none->H' p=some (.lst (us.map V.str))->(∀ u∈us,u∈ws\/u=z)->nL us<=nL ws+(z.length+1)->us.length<=ws.length+1->Q (.ref p) H'
theorem iZ:FnScope ["row","way","at","thing","other"] ["row","way","at","thing"] (aK (bB 72)):={}
theorem pK {f:Addr}{fd:FuncData} (F:Fun K "_law_turned" "_law_turned" (bB 72) f fd) (T:Txt mg):FnOk P w K mg base hU 1 f fd ["row","way","at","thing"] (oV K):=by
 refine F.ok iZ (λ vs H Q E h=>?_) (λ cdv A outer s H vs Q E hr h=>?_)
 ·obtain⟨l,ws,way,at',z,rfl,_⟩:=h;rfl
 ·obtain⟨l,ws,way,at',z,rfl,hl,h0,hw,k⟩:=h;have sc:=iZ;refine⟨_,(aE (pL 0 sc.nd (aR (rH (K:=K) rfl) rfl T.b_list uF (aA (pv 0) aB)))
   (aE (bC (PW.pt (d4 (aQ d5 (pv 1) aF (aP _)) (cQ (aQ d5 (kA K T.b_len (pv 0)) aF (aP _))))) (aE (dG (eC (K:=K) rfl aat PySem.F.slot_list_insert PySem.F.type_list_insert zU (pv 0) (aA (aU i9 (pv 2) (aU cZ (kA K T.b_len (pv 0)) aF)) (aA (pv 3) aB))))
   (aH (aM (pv 0)))) aS)
   (aE (pL 2 sc.nd (aU i9 (pv 2) (kA K T.b_len (pv 0))))
   (aE (bC (aQ d5 (pv 1) aF (aP _)) (aH (cR (pv 3) (jB (pv 0) (pv 2) fC))) (aH (bC (aQ d5 (pv 1) aF (aP _)) (aH (dG (eC (K:=K) rfl aat PySem.F.slot_list_pop PySem.F.type_list_pop BU (pv 0) (aA (pv 2) aB)))) (aE (pL 4 sc.nd (px K (pv 0) (pv 2)))
   (aE (cR (px K (pv 0) (aU i9 (aU cZ (pv 2) aF) (kA K T.b_len (pv 0)))) (jB (pv 0) (pv 2) fC))
   (aH (cR (pv 4) (jB (pv 0) (aU i9 (aU cZ (pv 2) aF) (kA K T.b_len (pv 0))) fC))))))))
   (aH (aM (pv 0))))))),?_⟩
  have hlw:=tQ ws;refine⟨_,rfl,l,_,rfl,.inl (bO.of hl),λ p hp=>?_⟩;have s1:=aG.new (o:=HO.lst (ws.map V.str)) hp;have g1:upd H p (.lst (ws.map V.str)) p=some (.lst (ws.map V.str)):=aD;generalize upd H p (.lst (ws.map V.str))=H1 at s1 g1 ⊢;have hml:(ws.map V.str).length=ws.length:=aab ..;have fin:∀ us:List Str,(∀ u∈us,u∈ws\/u=z)->nL us<=nL ws+(z.length+1)->us.length<=ws.length+1->Q (.ref p) (upd H1 p (.lst (us.map V.str))):=λ us h1 h2 h3=>k p us _ (s1.put hp) hp aD h1 h2 h3;dsimp only [aW,bL];have hI:∀ D:Ends,D.rt=Q->fB (GC (tBM K "list" y4 (cD 0) (bV (fJ (rI (λ x j=>0 < j) λ i j=>V.int (i % j)) (cD 2) (fJ (qY λ i j=>V.int (i+j)) (DP (B6 K) (bV (cD 0) fP)) (tC (V.int 1)))) (bV (cD 3) fP)))) (HB (cD 0)) D [some (.ref p),some (.int way),some (.int at'),some (.str z),none] H1:=λ D hD=>by
   have m0:=Int.emod_nonneg at' (show (((ws.map V.str).length:Nat):Int)+1≠0 by omega);have m1:=Int.emod_lt_of_pos at' (show (0:Int) < (((ws.map V.str).length:Nat):Int)+1 by omega);refine⟨_,rfl,.inl ⟨rfl,_,bO.of g1⟩,_,rfl,_,rfl,p,_,rfl,.inl (bO.of g1),_,_,rfl,rfl,_,_,rfl,rfl,(show (0:Int) < (((ws.map V.str).length:Nat):Int)+1 by omega),_,rfl,p,_,_,_,rfl,rfl,g1,m0,by omega,by omega,_,rfl,?_⟩;rw[hD,FE];generalize (at' % ((((ws.map V.str).length:Nat):Int)+1)).toNat=i;refine fin _ (λ u hu=>?_) ?_ ?_
   ·rcases aba.mp hu with hu | hu
    ·exact .inl (List.mem_of_mem_take hu)
    ·rcases aaz.mp hu with hu | hu
     ·exact .inr hu
     ·exact .inl (List.mem_of_mem_drop hu)
   ·have:=DV ws i;rw[xS,eD];omega
   ·rw[aao,abb,abj,List.length_drop];omega
  refine⟨_,rfl,rfl,_,rfl,dJ (λ _=>hI _ rfl) λ hN=>?_⟩;refine⟨_,rfl,p,_,rfl,.inl (bO.of g1),rfl,_,rfl,dJ (λ _=>hI _ rfl) λ hE=>?_⟩;have hne:0 < ws.length:=by
   have:¬ (((ws.map V.str).length:Nat):Int)=0:=λ h=>hE (aaw (by rw[h]));omega
  have m0:=Int.emod_nonneg at' (show (((ws.map V.str).length:Nat):Int)≠0 by omega);have m1:=Int.emod_lt_of_pos at' (show (0:Int) < (((ws.map V.str).length:Nat):Int) by omega);refine⟨_,rfl,_,rfl,p,_,rfl,.inl (bO.of g1),_,_,rfl,rfl,(show (0:Int) < (((ws.map V.str).length:Nat):Int) by omega),?_⟩;dsimp only [aW,bL];generalize at' % (((ws.map V.str).length:Nat):Int)=at2 at m0 m1 ⊢;obtain⟨i,rfl⟩:=Int.eq_ofNat_of_zero_le m0;have hi:i < ws.length:=by omega
  obtain⟨a,ha⟩:∃ a,ws[i]? = some a:=⟨_,abh hi⟩;have hix:DQ (ws.map V.str).length ((i:Nat):Int)=some i:=tW (k:=((i:Nat):Int)) m0 m1;have hset:(ws.map V.str).set i (.str z)=(ws.set i z).map V.str:=by rw[List.map_set]
  refine⟨_,rfl,rfl,_,rfl,dJ (λ _=>?_) λ _=>?_⟩
  ·refine⟨_,rfl,_,rfl,_,rfl,p,_,_,i,rfl,rfl,g1,hix,_,rfl,?_⟩;rw[hset];refine fin _ (λ u hu=>?_) ?_ ?_
   ·rcases List.mem_or_eq_of_mem_set hu with h | h
    ·exact .inl h
    ·exact .inr h
   ·have:=lK (z:=z) ha;omega
   ·rw[acl];omega
  refine⟨_,rfl,rfl,_,rfl,dJ (λ _=>?_) λ _=>?_⟩
  ·refine⟨_,rfl,.inl ⟨rfl,_,bO.of g1⟩,_,rfl,p,_,((i:Nat):Int),i,.str a,rfl,rfl,g1,by omega,by omega,?_,jF ha,_,rfl,?_⟩
   ·exact sK (by omega)
   ·have he:(ws.map V.str).eraseIdx i=(ws.eraseIdx i).map V.str:=r8 ws i;rw[he];refine fin _ (λ u hu=>.inl (List.mem_of_mem_eraseIdx hu)) ?_ ?_
    ·have:=qL ws i;omega
    ·have:=List.length_eraseIdx_le ws i;omega
  have m3:=Int.emod_nonneg (((i:Nat):Int)+1) (show (((ws.map V.str).length:Nat):Int)≠0 by omega);have m4:=Int.emod_lt_of_pos (((i:Nat):Int)+1) (show (0:Int) < (((ws.map V.str).length:Nat):Int) by omega);obtain⟨j,hj⟩:=Int.eq_ofNat_of_zero_le m3;have hjl:j < ws.length:=by omega
  obtain⟨b,hb⟩:∃ b,ws[j]? = some b:=⟨_,abh hjl⟩;have hset1:(ws.map V.str).set i (.str b)=(ws.set i b).map V.str:=by rw[List.map_set]
  refine⟨_,rfl,_,rfl,.inl ⟨p,_,_,_,rfl,rfl,bO.of g1,eK (jF ha),?_⟩⟩;dsimp only [aW,bL];refine⟨_,rfl,_,rfl,_,_,rfl,rfl,_,rfl,p,_,rfl,.inl (bO.of g1),_,_,rfl,rfl,(show (0:Int) < (((ws.map V.str).length:Nat):Int) by omega),?_⟩;dsimp only;rw[hj];refine .inl ⟨p,_,_,_,rfl,rfl,bO.of g1,eK (jF hb),_,rfl,_,rfl,p,_,_,i,rfl,rfl,g1,hix,?_⟩;rw[hset1];have g2:upd H1 p (.lst ((ws.set i b).map V.str)) p=some (.lst ((ws.set i b).map V.str)):=aD;have l2:((ws.set i b).map V.str).length=(ws.map V.str).length:=by rw[aab,aab,acl]
  have w1:=lK (z:=b) ha;have hb2:(ws.set i b)[j]? = some b:=by
   rw[List.getElem?_set]
   split
   ·rename_i e;subst e;simp [hi]
   ·exact hb
  have w2:=lK (z:=a) hb2;refine⟨_,rfl,_,rfl,_,rfl,_,_,rfl,rfl,_,rfl,p,_,rfl,.inl (bO.of g2),_,_,rfl,rfl,(show (0:Int) < ((((ws.set i b).map V.str).length:Nat):Int) by omega),?_⟩;dsimp only;rw[l2,hj];refine⟨p,_,_,j,rfl,rfl,g2,by rw[l2];exact tW (k:=((j:Nat):Int)) (by omega) (by omega),_,rfl,?_⟩;have e2:((ws.set i b).map V.str).set j (.str a)=((ws.set i b).set j a).map V.str:=by simp only [List.map_set]
  rw[e2];refine k p _ _ ((s1.put hp).put hp) hp aD (λ u hu=>.inl ?_) (by omega) (by rw[acl,acl];omega);rcases List.mem_or_eq_of_mem_set hu with h | h
  ·rcases List.mem_or_eq_of_mem_set h with h | h
   ·exact h
   ·rw[h];exact aad hb
  ·rw[h];exact aad ha
def oX:Sp:=λ vs H Q _=>∃ x:Str,vs=[.str x]/\eA x/\x.length<=1000000/\∀ H',aG H H'->Q (gP (d7 x)) H'
theorem j5:FnScope ["word"] ["word"] (aK (bB 73)):={}
theorem pN {f:Addr}{fd:FuncData} (F:Fun K "_law_number" "_law_number" (bB 73) f fd) (T:Txt mg):FnOk P w K mg base hU 1 f fd ["word"] oX:=by
 refine F.ok j5 (λ vs H Q E h=>?_) (λ cdv A outer s H vs Q E hr h=>?_)
 ·obtain⟨x,rfl,_⟩:=h;rfl
 ·obtain⟨x,rfl,ha,hl,k⟩:=h;have sc:=j5;refine⟨_,(aE (bC (PW.pt (d4 (aQ d5 (pv 0) aI (aP _)) (d4 (aQ r6 (aT gY rfl T.b_len ach (aA (pv 0) aB)) aF (aP _)) (cQ (bI (bG (aT (gZ (K:=K) rfl rfl) rfl T.b_all PyProof.Rows.boot_all (aA (gB (λ _ _ h=>h) rfl (LcOk.mk (N':=["sign"]) (fr:=[none]) rfl trivial rfl rfl rfl rfl rfl trivial) (EH (K:=K) rfl (pv 0)) (λ _ _ _=>(gC 0 ["sign"])) (λ _ _ _=>cU) (λ _ _ _=>(d2 IJ (pv 0) aI (by rfl)))) aB)))))))) (aH (aM d8)) aS)
   (aE (bC (PW.pt (nA (aQ d5 (px K (pv 0) aF) aI (aP _)) (jP (aQ kO (pv 0) aI (aP _))))) (aH (aM d8)) aS)
   (aH (aM (aR nK rfl T.b_int eU (aA (pv 0) aB)))))),?_⟩
  refine⟨_,rfl,rfl,_,rfl,dJ (λ hT=>?_) λ hT=>?_⟩
  ·have hx:x = "" := by have:=aax hT;cases this;rfl
   have e:d7 x=none:=if_pos (.inl hx);rw[e] at k;exact k H (aG.refl _)
  have hx:x ≠ "" := λ h=>hT (aaw (by rw[h]));refine⟨_,rfl,x,rfl,hl,_,_,rfl,rfl,_,rfl,dJ (λ hT=>?_) λ hT=>?_⟩
  ·have hx:9 < x.length:=by have:=aax hT;omega
   have e:d7 x=none:=if_pos (.inr (.inl hx));rw[e] at k;exact k H (aG.refl _)
  have hx9:x.length<=9:=by
   have:¬ (9:Int) < ((x.length:Nat):Int):=λ h=>hT (aaw h);omega
  have hasc:x.cps.all (· < 128)=true:=by
   rw[Array.all_eq_true'];intro c hc;have:=ha c (by simpa using hc);simpa using this
  have hcz:x.cps.size=(sg x).length:=by simp [sg]
  refine⟨_,rfl,x,rfl,hasc,J0 (λ D i r aa H'=>H D=none/\aG H H'/\H' D=some (.lst r)/\r=(((sg x).take i).map λ c=>decide (48<=c) && decide (c<=57)).map V.bl/\∃ u1,aa=[u1])
   (λ D hD=>⟨hD,aG.new hD,aD,rfl,none,rfl⟩) ?_ ?_⟩
  rotate_left
  ·rintro D i c r aa H1 hc ⟨hD,sm,hDl,rfl,u1,rfl⟩;have hc':(sg x)[i]? = some c:=by simpa [sg] using hc
   refine⟨_,rfl,one c,"0123456789",rfl,rfl,?_⟩;rw[FQ c (ha c (aad hc'))];have hxl:=fG x;refine⟨hDl,bP (by rw[aab,aab,abj];omega),hD,sm.put hD,aD,?_,_,rfl⟩;rw[cL hc',aaj,aaj];rfl
  rintro D r aa H1 ⟨hD,s1,hDl,rfl,_⟩;rw[hcz,aar (aag _)] at hDl;refine⟨false,D,(sg x).map λ c=>decide (48<=c) && decide (c<=57),rfl,bO.of hDl,_,rfl,?_⟩;have ed:(((sg x).map λ c=>decide (48<=c) && decide (c<=57)).all id)=A8 x:=by unfold A8;rw[List.all_map];rfl
  rw[ed];cases hd:A8 x with
  | false=>
   have e:d7 x=none:=if_pos (.inr (.inr hd));rw[e] at k;exact aX (k H1 s1)
  | true=>
   refine bM ?_;obtain⟨n,hn,hn0,hn1⟩:=xN hd hx hx9;have hsl:=fG x;have hne:sg x≠[]:=λ z=>hx (iQ (by rw[z];rfl));obtain⟨c,hc⟩:∃ c,(sg x)[0]? = some c:=⟨_,abh (List.length_pos_iff.mpr hne)⟩;have e1:d7 x=if (sg x)[0]? = some 48/\x ≠ "0" then none else some n:=by
    unfold d7;rw[if_neg (λ z=>by rcases z with z | z | z;exact hx z;omega;rw[hd] at z;cases z),hn]
   dsimp only [bL];refine⟨_,rfl,.inr (.inr ⟨x,0,c,rfl,rfl,by rw[sizeLine_eq];omega,eK (xs:=x.cps.toList) (j:=0) hc,rfl,_,rfl,?_⟩)⟩;have e0:(V.str (one c)=V.str "0")↔c=48:=by
    constructor
    ·intro h;have h:one c = "0" := by cases h;rfl
     have:=congrArg sg h;rw[show sg (Str.ofString "0")=[48] by decide +kernel] at this;simpa [sg,one] using this
    ·rintro rfl;rw[show one 48=Str.ofString "0" by decide +kernel]
   by_cases h48:c=48
   ·subst h48;refine tX (e0.mpr rfl) ⟨_,rfl,rfl,_,rfl,?_⟩
    by_cases h0:x = "0"
    ·have ez:(!decide (V.str x=V.str "0"))=false:=by rw[aaw (by rw[h0])];rfl
     rw[ez];refine bM ⟨_,rfl,x,n,rfl,hn,by omega,?_⟩;have e2:d7 x=some n:=by rw[e1,if_neg (λ z=>z.2 h0)]
     rw[e2] at k;exact k H1 s1
    ·have ez:(!decide (V.str x=V.str "0"))=true:=by rw[aau (λ h=>h0 (by cases h;rfl))];rfl
     rw[ez];refine aX ?_;have e2:d7 x=none:=by rw[e1,if_pos ⟨hc,h0⟩]
     rw[e2] at k;exact k H1 s1
   ·refine dJ (λ h=>absurd (e0.mp (aax h)) h48) λ _=>bM ⟨_,rfl,x,n,rfl,hn,by omega,?_⟩;have e2:d7 x=some n:=by rw[e1,if_neg (λ z=>h48 (by rw[hc] at z;have:=z.1;simpa using this))]
    rw[e2] at k;exact k H1 s1
def zG (x:Str):V:=if x = "ground" then .non else match d7 x with
 | none=>.str "none"
 | some n=>.int n
def rY:Sp:=λ vs H Q _=>∃ x:Str,vs=[.str x]/\eA x/\x.length<=1000000/\∀ H',aG H H'->Q (zG x) H'
theorem j4:FnScope ["word","number"] ["word"] (aK (bB 75)):={}
theorem pM {f f1:Addr}{fd fd1:FuncData} (F:Fun K "_law_target" "_law_target" (bB 75) f fd) (T:Txt mg) (G__law_number:Callee P w K mg base "_law_number" ["word"] 1 oX f1 fd1):FnOk P w K mg base hU 2 f fd ["word"] rY:=by
 refine F.ok j4 (λ vs H Q E h=>?_) (λ cdv A outer s H vs Q E hr h=>?_)
 ·obtain⟨x,rfl,_⟩:=h;rfl
 ·obtain⟨x,rfl,ha,hl,k⟩:=h;have sc:=j4;refine⟨_,(aE (bC (aQ d5 (pv 0) aI (aP _)) (aH (aM d8)) aS)
   (aE (pL 1 sc.nd (cB G__law_number hr (aA (pv 0) aB)))
   (aH (aM (px K (aZ (aA (pv 1) (aA aI aB))) (aR dZ rfl T.b_int eU (aA (d2 jE (pv 1) d8 (aP _)) aB))))))),?_⟩
  refine⟨_,rfl,rfl,_,rfl,dJ (λ hT=>?_) λ hT=>?_⟩
  ·have hx:x = "ground" := by have:=aax hT;cases this;rfl
   have e:zG x=.non:=if_pos hx;rw[e] at k;exact k H (aG.refl _)
  have hx:x ≠ "ground" := λ h=>hT (aaw (by rw[h]));have e:zG x=match d7 x with
   | none=>.str "none"
   | some n=>.int n:=if_neg hx
  refine⟨_,rfl,x,rfl,ha,hl,λ H1 s1=>?_⟩;dsimp only [aW,bL];cases hn:d7 x with
  | none=>
   rw[e,hn] at k;exact⟨_,rfl,(show 2<=sizeLine by decide),λ l hl=>⟨_,rfl,rfl,.inr ⟨_,rfl,.inl ⟨l,_,1,_,rfl,rfl,bO.of aD,rfl,k _ (s1.trans (aG.new hl))⟩⟩⟩⟩
  | some n=>
   rw[e,hn] at k;exact⟨_,rfl,(show 2<=sizeLine by decide),λ l hl=>⟨_,rfl,rfl,.inr ⟨_,rfl,.inl ⟨l,_,0,_,rfl,rfl,bO.of aD,rfl,k _ (s1.trans (aG.new hl))⟩⟩⟩⟩
end Tw
namespace L2
open PySem PySem.Spec PyProof.Rows TwZ
inductive G where
 | non
 | bl (b:Bool)
 | int (i:Int)
 | str (z:Str)
 | tup (gs:List G)
 | lst (gs:List G)
mutual
def aO (K:aaa) (H:Hp):G->V->Prop
 | .non,v=>v=.non
 | .bl b,v=>v=.bl b
 | .int i,v=>v=.int i
 | .str z,v=>v=.str z
 | .tup gs,v=>∃ a xs,v=.ref a/\bU K H a xs/\aY K H gs xs
 | .lst gs,v=>∃ a xs,v=.ref a/\bO K H a xs/\aY K H gs xs
def aY (K:aaa) (H:Hp):List G->List V->Prop
 | [],vs=>vs=[]
 | g::gs,vs=>∃ v r,vs=v::r/\aO K H g v/\aY K H gs r
end
mutual
def bJ:G->G->Bool
 | .non,.non=>true
 | .bl a,.bl b=>a == b
 | .bl a,.int b=>(if a then 1 else 0) == b
 | .int a,.bl b=>a == (if b then 1 else 0)
 | .int a,.int b=>a == b
 | .str a,.str b=>a == b
 | .tup a,.tup b=>fQ a b
 | .lst a,.lst b=>fQ a b
 | _,_=>false
def fQ:List G->List G->Bool
 | [],[]=>true
 | a::as,b::bs=>bJ a b && fQ as bs
 | _,_=>false
end
mutual
def lF:G->Nat
 | .tup gs=>jL gs+1
 | .lst gs=>jL gs+1
 | _=>0
def jL:List G->Nat
 | []=>0
 | g::gs=>max (lF g) (jL gs)
end
mutual
theorem pV:∀ g:G,bJ g g=true
 | .non=>by rw[bJ]
 | .bl b=>by rw[bJ];simp
 | .int i=>by rw[bJ];simp
 | .str z=>by rw[bJ];simp
 | .tup gs=>by rw[bJ];exact nJ gs
 | .lst gs=>by rw[bJ];exact nJ gs
theorem nJ:∀ gs:List G,fQ gs gs=true
 | []=>by rw[fQ]
 | g::gs=>by rw[fQ,pV g,nJ gs];rfl
end
theorem aY.length {K:aaa}{H:Hp}:∀ {gs:List G}{xs:List V},aY K H gs xs->xs.length=gs.length
 | [],_,h=>by rw[aY] at h;subst h;rfl
 | g::gs,_,h=>by rw[aY] at h;obtain⟨v,r,rfl,_,h⟩:=h;rw[abb,abb,aY.length h]
theorem aY.get {K:aaa}{H:Hp}:∀ {gs:List G}{xs:List V}{i:Nat}{g:G},aY K H gs xs->gs[i]? = some g->∃ x,xs[i]? = some x/\aO K H g x
 | [],_,_,_,_,e=>by simp at e
 | g::gs,_,0,g',h,e=>by rw[aY] at h;obtain⟨v,r,rfl,h1,_⟩:=h;simp at e;subst e;exact⟨v,by simp,h1⟩
 | g::gs,_,i+1,g',h,e=>by
  rw[aY] at h;obtain⟨v,r,rfl,_,h⟩:=h;obtain⟨x,h1,h2⟩:=aY.get h (i:=i) (by simpa using e);exact⟨x,by simpa using h1,h2⟩
theorem aY.get' {K:aaa}{H:Hp}{gs:List G}{xs:List V}{i:Nat}{x:V} (h:aY K H gs xs) (e:xs[i]? = some x):∃ g,gs[i]? = some g/\aO K H g x:=by
 have hi:=(aai.mp e).1;rw[h.length] at hi;obtain⟨x',h1,h2⟩:=h.get (i:=i) (g:=gs[i]) (by simp [hi]);rw[e] at h1;cases h1;exact⟨gs[i],by simp [hi],h2⟩
theorem fU {g:G}:∀ {gs:List G},g∈gs->lF g<=jL gs
 | [],h=>by cases h
 | a::gs,h=>by
  rw[jL];rcases aaz.1 h with rfl | h
  ·omega
  ·have:=fU h;omega
def LO (gs hs:List G) (j:Nat):Bool:=match gs[j]?,hs[j]? with
 | some g,some h=>bJ g h
 | _,_=>true
theorem j9 (n:Nat) (e:Nat->Bool):(List.range (n+1)).all e=(e 0 && (List.range n).all λ j=>e (j+1)):=by
 rw[List.range_succ_eq_map,List.all_cons,List.all_map];rfl
theorem uJ:∀ (gs hs:List G),gs.length=hs.length->(List.range gs.length).all (LO gs hs)=fQ gs hs
 | [],[],_=>by rw[fQ];rfl
 | [],_::_,h=>by simp at h
 | _::_,[],h=>by simp at h
 | g::gs,h::hs,hl=>by
  rw[abb,j9,fQ,<- uJ gs hs (by simpa using hl)];congr 1
theorem pZ:∀ (gs hs:List G),((List.range (min gs.length hs.length)).all (LO gs hs) && gs.length == hs.length)=fQ gs hs
 | [],[]=>by rw[fQ];rfl
 | [],_::_=>by simp [fQ]
 | _::_,[]=>by simp [fQ]
 | g::gs,h::hs=>by
  have e1:min (g::gs).length (h::hs).length=min gs.length hs.length+1:=by rw[abb,abb];omega
  have e2:((g::gs).length == (h::hs).length)=(gs.length == hs.length):=by simp
  rw[e1,e2,j9,fQ,<- pZ gs hs,Bool.and_assoc];congr 1
theorem pW:∀ (gs hs:List G),gs.length≠hs.length->fQ gs hs=false
 | [],[],h=>absurd rfl h
 | [],_::_,_=>by simp [fQ]
 | _::_,[],_=>by simp [fQ]
 | g::gs,h::hs,hl=>by rw[fQ,pW gs hs (by simpa using hl),Bool.and_false]
theorem tY {h:Heap}{a:Addr}{xs ys:Array Value} (h1:h.IsTuple a xs) (h2:h.IsTuple a ys):xs=ys:=by
 obtain⟨o,e,_,n,d⟩:=h1;obtain⟨o',e',_,n',d'⟩:=h2;rw[e] at e';cases e';rw[d] at d';injection d'
theorem vX {h:Heap}{a:Addr}{xs ys:Array Value} (h1:h.IsList a xs) (h2:h.IsList a ys):xs=ys:=by
 obtain⟨o,e,_,n,d⟩:=h1;obtain⟨o',e',_,n',d'⟩:=h2;rw[e] at e';cases e';rw[d] at d';injection d'
section
variable {X:Cx}{pins:List (Addr×Obj)}{σ:St}{H:Hp}{s:Shared}
mutual
theorem xV (I:Inv X pins σ H s):∀ (g h:G) (x y:V) (u:Value),aO X.K H g x->aO X.K H h y->bF x u->bF y u->g=h
 | .non,h,x,y,u,hx,hy,rx,ry=>by
  rw[aO] at hx;subst hx;cases rx;cases h <;> rw[aO] at hy
  ·subst hy;cases ry
  ·subst hy;obtain⟨_,e⟩:=ry;cases e
  ·subst hy;obtain⟨_,e⟩:=ry;cases e
  ·obtain⟨_,_,rfl,_⟩:=hy;cases ry
  ·obtain⟨_,_,rfl,_⟩:=hy;cases ry
 | .bl b,h,x,y,u,hx,hy,rx,ry=>by
  rw[aO] at hx;subst hx;cases rx;cases h <;> rw[aO] at hy
  ·subst hy;cases ry
  ·subst hy;injection ry with e;rw[e]
  ·subst hy;obtain⟨_,e⟩:=ry;cases e
  ·subst hy;obtain⟨_,e⟩:=ry;cases e
  ·obtain⟨_,_,rfl,_⟩:=hy;cases ry
  ·obtain⟨_,_,rfl,_⟩:=hy;cases ry
 | .int b,h,x,y,u,hx,hy,rx,ry=>by
  rw[aO] at hx;subst hx;obtain⟨t,rfl⟩:=rx;cases h <;> rw[aO] at hy
  ·subst hy;cases ry
  ·subst hy;cases ry
  ·subst hy;obtain⟨_,e⟩:=ry;injection e with e;rw[e]
  ·subst hy;obtain⟨_,e⟩:=ry;cases e
  ·obtain⟨_,_,rfl,_⟩:=hy;cases ry
  ·obtain⟨_,_,rfl,_⟩:=hy;cases ry
 | .str b,h,x,y,u,hx,hy,rx,ry=>by
  rw[aO] at hx;subst hx;obtain⟨t,rfl⟩:=rx;cases h <;> rw[aO] at hy
  ·subst hy;cases ry
  ·subst hy;cases ry
  ·subst hy;obtain⟨_,e⟩:=ry;cases e
  ·subst hy;obtain⟨_,e⟩:=ry;injection e with e;rw[e]
  ·obtain⟨_,_,rfl,_⟩:=hy;cases ry
  ·obtain⟨_,_,rfl,_⟩:=hy;cases ry
 | .tup gs,h,x,y,u,hx,hy,rx,ry=>by
  rw[aO] at hx;obtain⟨a,xs,rfl,q1,l1⟩:=hx;cases rx;cases h <;> rw[aO] at hy
  ·subst hy;cases ry
  ·subst hy;cases ry
  ·subst hy;obtain⟨_,e⟩:=ry;cases e
  ·subst hy;obtain⟨_,e⟩:=ry;cases e
  ·obtain⟨b,ys,rfl,q2,l2⟩:=hy;cases ry;obtain⟨us,r1,p1,_⟩:=I.tuple q1;obtain⟨vs,r2,p2,_⟩:=I.tuple q2;have e:=tY p1 p2;have e':us=vs:=by simpa using e
   subst e';rw[wI I gs _ xs ys us l1 l2 r1 r2]
  ·obtain⟨b,ys,rfl,q2,l2⟩:=hy;cases ry;obtain⟨us,r1,p1,_⟩:=I.tuple q1;obtain⟨vs,r2,p2,_⟩:=I.list q2;exact absurd rfl (SeqAt.ne_of_list_tuple p2.isList p1)
 | .lst gs,h,x,y,u,hx,hy,rx,ry=>by
  rw[aO] at hx;obtain⟨a,xs,rfl,q1,l1⟩:=hx;cases rx;cases h <;> rw[aO] at hy
  ·subst hy;cases ry
  ·subst hy;cases ry
  ·subst hy;obtain⟨_,e⟩:=ry;cases e
  ·subst hy;obtain⟨_,e⟩:=ry;cases e
  ·obtain⟨b,ys,rfl,q2,l2⟩:=hy;cases ry;obtain⟨us,r1,p1,_⟩:=I.list q1;obtain⟨vs,r2,p2,_⟩:=I.tuple q2;exact absurd rfl (SeqAt.ne_of_list_tuple p1.isList p2)
  ·obtain⟨b,ys,rfl,q2,l2⟩:=hy;cases ry;obtain⟨us,r1,p1,_⟩:=I.list q1;obtain⟨vs,r2,p2,_⟩:=I.list q2;have e:=vX p1.isList p2.isList;have e':us=vs:=by simpa using e
   subst e';rw[wI I gs _ xs ys us l1 l2 r1 r2]
theorem wI (I:Inv X pins σ H s):∀ (gs hs:List G) (xs ys:List V) (us:List Value),aY X.K H gs xs->aY X.K H hs ys->bA xs us->bA ys us->gs=hs
 | [],hs,xs,ys,us,h1,h2,r1,r2=>by
  rw[aY] at h1;subst h1;cases r1;cases r2;cases hs with
  | nil=>rfl
  | cons h hs=>rw[aY] at h2;obtain⟨_,_,e,_⟩:=h2;cases e
 | g::gs,hs,xs,ys,us,h1,h2,r1,r2=>by
  rw[aY] at h1;obtain⟨x,r,rfl,i1,l1⟩:=h1;cases r1 with
  | cons ra rb=>
   cases hs with
   | nil=>rw[aY] at h2;subst h2;cases r2
   | cons h hs=>
    rw[aY] at h2;obtain⟨y,r',rfl,i2,l2⟩:=h2;cases r2 with
    | cons ra' rb'=>rw[xV I g h _ _ _ i1 i2 ra ra',wI I gs hs _ _ _ l1 l2 rb rb']
end
theorem yQ {us:List Value}{j:Nat}{w:Value} (h1:j < us.toArray.size) (h:us[j]? = some w):us.toArray[j]=w:=by
 have:us[j]? = some us.toArray[j]:=by simp
 rw[this] at h;exact abm h
theorem oM {n:Nat}{gs hs:List G}{xs ys:List V}{us vs:List Value}{A:Around}
  (ih:∀ (g h:G) (x y:V) (u v:Value),g∈gs->aO X.K H g x->aO X.K H h y->bF x u->bF y v->SeqAt.EqAt A s u v (bJ g h))
  (l1:aY X.K H gs xs) (l2:aY X.K H hs ys) (r1:bA xs us) (r2:bA ys vs) (j:Nat) (h1:j < us.toArray.size) (h2:j < vs.toArray.size):SeqAt.EqAt A s us.toArray[j] vs.toArray[j] (LO gs hs j):=by
 have e1:=r1.length;have e2:=r2.length;have e3:=l1.length;have e4:=l2.length;have j1:j < gs.length:=by rw[<- e3,e1];simpa using h1
 have j2:j < hs.length:=by rw[<- e4,e2];simpa using h2
 obtain⟨x,gx,ix⟩:=l1.get (i:=j) (g:=gs[j]) (by simp);obtain⟨y,gy,iy⟩:=l2.get (i:=j) (g:=hs[j]) (by simp);obtain⟨w1,g1,t1⟩:=r1.get gx;obtain⟨w2,g2,t2⟩:=r2.get gy;rw[yQ h1 g1,yQ h2 g2];have:LO gs hs j=bJ gs[j] hs[j]:=by unfold LO;simp [j1,j2]
 rw[this];exact ih _ _ x y w1 w2 (aci j1) ix iy t1 t2
theorem vZ (I:Inv X pins σ H s):∀ (n:Nat) (g h:G) (A:Around) (x y:V) (u v:Value),lF g<=n->A.units+n < cLine->aO X.K H g x->aO X.K H h y->bF x u->bF y v->SeqAt.EqAt A s u v (bJ g h)
 | n,.non,.non,A,x,y,u,v,hd,hu,hx,hy,rx,ry=>by
  rw[aO] at hx;subst hx;cases rx;rw[aO] at hy;subst hy;cases ry;rw[bJ];exact SeqAt.EqAt.same _
 | n,.non,.bl gy,A,x,y,u,v,hd,hu,hx,hy,rx,ry=>by
  rw[aO] at hx;subst hx;cases rx;rw[aO] at hy;subst hy;cases ry;rw[show bJ (.non) (.bl gy)=false from by simp [bJ]];exact SeqAt.EqAt.none_bool gy
 | n,.non,.int gy,A,x,y,u,v,hd,hu,hx,hy,rx,ry=>by
  rw[aO] at hx;subst hx;cases rx;rw[aO] at hy;subst hy;obtain⟨ty,rfl⟩:=ry;rw[show bJ (.non) (.int gy)=false from by simp [bJ]];exact SeqAt.EqAt.none_int gy ty
 | n,.non,.str gy,A,x,y,u,v,hd,hu,hx,hy,rx,ry=>by
  rw[aO] at hx;subst hx;cases rx;rw[aO] at hy;subst hy;obtain⟨ty,rfl⟩:=ry;rw[show bJ (.non) (.str gy)=false from by simp [bJ]];exact SeqAt.EqAt.none_str gy ty
 | n,.non,.tup gy,A,x,y,u,v,hd,hu,hx,hy,rx,ry=>by
  rw[aO] at hx;subst hx;cases rx;rw[aO] at hy;obtain⟨ay,xsy,rfl,qy,ly⟩:=hy;cases ry;obtain⟨usy,vy,py,_⟩:=I.tuple qy;rw[show bJ (.non) (.tup gy)=false from by simp [bJ]];exact SeqAt.EqAt.none_tuple py (by omega)
 | n,.non,.lst gy,A,x,y,u,v,hd,hu,hx,hy,rx,ry=>by
  rw[aO] at hx;subst hx;cases rx;rw[aO] at hy;obtain⟨ay,xsy,rfl,qy,ly⟩:=hy;cases ry;obtain⟨usy,vy,py,_⟩:=I.list qy;rw[show bJ (.non) (.lst gy)=false from by simp [bJ]];exact SeqAt.EqAt.none_list py.isList (by omega)
 | n,.bl gx,.non,A,x,y,u,v,hd,hu,hx,hy,rx,ry=>by
  rw[aO] at hx;subst hx;cases rx;rw[aO] at hy;subst hy;cases ry;rw[show bJ (.bl gx) (.non)=false from by simp [bJ]];exact SeqAt.EqAt.bool_none gx
 | n,.bl gx,.bl gy,A,x,y,u,v,hd,hu,hx,hy,rx,ry=>by
  rw[aO] at hx;subst hx;cases rx;rw[aO] at hy;subst hy;cases ry;rw[bJ];exact SeqAt.EqAt.bool_bool gx gy
 | n,.bl gx,.int gy,A,x,y,u,v,hd,hu,hx,hy,rx,ry=>by
  rw[aO] at hx;subst hx;cases rx;rw[aO] at hy;subst hy;obtain⟨ty,rfl⟩:=ry;rw[bJ];exact SeqAt.EqAt.bool_int gx gy ty
 | n,.bl gx,.str gy,A,x,y,u,v,hd,hu,hx,hy,rx,ry=>by
  rw[aO] at hx;subst hx;cases rx;rw[aO] at hy;subst hy;obtain⟨ty,rfl⟩:=ry;rw[show bJ (.bl gx) (.str gy)=false from by simp [bJ]];exact SeqAt.EqAt.bool_str gx gy ty
 | n,.bl gx,.tup gy,A,x,y,u,v,hd,hu,hx,hy,rx,ry=>by
  rw[aO] at hx;subst hx;cases rx;rw[aO] at hy;obtain⟨ay,xsy,rfl,qy,ly⟩:=hy;cases ry;obtain⟨usy,vy,py,_⟩:=I.tuple qy;rw[show bJ (.bl gx) (.tup gy)=false from by simp [bJ]];exact SeqAt.EqAt.bool_tuple gx py (by omega)
 | n,.bl gx,.lst gy,A,x,y,u,v,hd,hu,hx,hy,rx,ry=>by
  rw[aO] at hx;subst hx;cases rx;rw[aO] at hy;obtain⟨ay,xsy,rfl,qy,ly⟩:=hy;cases ry;obtain⟨usy,vy,py,_⟩:=I.list qy;rw[show bJ (.bl gx) (.lst gy)=false from by simp [bJ]];exact SeqAt.EqAt.bool_list gx py.isList (by omega)
 | n,.int gx,.non,A,x,y,u,v,hd,hu,hx,hy,rx,ry=>by
  rw[aO] at hx;subst hx;obtain⟨tx,rfl⟩:=rx;rw[aO] at hy;subst hy;cases ry;rw[show bJ (.int gx) (.non)=false from by simp [bJ]];exact SeqAt.EqAt.int_none gx tx
 | n,.int gx,.bl gy,A,x,y,u,v,hd,hu,hx,hy,rx,ry=>by
  rw[aO] at hx;subst hx;obtain⟨tx,rfl⟩:=rx;rw[aO] at hy;subst hy;cases ry;rw[bJ];exact SeqAt.EqAt.int_bool gx tx gy
 | n,.int gx,.int gy,A,x,y,u,v,hd,hu,hx,hy,rx,ry=>by
  rw[aO] at hx;subst hx;obtain⟨tx,rfl⟩:=rx;rw[aO] at hy;subst hy;obtain⟨ty,rfl⟩:=ry;rw[bJ];exact SeqAt.EqAt.int_int gx tx gy ty
 | n,.int gx,.str gy,A,x,y,u,v,hd,hu,hx,hy,rx,ry=>by
  rw[aO] at hx;subst hx;obtain⟨tx,rfl⟩:=rx;rw[aO] at hy;subst hy;obtain⟨ty,rfl⟩:=ry;rw[show bJ (.int gx) (.str gy)=false from by simp [bJ]];exact SeqAt.EqAt.int_str gx tx gy ty
 | n,.int gx,.tup gy,A,x,y,u,v,hd,hu,hx,hy,rx,ry=>by
  rw[aO] at hx;subst hx;obtain⟨tx,rfl⟩:=rx;rw[aO] at hy;obtain⟨ay,xsy,rfl,qy,ly⟩:=hy;cases ry;obtain⟨usy,vy,py,_⟩:=I.tuple qy;rw[show bJ (.int gx) (.tup gy)=false from by simp [bJ]];exact SeqAt.EqAt.int_tuple gx tx py (by omega)
 | n,.int gx,.lst gy,A,x,y,u,v,hd,hu,hx,hy,rx,ry=>by
  rw[aO] at hx;subst hx;obtain⟨tx,rfl⟩:=rx;rw[aO] at hy;obtain⟨ay,xsy,rfl,qy,ly⟩:=hy;cases ry;obtain⟨usy,vy,py,_⟩:=I.list qy;rw[show bJ (.int gx) (.lst gy)=false from by simp [bJ]];exact SeqAt.EqAt.int_list gx tx py.isList (by omega)
 | n,.str gx,.non,A,x,y,u,v,hd,hu,hx,hy,rx,ry=>by
  rw[aO] at hx;subst hx;obtain⟨tx,rfl⟩:=rx;rw[aO] at hy;subst hy;cases ry;rw[show bJ (.str gx) (.non)=false from by simp [bJ]];exact SeqAt.EqAt.str_none gx tx
 | n,.str gx,.bl gy,A,x,y,u,v,hd,hu,hx,hy,rx,ry=>by
  rw[aO] at hx;subst hx;obtain⟨tx,rfl⟩:=rx;rw[aO] at hy;subst hy;cases ry;rw[show bJ (.str gx) (.bl gy)=false from by simp [bJ]];exact SeqAt.EqAt.str_bool gx tx gy
 | n,.str gx,.int gy,A,x,y,u,v,hd,hu,hx,hy,rx,ry=>by
  rw[aO] at hx;subst hx;obtain⟨tx,rfl⟩:=rx;rw[aO] at hy;subst hy;obtain⟨ty,rfl⟩:=ry;rw[show bJ (.str gx) (.int gy)=false from by simp [bJ]];exact SeqAt.EqAt.str_int gx tx gy ty
 | n,.str gx,.str gy,A,x,y,u,v,hd,hu,hx,hy,rx,ry=>by
  rw[aO] at hx;subst hx;obtain⟨tx,rfl⟩:=rx;rw[aO] at hy;subst hy;obtain⟨ty,rfl⟩:=ry;rw[bJ];exact SeqAt.EqAt.str_str gx tx gy ty
 | n,.str gx,.tup gy,A,x,y,u,v,hd,hu,hx,hy,rx,ry=>by
  rw[aO] at hx;subst hx;obtain⟨tx,rfl⟩:=rx;rw[aO] at hy;obtain⟨ay,xsy,rfl,qy,ly⟩:=hy;cases ry;obtain⟨usy,vy,py,_⟩:=I.tuple qy;rw[show bJ (.str gx) (.tup gy)=false from by simp [bJ]];exact SeqAt.EqAt.str_tuple gx tx py (by omega)
 | n,.str gx,.lst gy,A,x,y,u,v,hd,hu,hx,hy,rx,ry=>by
  rw[aO] at hx;subst hx;obtain⟨tx,rfl⟩:=rx;rw[aO] at hy;obtain⟨ay,xsy,rfl,qy,ly⟩:=hy;cases ry;obtain⟨usy,vy,py,_⟩:=I.list qy;rw[show bJ (.str gx) (.lst gy)=false from by simp [bJ]];exact SeqAt.EqAt.str_list gx tx py.isList (by omega)
 | n,.tup gx,.non,A,x,y,u,v,hd,hu,hx,hy,rx,ry=>by
  rw[aO] at hx;obtain⟨ax,xsx,rfl,qx,lx⟩:=hx;cases rx;obtain⟨usx,vx,px,_⟩:=I.tuple qx;rw[aO] at hy;subst hy;cases ry;rw[show bJ (.tup gx) (.non)=false from by simp [bJ]];exact SeqAt.EqAt.tuple_none px (by omega)
 | n,.tup gx,.bl gy,A,x,y,u,v,hd,hu,hx,hy,rx,ry=>by
  rw[aO] at hx;obtain⟨ax,xsx,rfl,qx,lx⟩:=hx;cases rx;obtain⟨usx,vx,px,_⟩:=I.tuple qx;rw[aO] at hy;subst hy;cases ry;rw[show bJ (.tup gx) (.bl gy)=false from by simp [bJ]];exact SeqAt.EqAt.tuple_bool gy px (by omega)
 | n,.tup gx,.int gy,A,x,y,u,v,hd,hu,hx,hy,rx,ry=>by
  rw[aO] at hx;obtain⟨ax,xsx,rfl,qx,lx⟩:=hx;cases rx;obtain⟨usx,vx,px,_⟩:=I.tuple qx;rw[aO] at hy;subst hy;obtain⟨ty,rfl⟩:=ry;rw[show bJ (.tup gx) (.int gy)=false from by simp [bJ]];exact SeqAt.EqAt.tuple_int gy ty px (by omega)
 | n,.tup gx,.str gy,A,x,y,u,v,hd,hu,hx,hy,rx,ry=>by
  rw[aO] at hx;obtain⟨ax,xsx,rfl,qx,lx⟩:=hx;cases rx;obtain⟨usx,vx,px,_⟩:=I.tuple qx;rw[aO] at hy;subst hy;obtain⟨ty,rfl⟩:=ry;rw[show bJ (.tup gx) (.str gy)=false from by simp [bJ]];exact SeqAt.EqAt.tuple_str gy ty px (by omega)
 | 0,.tup gx,.tup gy,A,x,y,u,v,hd,_,_,_,_,_=>by rw[lF] at hd;omega
 | n+1,.tup gx,.tup gy,A,x,y,u,v,hd,hu,hx,hy,rx,ry=>by
  rw[aO] at hx;obtain⟨ax,xsx,rfl,qx,lx⟩:=hx;cases rx;obtain⟨usx,vx,px,_⟩:=I.tuple qx;rw[aO] at hy;obtain⟨ay,xsy,rfl,qy,ly⟩:=hy;cases ry;obtain⟨usy,vy,py,_⟩:=I.tuple qy
  by_cases hab:ax=ay
  ·subst hab;have e:=xV I (.tup gx) (.tup gy) (.ref ax) (.ref ax) _ (by rw[aO];exact⟨_,_,rfl,qx,lx⟩) (by rw[aO];exact⟨_,_,rfl,qy,ly⟩) rfl rfl;rw[e,pV];exact SeqAt.EqAt.same _
  have e1:=vx.length;have e2:=vy.length;have e3:=lx.length;have e4:=ly.length;rw[show bJ (.tup gx) (.tup gy)=fQ gx gy from by rw[bJ],<- pZ gx gy];have ex:gx.length=usx.toArray.size:=by rw[<- e3,e1,aaf]
  have ey:gy.length=usy.toArray.size:=by rw[<- e4,e2,aaf]
  rw[ex,ey];refine SeqAt.EqAt.of_refs hab ?_;exact SeqAt.RcAt.tuples px py (by omega) (λ j h1 h2=>oM (n:=0) (λ g h x y u v hm ix iy tx ty=>vZ I n g h A.in1 x y u v (by have:=fU hm;rw[lF] at hd;omega) (by show A.units+1+n < cLine;omega) ix iy tx ty) lx ly vx vy j h1 h2)
 | n,.tup gx,.lst gy,A,x,y,u,v,hd,hu,hx,hy,rx,ry=>by
  rw[aO] at hx;obtain⟨ax,xsx,rfl,qx,lx⟩:=hx;cases rx;obtain⟨usx,vx,px,_⟩:=I.tuple qx;rw[aO] at hy;obtain⟨ay,xsy,rfl,qy,ly⟩:=hy;cases ry;obtain⟨usy,vy,py,_⟩:=I.list qy;rw[show bJ (.tup gx) (.lst gy)=false from by simp [bJ]];exact SeqAt.EqAt.tuple_list px py.isList (by omega)
 | n,.lst gx,.non,A,x,y,u,v,hd,hu,hx,hy,rx,ry=>by
  rw[aO] at hx;obtain⟨ax,xsx,rfl,qx,lx⟩:=hx;cases rx;obtain⟨usx,vx,px,_⟩:=I.list qx;rw[aO] at hy;subst hy;cases ry;rw[show bJ (.lst gx) (.non)=false from by simp [bJ]];exact SeqAt.EqAt.list_none px.isList (by omega)
 | n,.lst gx,.bl gy,A,x,y,u,v,hd,hu,hx,hy,rx,ry=>by
  rw[aO] at hx;obtain⟨ax,xsx,rfl,qx,lx⟩:=hx;cases rx;obtain⟨usx,vx,px,_⟩:=I.list qx;rw[aO] at hy;subst hy;cases ry;rw[show bJ (.lst gx) (.bl gy)=false from by simp [bJ]];exact SeqAt.EqAt.list_bool gy px.isList (by omega)
 | n,.lst gx,.int gy,A,x,y,u,v,hd,hu,hx,hy,rx,ry=>by
  rw[aO] at hx;obtain⟨ax,xsx,rfl,qx,lx⟩:=hx;cases rx;obtain⟨usx,vx,px,_⟩:=I.list qx;rw[aO] at hy;subst hy;obtain⟨ty,rfl⟩:=ry;rw[show bJ (.lst gx) (.int gy)=false from by simp [bJ]];exact SeqAt.EqAt.list_int gy ty px.isList (by omega)
 | n,.lst gx,.str gy,A,x,y,u,v,hd,hu,hx,hy,rx,ry=>by
  rw[aO] at hx;obtain⟨ax,xsx,rfl,qx,lx⟩:=hx;cases rx;obtain⟨usx,vx,px,_⟩:=I.list qx;rw[aO] at hy;subst hy;obtain⟨ty,rfl⟩:=ry;rw[show bJ (.lst gx) (.str gy)=false from by simp [bJ]];exact SeqAt.EqAt.list_str gy ty px.isList (by omega)
 | n,.lst gx,.tup gy,A,x,y,u,v,hd,hu,hx,hy,rx,ry=>by
  rw[aO] at hx;obtain⟨ax,xsx,rfl,qx,lx⟩:=hx;cases rx;obtain⟨usx,vx,px,_⟩:=I.list qx;rw[aO] at hy;obtain⟨ay,xsy,rfl,qy,ly⟩:=hy;cases ry;obtain⟨usy,vy,py,_⟩:=I.tuple qy;rw[show bJ (.lst gx) (.tup gy)=false from by simp [bJ]];exact SeqAt.EqAt.list_tuple px.isList py (by omega)
 | 0,.lst gx,.lst gy,A,x,y,u,v,hd,_,_,_,_,_=>by rw[lF] at hd;omega
 | n+1,.lst gx,.lst gy,A,x,y,u,v,hd,hu,hx,hy,rx,ry=>by
  rw[aO] at hx;obtain⟨ax,xsx,rfl,qx,lx⟩:=hx;cases rx;obtain⟨usx,vx,px,_⟩:=I.list qx;rw[aO] at hy;obtain⟨ay,xsy,rfl,qy,ly⟩:=hy;cases ry;obtain⟨usy,vy,py,_⟩:=I.list qy
  by_cases hab:ax=ay
  ·subst hab;have e:=xV I (.lst gx) (.lst gy) (.ref ax) (.ref ax) _ (by rw[aO];exact⟨_,_,rfl,qx,lx⟩) (by rw[aO];exact⟨_,_,rfl,qy,ly⟩) rfl rfl;rw[e,pV];exact SeqAt.EqAt.same _
  have e1:=vx.length;have e2:=vy.length;have e3:=lx.length;have e4:=ly.length;rw[show bJ (.lst gx) (.lst gy)=fQ gx gy from by rw[bJ]];have ex:gx.length=usx.toArray.size:=by rw[<- e3,e1,aaf]
  have ey:gy.length=usy.toArray.size:=by rw[<- e4,e2,aaf]
  by_cases hl:gx.length=gy.length
  ·rw[<- uJ gx gy hl,ex];refine SeqAt.EqAt.of_refs hab ?_;exact SeqAt.RcAt.lists px.isList py.isList (by omega) (by omega) (λ j h1 h2=>oM (n:=0) (λ g h x y u v hm ix iy tx ty=>vZ I n g h A.in1 x y u v (by have:=fU hm;rw[lF] at hd;omega) (by show A.units+1+n < cLine;omega) ix iy tx ty) lx ly vx vy j h1 h2)
  ·rw[pW gx gy hl];refine SeqAt.EqAt.of_refs hab ?_;exact SeqAt.RcAt.lists_lengths px.isList py.isList (by rw[<- ex,<- ey];simpa using hl) (by omega)
theorem rcG (I:Inv X pins σ H s) {A:Around} (hu:A.units+40 < cLine):∀ (g h:G) (x y:V) (u v:Value),lF g<=30->aO X.K H g x->aO X.K H h y->bF x u->bF y v->SeqAt.RcAt A s u v (bJ g h)
 | .non,.non,x,y,u,v,hd,hx,hy,rx,ry=>by
  rw[aO] at hx;subst hx;cases rx;rw[aO] at hy;subst hy;cases ry;rw[bJ];exact SeqAt.RcAt.none_none
 | .non,.bl gy,x,y,u,v,hd,hx,hy,rx,ry=>by
  rw[aO] at hx;subst hx;cases rx;rw[aO] at hy;subst hy;cases ry;rw[show bJ (.non) (.bl gy)=false from by simp [bJ]];exact SeqAt.RcAt.none_bool gy
 | .non,.int gy,x,y,u,v,hd,hx,hy,rx,ry=>by
  rw[aO] at hx;subst hx;cases rx;rw[aO] at hy;subst hy;obtain⟨ty,rfl⟩:=ry;rw[show bJ (.non) (.int gy)=false from by simp [bJ]];exact SeqAt.RcAt.none_int gy ty
 | .non,.str gy,x,y,u,v,hd,hx,hy,rx,ry=>by
  rw[aO] at hx;subst hx;cases rx;rw[aO] at hy;subst hy;obtain⟨ty,rfl⟩:=ry;rw[show bJ (.non) (.str gy)=false from by simp [bJ]];exact SeqAt.RcAt.none_str gy ty
 | .non,.tup gy,x,y,u,v,hd,hx,hy,rx,ry=>by
  rw[aO] at hx;subst hx;cases rx;rw[aO] at hy;obtain⟨ay,xsy,rfl,qy,ly⟩:=hy;cases ry;obtain⟨usy,vy,py,_⟩:=I.tuple qy;rw[show bJ (.non) (.tup gy)=false from by simp [bJ]];exact SeqAt.RcAt.none_tuple py (by omega)
 | .non,.lst gy,x,y,u,v,hd,hx,hy,rx,ry=>by
  rw[aO] at hx;subst hx;cases rx;rw[aO] at hy;obtain⟨ay,xsy,rfl,qy,ly⟩:=hy;cases ry;obtain⟨usy,vy,py,_⟩:=I.list qy;rw[show bJ (.non) (.lst gy)=false from by simp [bJ]];exact SeqAt.RcAt.none_list py.isList (by omega)
 | .bl gx,.non,x,y,u,v,hd,hx,hy,rx,ry=>by
  rw[aO] at hx;subst hx;cases rx;rw[aO] at hy;subst hy;cases ry;rw[show bJ (.bl gx) (.non)=false from by simp [bJ]];exact SeqAt.RcAt.bool_none gx
 | .bl gx,.bl gy,x,y,u,v,hd,hx,hy,rx,ry=>by
  rw[aO] at hx;subst hx;cases rx;rw[aO] at hy;subst hy;cases ry;rw[bJ];exact SeqAt.RcAt.bool_bool gx gy
 | .bl gx,.int gy,x,y,u,v,hd,hx,hy,rx,ry=>by
  rw[aO] at hx;subst hx;cases rx;rw[aO] at hy;subst hy;obtain⟨ty,rfl⟩:=ry;rw[bJ];exact SeqAt.RcAt.bool_int gx gy ty
 | .bl gx,.str gy,x,y,u,v,hd,hx,hy,rx,ry=>by
  rw[aO] at hx;subst hx;cases rx;rw[aO] at hy;subst hy;obtain⟨ty,rfl⟩:=ry;rw[show bJ (.bl gx) (.str gy)=false from by simp [bJ]];exact SeqAt.RcAt.bool_str gx gy ty
 | .bl gx,.tup gy,x,y,u,v,hd,hx,hy,rx,ry=>by
  rw[aO] at hx;subst hx;cases rx;rw[aO] at hy;obtain⟨ay,xsy,rfl,qy,ly⟩:=hy;cases ry;obtain⟨usy,vy,py,_⟩:=I.tuple qy;rw[show bJ (.bl gx) (.tup gy)=false from by simp [bJ]];exact SeqAt.RcAt.bool_tuple gx py (by omega)
 | .bl gx,.lst gy,x,y,u,v,hd,hx,hy,rx,ry=>by
  rw[aO] at hx;subst hx;cases rx;rw[aO] at hy;obtain⟨ay,xsy,rfl,qy,ly⟩:=hy;cases ry;obtain⟨usy,vy,py,_⟩:=I.list qy;rw[show bJ (.bl gx) (.lst gy)=false from by simp [bJ]];exact SeqAt.RcAt.bool_list gx py.isList (by omega)
 | .int gx,.non,x,y,u,v,hd,hx,hy,rx,ry=>by
  rw[aO] at hx;subst hx;obtain⟨tx,rfl⟩:=rx;rw[aO] at hy;subst hy;cases ry;rw[show bJ (.int gx) (.non)=false from by simp [bJ]];exact SeqAt.RcAt.int_none gx tx
 | .int gx,.bl gy,x,y,u,v,hd,hx,hy,rx,ry=>by
  rw[aO] at hx;subst hx;obtain⟨tx,rfl⟩:=rx;rw[aO] at hy;subst hy;cases ry;rw[bJ];exact SeqAt.RcAt.int_bool gx tx gy
 | .int gx,.int gy,x,y,u,v,hd,hx,hy,rx,ry=>by
  rw[aO] at hx;subst hx;obtain⟨tx,rfl⟩:=rx;rw[aO] at hy;subst hy;obtain⟨ty,rfl⟩:=ry;rw[bJ];exact SeqAt.RcAt.int_int gx tx gy ty
 | .int gx,.str gy,x,y,u,v,hd,hx,hy,rx,ry=>by
  rw[aO] at hx;subst hx;obtain⟨tx,rfl⟩:=rx;rw[aO] at hy;subst hy;obtain⟨ty,rfl⟩:=ry;rw[show bJ (.int gx) (.str gy)=false from by simp [bJ]];exact SeqAt.RcAt.int_str gx tx gy ty
 | .int gx,.tup gy,x,y,u,v,hd,hx,hy,rx,ry=>by
  rw[aO] at hx;subst hx;obtain⟨tx,rfl⟩:=rx;rw[aO] at hy;obtain⟨ay,xsy,rfl,qy,ly⟩:=hy;cases ry;obtain⟨usy,vy,py,_⟩:=I.tuple qy;rw[show bJ (.int gx) (.tup gy)=false from by simp [bJ]];exact SeqAt.RcAt.int_tuple gx tx py (by omega)
 | .int gx,.lst gy,x,y,u,v,hd,hx,hy,rx,ry=>by
  rw[aO] at hx;subst hx;obtain⟨tx,rfl⟩:=rx;rw[aO] at hy;obtain⟨ay,xsy,rfl,qy,ly⟩:=hy;cases ry;obtain⟨usy,vy,py,_⟩:=I.list qy;rw[show bJ (.int gx) (.lst gy)=false from by simp [bJ]];exact SeqAt.RcAt.int_list gx tx py.isList (by omega)
 | .str gx,.non,x,y,u,v,hd,hx,hy,rx,ry=>by
  rw[aO] at hx;subst hx;obtain⟨tx,rfl⟩:=rx;rw[aO] at hy;subst hy;cases ry;rw[show bJ (.str gx) (.non)=false from by simp [bJ]];exact SeqAt.RcAt.str_none gx tx
 | .str gx,.bl gy,x,y,u,v,hd,hx,hy,rx,ry=>by
  rw[aO] at hx;subst hx;obtain⟨tx,rfl⟩:=rx;rw[aO] at hy;subst hy;cases ry;rw[show bJ (.str gx) (.bl gy)=false from by simp [bJ]];exact SeqAt.RcAt.str_bool gx tx gy
 | .str gx,.int gy,x,y,u,v,hd,hx,hy,rx,ry=>by
  rw[aO] at hx;subst hx;obtain⟨tx,rfl⟩:=rx;rw[aO] at hy;subst hy;obtain⟨ty,rfl⟩:=ry;rw[show bJ (.str gx) (.int gy)=false from by simp [bJ]];exact SeqAt.RcAt.str_int gx tx gy ty
 | .str gx,.str gy,x,y,u,v,hd,hx,hy,rx,ry=>by
  rw[aO] at hx;subst hx;obtain⟨tx,rfl⟩:=rx;rw[aO] at hy;subst hy;obtain⟨ty,rfl⟩:=ry;rw[bJ];exact SeqAt.RcAt.str_str gx tx gy ty
 | .str gx,.tup gy,x,y,u,v,hd,hx,hy,rx,ry=>by
  rw[aO] at hx;subst hx;obtain⟨tx,rfl⟩:=rx;rw[aO] at hy;obtain⟨ay,xsy,rfl,qy,ly⟩:=hy;cases ry;obtain⟨usy,vy,py,_⟩:=I.tuple qy;rw[show bJ (.str gx) (.tup gy)=false from by simp [bJ]];exact SeqAt.RcAt.str_tuple gx tx py (by omega)
 | .str gx,.lst gy,x,y,u,v,hd,hx,hy,rx,ry=>by
  rw[aO] at hx;subst hx;obtain⟨tx,rfl⟩:=rx;rw[aO] at hy;obtain⟨ay,xsy,rfl,qy,ly⟩:=hy;cases ry;obtain⟨usy,vy,py,_⟩:=I.list qy;rw[show bJ (.str gx) (.lst gy)=false from by simp [bJ]];exact SeqAt.RcAt.str_list gx tx py.isList (by omega)
 | .tup gx,.non,x,y,u,v,hd,hx,hy,rx,ry=>by
  rw[aO] at hx;obtain⟨ax,xsx,rfl,qx,lx⟩:=hx;cases rx;obtain⟨usx,vx,px,_⟩:=I.tuple qx;rw[aO] at hy;subst hy;cases ry;rw[show bJ (.tup gx) (.non)=false from by simp [bJ]];exact SeqAt.RcAt.tuple_none px (by omega)
 | .tup gx,.bl gy,x,y,u,v,hd,hx,hy,rx,ry=>by
  rw[aO] at hx;obtain⟨ax,xsx,rfl,qx,lx⟩:=hx;cases rx;obtain⟨usx,vx,px,_⟩:=I.tuple qx;rw[aO] at hy;subst hy;cases ry;rw[show bJ (.tup gx) (.bl gy)=false from by simp [bJ]];exact SeqAt.RcAt.tuple_bool gy px (by omega)
 | .tup gx,.int gy,x,y,u,v,hd,hx,hy,rx,ry=>by
  rw[aO] at hx;obtain⟨ax,xsx,rfl,qx,lx⟩:=hx;cases rx;obtain⟨usx,vx,px,_⟩:=I.tuple qx;rw[aO] at hy;subst hy;obtain⟨ty,rfl⟩:=ry;rw[show bJ (.tup gx) (.int gy)=false from by simp [bJ]];exact SeqAt.RcAt.tuple_int gy ty px (by omega)
 | .tup gx,.str gy,x,y,u,v,hd,hx,hy,rx,ry=>by
  rw[aO] at hx;obtain⟨ax,xsx,rfl,qx,lx⟩:=hx;cases rx;obtain⟨usx,vx,px,_⟩:=I.tuple qx;rw[aO] at hy;subst hy;obtain⟨ty,rfl⟩:=ry;rw[show bJ (.tup gx) (.str gy)=false from by simp [bJ]];exact SeqAt.RcAt.tuple_str gy ty px (by omega)
 | .tup gx,.tup gy,x,y,u,v,hd,hx,hy,rx,ry=>by
  rw[aO] at hx;obtain⟨ax,xsx,rfl,qx,lx⟩:=hx;cases rx;obtain⟨usx,vx,px,_⟩:=I.tuple qx;rw[aO] at hy;obtain⟨ay,xsy,rfl,qy,ly⟩:=hy;cases ry;obtain⟨usy,vy,py,_⟩:=I.tuple qy;have e1:=vx.length;have e2:=vy.length;have e3:=lx.length;have e4:=ly.length;rw[show bJ (.tup gx) (.tup gy)=fQ gx gy from by rw[bJ],<- pZ gx gy];have ex:gx.length=usx.toArray.size:=by rw[<- e3,e1,aaf]
  have ey:gy.length=usy.toArray.size:=by rw[<- e4,e2,aaf]
  rw[ex,ey];exact SeqAt.RcAt.tuples px py (by omega) (λ j h1 h2=>oM (n:=0) (λ g h x y u v hm ix iy tx ty=>vZ I 30 g h A.in1 x y u v (by have:=fU hm;rw[lF] at hd;omega) (by show A.units+1+30 < cLine;omega) ix iy tx ty) lx ly vx vy j h1 h2)
 | .tup gx,.lst gy,x,y,u,v,hd,hx,hy,rx,ry=>by
  rw[aO] at hx;obtain⟨ax,xsx,rfl,qx,lx⟩:=hx;cases rx;obtain⟨usx,vx,px,_⟩:=I.tuple qx;rw[aO] at hy;obtain⟨ay,xsy,rfl,qy,ly⟩:=hy;cases ry;obtain⟨usy,vy,py,_⟩:=I.list qy;rw[show bJ (.tup gx) (.lst gy)=false from by simp [bJ]];exact SeqAt.RcAt.tuple_list px py.isList (by omega)
 | .lst gx,.non,x,y,u,v,hd,hx,hy,rx,ry=>by
  rw[aO] at hx;obtain⟨ax,xsx,rfl,qx,lx⟩:=hx;cases rx;obtain⟨usx,vx,px,_⟩:=I.list qx;rw[aO] at hy;subst hy;cases ry;rw[show bJ (.lst gx) (.non)=false from by simp [bJ]];exact SeqAt.RcAt.list_none px.isList (by omega)
 | .lst gx,.bl gy,x,y,u,v,hd,hx,hy,rx,ry=>by
  rw[aO] at hx;obtain⟨ax,xsx,rfl,qx,lx⟩:=hx;cases rx;obtain⟨usx,vx,px,_⟩:=I.list qx;rw[aO] at hy;subst hy;cases ry;rw[show bJ (.lst gx) (.bl gy)=false from by simp [bJ]];exact SeqAt.RcAt.list_bool gy px.isList (by omega)
 | .lst gx,.int gy,x,y,u,v,hd,hx,hy,rx,ry=>by
  rw[aO] at hx;obtain⟨ax,xsx,rfl,qx,lx⟩:=hx;cases rx;obtain⟨usx,vx,px,_⟩:=I.list qx;rw[aO] at hy;subst hy;obtain⟨ty,rfl⟩:=ry;rw[show bJ (.lst gx) (.int gy)=false from by simp [bJ]];exact SeqAt.RcAt.list_int gy ty px.isList (by omega)
 | .lst gx,.str gy,x,y,u,v,hd,hx,hy,rx,ry=>by
  rw[aO] at hx;obtain⟨ax,xsx,rfl,qx,lx⟩:=hx;cases rx;obtain⟨usx,vx,px,_⟩:=I.list qx;rw[aO] at hy;subst hy;obtain⟨ty,rfl⟩:=ry;rw[show bJ (.lst gx) (.str gy)=false from by simp [bJ]];exact SeqAt.RcAt.list_str gy ty px.isList (by omega)
 | .lst gx,.tup gy,x,y,u,v,hd,hx,hy,rx,ry=>by
  rw[aO] at hx;obtain⟨ax,xsx,rfl,qx,lx⟩:=hx;cases rx;obtain⟨usx,vx,px,_⟩:=I.list qx;rw[aO] at hy;obtain⟨ay,xsy,rfl,qy,ly⟩:=hy;cases ry;obtain⟨usy,vy,py,_⟩:=I.tuple qy;rw[show bJ (.lst gx) (.tup gy)=false from by simp [bJ]];exact SeqAt.RcAt.list_tuple px.isList py (by omega)
 | .lst gx,.lst gy,x,y,u,v,hd,hx,hy,rx,ry=>by
  rw[aO] at hx;obtain⟨ax,xsx,rfl,qx,lx⟩:=hx;cases rx;obtain⟨usx,vx,px,_⟩:=I.list qx;rw[aO] at hy;obtain⟨ay,xsy,rfl,qy,ly⟩:=hy;cases ry;obtain⟨usy,vy,py,_⟩:=I.list qy;have e1:=vx.length;have e2:=vy.length;have e3:=lx.length;have e4:=ly.length;rw[show bJ (.lst gx) (.lst gy)=fQ gx gy from by rw[bJ]];have ex:gx.length=usx.toArray.size:=by rw[<- e3,e1,aaf]
  have ey:gy.length=usy.toArray.size:=by rw[<- e4,e2,aaf]
  by_cases hl:gx.length=gy.length
  ·rw[<- uJ gx gy hl,ex];exact SeqAt.RcAt.lists px.isList py.isList (by omega) (by omega) (λ j h1 h2=>oM (n:=0) (λ g h x y u v hm ix iy tx ty=>vZ I 30 g h A.in1 x y u v (by have:=fU hm;rw[lF] at hd;omega) (by show A.units+1+30 < cLine;omega) ix iy tx ty) lx ly vx vy j h1 h2)
  ·rw[pW gx gy hl];exact SeqAt.RcAt.lists_lengths px.isList py.isList (by rw[<- ex,<- ey];simpa using hl) (by omega)
def KO (K:aaa):R2:=λ x y H Q=>∃ g h,lF g<=30/\aO K H g x/\aO K H h y/\Q (.bl (bJ g h)) H
theorem IL (hu:X.A.units+64 < cLine):gG X (compareOp .Eq) (KO X.K):=by
 intro pins s σ H x y v u Q I rx ry h;obtain⟨g,h,hd,ix,iy,q⟩:=h;exact rcG I (by omega) g h x y v u hd ix iy rx ry X.prog X.w X.xe _ ⟨.bl _,H,I,rfl,q⟩
theorem ET {K:aaa} (hK:X.K=K) (hu:X.A.units+64 < cLine):gG X (compareOp .Eq) (KO K):=by subst hK;exact IL hu
def A0 (h:G) (gs:List G):Bool:=gs.any λ g=>bJ g h
open Classical in
theorem tZ (I:Inv X pins σ H s) {A:Around} (hu:A.units+40 < cLine) {h:G}{gs:List G}{x:V}{xs:List V}{u:Value}{us:List Value} (hd:jL gs<=30) (ix:aO X.K H h x) (l:aY X.K H gs xs) (rx:bF x u) (r:bA xs us) :
  ∃ e:Value->Bool,(∀ y∈us,SeqAt.EqAt A s y u (e y))/\us.any e=A0 h gs:=by
 have e1:=r.length;have e2:=l.length;refine⟨λ y=>decide (∃ (i:Nat) (g:G),us[i]? = some y/\gs[i]? = some g/\bJ g h=true),?_,?_⟩
 ·intro y hy;obtain⟨i,hi,rfl⟩:=List.mem_iff_getElem.1 hy;have hig:i < gs.length:=by omega
  obtain⟨z,gz,iz⟩:=l.get (i:=i) (g:=gs[i]) (by simp [hig]);obtain⟨w,gw,tw⟩:=r.get gz;have ew:us[i]=w:=by
   have:us[i]? = some us[i]:=by simp
   rw[this] at gw;exact abm gw
  have key:decide (∃ (i':Nat) (g:G),us[i']? = some us[i]/\gs[i']? = some g/\bJ g h=true)=bJ gs[i] h:=by
   rw[Bool.eq_iff_iff,decide_eq_true_iff];constructor
   ·rintro⟨i',g,h1,h2,h3⟩;obtain⟨z',gz',iz'⟩:=l.get h2;obtain⟨w',gw',tw'⟩:=r.get gz';rw[h1,ew] at gw';cases gw';have:=xV I _ _ _ _ _ iz iz' tw tw';rw[this];exact h3
   ·intro h3;exact⟨i,gs[i],by simp,by simp [hig],h3⟩
  show SeqAt.EqAt A s us[i] u (decide _);rw[key,ew];exact vZ I 30 _ _ A z x w u (by have:=fU (aci hig);omega) (by omega) iz ix tw rx
 ·rw[Bool.eq_iff_iff,List.any_eq_true];unfold A0;rw[List.any_eq_true];constructor
  ·rintro⟨y,hy,hq⟩;obtain⟨i,g,h1,h2,h3⟩:=aax hq;exact⟨g,aad h2,h3⟩
  ·rintro⟨g,hg,hq⟩;obtain⟨i,hi,rfl⟩:=List.mem_iff_getElem.1 hg;have hiu:i < us.length:=by omega
   exact⟨us[i],aci hiu,aaw ⟨i,gs[i],by simp,by simp,hq⟩⟩
def EB (K:aaa) (neg:Bool):R2:=λ x y H Q=>∃ h p gs xs,y=.ref p/\(bO K H p xs\/bU K H p xs)/\jL gs<=30/\aO K H h x/\aY K H gs xs/\Q (.bl (if neg then !A0 h gs else A0 h gs)) H
theorem IK (hu:X.A.units+64 < cLine):gG X (compareOp .In) (EB X.K false):=by
 intro pins s σ H x y v u Q I rx ry hh;obtain⟨h,p,gs,xs,rfl,hq,hd,ix,l,q⟩:=hh;cases ry;have hin:X.A.in1.units=X.A.units+1:=rfl;rcases hq with hq | hq
 ·obtain⟨its,r,pl,hz⟩:=I.list hq;obtain⟨e,he,ea⟩:=tZ I (A:=X.A.in1) (by omega) hd ix l rx r;refine SeqAt.in_listAt e pl.isList (λ w hw=>he w (by simpa using hw)) ⟨.bl _,H,I,rfl,?_⟩;rw[show its.toArray.any e=its.any e by simp,ea];exact q
 ·obtain⟨its,r,pl,hz⟩:=I.tuple hq;obtain⟨e,he,ea⟩:=tZ I (A:=X.A.in1) (by omega) hd ix l rx r;refine SeqAt.in_tupleAt e pl (λ w hw=>he w (by simpa using hw)) ⟨.bl _,H,I,rfl,?_⟩;rw[show its.toArray.any e=its.any e by simp,ea];exact q
theorem ER (hu:X.A.units+64 < cLine):gG X (compareOp .NotIn) (EB X.K true):=by
 intro pins s σ H x y v u Q I rx ry hh;obtain⟨h,p,gs,xs,rfl,hq,hd,ix,l,q⟩:=hh;cases ry;have hin:X.A.in1.units=X.A.units+1:=rfl;rcases hq with hq | hq
 ·obtain⟨its,r,pl,hz⟩:=I.list hq;obtain⟨e,he,ea⟩:=tZ I (A:=X.A.in1) (by omega) hd ix l rx r;refine SeqAt.notIn_listAt e pl.isList (λ w hw=>he w (by simpa using hw)) ⟨.bl _,H,I,rfl,?_⟩;rw[show its.toArray.any e=its.any e by simp,ea];exact q
 ·obtain⟨its,r,pl,hz⟩:=I.tuple hq;obtain⟨e,he,ea⟩:=tZ I (A:=X.A.in1) (by omega) hd ix l rx r;refine SeqAt.notIn_tupleAt e pl (λ w hw=>he w (by simpa using hw)) ⟨.bl _,H,I,rfl,?_⟩;rw[show its.toArray.any e=its.any e by simp,ea];exact q
theorem ES {K:aaa} (hK:X.K=K) (hu:X.A.units+64 < cLine):gG X (compareOp .In) (EB K false):=by subst hK;exact IK hu
theorem BI {K:aaa} (hK:X.K=K) (hu:X.A.units+64 < cLine):gG X (compareOp .NotIn) (EB K true):=by subst hK;exact ER hu
end
section
variable {H:Hp}
mutual
def dO:D->G
 | .non=>.non
 | .bl b=>.bl b
 | .int i=>.int i
 | .str z=>.str z
 | .tup ds=>.tup (cW ds)
def cW:List D->List G
 | []=>[]
 | d::ds=>dO d::cW ds
end
mutual
theorem Is.g:∀ {d:D}{x:V},Is K H d x->aO K H (dO d) x
 | .non,x,h=>by rw[Is] at h;rw[dO,aO];exact h
 | .bl b,x,h=>by rw[Is] at h;rw[dO,aO];exact h
 | .int i,x,h=>by rw[Is] at h;rw[dO,aO];exact h
 | .str z,x,h=>by rw[Is] at h;rw[dO,aO];exact h
 | .tup ds,x,h=>by
  rw[Is] at h;rw[dO,aO];obtain⟨a,xs,e,q,l⟩:=h;exact⟨a,xs,e,q,IsL.g l⟩
theorem IsL.g:∀ {ds:List D}{xs:List V},IsL K H ds xs->aY K H (cW ds) xs
 | [],xs,h=>by rw[IsL] at h;rw[cW,aY];exact h
 | d::ds,xs,h=>by
  rw[IsL] at h;rw[cW,aY];obtain⟨x,r,e,h1,h2⟩:=h;exact⟨x,r,e,Is.g h1,IsL.g h2⟩
end
theorem lL:∀ ds:List D,cW ds=ds.map dO
 | []=>by rw[cW];rfl
 | d::ds=>by rw[cW,lL ds];rfl
theorem aY.nil:aY K H [] []:=by rw[aY]
theorem aY.cons {g:G}{gs:List G}{x:V}{xs:List V} (h1:aO K H g x) (h2:aY K H gs xs):aY K H (g::gs) (x::xs):=by rw[aY];exact⟨x,xs,rfl,h1,h2⟩
theorem aO.i (i:Int):aO K H (.int i) (.int i):=by rw[aO]
theorem aO.s (i:Str):aO K H (.str i) (.str i):=by rw[aO]
theorem aO.b (i:Bool):aO K H (.bl i) (.bl i):=by rw[aO]
theorem aO.n:aO K H .non .non:=by rw[aO]
theorem aO.t {a:Addr}{gs:List G}{xs:List V} (q:bU K H a xs) (l:aY K H gs xs):aO K H (.tup gs) (.ref a):=by rw[aO];exact⟨a,xs,rfl,q,l⟩
theorem aO.l {a:Addr}{gs:List G}{xs:List V} (q:bO K H a xs) (l:aY K H gs xs):aO K H (.lst gs) (.ref a):=by rw[aO];exact⟨a,xs,rfl,q,l⟩
end
end L2
namespace L2
open PySem PySem.Spec PyProof.Rows TwZ Tw
def kG (t:Addr) (H:Hp):Hp:=λ b=>if b=t then none else H b
section
variable {H H':Hp}{t:Addr}
theorem A1:aG (kG t H) H:=λ b o e=>by
 unfold kG at e
 split at e
 ·cases e
 ·exact e
theorem CV (b:dQ t H H'):aG (kG t H) (kG t H'):=λ c o e=>by
 unfold kG at e ⊢
 split at e
 ·cases e
 ·rename_i n;rw[if_neg n];exact b c o n e
theorem gW (s:aG H H'):aG (kG t H) (kG t H'):=CV λ c o _ e=>s c o e
theorem yO {a:Addr}{o:HO} (h:H a=some o) (n:a≠t):kG t H a=some o:=by unfold kG;rw[if_neg n];exact h
theorem aG.lst {a:Addr}{xs:List V} (s:aG H H') (h:bO K H a xs):bO K H' a xs:=by
 rcases h with (h | ⟨o,h⟩) | h
 ·exact .inl (.inl (s _ _ h))
 ·exact .inl (.inr ⟨o,s _ _ h⟩)
 ·exact .inr h
mutual
theorem aO.same (s:aG H H'):∀ {g:G}{v:V},aO K H g v->aO K H' g v
 | .non,v,h=>by rw[aO] at h ⊢;exact h
 | .bl b,v,h=>by rw[aO] at h ⊢;exact h
 | .int i,v,h=>by rw[aO] at h ⊢;exact h
 | .str z,v,h=>by rw[aO] at h ⊢;exact h
 | .tup gs,v,h=>by
  rw[aO] at h ⊢;obtain⟨a,xs,e,q,l⟩:=h;exact⟨a,xs,e,s.tup q,aY.same s l⟩
 | .lst gs,v,h=>by
  rw[aO] at h ⊢;obtain⟨a,xs,e,q,l⟩:=h;exact⟨a,xs,e,s.lst q,aY.same s l⟩
theorem aY.same (s:aG H H'):∀ {gs:List G}{vs:List V},aY K H gs vs->aY K H' gs vs
 | [],vs,h=>by rw[aY] at h ⊢;exact h
 | g::gs,vs,h=>by
  rw[aY] at h ⊢;obtain⟨x,r,e,h1,h2⟩:=h;exact⟨x,r,e,aO.same s h1,aY.same s h2⟩
end
mutual
theorem aO.d:∀ {d:D}{x:V},aO K H (dO d) x->Is K H d x
 | .non,x,h=>by rw[dO,aO] at h;rw[Is];exact h
 | .bl b,x,h=>by rw[dO,aO] at h;rw[Is];exact h
 | .int i,x,h=>by rw[dO,aO] at h;rw[Is];exact h
 | .str z,x,h=>by rw[dO,aO] at h;rw[Is];exact h
 | .tup ds,x,h=>by
  rw[dO,aO] at h;rw[Is];obtain⟨a,xs,e,q,l⟩:=h;exact⟨a,xs,e,q,aY.d l⟩
theorem aY.d:∀ {ds:List D}{xs:List V},aY K H (cW ds) xs->IsL K H ds xs
 | [],xs,h=>by rw[cW,aY] at h;rw[IsL];exact h
 | d::ds,xs,h=>by
  rw[cW,aY] at h;rw[IsL];obtain⟨x,r,e,h1,h2⟩:=h;exact⟨x,r,e,aO.d h1,aY.d h2⟩
end
theorem aO.ut {gs:List G}{v:V} (h:aO K H (.tup gs) v):∃ a xs,v=.ref a/\bU K H a xs/\aY K H gs xs:=by rw[aO] at h;exact h
theorem aO.ul {gs:List G}{v:V} (h:aO K H (.lst gs) v):∃ a xs,v=.ref a/\bO K H a xs/\aY K H gs xs:=by rw[aO] at h;exact h
theorem aO.ui {i:Int}{v:V} (h:aO K H (.int i) v):v=.int i:=by rw[aO] at h;exact h
theorem aO.ub {i:Bool}{v:V} (h:aO K H (.bl i) v):v=.bl i:=by rw[aO] at h;exact h
theorem aO.us {i:Str}{v:V} (h:aO K H (.str i) v):v=.str i:=by rw[aO] at h;exact h
theorem aO.un {v:V} (h:aO K H .non v):v=.non:=by rw[aO] at h;exact h
theorem aY.un {g:G}{gs:List G}{xs:List V} (h:aY K H (g::gs) xs):∃ x r,xs=x::r/\aO K H g x/\aY K H gs r:=by rw[aY] at h;exact h
theorem aY.un0 {xs:List V} (h:aY K H [] xs):xs=[]:=by rw[aY] at h;exact h
theorem aY.app:∀ {gs hs:List G}{xs ys:List V},aY K H gs xs->aY K H hs ys->aY K H (gs++hs) (xs++ys)
 | [],hs,xs,ys,h,h'=>by have:=h.un0;subst this;exact h'
 | g::gs,hs,xs,ys,h,h'=>by
  obtain⟨x,r,rfl,h1,h2⟩:=h.un;exact .cons h1 (aY.app h2 h')
end
def mL:G->String
 | .non => "NoneType"
 | .bl _ => "bool"
 | .int _ => "int"
 | .str _ => "str"
 | .tup _ => "tuple"
 | .lst _ => "list"
def iE (g:G) (T:String):Bool:=mL g == T || (mL g == "bool" && T == "int")
def tV:List String:=["tuple","int","bool","str","list"]
theorem CG (K:aaa) {A T:String}{b:Bool} (h:A=T/\b=true\/¬ ((Value.type A == Value.type T)=true)/\PySem.W.kitMeta T=true/\PySem.W.subIn K (.type A) (.type T)=some b):PySem.W.kitOne K (.type A) (.type T)=some b:=by
 unfold PySem.W.kitOne;rcases h with ⟨rfl,rfl⟩ | ⟨h1,h2,h3⟩
 ·rw[if_pos (by simp)]
 ·rw[if_neg h1];show (if PySem.W.kitMeta T=true then PySem.W.subIn K (.type A) (.type T) else none)=some b;rw[if_pos h2,h3]
theorem FM (K:aaa):∀ A∈["NoneType","bool","int","str","tuple","list"],∀ T∈tV,PySem.W.kitOne K (.type A) (.type T)=some (A == T || (A == "bool" && T == "int")):=by
 intro A hA T hT;simp only [tV,aaz,abt,abp,or_false] at hA hT;rcases hA with rfl | rfl | rfl | rfl | rfl | rfl <;> rcases hT with rfl | rfl | rfl | rfl | rfl <;>
  first
   | exact CG K (.inl ⟨rfl,by decide +kernel⟩)
   | exact CG K (.inr ⟨by decide +kernel,by decide +kernel,rfl⟩)
theorem LA (K:aaa) (g:G) {T:String} (h:T∈tV):PySem.W.kitOne K (.type (mL g)) (.type T)=some (iE g T):=FM K _ (by cases g <;> simp [mL]) T h
def GI (K:aaa):List V->Hp->VK->Prop:=λ xs H Q=>∃ x T g,xs=[x,.ty T]/\T∈tV/\aO K H g x/\Q (.bl (iE g T)) H
section
variable {X:Cx}
theorem AE:eN X (.builtin "isinstance") (GI X.K):=by
 intro pins s σ H xs us Q I r h;obtain⟨x,T,g,rfl,hT,hg,q⟩:=h;obtain⟨u,v,rfl,ru,rv⟩:=r.two;cases rv;have e:=LA X.K g hT;cases g with
 | non=>rw[aO] at hg;subst hg;exact jT I ru .non e λ tk=>⟨.bl _,H,I.tok tk,rfl,q⟩
 | bl b=>rw[aO] at hg;subst hg;exact jT I ru (.bl b) e λ tk=>⟨.bl _,H,I.tok tk,rfl,q⟩
 | int b=>rw[aO] at hg;subst hg;exact jT I ru (.int b) e λ tk=>⟨.bl _,H,I.tok tk,rfl,q⟩
 | str b=>rw[aO] at hg;subst hg;exact jT I ru (.str b) e λ tk=>⟨.bl _,H,I.tok tk,rfl,q⟩
 | tup gs=>
  obtain⟨a,ys,rfl,hq,_⟩:=hg.ut;cases (show u=Value.ref a from ru);obtain⟨its,rv',⟨o,h1,h2,_⟩,_⟩:=I.tuple hq;exact PySem.W.kia_one PySem.W.kitx_tuple I.kIn ⟨o,h1,h2⟩ e (λ z=>nomatch z) λ tk=>⟨.bl _,H,I.tok tk,rfl,q⟩
 | lst gs=>
  obtain⟨a,ys,rfl,hq,_⟩:=hg.ul;cases (show u=Value.ref a from ru);obtain⟨its,rv',⟨o,n,h1,h2,_⟩,_⟩:=I.list hq;exact PySem.W.kia_one PySem.W.kitx_list I.kIn ⟨o,h1,h2⟩ e (λ z=>nomatch z) λ tk=>⟨.bl _,H,I.tok tk,rfl,q⟩
theorem bN {K:aaa} (hK:X.K=K):eN X (.builtin "isinstance") (GI K):=by subst hK;exact AE
end
end L2
namespace Tw
open PySem L2
def bZ (lo hi:Int):G->Bool
 | .int n=>decide (lo<=n) && decide (n<=hi)
 | _=>false
def bK (lo hi:Int):G->Bool
 | .tup gs=>decide (lo<=(gs.length:Int)) && decide ((gs.length:Int)<=hi)
 | _=>false
def DO (lo hi:Int):G->Bool
 | .non=>true
 | g=>bZ lo hi g
def DR:G->Bool
 | .bl _=>true
 | _=>false
def fW:List G:=[.str "open",.str "shut",.str "turn"]
def kB (n:Int):G->Bool
 | .tup [t,p]=>DO 0 (n - 1) t && bZ 1 60 p
 | _=>false
def jM (m:Int):G->Bool
 | .tup [w,s]=>A0 w fW && bZ 0 (m - 1) s
 | _=>false
def jZ (n:Int):G->Bool
 | .tup [t,f,d]=>bZ 0 (n - 1) t && bZ 0 60 f && DR d
 | _=>false
def nZ (sz br:G):Bool:=match sz with
 | .int z=>bZ z 200 br
 | _=>false
def mO:G->List G
 | .tup gs=>gs
 | _=>[]
def iL (i n m:Int):G->Bool
 | .tup [sz,br,os,ho,sp,ac]=>bZ 1 60 sz && nZ sz br && bK 1 3 os && bK 0 3 ac && (mO os).all (kB n) && DR ho && DO (i+1) (n - 1) sp && (mO ac).all (jM m)
 | _=>false
def zD (n m:Int) (vs:List G):Bool:=vs.zipIdx.all λ p=>iL p.2 n m p.1
def fI:G->Bool
 | .tup [.tup vs,.tup ss]=>decide (1<=vs.length) && decide (vs.length<=12) && decide (ss.length<=12) && zD vs.length ss.length vs && ss.all (jZ vs.length)
 | _=>false
theorem iM {n m:Int}{vs:List G}:zD n m vs=true↔∀ (i:Nat) g,vs[i]? = some g->iL i n m g=true:=by
 unfold zD;rw[abl];constructor
 ·intro h i g hg;exact h (g,i) (by rw[List.mem_zipIdx_iff_getElem?];exact hg)
 ·rintro h ⟨g,i⟩ hp;rw[List.mem_zipIdx_iff_getElem?] at hp;exact h i g hp
theorem oP {n m:Int}{vs:List G}{i:Nat}{g:G} (h:vs[i]? = some g) (e:iL i n m g=false):zD n m vs=false:=by
 cases q:zD n m vs with
 | false=>rfl
 | true=>rw[iM.mp q i g h] at e;cases e
theorem fA {lo hi:Int}{g:G} (h:bZ lo hi g=true):∃ n,g=.int n/\lo<=n/\n<=hi:=by
 cases g with
 | int n=>simp [bZ] at h;exact⟨n,rfl,h⟩
 | _=>simp [bZ] at h
theorem G9 {lo hi:Int}{g:G} (h:DO lo hi g=true):∃ t,g=dO (kT t)/\∀ n,t=some n->lo<=n/\n<=hi:=by
 cases g with
 | non=>exact⟨none,by simp [kT,dO],λ n e=>(by cases e)⟩
 | int n=>simp [DO,bZ] at h;exact⟨some n,by simp [kT,dO],λ n e=>by cases e;exact h⟩
 | _=>simp [DO,bZ] at h
theorem CQ {g:G} (h:DR g=true):∃ b,g=.bl b:=by
 cases g with
 | bl b=>exact⟨b,rfl⟩
 | _=>simp [DR] at h
theorem IF {n:Nat}{g:G} (h:kB n g=true):∃ o,g=dO (i8 o)/\OutOk n o:=by
 unfold kB at h
 split at h
 ·rename_i t p
  rw[Bool.and_eq_true] at h;obtain⟨t',rfl,h1⟩:=G9 h.1;obtain⟨p',rfl,h2,h3⟩:=fA h.2;exact⟨(t',p'),by simp [i8,dO,cW],⟨λ z e=>by have:=h1 z e;omega,h2,h3⟩⟩
 ·cases h
theorem DU {g:G} (h:A0 g fW=true):∃ z:Str,g=.str z/\(z = "open" \/ z = "shut" \/ z = "turn"):=by
 cases g with
 | str z=>
  simp [A0,fW,bJ] at h;exact⟨z,rfl,h.imp Eq.symm (Or.imp Eq.symm Eq.symm)⟩
 | _=>simp [A0,fW,bJ] at h
theorem JK {m:Nat}{g:G} (h:jM m g=true):∃ a,g=dO (fF a)/\ActOk m a:=by
 unfold jM at h
 split at h
 ·rename_i w s
  rw[Bool.and_eq_true] at h;obtain⟨z,rfl,h1⟩:=DU h.1;obtain⟨p',rfl,h2,h3⟩:=fA h.2;exact⟨(z,p'),by simp [fF,dO,cW],⟨h1,h2,by show p' < m;omega⟩⟩
 ·cases h
theorem HF {n:Nat}{g:G} (h:jZ n g=true):∃ s:oO,g=dO (qB s)/\(0<=s.1/\s.1 < n)/\0<=s.2.1/\s.2.1<=60:=by
 unfold jZ at h
 split at h
 ·rw[Bool.and_eq_true,Bool.and_eq_true] at h;obtain⟨t,rfl,h1,h2⟩:=fA h.1.1;obtain⟨f,rfl,h3,h4⟩:=fA h.1.2;obtain⟨b,rfl⟩:=CQ h.2;exact⟨(t,f,b),by simp [qB,dO,cW],⟨h1,by show t < n;omega⟩,h3,h4⟩
 ·cases h
theorem uH {ae:Type}{f:ae->L2.D}{R:ae->Prop}{q:G->Bool} (hq:∀ g,q g=true->∃ a,g=dO (f a)/\R a):∀ (gs:List G),gs.all q=true->∃ as:List ae,gs=cW (as.map f)/\∀ a∈as,R a
 | [],_=>⟨[],by simp [cW],λ a h=>(by cases h)⟩
 | g::gs,h=>by
  rw[List.all_cons,Bool.and_eq_true] at h;obtain⟨a,rfl,ra⟩:=hq g h.1;obtain⟨as,rfl,ras⟩:=uH hq gs h.2;exact⟨a::as,by rw[aaq,cW],λ x hx=>by
   rcases aaz.mp hx with rfl | hx
   ·exact ra
   ·exact ras x hx⟩
theorem gQ (ds:List L2.D):(cW ds).length=ds.length:=by rw[lL,aab]
theorem GW {i n m:Nat}{g:G} (h:iL i n m g=true):∃ v,g=dO (o0 v)/\VOk n m v/\VFull i v:=by
 unfold iL at h
 split at h
 ·rename_i sz br os ho sp ac
  simp only [Bool.and_eq_true] at h;obtain⟨⟨⟨⟨⟨⟨⟨h1,h2⟩,h3⟩,h4⟩,h5⟩,h6⟩,h7⟩,h8⟩:=h;obtain⟨s,rfl,s1,s2⟩:=fA h1;obtain⟨b,rfl,b1,b2⟩:=fA (show bZ s 200 br=true from h2);obtain⟨ho,rfl⟩:=CQ h6;obtain⟨t,rfl,t1⟩:=G9 h7;cases os with
  | tup os=>
   cases ac with
   | tup ac=>
    obtain⟨os,rfl,ro⟩:=uH (λ g=>IF) os h5;obtain⟨ac,rfl,ra⟩:=uH (λ g=>JK) ac h8;simp only [bK,Bool.and_eq_true,decide_eq_true_eq,gQ,aab] at h3 h4;refine⟨⟨s,b,os,ho,t,ac⟩,by simp [o0,dO,cW],⟨s1,λ e=>?_,by show os.length<=3;omega,ro,λ z e=>by have:=t1 z e;omega,by show ac.length<=3;omega,ra⟩,⟨s2,b1,b2,λ z e=>by have:=t1 z e;omega⟩⟩;have:os=[]:=e;rw[this] at h3;simp at h3
   | _=>simp [bK] at h4
  | _=>simp [bK] at h3
 ·cases h
theorem xU {n m:Nat}:∀ (gs:List G) (k:Nat),(∀ (i:Nat) g,gs[i]? = some g->iL ((k+i:Nat):Int) n m g=true)->∃ vs:List Vs,gs=cW (vs.map o0)/\∀ (i:Nat) v,vs[i]? = some v->VOk n m v/\VFull (k+i) v
 | [],_,_=>⟨[],by simp [cW],λ i v h=>(by simp at h)⟩
 | g::gs,k,h=>by
  obtain⟨v,rfl,hv⟩:=GW (h 0 g rfl);obtain⟨vs,rfl,hvs⟩:=xU gs (k+1) λ i g hg=>by rw[show k+1+i=k+(i+1) by omega];exact h (i+1) g (by simpa using hg)
  refine⟨v::vs,by rw[aaq,cW],λ i u hu=>?_⟩;cases i with
  | zero=>simp at hu;subst hu;exact hv
  | succ i=>rw[show k+(i+1)=k+1+i by omega];exact hvs i u (by simpa using hu)
theorem tI {g:G} (h:fI g=true):∃ net,g=dO (eH net)/\NetOk net/\NetFull net:=by
 unfold fI at h
 split at h
 ·rename_i vs ss
  simp only [Bool.and_eq_true,decide_eq_true_eq] at h;obtain⟨⟨⟨⟨h1,h2⟩,h3⟩,h4⟩,h5⟩:=h;obtain⟨vs',rfl,hv⟩:=xU vs 0 λ i g hg=>by rw[Nat.zero_add];exact iM.mp h4 i g hg
  obtain⟨ss',rfl,hs⟩:=uH (λ g=>HF) ss h5;simp only [gQ,aab] at h1 h2 h3 hv hs;refine⟨⟨vs',ss'⟩,by simp [eH,dO,cW],⟨h1,h2,h3,λ v hm=>?_,λ s hm=>(hs s hm).1⟩,⟨λ i v e=>by have:=(hv i v e).2;rwa [Nat.zero_add] at this,λ s hm=>(hs s hm).2⟩⟩;obtain⟨i,hi⟩:=abw.1 hm;exact (hv i v hi).1
 ·cases h
end Tw
namespace L2
open PySem PySem.Spec PyProof.Rows TwZ
end L2
namespace Tw
open PySem L2
section
variable {aw:Addr}
def kU (K:aaa):Sp:=λ vs H Q _=>∃ (x:V) (g:G) (lo hi:Int),vs=[x,.int lo,.int hi]/\aO K H g x/\Q (.bl (bK lo hi g)) H
def eE (K:aaa):Sp:=λ vs H Q _=>∃ (x:V) (g:G) (lo hi:Int),vs=[x,.int lo,.int hi]/\aO K H g x/\Q (.bl (bZ lo hi g)) H
def wS (K:aaa):Sp:=λ vs H Q _=>∃ (x:V) (g:G) (n:Int),vs=[x,.int n]/\aO K H g x/\Q (.bl (kB n g)) H
def sJ (K:aaa):Sp:=λ vs H Q _=>∃ (x:V) (g:G) (n:Int),vs=[x,.int n]/\aO K H g x/\Q (.bl (jM n g)) H
def wQ (K:aaa):Sp:=λ vs H Q _=>∃ (x:V) (g:G) (n:Int),vs=[x,.int n]/\aO K H g x/\Q (.bl (jZ n g)) H
def mW (K:aaa):Sp:=λ vs H Q _=>∃ (x:V) (g:G) (i n m:Int),vs=[x,.int i,.int n,.int m]/\aO K H g x/\∀ H',aG H H'->Q (.bl (iL i n m g)) H'
def kW (K:aaa):Sp:=λ vs H Q _=>∃ (x:V) (g:G),vs=[x]/\aO K H g x/\∀ H',aG H H'->Q (.bl (fI g)) H'
theorem sT {f:Addr}{fd:FuncData} (F:Fun K "is_tuple" "is_tuple" (bB 27) f fd) (T:Txt mg):FnOk P w K mg base hU 1 f fd ["thing","least","most"] (kU K):=by
 refine F.ok nP (λ vs H Q E h=>?_) (λ cdv A outer s H vs Q E hr h=>?_)
 ·obtain⟨x,g,lo,hi,rfl,_⟩:=h;rfl
 ·obtain⟨x,g,lo,hi,rfl,hg,k⟩:=h;have sc:=nP;refine⟨_,(aH (aM (eL (aT (bN (K:=K) rfl) rfl T.b_isinstance bE (aA (pv 0) (aA (cJ (v:=.ty "tuple") rfl T.b_tuple bS rfl) aB))) (gA (vB jD jD (pv 1) (kA K T.b_len (pv 0)) (pv 2)))))),?_⟩;refine⟨_,rfl,_,"tuple",g,rfl,by decide,hg,_,rfl,?_⟩;cases g with
  | tup gs=>
   refine aX ?_;obtain⟨a,xs,rfl,q,l⟩:=hg.ut;have el:=l.length;refine⟨_,rfl,_,rfl,a,xs,rfl,.inr q,_,_,rfl,rfl,_,rfl,?_⟩;rw[el];dsimp only [bK] at k;refine dJ (λ h=>?_) (λ h=>?_)
   ·rw[h] at k;exact⟨_,rfl,_,_,rfl,rfl,k⟩
   ·rw[Bool.eq_false_iff.mpr h] at k;exact k
  | _=>exact bM k
theorem sS {f:Addr}{fd:FuncData} (F:Fun K "is_whole" "is_whole" (bB 28) f fd) (T:Txt mg):FnOk P w K mg base hU 1 f fd ["thing","least","most"] (eE K):=by
 refine F.ok nO (λ vs H Q E h=>?_) (λ cdv A outer s H vs Q E hr h=>?_)
 ·obtain⟨x,g,lo,hi,rfl,_⟩:=h;rfl
 ·obtain⟨x,g,lo,hi,rfl,hg,k⟩:=h;have sc:=nO;refine⟨_,(aH (aM (eL (aT (bN (K:=K) rfl) rfl T.b_isinstance bE (aA (pv 0) (aA (cJ (v:=.ty "int") rfl T.b_int eU rfl) aB))) (eL (wY (aT (bN (K:=K) rfl) rfl T.b_isinstance bE (aA (pv 0) (aA (cJ (v:=.ty "bool") rfl T.b_bool jX rfl) aB)))) (gA (vB jD jD (pv 1) (pv 0) (pv 2))))))),?_⟩;refine⟨_,rfl,_,"int",g,rfl,by decide,hg,_,rfl,?_⟩;cases g with
  | int n=>
   refine aX ?_;refine⟨_,rfl,_,"bool",.int n,rfl,by decide,hg,_,rfl,_,rfl,aX ?_⟩;obtain rfl:=hg.ui;refine⟨_,rfl,_,rfl,_,_,rfl,rfl,_,rfl,?_⟩;dsimp only [bZ] at k;refine dJ (λ h=>?_) (λ h=>?_)
   ·rw[h] at k;exact⟨_,rfl,_,_,rfl,rfl,k⟩
   ·rw[Bool.eq_false_iff.mpr h] at k;exact k
  | bl b=>
   refine aX ?_;exact⟨_,rfl,_,"bool",.bl b,rfl,by decide,hg,_,rfl,_,rfl,bM k⟩
  | _=>exact bM k
theorem pI {f:Addr}{fd:FuncData} (F:Fun K "_law_whole" "_law_whole" (bB 63) f fd) (T:Txt mg):FnOk P w K mg base hU 1 f fd ["thing","low","high"] (eE K):=by
 refine F.ok kL (λ vs H Q E h=>?_) (λ cdv A outer s H vs Q E hr h=>?_)
 ·obtain⟨x,g,lo,hi,rfl,_⟩:=h;rfl
 ·obtain⟨x,g,lo,hi,rfl,hg,k⟩:=h;have sc:=kL;refine⟨_,(aH (aM (eL (aT (bN (K:=K) rfl) rfl T.b_isinstance bE (aA (pv 0) (aA (cJ (v:=.ty "int") rfl T.b_int eU rfl) aB))) (eL (wY (aT (bN (K:=K) rfl) rfl T.b_isinstance bE (aA (pv 0) (aA (cJ (v:=.ty "bool") rfl T.b_bool jX rfl) aB)))) (eL (d2 jD (pv 1) (pv 0) (aP _)) (gA (d2 jD (pv 0) (pv 2) (aP _)))))))),?_⟩;refine⟨_,rfl,_,"int",g,rfl,by decide,hg,_,rfl,?_⟩;cases g with
  | int n=>
   refine aX ?_;refine⟨_,rfl,_,"bool",.int n,rfl,by decide,hg,_,rfl,_,rfl,aX ?_⟩;obtain rfl:=hg.ui;refine⟨_,rfl,_,rfl,_,_,rfl,rfl,_,rfl,?_⟩;dsimp only [bZ] at k;refine dJ (λ h=>?_) (λ h=>?_)
   ·rw[h] at k;exact⟨_,rfl,_,rfl,_,_,rfl,rfl,k⟩
   ·rw[Bool.eq_false_iff.mpr h] at k;exact k
  | bl b=>
   refine aX ?_;exact⟨_,rfl,_,"bool",.bl b,rfl,by decide,hg,_,rfl,_,rfl,bM k⟩
  | _=>exact bM k
theorem mT {g:G} (h:bK 2 2 g=true):∃ a b,g=.tup [a,b]:=by
 cases g with
 | tup gs=>
  simp only [bK,Bool.and_eq_true,decide_eq_true_eq] at h
  match gs,h with
  | [a,b],_=>exact⟨a,b,rfl⟩
  | [],h=>simp at h
  | [_],h=>simp at h
  | _::_::_::_,h=>simp at h;omega
 | _=>simp [bK] at h
theorem uT {g:G} (h:bK 3 3 g=true):∃ a b c,g=.tup [a,b,c]:=by
 cases g with
 | tup gs=>
  simp only [bK,Bool.and_eq_true,decide_eq_true_eq] at h
  match gs,h with
  | [a,b,c],_=>exact⟨a,b,c,rfl⟩
  | [],h=>simp at h
  | [_],h=>simp at h
  | [_,_],h=>simp at h
  | _::_::_::_::_,h=>simp at h;omega
 | _=>simp [bK] at h
theorem AV {g:G} (h:bK 6 6 g=true):∃ a b c d e f,g=.tup [a,b,c,d,e,f]:=by
 cases g with
 | tup gs=>
  simp only [bK,Bool.and_eq_true,decide_eq_true_eq] at h
  match gs,h with
  | [a,b,c,d,e,f],_=>exact⟨a,b,c,d,e,f,rfl⟩
  | [],h=>simp at h
  | [_],h=>simp at h
  | [_,_],h=>simp at h
  | [_,_,_],h=>simp at h
  | [_,_,_,_],h=>simp at h
  | [_,_,_,_,_],h=>simp at h
  | _::_::_::_::_::_::_::_,h=>simp at h;omega
 | _=>simp [bK] at h
theorem BF {n:Int}{g:G} (h:bK 2 2 g=false):kB n g=false:=by
 unfold kB;split
 ·simp [bK] at h
 ·rfl
theorem DK {n:Int}{g:G} (h:bK 2 2 g=false):jM n g=false:=by
 unfold jM;split
 ·simp [bK] at h
 ·rfl
theorem wO {n:Int}{g:G} (h:bK 3 3 g=false):jZ n g=false:=by
 unfold jZ;split
 ·simp [bK] at h
 ·rfl
theorem AM {i n m:Int}{g:G} (h:bK 6 6 g=false):iL i n m g=false:=by
 unfold iL;split
 ·simp [bK] at h
 ·rfl
theorem oI {H:Hp}{g:G}{x:V} (h:aO K H g x):(x=.non/\g=.non)\/(x≠.non/\g≠.non):=by
 cases g with
 | non=>exact .inl ⟨h.un,rfl⟩
 | bl b=>exact .inr ⟨by rw[h.ub];exact λ z=>(by cases z),λ z=>(by cases z)⟩
 | int b=>exact .inr ⟨by rw[h.ui];exact λ z=>(by cases z),λ z=>(by cases z)⟩
 | str b=>exact .inr ⟨by rw[h.us];exact λ z=>(by cases z),λ z=>(by cases z)⟩
 | tup gs=>obtain⟨a,xs,rfl,_⟩:=h.ut;exact .inr ⟨λ z=>(by cases z),λ z=>(by cases z)⟩
 | lst gs=>obtain⟨a,xs,rfl,_⟩:=h.ul;exact .inr ⟨λ z=>(by cases z),λ z=>(by cases z)⟩
theorem rS {lo hi:Int}{g:G} (h:g≠.non):DO lo hi g=bZ lo hi g:=by
 cases g <;> first | exact absurd rfl h | rfl
theorem x8 {f f1 f2:Addr}{fd fd1 fd2:FuncData} (F:Fun K "is_out" "is_out" (bB 23) f fd) (T:Txt mg) (U:TxtN K mg aw) (G_is_tuple:Callee P w K mg base "is_tuple" ["thing","least","most"] 1 (kU K) f1 fd1)
  (G_is_whole:Callee P w K mg base "is_whole" ["thing","least","most"] 1 (eE K) f2 fd2):FnOk P w K mg base hU 2 f fd ["thing","vessel_count"] (wS K):=by
 refine F.ok qU (λ vs H Q E h=>?_) (λ cdv A outer s H vs Q E hr h=>?_)
 ·obtain⟨x,g,n,rfl,_⟩:=h;rfl
 ·obtain⟨x,g,n,rfl,hg,k⟩:=h;have sc:=qU;refine⟨_,(aE (bC (bI (bG (cB G_is_tuple hr (aA (pv 0) (aA aF (aA aF aB)))))) (aH (aM cX)) aS)
   (aE (cR (pv 0) (cG (K:=K) (n:=2) rfl rfl (aJ (gL 2 sc.nd) (aJ (gL 3 sc.nd) bY))))
   (aH (aM (eL (BE (d2 jE (pv 2) d8 (aP _)) (gA (cB G_is_whole hr (aA (pv 2) (aA aF (aA (aU fH (pv 1) aF) aB)))))) (gA (cB G_is_whole hr (aA (pv 3) (aA aF (aA (cE rfl U.g_MOST_PARTS) aB)))))))))),?_⟩
  refine⟨_,rfl,x,g,2,2,rfl,hg,_,rfl,?_⟩;cases e:bK 2 2 g with
  | false=>refine aX ?_;rw[BF e] at k;exact k
  | true=>
   refine bM ?_;obtain⟨t,p,rfl⟩:=mT e;obtain⟨a,xs,rfl,q,l⟩:=hg.ut;obtain⟨xt,r,rfl,ht,l⟩:=l.un;obtain⟨xp,r,rfl,hp,l⟩:=l.un;obtain rfl:=l.un0;refine⟨_,rfl,a,_,rfl,q,rfl,_,_,rfl,_,_,rfl,rfl,?_⟩;dsimp only [kB] at k;rcases oI ht with ⟨rfl,rfl⟩ | ⟨n1,n2⟩
   ·refine⟨_,rfl,rfl,_,rfl,tX rfl ⟨_,rfl,aX ?_⟩⟩;exact⟨_,rfl,xp,p,1,60,rfl,hp,k⟩
   ·refine⟨_,rfl,rfl,_,rfl,?_⟩;rw[aau n1];refine bM ⟨_,rfl,_,rfl,_,_,rfl,rfl,xt,t,0,_,rfl,ht,_,rfl,?_⟩;rw[rS n2] at k;refine dJ (λ h=>?_) (λ h=>?_)
    ·rw[h] at k;exact⟨_,rfl,xp,p,1,60,rfl,hp,k⟩
    ·rw[Bool.eq_false_iff.mpr h] at k;exact k
theorem xA {f f1 f2:Addr}{fd fd1 fd2:FuncData} (F:Fun K "is_act" "is_act" (bB 24) f fd) (T:Txt mg) (U:TxtN K mg aw) (G_is_tuple:Callee P w K mg base "is_tuple" ["thing","least","most"] 1 (kU K) f1 fd1)
  (G_is_whole:Callee P w K mg base "is_whole" ["thing","least","most"] 1 (eE K) f2 fd2):FnOk P w K mg base hU 2 f fd ["thing","spout_count"] (sJ K):=by
 refine F.ok qW (λ vs H Q E h=>?_) (λ cdv A outer s H vs Q E hr h=>?_)
 ·obtain⟨x,g,n,rfl,_⟩:=h;rfl
 ·obtain⟨x,g,n,rfl,hg,k⟩:=h;have sc:=qW;refine⟨_,(aE (bC (bI (bG (cB G_is_tuple hr (aA (pv 0) (aA aF (aA aF aB)))))) (aH (aM cX)) aS)
   (aE (cR (pv 0) (cG (K:=K) (n:=2) rfl rfl (aJ (gL 2 sc.nd) (aJ (gL 3 sc.nd) bY))))
   (aH (aM (eL (d2 (ES (K:=K) rfl hr.units) (pv 2) (cE rfl U.g_ACT_WORDS) (by rfl)) (gA (cB G_is_whole hr (aA (pv 3) (aA aF (aA (aU fH (pv 1) aF) aB)))))))))),?_⟩
  refine⟨_,rfl,x,g,2,2,rfl,hg,_,rfl,?_⟩;cases e:bK 2 2 g with
  | false=>refine aX ?_;rw[DK e] at k;exact k
  | true=>
   refine bM ?_;obtain⟨t,p,rfl⟩:=mT e;obtain⟨a,xs,rfl,q,l⟩:=hg.ut;obtain⟨xt,r,rfl,ht,l⟩:=l.un;obtain⟨xp,r,rfl,hp,l⟩:=l.un;obtain rfl:=l.un0;refine⟨_,rfl,a,_,rfl,q,rfl,_,_,rfl,_,_,rfl,rfl,?_⟩;dsimp only [jM] at k;refine⟨_,rfl,t,aw,fW,_,rfl,.inr (U.words H),by decide,ht,.cons (.s _) (.cons (.s _) (.cons (.s _) .nil)),_,rfl,?_⟩;refine dJ (λ h=>?_) (λ h=>?_)
   ·have h:A0 t fW=true:=h;rw[h] at k;exact⟨_,rfl,_,rfl,_,_,rfl,rfl,xp,p,0,_,rfl,hp,k⟩
   ·have h:A0 t fW=false:=Bool.eq_false_iff.mpr h;rw[h] at k;exact k
theorem sU {f f1 f2:Addr}{fd fd1 fd2:FuncData} (F:Fun K "is_spout" "is_spout" (bB 25) f fd) (T:Txt mg) (U:TxtN K mg aw) (G_is_tuple:Callee P w K mg base "is_tuple" ["thing","least","most"] 1 (kU K) f1 fd1)
  (G_is_whole:Callee P w K mg base "is_whole" ["thing","least","most"] 1 (eE K) f2 fd2):FnOk P w K mg base hU 2 f fd ["thing","vessel_count"] (wQ K):=by
 refine F.ok nQ (λ vs H Q E h=>?_) (λ cdv A outer s H vs Q E hr h=>?_)
 ·obtain⟨x,g,n,rfl,_⟩:=h;rfl
 ·obtain⟨x,g,n,rfl,hg,k⟩:=h;have sc:=nQ;refine⟨_,(aE (bC (bI (bG (cB G_is_tuple hr (aA (pv 0) (aA aF (aA aF aB)))))) (aH (aM cX)) aS)
   (aE (cR (pv 0) (cG (K:=K) (n:=3) rfl rfl (aJ (gL 2 sc.nd) (aJ (gL 3 sc.nd) (aJ (gL 4 sc.nd) bY)))))
   (aH (aM (eL (cB G_is_whole hr (aA (pv 2) (aA aF (aA (aU fH (pv 1) aF) aB)))) (eL (cB G_is_whole hr (aA (pv 3) (aA aF (aA (cE rfl U.g_MOST_FLOW) aB)))) (gA (aT (bN (K:=K) rfl) rfl T.b_isinstance bE (aA (pv 4) (aA (cJ (v:=.ty "bool") rfl T.b_bool jX rfl) aB)))))))))),?_⟩
  refine⟨_,rfl,x,g,3,3,rfl,hg,_,rfl,?_⟩;cases e:bK 3 3 g with
  | false=>refine aX ?_;rw[wO e] at k;exact k
  | true=>
   refine bM ?_;obtain⟨t,p,d,rfl⟩:=uT e;obtain⟨a,xs,rfl,q,l⟩:=hg.ut;obtain⟨xt,r,rfl,ht,l⟩:=l.un;obtain⟨xp,r,rfl,hp,l⟩:=l.un;obtain⟨xd,r,rfl,hd,l⟩:=l.un;obtain rfl:=l.un0;refine⟨_,rfl,a,_,rfl,q,rfl,_,_,rfl,_,_,rfl,_,_,rfl,rfl,?_⟩;dsimp only [jZ] at k;refine⟨_,rfl,_,rfl,_,_,rfl,rfl,xt,t,0,_,rfl,ht,_,rfl,dJ (λ h=>?_) (λ h=>?_)⟩
   ·rw[h,Bool.true_and] at k;refine⟨_,rfl,xp,p,0,60,rfl,hp,_,rfl,dJ (λ h=>?_) (λ h=>?_)⟩
    ·rw[h,Bool.true_and] at k;refine⟨_,rfl,_,"bool",d,rfl,by decide,hd,?_⟩;rw[show iE d "bool" = DR d by cases d <;> rfl];exact k
    ·rw[Bool.eq_false_iff.mpr h] at k;exact k
   ·rw[Bool.eq_false_iff.mpr h] at k;exact k
theorem oG {te:TE}{H:Hp}{fr:List (Option Nat)}{σ:St}{ra:Addr}{xs:List V}{gs:List G}{q:G->Bool}{rest:List (Option V)}{Q:Addr->Hp->Prop} (hv:bU K H ra xs) (hl:aY K H gs xs) (hf:A4 fr σ=none::rest)
  (hn:gs.length<=1000) (ht:∀ x g H' (Q:V->Hp->Prop),aG H H'->aO K H' g x->Q (.bl (q g)) H'->te (some x::rest) H' Q) (k:∀ D H',aG H H'->H' D=some (.lst ((gs.map q).map V.bl))->Q D H'):iD (JQ K ra) (aW 0) zI te fr σ H Q:=by
 have hlen:=hl.length;refine iC (K:=K) (a:=ra) (xs:=xs) (λ D i ys aa H'=>H D=none/\aG H H'/\H' D=some (.lst ys)/\ys=(((gs.take i).map q).map V.bl)/\∃ u,aa=u::rest)
  (λ D i r aa H' p=>p.2.1.tup hv) (λ D hD=>⟨hD,aG.new hD,aD,rfl,none,hf⟩) ?_ ?_
 ·rintro D r aa H3 ⟨hDn,sm,hDl,rfl,_⟩;rw[hlen,List.take_length] at hDl;exact k D H3 sm hDl
 ·rintro D i y r aa H3 hy ⟨hDn,sm,hDl,rfl,u,rfl⟩;have hi:=(aai.mp hy).1;obtain⟨g,hg,ig⟩:=hl.get' hy;refine pP ?_;refine ht y g H3 _ sm (aO.same sm ig) ⟨hDl,eQ (by rw[aab,aab,abj];omega),hDn,sm.put hDn,aD,?_,_,rfl⟩;rw[List.take_add_one,hg,aaj,aaj];rfl
theorem uI (gs:List G) (q:G->Bool):(gs.map q).all id=gs.all q:=by rw[List.all_map];rfl
theorem qE {f f1 f2 f3 f4:Addr}{fd fd1 fd2 fd3 fd4:FuncData} (F:Fun K "is_vessel" "is_vessel" (bB 22) f fd) (T:Txt mg) (U:TxtN K mg aw) (G_is_tuple:Callee P w K mg base "is_tuple" ["thing","least","most"] 1 (kU K) f1 fd1)
  (G_is_whole:Callee P w K mg base "is_whole" ["thing","least","most"] 1 (eE K) f2 fd2) (G_is_out:Callee P w K mg base "is_out" ["thing","vessel_count"] 2 (wS K) f3 fd3) (G_is_act:Callee P w K mg base "is_act" ["thing","spout_count"] 2 (sJ K) f4 fd4):FnOk P w K mg base hU 3 f fd ["thing","number","vessel_count","spout_count"] (mW K):=by
 refine F.ok lR (λ vs H Q E h=>?_) (λ cdv A outer s H vs Q E hr h=>?_)
 ·obtain⟨x,g,i,n,m,rfl,_⟩:=h;rfl
 ·obtain⟨x,g,i,n,m,rfl,hg,k⟩:=h;have sc:=lR;refine⟨_,(aE (bC (bI (bG (cB G_is_tuple hr (aA (pv 0) (aA aF (aA aF aB)))))) (aH (aM cX)) aS)
   (aE (cR (pv 0) (cG (K:=K) (n:=6) rfl rfl (aJ (gL 4 sc.nd) (aJ (gL 5 sc.nd) (aJ (gL 6 sc.nd) (aJ (gL 7 sc.nd) (aJ (gL 8 sc.nd) (aJ (gL 9 sc.nd) bY))))))))
   (aE (bC (PW.pt (d4 (bI (bG (cB G_is_whole hr (aA (pv 4) (aA aF (aA (cE rfl U.g_MOST_SIZE) aB)))))) (cQ (bI (bG (cB G_is_whole hr (aA (pv 5) (aA (pv 4) (aA (cE rfl U.g_MOST_BRIM) aB))))))))) (aH (aM cX)) aS)
   (aE (bC (PW.pt (d4 (bI (bG (cB G_is_tuple hr (aA (pv 6) (aA aF (aA (cE rfl U.g_MOST_OUTS) aB)))))) (cQ (bI (bG (cB G_is_tuple hr (aA (pv 9) (aA aF (aA (cE rfl U.g_MOST_ACTS) aB))))))))) (aH (aM cX)) aS)
   (aH (aM (eL (aT (gZ (K:=K) rfl rfl) rfl T.b_all PyProof.Rows.boot_all (aA (gB (λ _ _ h=>h) rfl (LcOk.mk (N':=["out","vessel_count"]) (fr:=[none,some 2]) rfl ⟨rfl,trivial⟩ rfl rfl rfl rfl rfl ⟨⟨_,rfl,rfl,rfl,rfl⟩,trivial⟩) (cV (K:=K) rfl (pv 6)) (λ _ _ _=>(gC 0 ["out","vessel_count"])) (λ _ _ _=>cU) (λ _ _ _=>(cB G_is_out hr (aA (pv 0) (aA (pv 1) aB))))) aB)) (eL (aT (bN (K:=K) rfl) rfl T.b_isinstance bE (aA (pv 7) (aA (cJ (v:=.ty "bool") rfl T.b_bool jX rfl) aB))) (eL (BE (d2 jE (pv 8) d8 (aP _)) (gA (cB G_is_whole hr (aA (pv 8) (aA (aU cZ (pv 1) aF) (aA (aU fH (pv 2) aF) aB)))))) (gA (aT (gZ (K:=K) rfl rfl) rfl T.b_all PyProof.Rows.boot_all (aA (gB (λ _ _ h=>h) rfl (LcOk.mk (N':=["act","spout_count"]) (fr:=[none,some 3]) rfl ⟨rfl,trivial⟩ rfl rfl rfl rfl rfl ⟨⟨_,rfl,rfl,rfl,rfl⟩,trivial⟩) (cV (K:=K) rfl (pv 9)) (λ _ _ _=>(gC 0 ["act","spout_count"])) (λ _ _ _=>cU) (λ _ _ _=>(cB G_is_act hr (aA (pv 0) (aA (pv 1) aB))))) aB)))))))))))),?_⟩
  refine⟨_,rfl,x,g,6,6,rfl,hg,_,rfl,?_⟩;cases e:bK 6 6 g with
  | false=>refine aX ?_;have k:=k H (aG.refl _);rw[AM e] at k;exact k
  | true=>
   refine bM ?_;obtain⟨sz,br,os,ho,sp,ac,rfl⟩:=AV e;obtain⟨a,xs,rfl,q,l⟩:=hg.ut;obtain⟨x1,r,rfl,i1,l⟩:=l.un;obtain⟨x2,r,rfl,i2,l⟩:=l.un;obtain⟨x3,r,rfl,i3,l⟩:=l.un;obtain⟨x4,r,rfl,i4,l⟩:=l.un;obtain⟨x5,r,rfl,i5,l⟩:=l.un;obtain⟨x6,r,rfl,i6,l⟩:=l.un;obtain rfl:=l.un0;refine⟨_,rfl,a,_,rfl,q,rfl,_,_,rfl,_,_,rfl,_,_,rfl,_,_,rfl,_,_,rfl,_,_,rfl,rfl,?_⟩;dsimp only [iL] at k;have kF:∀ b:Bool,b=false->(∀ H',aG H H'->Q (.bl b) H')->Q (.bl false) H:=λ b e k=>by rw[e] at k;exact k H (aG.refl _)
   refine⟨_,rfl,x1,sz,1,60,rfl,i1,_,rfl,?_⟩;cases e1:bZ 1 60 sz with
   | false=>refine aX (aX ?_);exact kF _ (by rw[e1];rfl) k
   | true=>
   refine bM ?_;obtain⟨z,rfl,_⟩:=fA e1;obtain rfl:=i1.ui;refine⟨_,rfl,_,rfl,x2,br,z,200,rfl,i2,_,rfl,?_⟩;cases e2:bZ z 200 br with
   | false=>refine aX ?_;exact kF _ (by rw[e1,show nZ (.int z) br=false from e2];rfl) k
   | true=>
   refine bM ?_;refine⟨_,rfl,x3,os,1,3,rfl,i3,_,rfl,?_⟩;cases e3:bK 1 3 os with
   | false=>refine aX (aX ?_);exact kF _ (by rw[e1,show nZ (.int z) br=true from e2,e3];rfl) k
   | true=>
   refine bM ?_;refine⟨_,rfl,x6,ac,0,3,rfl,i6,_,rfl,?_⟩;cases e4:bK 0 3 ac with
   | false=>refine aX ?_;exact kF _ (by rw[e1,show nZ (.int z) br=true from e2,e3,e4];rfl) k
   | true=>
   refine bM ?_;rw[e1,show nZ (.int z) br=true from e2,e3,e4] at k;simp only [Bool.true_and] at k;cases os with
   | tup os=>
    cases ac with
    | tup ac=>
     obtain⟨oa,oxs,rfl,qo,lo⟩:=i3.ut;obtain⟨ca,cxs,rfl,qc,lc⟩:=i6.ut;simp only [bK,Bool.and_eq_true,decide_eq_true_eq] at e3 e4;dsimp only [mO] at k;refine⟨_,rfl,oa,rfl,⟨_,qo⟩,oG (q:=kB n) (rest:=[some (.int n)]) qo lo rfl (by omega) (λ x g H' Q' s' ig k'=>⟨_,rfl,_,rfl,x,g,n,rfl,ig,k'⟩) λ D1 H1 s1 hD1=>?_⟩;refine⟨false,D1,_,rfl,bO.of hD1,_,rfl,?_⟩;rw[uI];refine dJ (λ h=>?_) (λ h=>?_);rotate_left
     ·rw[Bool.eq_false_iff.mpr h] at k;exact k _ s1
     rw[h] at k;simp only [Bool.true_and] at k;refine⟨_,rfl,_,"bool",ho,rfl,by decide,aO.same s1 i4,_,rfl,?_⟩;rw[show iE ho "bool" = DR ho by cases ho <;> rfl];refine dJ (λ h=>?_) (λ h=>?_);rotate_left
     ·rw[Bool.eq_false_iff.mpr h] at k;exact k _ s1
     rw[h] at k;simp only [Bool.true_and] at k;have fin:∀ H2,aG H H2->(∀ H',aG H H'->Q (.bl (ac.all (jM m))) H')->DP (HV K) (bV (tLC (JD K (cD 9)) [none,some 3] (aW 0) zI (iN (sJ K) [] E0 (bV (cD 0) (bV (cD 1) fP)))) fP) [some (.ref a),some (.int i),some (.int n),some (.int m),some (.int z),some x2,some (.ref oa),some x4,some x5,some (.ref ca)] H2 Q:=λ H2 s2 k2=>by
      refine⟨_,rfl,ca,rfl,⟨_,s2.tup qc⟩,oG (q:=jM m) (rest:=[some (.int m)]) (s2.tup qc) (aY.same s2 lc) rfl (by omega) (λ x g H' Q' s' ig k'=>⟨_,rfl,_,rfl,x,g,m,rfl,ig,k'⟩) λ D2 H3 s3 hD2=>?_⟩;refine⟨false,D2,_,rfl,bO.of hD2,?_⟩;rw[uI];exact k2 _ (s2.trans s3)
     rcases oI i5 with ⟨rfl,rfl⟩ | ⟨n1,n2⟩
     ·refine⟨_,rfl,rfl,_,rfl,tX rfl ⟨_,rfl,aX ?_⟩⟩;exact fin _ s1 k
     ·refine⟨_,rfl,rfl,_,rfl,?_⟩;rw[aau n1];refine bM ⟨_,rfl,_,rfl,_,_,rfl,rfl,_,rfl,_,_,rfl,rfl,x5,sp,i+1,n - 1,rfl,aO.same s1 i5,_,rfl,?_⟩;rw[rS n2] at k;refine dJ (λ h=>?_) (λ h=>?_)
      ·rw[h] at k;exact fin _ s1 k
      ·rw[Bool.eq_false_iff.mpr h] at k;exact k _ s1
    | _=>simp [bK] at e4
   | _=>simp [bK] at e3
theorem yH {g:G} (h:bK 2 2 g=false):fI g=false:=by
 unfold fI;split
 ·simp [bK] at h
 ·rfl
theorem tJ {a b:G}:fI (.tup [a,b])=(bK 1 12 a && bK 0 12 b && zD (mO a).length (mO b).length (mO a) && (mO b).all (jZ (mO a).length)):=by
 cases a with
 | tup vs=>
  cases b with
  | tup ss=>
   simp only [fI,bK,mO];rw[show decide ((1:Int)<=(vs.length:Int))=decide (1<=vs.length) by congr 1;simp;omega,show decide ((vs.length:Int)<=12)=decide (vs.length<=12) by congr 1;simp;omega,show decide ((0:Int)<=(ss.length:Int))=true by simp,show decide ((ss.length:Int)<=12)=decide (ss.length<=12) by congr 1;simp;omega,Bool.true_and]
  | _=>simp [fI,bK]
 | _=>simp [fI,bK]
theorem x9 {f f1 f2 f3:Addr}{fd fd1 fd2 fd3:FuncData} (F:Fun K "is_net" "is_net" (bB 21) f fd) (T:Txt mg) (U:TxtN K mg aw) (G_is_tuple:Callee P w K mg base "is_tuple" ["thing","least","most"] 1 (kU K) f1 fd1)
  (G_is_vessel:Callee P w K mg base "is_vessel" ["thing","number","vessel_count","spout_count"] 3 (mW K) f2 fd2) (G_is_spout:Callee P w K mg base "is_spout" ["thing","vessel_count"] 2 (wQ K) f3 fd3):FnOk P w K mg base hU 4 f fd ["thing"] (kW K):=by
 refine F.ok qV (λ vs H Q E h=>?_) (λ cdv A outer s H vs Q E hr h=>?_)
 ·obtain⟨x,g,rfl,_⟩:=h;rfl
 ·obtain⟨x,g,rfl,hg,k⟩:=h;have sc:=qV;refine⟨_,(aE (bC (bI (bG (cB G_is_tuple hr (aA (pv 0) (aA aF (aA aF aB)))))) (aH (aM cX)) aS)
   (aE (cR (pv 0) (cG (K:=K) (n:=2) rfl rfl (aJ (sQ (i:=1) sc.nd rfl (Or.inr rfl)) (aJ (gL 2 sc.nd) bY))))
   (aE (bC (PW.pt (d4 (bI (bG (cB G_is_tuple hr (aA (pv 1) (aA aF (aA (cE rfl U.g_MOST_VESSELS) aB)))))) (cQ (bI (bG (cB G_is_tuple hr (aA (pv 2) (aA aF (aA (cE rfl U.g_MOST_SPOUTS) aB))))))))) (aH (aM cX)) aS)
   (aE (dS PassesOwn.never rfl (BB (K:=K) rfl rfl T.b_enumerate (aA (pv 1) aB)) (cG (K:=K) (n:=2) rfl rfl (aJ (gL 3 sc.nd) (aJ (gL 4 sc.nd) bY))) (aH (bC (bI (bG (cB G_is_vessel hr (aA (pv 4) (aA (pv 3) (aA (kA K T.b_len (pv 1)) (aA (kA K T.b_len (pv 2)) aB))))))) (aH (aM cX)) aS)))
   (aH (aM (aT (gZ (K:=K) rfl rfl) rfl T.b_all PyProof.Rows.boot_all (aA (gB (λ _ _ h=>h) rfl (LcOk.mk (N':=["spout","vessels"]) (fr:=[none,some 1]) rfl ⟨rfl,trivial⟩ rfl rfl rfl rfl rfl ⟨⟨_,rfl,rfl,rfl,rfl⟩,trivial⟩) (cV (K:=K) rfl (pv 2)) (λ _ _ _=>(gC 0 ["spout","vessels"])) (λ _ _ _=>cU) (λ _ _ _=>(cB G_is_spout hr (aA (pv 0) (aA (kA K T.b_len (pv 1)) aB))))) aB)))))))),?_⟩
  refine⟨_,rfl,x,g,2,2,rfl,hg,_,rfl,?_⟩;cases e:bK 2 2 g with
  | false=>refine aX ?_;have k:=k H (aG.refl _);rw[yH e] at k;exact k
  | true=>
   refine bM ?_;obtain⟨vs,ss,rfl⟩:=mT e;obtain⟨a,xs,rfl,q,l⟩:=hg.ut;obtain⟨x1,r,rfl,i1,l⟩:=l.un;obtain⟨x2,r,rfl,i2,l⟩:=l.un;obtain rfl:=l.un0;refine⟨_,rfl,a,_,rfl,q,rfl,_,_,rfl,_,_,rfl,rfl,?_⟩;rw[tJ] at k;refine⟨_,rfl,x1,vs,1,12,rfl,i1,_,rfl,?_⟩;cases e1:bK 1 12 vs with
   | false=>refine aX (aX ?_);rw[e1] at k;exact k H (aG.refl _)
   | true=>
   refine bM ?_;refine⟨_,rfl,x2,ss,0,12,rfl,i2,_,rfl,?_⟩;cases e2:bK 0 12 ss with
   | false=>refine aX ?_;rw[e1,e2] at k;exact k H (aG.refl _)
   | true=>
   refine bM ?_;rw[e1,e2] at k;simp only [Bool.true_and] at k;cases vs with
   | tup vs=>
    cases ss with
    | tup ss=>
     obtain⟨va,vxs,rfl,qv,lv⟩:=i1.ut;obtain⟨sa,sxs,rfl,qs,ls⟩:=i2.ut;simp only [bK,Bool.and_eq_true,decide_eq_true_eq] at e1 e2;dsimp only [mO] at k;have evl:=lv.length;have esl:=ls.length;refine⟨_,rfl,true,va,rfl,⟨_,qv⟩,D8 (K:=K) (xs:=vxs) (λ i aa H'=>aG H H'/\(∀ (j:Nat) g,j < i->vs[j]? = some g->iL j vs.length ss.length g=true)/\∃ v3 v4,aa=[some (.ref a),some (.ref va),some (.ref sa),v3,v4]) (λ i aa H' h=>h.1.tup qv) ⟨aG.refl _,λ j g h=>absurd h (ace _),_,_,rfl⟩ ?_ ?_⟩
     ·rintro aa H1 ⟨s1,hall,v3,v4,rfl⟩;rw[iM.mpr λ i g hg=>hall i g (by have:=(aai.mp hg).1;omega) hg] at k;simp only [Bool.true_and] at k;refine⟨_,rfl,sa,rfl,⟨_,s1.tup qs⟩,oG (q:=jZ vs.length) (rest:=[some (.ref va)]) (s1.tup qs) (aY.same s1 ls) rfl (by omega) (λ x g H' Q' s' ig k'=>⟨_,rfl,_,rfl,va,vxs,rfl,.inr ((s1.trans s').tup qv),x,g,_,rfl,ig,by rw[evl];exact k'⟩) λ D2 H3 s3 hD2=>?_⟩;refine⟨false,D2,_,rfl,bO.of hD2,?_⟩;rw[uI];exact k _ (s1.trans s3)
     ·rintro i xi aa H1 Tt hxi ⟨s1,hall,v3,v4,rfl⟩ hTt;obtain⟨g,hg,ig⟩:=lv.get' hxi;have s2:=aG.new (o:=HO.tup [.int (i:Int),xi]) hTt;refine⟨Tt,_,rfl,bU.of aD,rfl,_,_,rfl,_,_,rfl,rfl,?_⟩;generalize upd H1 Tt (HO.tup [.int (i:Int),xi])=H2 at s2 ⊢;have s12:=s1.trans s2;refine⟨_,rfl,_,rfl,_,rfl,va,vxs,rfl,.inr (s12.tup qv),_,rfl,sa,sxs,rfl,.inr (s12.tup qs),xi,g,i,_,_,rfl,aO.same s12 ig,λ H3 s3=>⟨_,rfl,?_⟩⟩;rw[evl,esl];cases e:iL i vs.length ss.length g with
      | false=>
       refine aX ?_;rw[oP hg e] at k;exact k _ (s12.trans s3)
      | true=>
       refine bM ?_;refine⟨s12.trans s3,λ j g' hj hg'=>?_,_,_,rfl⟩;rcases (show j < i\/j=i by omega) with z | rfl
       ·exact hall j g' z hg'
       ·rw[hg] at hg';cases hg';exact e
    | _=>simp [bK] at e2
   | _=>simp [bK] at e1
end
structure TxtF (mg:Str->Option Value):Prop where
 g_MOST_FIGURES:∃ u,mg "MOST_FIGURES" = some u/\bF (.int 9) u
def sD:Sp:=λ vs H Q _=>∃ x:Str,vs=[.str x]/\eA x/\x.length<=1000000/\Q (.bl (cP x).isSome) H
theorem lS:FnScope ["word"] ["word"] (aK (bB 42)):={}
theorem sV {f:Addr}{fd:FuncData} (F:Fun K "is_number" "is_number" (bB 42) f fd) (T:Txt mg) (TS:TxtS mg) (UF:TxtF mg):FnOk P w K mg base hU 1 f fd ["word"] sD:=by
 refine F.ok lS (λ vs H Q E h=>?_) (λ cdv A outer s H vs Q E hr h=>?_)
 ·obtain⟨x,rfl,_⟩:=h;rfl
 ·obtain⟨x,rfl,ha,hl,k⟩:=h;have sc:=lS;refine⟨_,(aH (aM (eL (ID (K:=K) rfl PySem.F.slot_str_isdecimal PySem.F.type_str_isdecimal BW (pv 0)) (eL (d2 jD (aT gY rfl T.b_len ach (aA (pv 0) aB)) (cE rfl UF.g_MOST_FIGURES) (aP _)) (gA (d2 d5 (aR dY rfl TS.b_str dU (aA (aR nK rfl T.b_int eU (aA (pv 0) aB)) aB)) (pv 0) (aP _))))))),?_⟩;refine⟨_,rfl,rfl,x,rfl,rfl,?_⟩;rcases B0 ha with ⟨h1,h2⟩ | ⟨h1,h2,h3⟩ | ⟨n,h1,h2,h3,h4,h5,h6⟩
  ·rw[h2] at k;rw[h1];exact⟨_,rfl,bM k⟩
  ·rw[h3] at k;rw[h1];exact⟨_,rfl,aX ⟨_,rfl,x,rfl,hl,_,_,rfl,rfl,_,rfl,dJ (λ z=>absurd (aax z) (by omega)) λ _=>k⟩⟩
  ·rw[h6] at k;rw[h1];refine⟨_,rfl,aX ⟨_,rfl,x,rfl,hl,_,_,rfl,rfl,_,rfl,tX (by omega) ?_⟩⟩;refine⟨_,rfl,x,n,rfl,h3,by omega,.int n,aV n,rfl,eO h4 h5,_,rfl,rfl,?_⟩;rw[show decide (V.str (aV n)=V.str x)=decide (aV n=x) by simp];exact k
def jO (c:Addr):Sp:=λ vs H Q E=>∃ x:Str,vs=[.str x]/\eA x/\x.length<=1000000/\(∀ n,cP x=some n->Q (.int n) H)/\(cP x=none->E (.ref c) none H)
theorem iW:FnScope ["word"] ["word"] (aK (bB 41)):={}
theorem pG {f f1:Addr}{fd fd1:FuncData} (F:Fun K "read_number" "read_number" (bB 41) f fd) (T:Txt mg) (XC_NoText:ExC K "NoText" c_NoText) (G_is_number:Callee P w K mg base "is_number" ["word"] 1 sD f1 fd1):FnOk P w K mg base (uM P w) 2 f fd ["word"] (jO c_NoText):=by
 refine F.okR iW (λ vs H Q E h=>?_) (λ cdv A outer s H vs Q E hr h L=>?_)
 ·obtain⟨x,rfl,_⟩:=h;rfl
 ·obtain⟨x,rfl,ha,hl,k1,k2⟩:=h;have sc:=iW;refine⟨_,(aE (bC (bI (bG (cB G_is_number hr (aA (pv 0) aB)))) (aH (jA L rfl rfl XC_NoText.exc XC_NoText.ns PySem.F.excBase_ValueError (aA aI aB))) aS)
   (aH (aM (aR nK rfl T.b_int eU (aA (pv 0) aB))))),?_⟩
  refine⟨_,rfl,x,rfl,ha,hl,_,rfl,?_⟩;cases e:cP x with
  | none=>exact⟨(show 1<=100 by decide),k2 e⟩
  | some n=>
   obtain⟨h0,h1,h2,h3⟩:=B1 ha e;exact⟨_,rfl,x,n,rfl,h2,by omega,k1 n e⟩
def sB (c:Addr):Sp:=λ vs H Q E=>∃ x:Str,vs=[.str x]/\eA x/\x.length<=1000000/\(∀ n,m7 x=some n->Q (gP n) H)/\(m7 x=none->E (.ref c) none H)
theorem iV:FnScope ["word"] ["word"] (aK (bB 40)):={}
theorem pF {f f1:Addr}{fd fd1:FuncData} (F:Fun K "read_target" "read_target" (bB 40) f fd) (T:Txt mg) (G_read_number:CalleeR P w K mg base "read_number" ["word"] 2 (jO c_NoText) f1 fd1):FnOk P w K mg base (uM P w) 3 f fd ["word"] (sB c_NoText):=by
 refine F.okR iV (λ vs H Q E h=>?_) (λ cdv A outer s H vs Q E hr h L=>?_)
 ·obtain⟨x,rfl,_⟩:=h;rfl
 ·obtain⟨x,rfl,ha,hl,k1,k2⟩:=h;have sc:=iV;refine⟨_,(aH (aM (jC (aQ d5 (pv 0) aI (aP _)) d8 (dH G_read_number.ok (hr.mono (by decide)) rfl G_read_number.mg G_read_number.kp G_read_number.bd .nil (dP L) (aA (pv 0) aB))))),?_⟩;refine⟨_,rfl,rfl,_,rfl,?_⟩
  by_cases hx:x = "ground"
  ·subst hx;refine tX rfl ?_;exact k1 none rfl
  ·refine dJ (λ z=>?_) λ _=>?_
   ·exact absurd (aax z) (λ z=>hx (by cases z;rfl))
   ·have e:m7 x=(cP x).map some:=if_neg hx;refine⟨_,rfl,x,rfl,ha,hl,λ n hn=>k1 (some n) (by rw[e,hn];rfl),λ hn=>k2 (by rw[e,hn];rfl)⟩
def sC (K:aaa) (c:Addr):Sp:=λ vs H Q E=>∃ (l:Addr) (x1 x2 x3:Str),vs=[.ref l]/\H l=some (.lst [.str x1,.str x2,.str x3])/\eA x1/\eA x2/\x1.length<=1000000/\x2.length<=1000000/\(∀ sp p H',uV [x1,x2,x3]=some sp->aG H H'->Is K H' (qB sp) p->Q p H')/\(uV [x1,x2,x3]=none->E (.ref c) none H)
theorem kK:FnScope ["words","target","flow","door"] ["words"] (aK (bB 39)):={}
theorem qD {f f1:Addr}{fd fd1:FuncData} (F:Fun K "read_spout" "read_spout" (bB 39) f fd) (T:Txt mg) (G_read_number:CalleeR P w K mg base "read_number" ["word"] 2 (jO c_NoText) f1 fd1):FnOk P w K mg base (uM P w) 3 f fd ["words"] (sC K c_NoText):=by
 refine F.okR kK (λ vs H Q E h=>?_) (λ cdv A outer s H vs Q E hr h L=>?_)
 ·obtain⟨l,x1,x2,x3,rfl,_⟩:=h;rfl
 ·obtain⟨l,x1,x2,x3,rfl,hl,a1,a2,l1,l2,k1,k2⟩:=h;have sc:=kK;refine⟨_,(aE (cR (pv 0) (y6 (K:=K) (n:=3) rfl rfl (aJ (gL 1 sc.nd) (aJ (gL 2 sc.nd) (aJ (gL 3 sc.nd) bY)))))
   (aH (aM (bQ (aA (dH G_read_number.ok (hr.mono (by decide)) rfl G_read_number.mg G_read_number.kp G_read_number.bd .nil (dP L) (aA (pv 1) aB)) (aA (dH G_read_number.ok (hr.mono (by decide)) rfl G_read_number.mg G_read_number.kp G_read_number.bd .nil (dP L) (aA (pv 2) aB)) (aA (d2 d5 (pv 3) aI (aP _)) aB))))))),?_⟩
  refine⟨_,rfl,l,_,rfl,bO.of hl,rfl,_,_,rfl,_,_,rfl,_,_,rfl,rfl,?_⟩;dsimp only [bL];refine⟨_,rfl,x1,rfl,a1,l1,λ n hn=>?_,λ hn=>k2 (by rw[sM,hn];rfl)⟩;refine⟨_,rfl,x2,rfl,a2,l2,λ m hm=>?_,λ hm=>k2 (by rw[sM,hn,hm];rfl)⟩;refine⟨_,rfl,rfl,(show 3<=sizeLine by decide),λ p hp=>?_⟩;have e:decide (V.str x3=V.str "open")=decide (x3 = "open"):=by simp
  refine k1 (n,m,decide (x3 = "open")) _ _ (by rw[sM,hn,hm];rfl) (aG.new hp) (Is.tupOf (bU.of aD) (.cons (Is.i _) (.cons (Is.i _) (.cons ?_ .nil))));rw[e];exact Is.b _
def oW (K:aaa) (c:Addr):Sp:=λ vs H Q E=>∃ x:Str,vs=[.str x]/\eA x/\x.length<=100000/\(∀ as p H',j8 x=some as->aG H H'->Is K H' (.tup (as.map fF)) p->Q p H')/\(j8 x=none->∀ H',aG H H'->E (.ref c) none H')
theorem lQ:FnScope ["act_words","acts","act_word","word","sign","spout"] ["act_words"] (aK (bB 38)):={}
theorem sR {f f1:Addr}{fd fd1:FuncData} (F:Fun K "read_acts" "read_acts" (bB 38) f fd) (T:Txt mg) (G_read_number:CalleeR P w K mg base "read_number" ["word"] 2 (jO c_NoText) f1 fd1):FnOk P w K mg base (uM P w) 3 f fd ["act_words"] (oW K c_NoText):=by
 refine F.okR lQ (λ vs H Q E h=>?_) (λ cdv A outer s H vs Q E hr h L=>?_)
 ·obtain⟨x,rfl,_⟩:=h;rfl
 ·obtain⟨x,rfl,ha,hl,k1,k2⟩:=h;have sc:=lQ;refine⟨_,(aE (bC (aQ d5 (pv 0) aI (aP _)) (aH (aM (bQ aB))) aS)
   (aE (pL 1 sc.nd (aZ aB))
   (aE (dS PassesOwn.leaving rfl (eG (K:=K) rfl (dC (K:=K) rfl PySem.F.slot_str_split PySem.F.type_str_split dM (pv 0) (aA aI aB))) (gL 2 sc.nd) (aE (cR (dC (K:=K) rfl PySem.F.slot_str_partition PySem.F.type_str_partition mF (pv 2) (aA aI aB)) (cG (K:=K) (n:=3) rfl rfl (aJ (gL 3 sc.nd) (aJ (gL 4 sc.nd) (aJ (gL 5 sc.nd) bY)))))
   (aH (dG (eC (K:=K) rfl aat abe abf cM (pv 1) (aA (bQ (aA (pv 3) (aA (dH G_read_number.ok (hr.mono (by decide)) rfl G_read_number.mg G_read_number.kp G_read_number.bd .nil (dP L) (aA (pv 5) aB)) aB))) aB))))))
   (aH (aM (aR (cO (K:=K) rfl) rfl T.b_tuple bS (aA (pv 1) aB))))))),?_⟩
  refine⟨_,rfl,rfl,_,rfl,?_⟩
  by_cases hx:x = "-"
  ·subst hx;refine tX rfl ⟨abk _,λ p hp=>?_⟩;exact k1 [] _ _ rfl (aG.new hp) (Is.tupOf (bU.of aD) .nil)
  ·refine dJ (λ z=>absurd (aax z) (λ z=>hx (by cases z;rfl))) λ _=>?_;have e:j8 x=dB m9 (Txt.split x (one 44)):=if_neg hx;have hw:∀ y∈Txt.split x (one 44),eA y/\y.length<=100000:=λ y hy=>⟨dN ha hy,abn (PyProof.Rows.part_short hy) hl⟩;have hsl:=dX x (one 44) (by decide);rw[e] at k1 k2;generalize hws:Txt.split x (one 44)=ws at k1 k2 hw hsl;refine⟨abk _,λ al hal=>?_⟩;refine⟨_,rfl,rfl,x,",",rfl,rfl,by decide,by omega,λ sp hsp=>?_⟩;rw[G3,hws];have nas:al≠sp:=aL (show upd H al (.lst []) al=_ from aD) hsp;have fs:H sp=none:=(aG.new hal).free hsp;have s1:aG H (upd (upd H al (.lst [])) sp (.lst (ws.map V.str))):=(aG.new hal).trans (aG.new hsp);have g1:upd (upd H al (.lst [])) sp (.lst (ws.map V.str)) al=some (.lst []):=by rw[aN nas];exact aD
   have g2:upd (upd H al (.lst [])) sp (.lst (ws.map V.str)) sp=some (.lst (ws.map V.str)):=aD;generalize upd (upd H al (.lst [])) sp (.lst (ws.map V.str))=H1 at s1 g1 g2 ⊢;refine⟨sp,rfl,⟨_,bO.of g2⟩,jK (K:=K) (a:=sp) (xs:=ws.map V.str) (λ i aa H'=>aG H H'/\H' sp=some (.lst (ws.map V.str))/\(∃ as us,dB m9 (ws.take i)=some as/\as.length<=i/\H' al=some (.lst us)/\IsL K H' (as.map fF) us)/\
    ∃ v2 v3 v4 v5,aa=[some (.str x),some (.ref al),v2,v3,v4,v5]) ⟨s1,g2,⟨[],[],rfl,aag _,g1,.nil⟩,_,_,_,_,rfl⟩ ?_ ?_ ?_⟩
   ·rintro i aa H2 _ ⟨_,h2,_⟩;exact bO.of h2
   ·rintro i y aa H2 hy ⟨s2,hsp2,⟨as,us,er,ail,hal2,lu⟩,v2,v3,v4,v5,rfl⟩;rw[aap] at hy;obtain⟨y,hyw,rfl⟩:=abd.mp hy;have hyi:i < ws.length:=(aai.mp hyw).1;obtain⟨ya,yl⟩:=hw y (aad hyw);obtain⟨pa1,pa2⟩:=mR (c:=46) ya;obtain⟨pl1,pl2⟩:=mI (c:=46) (x:=y);have eul:us.length=as.length:=by rw[lu.length,aab]
    dsimp only [aW];refine⟨_,rfl,rfl,y,".",rfl,rfl,by decide,by omega,λ p hp=>?_⟩;rw[w_p];have s3:=aG.new (o:=HO.tup [.str (Txt.partition y (one 46)).1,.str (Txt.partition y (one 46)).2.1,.str (Txt.partition y (one 46)).2.2]) hp;refine⟨p,_,rfl,bU.of aD,rfl,_,_,rfl,_,_,rfl,_,_,rfl,rfl,?_⟩;dsimp only [bL];have hal3:=s3 _ _ hal2;have hsp3:=s3 _ _ hsp2;have lu3:=L2.IsL.mono s3.ts _ _ lu;have s23:=s2.trans s3;generalize upd H2 p (.tup [.str (Txt.partition y (one 46)).1,.str (Txt.partition y (one 46)).2.1,.str (Txt.partition y (one 46)).2.2])=H3 at s3 hal3 hsp3 lu3 s23 ⊢;refine⟨_,rfl,.inl ⟨rfl,_,bO.of hal3⟩,_,rfl,_,rfl,_,rfl,pa2,by omega,λ n hn=>?_,λ hn=>k2 (hX (show m9 y=none by unfold m9;rw[hn];rfl) (aad hyw)) _ s23⟩;refine⟨(show 2<=sizeLine by decide),λ q hq=>⟨al,us,_,rfl,rfl,aG.new hq _ _ hal3,eQ (by omega),?_⟩⟩;have s4:=aG.new (o:=HO.tup [.str (Txt.partition y (one 46)).1,.int n]) hq;have q4:bU K (upd H3 q (.tup [.str (Txt.partition y (one 46)).1,.int n])) q [.str (Txt.partition y (one 46)).1,.int n]:=bU.of aD;have hal4:=s4 _ _ hal3;have hsp4:=s4 _ _ hsp3;generalize upd H3 q (.tup [.str (Txt.partition y (one 46)).1,.int n])=H4 at s4 q4 hal4 hsp4 ⊢;have b5:dQ al H4 (upd H4 al (.lst (us++[.ref q]))):=dQ.upd;have ts5:=b5.ts (K:=K) (by rw[hal4];exact trivial);refine⟨(s23.trans s4).put hal,b5 _ _ (Ne.symm nas) hsp4,⟨as++[((Txt.partition y (one 46)).1,n)],us++[.ref q],?_,by rw[aao,acp];omega,aD,?_⟩,_,_,_,_,rfl⟩
    ·rw[cL hyw];exact hW er (show m9 y=_ by unfold m9;rw[hn];rfl)
    ·rw[aaj];exact L2.IsL.snoc (Is.mono ts5 _ _ (Is.tupOf q4 (.cons (Is.s _) (.cons (Is.i _) .nil)))) (L2.IsL.mono (s4.ts.trans ts5) _ _ lu3)
   ·rintro aa H2 ⟨s2,hsp2,⟨as,us,er,ail,hal2,lu⟩,v2,v3,v4,v5,rfl⟩;rw[aab,aar (aag _)] at er;refine⟨_,rfl,al,us,rfl,.inl ⟨bO.of hal2,λ p hp=>?_⟩⟩;have s3:=aG.new (o:=HO.tup us) hp;exact k1 as _ _ er (s2.trans s3) (Is.tupOf (bU.of aD) (L2.IsL.mono s3.ts _ _ lu))
mutual
theorem rR:∀ {a b:L2.D},dO a=dO b->a=b
 | .non,b,h=>by cases b <;> simp [dO] at h ⊢
 | .bl x,b,h=>by cases b <;> simp [dO] at h ⊢;exact h
 | .int x,b,h=>by cases b <;> simp [dO] at h ⊢;exact h
 | .str x,b,h=>by cases b <;> simp [dO] at h ⊢;exact h
 | .tup x,b,h=>by
  cases b with
  | tup y=>simp [dO] at h;rw[uS h]
  | _=>simp [dO] at h
theorem uS:∀ {a b:List L2.D},cW a=cW b->a=b
 | [],b,h=>by cases b <;> simp [cW] at h ⊢
 | x::a,b,h=>by
  cases b with
  | nil=>simp [cW] at h
  | cons y b=>simp [cW] at h;rw[rR h.1,uS h.2]
end
theorem mH {ae:Type}{f:ae->L2.D} (hf:∀ a b,f a=f b->a=b):∀ {l m:List ae},l.map f=m.map f->l=m
 | [],m,h=>by cases m <;> simp at h ⊢
 | x::l,m,h=>by
  cases m with
  | nil=>simp at h
  | cons y m=>simp only [aaq,List.cons.injEq] at h;rw[hf _ _ h.1,mH hf h.2]
theorem xW {a b:Option Int} (h:kT a=kT b):a=b:=by cases a <;> cases b <;> simp [kT] at h ⊢;exact h
theorem vH {a b:Net} (h:eH a=eH b):a=b:=by
 simp only [eH,L2.D.tup.injEq,List.cons.injEq,and_true] at h;have h1:a.vs=b.vs:=mH (f:=o0) (λ v u e=>by
  simp only [o0,L2.D.tup.injEq,List.cons.injEq,L2.D.int.injEq,L2.D.bl.injEq,and_true] at e;obtain⟨e1,e2,e3,e4,e5,e6⟩:=e;have e3:=mH (f:=i8) (λ o p q=>by
   simp only [i8,L2.D.tup.injEq,List.cons.injEq,L2.D.int.injEq,and_true] at q;exact Prod.ext (xW q.1) q.2) e3
  have e6:=mH (f:=fF) (λ o p q=>by
   simp only [fF,L2.D.tup.injEq,List.cons.injEq,L2.D.int.injEq,L2.D.str.injEq,and_true] at q;exact Prod.ext q.1 q.2) e6
  cases v;cases u;simp only [Vs.mk.injEq];exact⟨e1,e2,e3,e4,xW e5,e6⟩) h.1
 have h2:a.sps=b.sps:=mH (f:=qB) (λ v u e=>by
  simp only [qB,L2.D.tup.injEq,List.cons.injEq,L2.D.int.injEq,L2.D.bl.injEq,and_true] at e;exact Prod.ext e.1 (Prod.ext e.2.1 e.2.2)) h.2
 cases a;cases b;simp only at h1 h2;rw[h1,h2]
theorem gT {net:Net} (ok:NetOk net) (fu:NetFull net):NetIn net where
 ne:=λ z=>by have:=ok.lo;rw[z] at this;exact absurd this (by decide)
 v12:=ok.hi
 s12:=ok.sp
 vs:=λ v hv=>by
  obtain⟨i,hi⟩:=abw.1 hv;have a:=ok.vs v hv;have b:=fu.vs i v hi;have h12:=ok.hi;have s12:=ok.sp;have:=a.size;have:=b.sz;have:=b.br;have:=b.bh;exact⟨by omega,by omega,by omega,by omega,a.ne,λ o ho=>⟨λ t e=>by have:=(a.outs o ho).tg t e;omega,by have:=(a.outs o ho).lo;omega,by have:=(a.outs o ho).hi;omega⟩,λ t e=>by have:=a.spill t e;omega,
   λ c hc=>⟨(a.acts c hc).word,(a.acts c hc).lo,by have:=(a.acts c hc).hi;omega⟩,a.o3,a.a3⟩
 sps:=λ s hs=>by
  have a:=ok.sps s hs;have b:=fu.sps s hs;have h12:=ok.hi;exact⟨by omega,by omega,by omega,by omega⟩
theorem tK {net:Net} (h:fI (dO (eH net))=true):NetOk net/\NetFull net:=by
 obtain⟨n,e,ok,fu⟩:=tI h;obtain rfl:=vH (rR e);exact⟨ok,fu⟩
theorem xQ {ae:Type}{f:ae->L2.D}{q:G->Bool}{as:List ae} (h:∀ a∈as,q (dO (f a))=true):(cW (as.map f)).all q=true:=by
 rw[lL,acd,List.all_map,abl];exact λ a ha=>h a ha
theorem fX {lo hi n:Int} (h1:lo<=n) (h2:n<=hi):bZ lo hi (.int n)=true:=by simp [bZ,h1,h2]
theorem GA {lo hi:Int}{t:Option Int} (h:∀ n,t=some n->lo<=n/\n<=hi):DO lo hi (dO (kT t))=true:=by
 cases t with
 | none=>simp [kT,dO,DO]
 | some n=>simp only [kT,dO,DO];exact fX (h n rfl).1 (h n rfl).2
theorem tL {net:Net} (ok:NetOk net) (fu:NetFull net):fI (dO (eH net))=true:=by
 have e:dO (eH net)=.tup [.tup (cW (net.vs.map o0)),.tup (cW (net.sps.map qB))]:=by simp [eH,dO,cW]
 rw[e];have lv:(cW (net.vs.map o0)).length=net.vs.length:=by rw[gQ,aab]
 have ls:(cW (net.sps.map qB)).length=net.sps.length:=by rw[gQ,aab]
 unfold fI;simp only [Bool.and_eq_true,decide_eq_true_eq,lv,ls];refine⟨⟨⟨⟨ok.lo,ok.hi⟩,ok.sp⟩,?_⟩,xQ λ s hs=>?_⟩
 ·rw[iM];intro i g hg;rw[lL,acd,aap] at hg;obtain⟨v,hv,rfl⟩:=abd.mp hg;have a:=ok.vs v (aad hv);have b:=fu.vs i v hv;have on:1<=v.outs.length:=List.length_pos_iff.mpr a.ne;have e2:(dO ∘ o0) v=.tup [.int v.size,.int v.brim,.tup (cW (v.outs.map i8)),.bl v.holds,dO (kT v.spill),.tup (cW (v.acts.map fF))]:=by simp [o0,dO,cW]
  rw[e2];unfold iL;simp only [Bool.and_eq_true];have o3:=a.o3;have a3:=a.a3;refine⟨⟨⟨⟨⟨⟨⟨fX a.size b.sz,fX b.br b.bh⟩,?_⟩,?_⟩,xQ λ o ho=>?_⟩,rfl⟩,GA λ n e=>?_⟩,xQ λ c hc=>?_⟩
  ·simp only [bK,gQ,aab,Bool.and_eq_true,decide_eq_true_eq];omega
  ·simp only [bK,gQ,aab,Bool.and_eq_true,decide_eq_true_eq];omega
  ·have:=a.outs o ho;have e3:dO (i8 o)=.tup [dO (kT o.1),.int o.2]:=by simp [i8,dO,cW]
   rw[e3];unfold kB;rw[Bool.and_eq_true];exact⟨GA λ n e=>by have:=this.tg n e;omega,fX this.lo this.hi⟩
  ·have:=b.sp n e;have:=a.spill n e;omega
  ·have:=a.acts c hc;have e3:dO (fF c)=.tup [.str c.1,.int c.2]:=by simp [fF,dO,cW]
   rw[e3];unfold jM;rw[Bool.and_eq_true];refine⟨?_,fX this.lo (by have:=this.hi;omega)⟩;rcases this.word with e | e | e <;> rw[e] <;> simp [A0,fW,bJ]
 ·have a:=ok.sps s hs;have b:=fu.sps s hs;have e3:dO (qB s)=.tup [.int s.1,.int s.2.1,.bl s.2.2]:=by simp [qB,dO,cW]
  rw[e3];unfold jZ;rw[Bool.and_eq_true,Bool.and_eq_true];exact⟨⟨fX a.1 (by omega),fX b.1 b.2⟩,rfl⟩
def sN:G->Option Net
 | .str x=>(m8 x).bind λ n=>if fI (dO (eH n))=true/\fE n=x then some n else none
 | _=>none
theorem E9 {net:Net} (ok:NetOk net) (fu:NetFull net):sN (.str (fE net))=some net:=by
 show (m8 (fE net)).bind _=_;rw[zM (gT ok fu)];exact if_pos ⟨tL ok fu,rfl⟩
theorem hJ {c:Nat} (hc:c < 128):∀ {l:List Str},(∀ a∈l,eA a)->eA (Str.join (one c) l)
 | [],_=>λ c hc=>absurd hc (by simp [sg,Str.join,Str.empty])
 | [x],h=>h x (by simp)
 | x::y::r,h=>λ d hd=>by
  rw[eR] at hd;rcases aba.mp hd with h1 | h1
  ·exact h x (by simp) d h1
  ·rcases aaz.mp h1 with rfl | h1
   ·exact hc
   ·exact hJ hc (l:=y::r) (λ a ha=>h a (aam _ ha)) d h1
theorem oN {a b:Str} (ha:eA a) (hb:eA b):eA (a++b):=λ c hc=>by
 rw[eS] at hc;rcases aba.mp hc with h | h
 ·exact ha c h
 ·exact hb c h
theorem iF {n:Int} (h0:0<=n):eA (aV n):=λ c hc=>by have:=eM h0 c hc;omega
theorem yW {c:Nat} (h:c < 128):eA (one c):=λ d hd=>by
 have:d=c:=(by simpa [sg,one] using hd);rw[this];exact h
theorem wB {t:Option Int} (h:qI t):eA (bT t):=by
 cases t with
 | none=>exact (by decide +kernel:∀ c∈sg (Str.ofString "ground"),c < 128)
 | some i=>exact iF (h i rfl).1
theorem DI {os:List (Option Int×Int)} (h:∀ o∈os,OutIn o):eA (cK os):=hJ (by decide) λ a ha=>by
 obtain⟨o,ho,rfl⟩:=aay.mp ha;exact oN (oN (wB (h o ho).tg) (yW (by decide))) (iF (h o ho).lo)
theorem DJ {as:List (Str×Int)} (h:∀ a∈as,ActIn a):eA (dA as):=by
 unfold dA
 split
 ·exact (by decide +kernel:∀ c∈sg (Str.ofString "-"),c < 128)
 ·exact hJ (by decide) λ a ha=>by
   obtain⟨o,ho,rfl⟩:=aay.mp ha;exact oN (oN (λ c hc=>by have:=(h o ho).sg c hc;omega) (yW (by decide))) (iF (h o ho).lo)
theorem FW {n:Net} (h:NetIn n):eA (fE n):=hJ (by decide) λ a ha=>by
 rcases aba.mp ha with ha | ha
 ·obtain⟨v,hv,rfl⟩:=aay.mp ha;have hv:=h.vs v hv;refine hJ (by decide) λ w hw=>?_;simp only [jY,aaz,abp,or_false] at hw;rcases hw with rfl | rfl | rfl | rfl | rfl | rfl | rfl
  ·exact (by decide +kernel:∀ c∈sg (Str.ofString "vessel"),c < 128)
  ·exact iF hv.s0
  ·exact iF hv.b0
  ·exact DI hv.os
  ·cases v.holds
   ·exact (by decide +kernel:∀ c∈sg (Str.ofString "loses"),c < 128)
   ·exact (by decide +kernel:∀ c∈sg (Str.ofString "holds"),c < 128)
  ·exact wB hv.sp
  ·exact DJ hv.as
 ·obtain⟨s,hs,rfl⟩:=aay.mp ha;have hv:=h.sps s hs;refine hJ (by decide) λ w hw=>?_;simp only [lO,aaz,abp,or_false] at hw;rcases hw with rfl | rfl | rfl | rfl
  ·exact (by decide +kernel:∀ c∈sg (Str.ofString "spout"),c < 128)
  ·exact iF hv.t0
  ·exact iF hv.f0
  ·cases s.2.2
   ·exact (by decide +kernel:∀ c∈sg (Str.ofString "shut"),c < 128)
   ·exact (by decide +kernel:∀ c∈sg (Str.ofString "open"),c < 128)
theorem lP (x:Str) (c:Nat):Txt.split x (one c)≠[]:=λ z=>by
 unfold Txt.split at z
 split at z
 ·cases z
 ·split at z
  ·cases z
  ·rw[StrLaws.partsBetween_eq] at z;obtain⟨p,r,e⟩:=StrLaws.partsFrom_ne x (one c).length 0 (Builtin.Str.occurrences x (one c) 0 x.length (x.length+1));rw[e] at z;cases z
theorem len6 {ae:Type}{l:List ae} (h:l.length=6):∃ a b c d e f,l=[a,b,c,d,e,f]:=by
 match l,h with
 | [a,b,c,d,e,f],_=>exact⟨a,b,c,d,e,f,rfl⟩
theorem len3 {ae:Type}{l:List ae} (h:l.length=3):∃ a b c,l=[a,b,c]:=by
 match l,h with
 | [a,b,c],_=>exact⟨a,b,c,rfl⟩
theorem AR {σ:St}{H:Hp}{Q:Bool->Hp->Prop}{z kw:Str}{q:Addr}{xs:List V}{n:Int} (h4:σ[4]? = some (some (.str z))) (h5:σ[5]? = some (some (.ref q))) (hq:H q=some (.lst xs)) (k:Q (decide (z=kw/\(xs.length:Int)=n)) H) :
  HE (lM (fJ JW (cD 4) (tC (.str kw)))) (lM (fJ JW (DP (B6 K) (bV (cD 5) fP)) (tC (.int n)))) σ H Q:=by
 refine⟨_,h4,rfl,_,rfl,?_⟩
 by_cases e:z=kw
 ·subst e;refine tX rfl ⟨_,h5,q,xs,rfl,.inl (bO.of hq),rfl,_,rfl,?_⟩;have:decide (V.int (xs.length:Int)=V.int n)=decide (z=z/\(xs.length:Int)=n):=by simp
  rw[this];exact k
 ·refine dJ (λ h=>absurd (aax h) λ h=>e (by cases h;rfl)) λ _=>?_;rw[aau (λ h=>e h.1)] at k;exact k
def sA (K:aaa) (c:Addr):Sp:=λ vs H Q E=>∃ (l:Addr) (ws:List Str),vs=[.ref l]/\H l=some (.lst (ws.map V.str))/\ws.length=6/\(∀ x∈ws,eA x/\x.length<=100000)/\(∀ v p H',qX ws=some v->aG H H'->Is K H' (o0 v) p->Q p H')/\(qX ws=none->∀ H',aG H H'->E (.ref c) none H')
theorem iU:FnScope ["words","size","brim","out_words","holds_word","spill","act_words","outs","out_word","target","sign","parts"] ["words"] (aK (bB 37)):={}
theorem pE {f f1 f2 f3:Addr}{fd fd1 fd2 fd3:FuncData} (F:Fun K "read_vessel" "read_vessel" (bB 37) f fd) (T:Txt mg) (G_read_number:CalleeR P w K mg base "read_number" ["word"] 2 (jO c_NoText) f1 fd1) (G_read_target:CalleeR P w K mg base "read_target" ["word"] 3 (sB c_NoText) f2 fd2)
  (G_read_acts:CalleeR P w K mg base "read_acts" ["act_words"] 3 (oW K c_NoText) f3 fd3):FnOk P w K mg base (uM P w) 4 f fd ["words"] (sA K c_NoText):=by
 refine F.okR iU (λ vs H Q E h=>?_) (λ cdv A outer s H vs Q E hr h L=>?_)
 ·obtain⟨x,ws,rfl,_⟩:=h;rfl
 ·obtain⟨l,ws,rfl,hl,h6,hw,k1,k2⟩:=h;have sc:=iU;refine⟨_,(aE (cR (pv 0) (y6 (K:=K) (n:=6) rfl rfl (aJ (gL 1 sc.nd) (aJ (gL 2 sc.nd) (aJ (gL 3 sc.nd) (aJ (gL 4 sc.nd) (aJ (gL 5 sc.nd) (aJ (gL 6 sc.nd) bY))))))))
   (aE (pL 7 sc.nd (aZ aB))
   (aE (dS PassesOwn.leaving rfl (eG (K:=K) rfl (dC (K:=K) rfl PySem.F.slot_str_split PySem.F.type_str_split dM (pv 3) (aA aI aB))) (gL 8 sc.nd) (aE (cR (dC (K:=K) rfl PySem.F.slot_str_partition PySem.F.type_str_partition mF (pv 8) (aA aI aB)) (cG (K:=K) (n:=3) rfl rfl (aJ (gL 9 sc.nd) (aJ (gL 10 sc.nd) (aJ (gL 11 sc.nd) bY)))))
   (aH (dG (eC (K:=K) rfl aat abe abf cM (pv 7) (aA (bQ (aA (dH G_read_target.ok (hr.mono (by decide)) rfl G_read_target.mg G_read_target.kp G_read_target.bd .nil (dP L) (aA (pv 9) aB)) (aA (dH G_read_number.ok (hr.mono (by decide)) rfl G_read_number.mg G_read_number.kp G_read_number.bd .nil (dP L) (aA (pv 11) aB)) aB))) aB))))))
   (aH (aM (bQ (aA (dH G_read_number.ok (hr.mono (by decide)) rfl G_read_number.mg G_read_number.kp G_read_number.bd .nil (dP L) (aA (pv 1) aB)) (aA (dH G_read_number.ok (hr.mono (by decide)) rfl G_read_number.mg G_read_number.kp G_read_number.bd .nil (dP L) (aA (pv 2) aB)) (aA (aR (cO (K:=K) rfl) rfl T.b_tuple bS (aA (pv 7) aB)) (aA (d2 d5 (pv 4) aI (aP _)) (aA (dH G_read_target.ok (hr.mono (by decide)) rfl G_read_target.mg G_read_target.kp G_read_target.bd .nil (dP L) (aA (pv 5) aB)) (aA (dH G_read_acts.ok (hr.mono (by decide)) rfl G_read_acts.mg G_read_acts.kp G_read_acts.bd .nil (dP L) (aA (pv 6) aB)) aB)))))))))))),?_⟩
  obtain⟨x1,x2,x3,x4,x5,x6,rfl⟩:=len6 h6;obtain⟨a1,n1⟩:=hw x1 (by simp);obtain⟨a2,n2⟩:=hw x2 (by simp);obtain⟨a3,n3⟩:=hw x3 (by simp);obtain⟨a5,n5⟩:=hw x5 (by simp);obtain⟨a6,n6⟩:=hw x6 (by simp);clear hw h6;rw[E8] at k1 k2;refine⟨_,rfl,l,_,rfl,bO.of hl,rfl,_,_,rfl,_,_,rfl,_,_,rfl,_,_,rfl,_,_,rfl,_,_,rfl,rfl,?_⟩;dsimp only [bL];have hws:∀ y∈Txt.split x3 (one 44),eA y/\y.length<=100000:=λ y hy=>⟨dN a3 hy,abn (PyProof.Rows.part_short hy) n3⟩;have hsl:=dX x3 (one 44) (by decide);generalize hw3:Txt.split x3 (one 44)=ws at k1 k2 hws hsl;refine⟨abk _,λ al hal=>?_⟩;refine⟨_,rfl,rfl,x3,",",rfl,rfl,by decide,by omega,λ sp hsp=>?_⟩;rw[G3,hw3];have nas:al≠sp:=aL (show upd H al (.lst []) al=_ from aD) hsp;have s1:aG H (upd (upd H al (.lst [])) sp (.lst (ws.map V.str))):=(aG.new hal).trans (aG.new hsp);have g1:upd (upd H al (.lst [])) sp (.lst (ws.map V.str)) al=some (.lst []):=by rw[aN nas];exact aD
  have g2:upd (upd H al (.lst [])) sp (.lst (ws.map V.str)) sp=some (.lst (ws.map V.str)):=aD;generalize upd (upd H al (.lst [])) sp (.lst (ws.map V.str))=H1 at s1 g1 g2 ⊢;refine⟨sp,rfl,⟨_,bO.of g2⟩,jK (K:=K) (a:=sp) (xs:=ws.map V.str) (λ i aa H'=>aG H H'/\H' sp=some (.lst (ws.map V.str))/\(∃ as us,dB j7 (ws.take i)=some as/\as.length<=i/\H' al=some (.lst us)/\IsL K H' (as.map i8) us)/\
   ∃ v8 v9 v10 v11,aa=[some (.ref l),some (.str x1),some (.str x2),some (.str x3),some (.str x4),some (.str x5),some (.str x6),some (.ref al),v8,v9,v10,v11]) ⟨s1,g2,⟨[],[],rfl,aag _,g1,.nil⟩,_,_,_,_,rfl⟩ ?_ ?_ ?_⟩
  ·rintro i aa H2 _ ⟨_,h2,_⟩;exact bO.of h2
  ·rintro i y aa H2 hy ⟨s2,hsp2,⟨as,us,er,ail,hal2,lu⟩,v8,v9,v10,v11,rfl⟩;rw[aap] at hy;obtain⟨y,hyw,rfl⟩:=abd.mp hy;have hyi:i < ws.length:=(aai.mp hyw).1;obtain⟨ya,yl⟩:=hws y (aad hyw);obtain⟨pa1,pa2⟩:=mR (c:=42) ya;obtain⟨pl1,pl2⟩:=mI (c:=42) (x:=y);have eul:us.length=as.length:=by rw[lu.length,aab]
   dsimp only [aW];refine⟨_,rfl,rfl,y,"*",rfl,rfl,by decide,by omega,λ p hp=>?_⟩;rw[w_s];have s3:=aG.new (o:=HO.tup [.str (Txt.partition y (one 42)).1,.str (Txt.partition y (one 42)).2.1,.str (Txt.partition y (one 42)).2.2]) hp;refine⟨p,_,rfl,bU.of aD,rfl,_,_,rfl,_,_,rfl,_,_,rfl,rfl,?_⟩;dsimp only [bL];have hal3:=s3 _ _ hal2;have hsp3:=s3 _ _ hsp2;have lu3:=L2.IsL.mono s3.ts _ _ lu;have s23:=s2.trans s3;generalize upd H2 p (.tup [.str (Txt.partition y (one 42)).1,.str (Txt.partition y (one 42)).2.1,.str (Txt.partition y (one 42)).2.2])=H3 at s3 hal3 hsp3 lu3 s23 ⊢;have bad:j7 y=none->E (.ref c_NoText) none H3:=λ hn=>k2 (by rw[hX hn (aad hyw)];rfl) _ s23;refine⟨_,rfl,.inl ⟨rfl,_,bO.of hal3⟩,_,rfl,_,rfl,pa1,by omega,λ t ht=>?_,λ hn=>bad (by unfold j7;rw[hn];rfl)⟩;refine⟨_,rfl,_,rfl,pa2,by omega,λ n hn=>?_,λ hn=>bad (by unfold j7;rw[ht,hn];rfl)⟩;refine⟨(show 2<=sizeLine by decide),λ q hq=>⟨al,us,_,rfl,rfl,aG.new hq _ _ hal3,eQ (by omega),?_⟩⟩;have s4:=aG.new (o:=HO.tup [gP t,.int n]) hq;have q4:bU K (upd H3 q (.tup [gP t,.int n])) q [gP t,.int n]:=bU.of aD;have hal4:=s4 _ _ hal3;have hsp4:=s4 _ _ hsp3;generalize upd H3 q (.tup [gP t,.int n])=H4 at s4 q4 hal4 hsp4 ⊢;have b5:dQ al H4 (upd H4 al (.lst (us++[.ref q]))):=dQ.upd;have ts5:=b5.ts (K:=K) (by rw[hal4];exact trivial);refine⟨(s23.trans s4).put hal,b5 _ _ (Ne.symm nas) hsp4,⟨as++[(t,n)],us++[.ref q],?_,by rw[aao,acp];omega,aD,?_⟩,_,_,_,_,rfl⟩
   ·rw[cL hyw];exact hW er (show j7 y=_ by unfold j7;rw[ht,hn];rfl)
   ·rw[aaj];exact L2.IsL.snoc (Is.mono ts5 _ _ (Is.tupOf q4 (.cons (Is.tgOf t) (.cons (Is.i _) .nil)))) (L2.IsL.mono (s4.ts.trans ts5) _ _ lu3)
  ·rintro aa H2 ⟨s2,hsp2,⟨as,us,er,ail,hal2,lu⟩,v8,v9,v10,v11,rfl⟩;rw[aab,aar (aag _)] at er;rw[er] at k1 k2;refine⟨_,rfl,x1,rfl,a1,by omega,λ z hz=>?_,λ hz=>k2 (by rw[hz];rfl) _ s2⟩;refine⟨_,rfl,x2,rfl,a2,by omega,λ m hm=>?_,λ hm=>k2 (by rw[hz,hm];rfl) _ s2⟩;refine⟨_,rfl,al,us,rfl,.inl ⟨bO.of hal2,λ p hp=>?_⟩⟩;have s3:=aG.new (o:=HO.tup us) hp;have q3:bU K (upd H2 p (.tup us)) p us:=bU.of aD;have lu3:=L2.IsL.mono s3.ts _ _ lu;have s23:=s2.trans s3;generalize upd H2 p (.tup us)=H3 at s3 q3 lu3 s23 ⊢;refine⟨_,rfl,rfl,?_⟩;have e4:decide (V.str x4=V.str "holds")=decide (x4 = "holds"):=by simp
   rw[e4];refine⟨_,rfl,x5,rfl,a5,by omega,λ t ht=>?_,λ ht=>k2 (by rw[hz,hm,ht];rfl) _ s23⟩;refine⟨_,rfl,x6,rfl,a6,n6,λ cs q H4 hcs s4 iq=>?_,λ hcs H4 s4=>k2 (by rw[hz,hm,ht,hcs];rfl) _ (s23.trans s4)⟩;refine⟨(show 6<=sizeLine by decide),λ r hr'=>?_⟩;have s5:=aG.new (o:=HO.tup [.int z,.int m,.ref p,.bl (decide (x4 = "holds")),gP t,q]) hr';refine k1 ⟨z,m,as,decide (x4 = "holds"),t,cs⟩ _ _ (by rw[hz,hm,ht,hcs];rfl) ((s23.trans s4).trans s5) ?_;exact Is.tupOf (bU.of aD) (.cons (Is.i _) (.cons (Is.i _) (.cons (Is.tupOf (s5.tup (s4.tup q3)) (L2.IsL.mono (s4.trans s5).ts _ _ lu3)) (.cons (Is.b _) (.cons (Is.tgOf t) (.cons (Is.mono s5.ts _ _ iq) .nil))))))
def oA (K:aaa) (c:Addr):Sp:=λ vs H Q E=>∃ (x:V) (g:G),vs=[x]/\aO K H g x/\(∀ z,g=.str z->eA z/\z.length<=100000)/\(∀ net p H',sN g=some net->NetOk net->NetFull net->aG H H'->Is K H' (eH net) p->Q p H')/\(sN g=none->∀ H',aG H H'->E (.ref c) none H')
theorem nM:FnScope ["text","vessels","spouts","line","word","rest","net"] ["text"] (aK (bB 36)):={}
theorem vD {f f1 f2 f3 f4:Addr}{fd fd1 fd2 fd3 fd4:FuncData} (F:Fun K "read_net" "read_net" (bB 36) f fd) (T:Txt mg) (TS:TxtS mg) (XC_NoText:ExC K "NoText" c_NoText) (G_read_vessel:CalleeR P w K mg base "read_vessel" ["words"] 4 (sA K c_NoText) f1 fd1) (G_read_spout:CalleeR P w K mg base "read_spout" ["words"] 3 (sC K c_NoText) f2 fd2)
  (G_is_net:Callee P w K mg base "is_net" ["thing"] 4 (kW K) f3 fd3) (G_net_text:Callee P w K mg base "net_text" ["net"] 3 (mZ K) f4 fd4):FnOk P w K mg base (uM P w) 5 f fd ["text"] (oA K c_NoText):=by
 refine F.okR nM (λ vs H Q E h=>?_) (λ cdv A outer s H vs Q E hr h L=>?_)
 ·obtain⟨x,g,rfl,_⟩:=h;rfl
 ·obtain⟨x,g,rfl,ig,hasc,k1,k2⟩:=h;have sc:=nM;refine⟨_,(aE (bC (bI (bG (aT (bN (K:=K) rfl) rfl T.b_isinstance bE (aA (pv 0) (aA (cJ (v:=.ty "str") rfl TS.b_str dU rfl) aB))))) (aH (jA L rfl rfl XC_NoText.exc XC_NoText.ns PySem.F.excBase_ValueError (aA aI aB))) aS)
   (aE (HX (i:=1) (j:=2) rfl sc.nd rfl rfl (by decide) rfl rfl (aA (aZ aB) (aA (aZ aB) aB)) rfl)
   (aE (dS PassesOwn.leaving rfl (eG (K:=K) rfl (dC (K:=K) rfl PySem.F.slot_str_split PySem.F.type_str_split dM (pv 0) (aA aI aB))) (gL 3 sc.nd) (aE (cR (dC (K:=K) rfl PySem.F.slot_str_split PySem.F.type_str_split dM (pv 3) (aA aI aB)) (BD (K:=K) rfl rfl (aJ (gL 4 sc.nd) (BC (gL 5 sc.nd)))))
   (aH (bC (PW.pt (nA (aQ d5 (pv 4) aI (aP _)) (jP (aQ d5 (kA K T.b_len (pv 5)) aF (aP _))))) (aH (dG (eC (K:=K) rfl aat abe abf cM (pv 1) (aA (dH G_read_vessel.ok (hr.mono (by decide)) rfl G_read_vessel.mg G_read_vessel.kp G_read_vessel.bd .nil (dP L) (aA (pv 5) aB)) aB)))) (aH (bC (PW.pt (nA (aQ d5 (pv 4) aI (aP _)) (jP (aQ d5 (kA K T.b_len (pv 5)) aF (aP _))))) (aH (dG (eC (K:=K) rfl aat abe abf cM (pv 2) (aA (dH G_read_spout.ok (hr.mono (by decide)) rfl G_read_spout.mg G_read_spout.kp G_read_spout.bd .nil (dP L) (aA (pv 5) aB)) aB)))) (aH (jA L rfl rfl XC_NoText.exc XC_NoText.ns PySem.F.excBase_ValueError (aA aI aB)))))))))
   (aE (pL 6 sc.nd (bQ (aA (aR (cO (K:=K) rfl) rfl T.b_tuple bS (aA (pv 1) aB)) (aA (aR (cO (K:=K) rfl) rfl T.b_tuple bS (aA (pv 2) aB)) aB))))
   (aE (bC (PW.pt (d4 (bI (bG (cB G_is_net hr (aA (pv 6) aB)))) (cQ (aQ kO (cB G_net_text hr (aA (pv 6) aB)) (pv 0) (aP _))))) (aH (jA L rfl rfl XC_NoText.exc XC_NoText.ns PySem.F.excBase_ValueError (aA aI aB))) aS)
   (aH (aM (pv 6)))))))),?_⟩
  refine⟨_,rfl,_,"str",g,rfl,by decide,ig,_,rfl,?_⟩
  by_cases hg:∃ z,g=.str z
  rotate_left
  ·have e:iE g "str" = false:=by
    cases g with
    | str z=>exact absurd ⟨z,rfl⟩ hg
    | _=>rfl
   rw[e];refine aX ⟨(show 1<=100 by decide),k2 ?_ _ (aG.refl _)⟩;cases g with
   | str z=>exact absurd ⟨z,rfl⟩ hg
   | _=>rfl
  obtain⟨z,rfl⟩:=hg;obtain rfl:x=.str z:=by rw[aO] at ig;exact ig
  obtain⟨za,zl⟩:=hasc z rfl;clear hasc;refine bM ?_;have hls:∀ y∈Txt.split z (one 10),eA y/\y.length<=100000:=λ y hy=>⟨dN za hy,abn (PyProof.Rows.part_short hy) zl⟩;have hsl:=dX z (one 10) (by decide);have erd:m8 z=(dB hV (Txt.split z (one 10))).map λ l=>⟨fL l,eB l⟩:=rfl;generalize hw3:Txt.split z (one 10)=ls at hls hsl erd;refine⟨abk _,λ vl hvl=>⟨abk _,λ sl hsl'=>⟨_,_,rfl,?_⟩⟩⟩;have nvs:vl≠sl:=aL (show upd H vl (.lst []) vl=_ from aD) hsl';have fsl:H sl=none:=(aG.new hvl).free hsl';have s1:aG H (upd (upd H vl (.lst [])) sl (.lst [])):=(aG.new hvl).trans (aG.new hsl');have g1:upd (upd H vl (.lst [])) sl (.lst []) vl=some (.lst []):=by rw[aN nvs];exact aD
  have g2:upd (upd H vl (.lst [])) sl (.lst []) sl=some (.lst []):=aD;dsimp only [bL];generalize upd (upd H vl (.lst [])) sl (.lst [])=H1 at s1 g1 g2 ⊢;refine⟨_,rfl,rfl,z,"\n",rfl,rfl,by decide,by omega,λ lp hlp=>?_⟩;rw[K1,hw3];have nlv:vl≠lp:=aL g1 hlp;have nls:sl≠lp:=aL g2 hlp;have s2:aG H (upd H1 lp (.lst (ls.map V.str))):=s1.trans (aG.new hlp);have g3:upd H1 lp (.lst (ls.map V.str)) lp=some (.lst (ls.map V.str)):=aD;have g1:=aG.new (o:=.lst (ls.map V.str)) hlp _ _ g1;have g2:=aG.new (o:=.lst (ls.map V.str)) hlp _ _ g2;generalize upd H1 lp (.lst (ls.map V.str))=H2 at s2 g1 g2 g3 ⊢;refine⟨lp,rfl,⟨_,bO.of g3⟩,jK (K:=K) (a:=lp) (xs:=ls.map V.str) (λ i aa H'=>aG H H'/\H' lp=some (.lst (ls.map V.str))/\(∃ rs us ts,dB hV (ls.take i)=some rs/\(fL rs).length<=i/\(eB rs).length<=i/\H' vl=some (.lst us)/\IsL K H' ((fL rs).map o0) us/\H' sl=some (.lst ts)/\IsL K H' ((eB rs).map qB) ts)/\
   ∃ v3 v4 v5,aa=[some (.str z),some (.ref vl),some (.ref sl),v3,v4,v5,none]) ⟨s2,g3,⟨[],[],[],rfl,aag _,aag _,g1,.nil,g2,.nil⟩,_,_,_,rfl⟩ ?_ ?_ ?_⟩
  ·rintro i aa H3 _ ⟨_,h2,_⟩;exact bO.of h2
  ·rintro i y aa H3 hy ⟨s3,hlp3,⟨rs,us,ts,er,li,ri,hvl3,lu,hsl3,lt⟩,v3,v4,v5,rfl⟩;rw[aap] at hy;obtain⟨y,hyw,rfl⟩:=abd.mp hy;have hyi:i < ls.length:=(aai.mp hyw).1;obtain⟨ya,yl⟩:=hls y (aad hyw);have eul:us.length=(fL rs).length:=by rw[lu.length,aab]
   have etl:ts.length=(eB rs).length:=by rw[lt.length,aab]
   have hws:∀ u∈Txt.split y (one 32),eA u/\u.length<=100000:=λ u hu=>⟨dN ya hu,abn (PyProof.Rows.part_short hu) yl⟩;have hwl:=dX y (one 32) (by decide);have hne:=lP y 32;have elin:hV y=match Txt.split y (one 32) with
    | []=>none
    | w::r=>if w = "vessel" /\ r.length=6 then (qX r).map Sum.inl else if w = "spout" /\ r.length=3 then (uV r).map Sum.inr else none:=rfl
   dsimp only [aW];refine⟨_,rfl,rfl,y," ",rfl,rfl,by decide,by omega,λ p hp=>?_⟩;rw[G4];generalize Txt.split y (one 32)=ws at hws hwl hne elin ⊢;obtain⟨wd,r,rfl⟩:=List.exists_cons_of_ne_nil hne;simp only at elin;have s4:=aG.new (o:=HO.lst ((wd::r).map V.str)) hp;have g4:upd H3 p (.lst ((wd::r).map V.str)) p=some (.lst (.str wd::r.map V.str)):=aD;have s34:=s3.trans s4;have hlp4:=s4 _ _ hlp3;have hvl4:=s4 _ _ hvl3;have hsl4:=s4 _ _ hsl3;have lu4:=L2.IsL.mono s4.ts _ _ lu;have lt4:=L2.IsL.mono s4.ts _ _ lt;generalize upd H3 p (.lst ((wd::r).map V.str))=H4 at s4 g4 s34 hlp4 hvl4 hsl4 lu4 lt4 ⊢;clear s4 s3 hlp3 hvl3 hsl3 lu lt hp;refine⟨p,.str wd,r.map V.str,rfl,bO.of g4,by rw[aab];simp at hwl;omega,λ q hq=>⟨_,_,rfl,_,_,rfl,rfl,?_⟩⟩;have s5:=aG.new (o:=HO.lst (r.map V.str)) hq;have g5:upd H4 q (.lst (r.map V.str)) q=some (.lst (r.map V.str)):=aD;have s35:=s34.trans s5;have hlp5:=s5 _ _ hlp4;have hvl5:=s5 _ _ hvl4;have hsl5:=s5 _ _ hsl4;have lu5:=L2.IsL.mono s5.ts _ _ lu4;have lt5:=L2.IsL.mono s5.ts _ _ lt4;dsimp only [bL];generalize upd H4 q (.lst (r.map V.str))=H5 at s5 g5 s35 hlp5 hvl5 hsl5 lu5 lt5 ⊢;clear s5 s34 hlp4 hvl4 hsl4 lu4 lt4 hq g4;have bad:hV y=none->∀ H',aG H5 H'->E (.ref c_NoText) none H':=λ hn H' s'=>k2 (by show (m8 z).bind _=none;rw[erd,hX hn (aad hyw)];rfl) _ (s35.trans s');have hr6:∀ x∈r,eA x/\x.length<=100000:=λ x hx=>hws x (aam _ hx);refine AR rfl rfl g5 ?_;refine dJ (λ hT=>?_) λ hT=>?_
   ·
    have hT:=aax hT;rw[aab] at hT;have hr:r.length=6:=by have:=hT.2;omega
    rw[if_pos ⟨hT.1,hr⟩] at elin;refine⟨_,rfl,.inl ⟨rfl,_,bO.of hvl5⟩,_,rfl,q,r,rfl,g5,hr,hr6,λ v pv H6 ev s6 iv=>?_,λ hn H6 s6=>bad (by rw[elin,hn];rfl) _ s6⟩;have hvl6:=s6 _ _ hvl5;refine⟨vl,us,_,rfl,rfl,hvl6,eQ (by omega),?_⟩;have b7:dQ vl H6 (upd H6 vl (.lst (us++[pv]))):=dQ.upd;have ts7:=b7.ts (K:=K) (by rw[hvl6];exact trivial);refine⟨(s35.trans s6).put hvl,b7 _ _ (Ne.symm nlv) (s6 _ _ hlp5),⟨rs++[.inl v],us++[pv],ts,?_,?_,?_,aD,?_,b7 _ _ (Ne.symm nvs) (s6 _ _ hsl5),?_⟩,_,_,_,rfl⟩
    ·rw[cL hyw];exact hW er (by rw[elin,ev];rfl)
    ·rw[gU,aao];show _+1<=_;omega
    ·rw[fZ,aao];show _+0<=_;omega
    ·rw[gU,aaj];exact L2.IsL.snoc (Is.mono ts7 _ _ iv) (L2.IsL.mono (s6.ts.trans ts7) _ _ lu5)
    ·rw[fZ,aaj];show IsL K _ (_++[]) _;rw[acb];exact L2.IsL.mono (s6.ts.trans ts7) _ _ lt5
   have hT:¬ (wd = "vessel" /\ r.length=6):=λ h=>hT (aaw ⟨h.1,by rw[aab];omega⟩);rw[if_neg hT] at elin;refine AR rfl rfl g5 ?_;refine dJ (λ hS=>?_) λ hS=>?_
   ·
    have hS:=aax hS;rw[aab] at hS;have hr:r.length=3:=by have:=hS.2;omega
    rw[if_pos ⟨hS.1,hr⟩] at elin;obtain⟨x1,x2,x3,rfl⟩:=len3 hr;obtain⟨a1,n1⟩:=hr6 x1 (by simp);obtain⟨a2,n2⟩:=hr6 x2 (by simp);refine⟨_,rfl,.inl ⟨rfl,_,bO.of hsl5⟩,_,rfl,q,x1,x2,x3,rfl,g5,a1,a2,by omega,by omega,λ v pv H6 ev s6 iv=>?_,λ hn=>bad (by rw[elin,hn];rfl) _ (aG.refl _)⟩;have hsl6:=s6 _ _ hsl5;refine⟨sl,ts,_,rfl,rfl,hsl6,eQ (by omega),?_⟩;have b7:dQ sl H6 (upd H6 sl (.lst (ts++[pv]))):=dQ.upd;have ts7:=b7.ts (K:=K) (by rw[hsl6];exact trivial);refine⟨(s35.trans s6).put fsl,b7 _ _ (Ne.symm nls) (s6 _ _ hlp5),⟨rs++[.inr v],us,ts++[pv],?_,?_,?_,b7 _ _ nvs (s6 _ _ hvl5),?_,aD,?_⟩,_,_,_,rfl⟩
    ·rw[cL hyw];exact hW er (by rw[elin,ev];rfl)
    ·rw[gU,aao];show _+0<=_;omega
    ·rw[fZ,aao];show _+1<=_;omega
    ·rw[gU,aaj];show IsL K _ (_++[]) _;rw[acb];exact L2.IsL.mono (s6.ts.trans ts7) _ _ lu5
    ·rw[fZ,aaj];exact L2.IsL.snoc (Is.mono ts7 _ _ iv) (L2.IsL.mono (s6.ts.trans ts7) _ _ lt5)
   have hS:¬ (wd = "spout" /\ r.length=3):=λ h=>hS (aaw ⟨h.1,by rw[aab];omega⟩);rw[if_neg hS] at elin;exact⟨(show 1<=100 by decide),bad elin _ (aG.refl _)⟩
  ·rintro aa H3 ⟨s3,hlp3,⟨rs,us,ts,er,li,ri,hvl3,lu,hsl3,lt⟩,v3,v4,v5,rfl⟩;rw[aab,aar (aag _)] at er;rw[er] at erd;have e2:sN (.str z)=if fI (dO (eH ⟨fL rs,eB rs⟩))=true/\fE ⟨fL rs,eB rs⟩=z then some ⟨fL rs,eB rs⟩ else none:=by show (m8 z).bind _=_;rw[erd];rfl
   generalize hnet:(⟨fL rs,eB rs⟩:Net)=net at e2;refine⟨_,rfl,vl,us,rfl,.inl ⟨bO.of hvl3,λ pa hpa=>?_⟩⟩;have s4:=aG.new (o:=HO.tup us) hpa;have q4:bU K (upd H3 pa (.tup us)) pa us:=bU.of aD;have hsl4:=s4 _ _ hsl3;have lu4:=L2.IsL.mono s4.ts _ _ lu;have lt4:=L2.IsL.mono s4.ts _ _ lt;have s34:=s3.trans s4;generalize upd H3 pa (.tup us)=H4 at s4 q4 hsl4 lu4 lt4 s34 ⊢;refine⟨_,rfl,sl,ts,rfl,.inl ⟨bO.of hsl4,λ pb hpb=>⟨(show 2<=sizeLine by decide),λ pn hpn=>?_⟩⟩⟩;have s5:=(aG.new (o:=HO.tup ts) hpb).trans (aG.new (o:=HO.tup [.ref pa,.ref pb]) hpn);have q5:bU K (upd (upd H4 pb (.tup ts)) pn (.tup [.ref pa,.ref pb])) pb ts:=(aG.new hpn).tup (bU.of aD);have q6:bU K (upd (upd H4 pb (.tup ts)) pn (.tup [.ref pa,.ref pb])) pn [.ref pa,.ref pb]:=bU.of aD;generalize upd (upd H4 pb (.tup ts)) pn (.tup [.ref pa,.ref pb])=H5 at s5 q5 q6 ⊢;have s35:=s34.trans s5;have inet:Is K H5 (eH net) (.ref pn):=by
    rw[<- hnet];exact Is.tupOf q6 (.cons (Is.tupOf (s5.tup q4) (L2.IsL.mono s5.ts _ _ lu4)) (.cons (Is.tupOf q5 (L2.IsL.mono s5.ts _ _ lt4)) .nil))
   clear s3 hlp3 hvl3 lu hsl3 lt s4 q4 hsl4 lu4 lt4 s34 s5 q5 q6;dsimp only [bL];refine⟨_,rfl,_,dO (eH net),rfl,inet.g,λ H6 s6=>⟨_,rfl,?_⟩⟩;cases hn:fI (dO (eH net)) with
   | false=>
    refine aX ?_;exact⟨(show 1<=100 by decide),k2 (by rw[e2,if_neg (λ h=>by rw[hn] at h;cases h.1)]) _ (s35.trans s6)⟩
   | true=>
    refine bM ?_;obtain⟨ok,fu⟩:=tK hn;refine⟨_,rfl,_,net,rfl,Is.mono s6.ts _ _ inet,gT ok fu,λ H7 s7=>⟨_,rfl,rfl,_,rfl,?_⟩⟩;have e7:(!decide (V.str (fE net)=V.str z)) = !decide (fE net=z):=by simp
    rw[e7]
    by_cases ez:fE net=z
    ·rw[aaw ez];refine bM ?_;exact⟨_,rfl,k1 net _ _ (by rw[e2,if_pos ⟨hn,ez⟩]) ok fu ((s35.trans s6).trans s7) (Is.mono (s6.trans s7).ts _ _ inet)⟩
    ·rw[aau ez];refine aX ?_;exact⟨(show 1<=100 by decide),k2 (by rw[e2,if_neg (λ h=>ez h.2)]) _ ((s35.trans s6).trans s7)⟩
section
variable {ae:Type}(dD:ae->L2.D)(nxt:ae->Int->ae)(fin:ae->Int->Bool)(most lim:Nat)
variable {dD nxt fin most lim}
end
end Tw
namespace HT
open PySem PySem.Spec PyProof.Rows L2
section
variable {prog:Program}{A:Around}{E:Value->Shared->Prop}{s:Shared}
end
end HT
namespace L2
open PySem
section
variable {X:Cx}
end
end L2
namespace Tw
open PySem L2
theorem Ext.sm {t sl:Addr}{H H1 H2:Hp} (e:Ext t sl H H1) (s:aG H1 H2):Ext t sl H H2:=⟨e.bt.trans s.but,e.tp.same s⟩
def wU (K:aaa):Sp:=λ vs H Q _=>∃ (t sl wl:Addr) (x:Str) (ms:List Str),vs=[.ref t,.str x,.ref wl]/\eI H t sl/\eA x/\x.length<=100000/\wl≠t/\H wl=some (.lst (ms.map V.str))/\(∀ m∈ms,eA m/\m.length<=10)/\ms.length<=30/\
 ∀ y H',Ext t sl H H'->eA y->y.length<=2 * x.length+20->Q (.str y) H'
def KC:Str := " !\"#$&'()*+,-./0123456789:;<=>?@ABCDEFGHIJKLMNOPQRSTUVWXYZ[\\]^_`abcdefghijklm"
def KB:Str := "nopqrstuvwxyz{|}~\n"
theorem sgAB:eA (KC++KB)/\(KC++KB).length=95:=⟨(by decide +kernel:∀ c∈sg (KC++KB),c < 128),by decide +kernel⟩
theorem GT:eA "\n" := (by decide +kernel:∀ c∈sg (Str.ofString "\n"),c < 128)
theorem LR:eA " " := (by decide +kernel:∀ c∈sg (Str.ofString " "),c < 128)
theorem LQ:eA Str.empty:=(by decide +kernel:∀ c∈sg Str.empty,c < 128)
theorem Ext.fr0 {t sl:Addr}{H H1:Hp}{p:Addr} (e:Ext t sl H H1) (hp:H1 p=none):H p=none:=by
 cases hc:H p with
 | none=>rfl
 | some o=>rw[e.bt _ _ (e.ne hp) hc] at hp;cases hp
theorem HA {σ:St}{H:Hp}{Q:Bool->Hp->Prop}{x:Str}{lv:Int} (h4:σ[4]? = some (some (.int lv))) (h1:σ[1]? = some (some (.str x))) (k:Q (decide (lv=0/\x ≠ "")) H) :
  HE (lM (fJ JW (cD 4) (tC (.int 0)))) (lM (fJ rNe (cD 1) (tC (.str "")))) σ H Q:=by
 refine⟨_,h4,rfl,_,rfl,?_⟩
 by_cases e:lv=0
 ·subst e;refine tX rfl ⟨_,h1,rfl,_,rfl,?_⟩;have:(!decide (V.str x=V.str ""))=decide ((0:Int)=0/\x ≠ ""):=by simp
  rw[this];exact k
 ·refine dJ (λ h=>absurd (aax h) λ h=>e (by cases h;rfl)) λ _=>?_;rw[aau (λ h=>e h.1)] at k;exact k
theorem w_e:("" : Str)=Str.empty:=by decide +kernel
theorem m5:FnScope ["tape","text","words_more","signs","level","way","sign","spoilt","lines","line","at","words","some","word"] ["tape","text","words_more"] (aK (bB 74)):={}
theorem tG {f f1 f2:Addr}{fd fd1 fd2:FuncData} (F:Fun K "_law_bent" "_law_bent" (bB 74) f fd) (T:Txt mg) (G__law_draw:Callee P w K mg base "_law_draw" ["tape","many"] 1 fY f1 fd1) (G__law_turned:Callee P w K mg base "_law_turned" ["row","way","at","thing"] 1 (oV K) f2 fd2):FnOk P w K mg base hU 2 f fd ["tape","text","words_more"] (wU K):=by
 refine F.ok m5 (λ vs H Q E h=>?_) (λ cdv A outer s H vs Q E hr h=>?_)
 ·obtain⟨t,sl,wl,x,ms,rfl,_⟩:=h;rfl
 ·obtain⟨t,sl,wl,x,ms,rfl,tp,ha,hl,nwt,hwl,hms,hml,k⟩:=h;have sc:=m5
  (with_reducible refine⟨_,(aE (pL 3 sc.nd aI)
   (aE (pL 3 sc.nd (aU mD (pv 3) aI))
   (aE (pL 4 sc.nd (cB (by with_unfolding_all exact G__law_draw) hr (aA (pv 0) (aA aF aB))))
   (aE (pL 5 sc.nd (cB (by with_unfolding_all exact G__law_draw) hr (aA (pv 0) (aA aF aB))))
   (aE (bC (PW.pt (nA (aQ d5 (pv 4) aF (aP _)) (jP (aQ kO (pv 1) aI (aP _))))) (aE (pL 6 sc.nd (px K (pv 3) (cB (by with_unfolding_all exact G__law_draw) hr (aA (pv 0) (aA (aT gY rf (by with_unfolding_all exact T.b_len) ach (aA (pv 3) aB)) aB)))))
   (aE (bC (aQ d5 (cB (by with_unfolding_all exact G__law_draw) hr (aA (pv 0) (aA aF aB))) aF (aP _)) (aH (pL 6 sc.nd (px K (pv 1) (cB (by with_unfolding_all exact G__law_draw) hr (aA (pv 0) (aA (aT gY rf (by with_unfolding_all exact T.b_len) ach (aA (pv 1) aB)) aB)))))) aS)
   (aE (pL 7 sc.nd (cB (by with_unfolding_all exact G__law_turned) hr (aA (aR (AB rf) rf (by with_unfolding_all exact T.b_list) uF (aA (pv 1) aB)) (aA (pv 5) (aA (cB (by with_unfolding_all exact G__law_draw) hr (aA (pv 0) (aA (aU cZ (aT gY rf (by with_unfolding_all exact T.b_len) ach (aA (pv 1) aB)) aF) aB))) (aA (pv 6) aB))))))
   (aH (aM (dC (K:=K) rf PySem.F.slot_str_join PySem.F.type_str_join (d0 (K:=K) rf) aI (aA (pv 7) aB))))))) aS)
   (aE (pL 8 sc.nd (dC (K:=K) rf PySem.F.slot_str_split PySem.F.type_str_split dM (pv 1) (aA aI aB)))
   (aE (bC (aQ d5 (pv 4) aF (aP _)) (aE (pL 9 sc.nd (px K (pv 8) (cB (by with_unfolding_all exact G__law_draw) hr (aA (pv 0) (aA (kA K (by with_unfolding_all exact T.b_len) (pv 8)) aB)))))
   (aH (aM (dC (K:=K) rf PySem.F.slot_str_join PySem.F.type_str_join (d0 (K:=K) rf) aI (aA (cB (by with_unfolding_all exact G__law_turned) hr (aA (pv 8) (aA (pv 5) (aA (cB (by with_unfolding_all exact G__law_draw) hr (aA (pv 0) (aA (aU cZ (kA K (by with_unfolding_all exact T.b_len) (pv 8)) aF) aB))) (aA (pv 9) aB))))) aB))))) aS)
   (aE (pL 10 sc.nd (cB (by with_unfolding_all exact G__law_draw) hr (aA (pv 0) (aA (kA K (by with_unfolding_all exact T.b_len) (pv 8)) aB))))
   (aE (pL 11 sc.nd (dC (K:=K) rf PySem.F.slot_str_split PySem.F.type_str_split dM (px K (pv 8) (pv 10)) (aA aI aB)))
   (aE (pL 12 sc.nd (aU lA (pv 2) (pv 11)))
   (aE (pL 13 sc.nd (px K (pv 12) (cB (by with_unfolding_all exact G__law_draw) hr (aA (pv 0) (aA (kA K (by with_unfolding_all exact T.b_len) (pv 12)) aB)))))
   (aE (pL 11 sc.nd (cB (by with_unfolding_all exact G__law_turned) hr (aA (pv 11) (aA (pv 5) (aA (cB (by with_unfolding_all exact G__law_draw) hr (aA (pv 0) (aA (aU cZ (kA K (by with_unfolding_all exact T.b_len) (pv 11)) aF) aB))) (aA (pv 13) aB))))))
   (aE (cR (dC (K:=K) rf PySem.F.slot_str_join PySem.F.type_str_join (d0 (K:=K) rf) aI (aA (pv 11) aB)) (jB (pv 8) (pv 10) fC))
   (aH (aM (dC (K:=K) rf PySem.F.slot_str_join PySem.F.type_str_join (d0 (K:=K) rf) aI (aA (pv 8) aB))))))))))))))))),?_⟩)
  refine⟨_,rfl,KC,KB,rfl,rfl,by decide,?_⟩;obtain⟨SA,SL⟩:=sgAB;dsimp only [aW,bL];generalize KC++KB=S at SA SL ⊢;refine⟨_,rfl,t,sl,3,rfl,tp,by decide,by decide,λ lv H1 b1 tp1 lv0 lv1=>?_⟩;dsimp only [aW,bL];refine⟨_,rfl,t,sl,4,rfl,tp1,by decide,by decide,λ wy H2 b2 tp2 wy0 wy1=>?_⟩;have e2:Ext t sl H H2:=⟨b1.trans b2,tp2⟩;dsimp only [aW,bL];clear b1 b2 tp1;refine HA rfl rfl ?_;refine dJ (λ hT=>?_) λ hT=>?_
  ·
   obtain⟨-,hx⟩:=aax hT;have hxp:0 < x.length:=by
    rw[<- fG];exact List.length_pos_iff.mpr λ z=>hx (iQ (by rw[z];rfl))
   refine⟨_,rfl,_,rfl,_,rfl,S,rfl,by omega,t,sl,_,rfl,tp2,by omega,by omega,λ r H3 b3 tp3 r0 r1=>?_⟩;obtain⟨i,rfl⟩:=Int.eq_ofNat_of_zero_le r0;obtain⟨c,hc⟩:∃ c,(sg S)[i]? = some c:=⟨_,abh (by rw[fG];omega)⟩;have c128:=SA c (aad hc);refine .inr (.inr ⟨S,((i:Nat):Int),c,rfl,rfl,by rw[sizeLine_eq];omega,eK (xs:=S.cps.toList) hc,?_⟩);have e3:Ext t sl H H3:=⟨e2.bt.trans b3,tp3⟩;dsimp only [aW,bL];refine n4 (λ aa H'=>Ext t sl H H'/\∃ c,c < 128/\aa=[some (.ref t),some (.str x),some (.ref wl),some (.str S),some (.int lv),some (.int wy),some (.str (one c)),none,none,none,none,none,none,none]) (λ D' hD=>?_) ?_
   ·refine⟨_,rfl,t,sl,2,rfl,tp3,by decide,by decide,λ q H4 b4 tp4 q0 q1=>⟨rfl,_,rfl,dJ (λ _=>?_) λ _=>hD _ _ ⟨⟨e3.bt.trans b4,tp4⟩,c,c128,rfl⟩⟩⟩;refine⟨_,rfl,_,rfl,_,rfl,x,rfl,by omega,t,sl,_,rfl,tp4,by omega,by omega,λ r H5 b5 tp5 r0 r1=>?_⟩;obtain⟨i,rfl⟩:=Int.eq_ofNat_of_zero_le r0;obtain⟨c,hc⟩:∃ c,(sg x)[i]? = some c:=⟨_,abh (by rw[fG];omega)⟩;exact .inr (.inr ⟨x,((i:Nat):Int),c,rfl,rfl,by rw[sizeLine_eq];omega,eK (xs:=x.cps.toList) hc,hD _ _ ⟨⟨(e3.bt.trans b4).trans b5,tp5⟩,c,ha c (aad hc),rfl⟩⟩)
   rintro aa H4 ⟨e4,c,c128,rfl⟩;refine⟨_,rfl,x,rfl,by omega,λ l hl=>⟨_,rfl,_,rfl,_,rfl,x,rfl,by omega,_,_,rfl,rfl,t,sl,_,rfl,e4.tp.same (aG.new hl),by omega,by omega,λ r H5 b5 tp5 r0 r1=>?_⟩⟩;have nlt:l≠t:=e4.ne hl;have g5:=b5 _ _ nlt (show upd H4 l (.lst (HJ x)) l=_ from aD);rw[KA] at g5;have hsw:=E5 x;have hsa:=E6 ha;have hsn:(GD x).length=x.length:=by unfold GD;rw[aab,fG]
   refine⟨_,rfl,l,GD x,wy,r,one c,rfl,g5,r0,by omega,λ p us H6 s6 hp g6 hu hw hul=>?_⟩;dsimp only [aW,bL];have hu1:∀ u∈us,eA u/\u.length<=1:=λ u h=>by
    rcases hu u h with h | h
    ·exact hsa u h
    ·rw[h];exact⟨λ d hd=>by have:d=c:=(by simpa [sg,one] using hd);omega,aag _⟩
   have hoc:(one c).length=1:=rfl;refine⟨rfl,_,rfl,"",p,us,rfl,rfl,bO.of g6,mM (by decide) (by omega),?_⟩;rw[w_e];refine k _ _ (((e4.new hl).trans ⟨b5,tp5⟩).sm s6) (hG LQ λ a ha=>(hu1 a ha).1) ?_;rw[r9];have:=E1 λ a ha=>(hu1 a ha).2;omega
  dsimp only [bL];refine⟨_,rfl,rfl,x,"\n",rfl,rfl,by decide,by omega,λ lp hlp=>?_⟩;rw[K1];have hsw:=qK x 10;have hne:=lP x 10;have hls:∀ y∈Txt.split x (one 10),eA y/\y.length<=x.length:=λ y hy=>⟨dN ha hy,PyProof.Rows.part_short hy⟩;generalize Txt.split x (one 10)=ls at hsw hne hls ⊢;have hlp0:0 < ls.length:=List.length_pos_iff.mpr hne;have hlw:=tQ ls;have e3:=e2.new (o:=HO.lst (ls.map V.str)) hlp;have nlt:lp≠t:=e2.ne hlp;have fl:H lp=none:=e2.fr0 hlp;have nlw:lp≠wl:=λ z=>by rw[<- z,fl] at hwl;cases hwl
  have g3:upd H2 lp (.lst (ls.map V.str)) lp=some (.lst (ls.map V.str)):=aD;have lml:(ls.map V.str).length=ls.length:=aab ..;dsimp only [aW,bL];generalize upd H2 lp (.lst (ls.map V.str))=H3 at e3 g3 ⊢;clear e2 tp2 hlp;refine⟨_,rfl,rfl,_,rfl,dJ (λ _=>?_) λ _=>?_⟩
  ·
   refine⟨_,rfl,_,rfl,_,rfl,lp,_,rfl,.inl (bO.of g3),t,sl,_,rfl,e3.tp,by omega,by omega,λ r H4 b4 tp4 r0 r1=>?_⟩;obtain⟨i,rfl⟩:=Int.eq_ofNat_of_zero_le r0;obtain⟨y,hy⟩:∃ y,ls[i]? = some y:=⟨_,abh (by omega)⟩;have g4:=b4 _ _ nlt g3;refine .inl ⟨lp,_,((i:Nat):Int),_,rfl,rfl,bO.of g4,eK (jF hy),?_⟩;dsimp only [aW,bL];refine⟨rfl,_,rfl,_,rfl,_,rfl,_,rfl,lp,_,rfl,.inl (bO.of g4),_,_,rfl,rfl,t,sl,_,rfl,tp4,by omega,by omega,λ r H5 b5 tp5 r0 r1=>?_⟩;obtain⟨ya,yl⟩:=hls y (aad hy);refine⟨_,rfl,lp,ls,wy,r,y,rfl,b5 _ _ nlt g4,r0,by omega,λ p us H6 s6 hp g6 hu hw hul=>?_⟩;refine⟨"\n",p,us,rfl,rfl,bO.of g6,mM (by decide) (by omega),?_⟩;have hj:=nG (sep := "\n") (l:=us) (by decide);refine k _ _ (((e3.trans ⟨b4,tp4⟩).trans ⟨b5,tp5⟩).sm s6) (hG GT λ a h=>?_) (by omega);rcases hu a h with h | h
   ·exact (hls a h).1
   ·rw[h];exact ya
  dsimp only [bL];refine⟨_,rfl,_,rfl,lp,_,rfl,.inl (bO.of g3),t,sl,_,rfl,e3.tp,by omega,by omega,λ r H4 b4 tp4 r0 r1=>?_⟩;obtain⟨i,rfl⟩:=Int.eq_ofNat_of_zero_le r0;obtain⟨y,hy⟩:∃ y,ls[i]? = some y:=⟨_,abh (by omega)⟩;have g4:=b4 _ _ nlt g3;have e4:=e3.trans ⟨b4,tp4⟩;obtain⟨ya,yl⟩:=hls y (aad hy);dsimp only [aW,bL];clear b4 g3 e3 r0;refine⟨_,rfl,_,rfl,.inl ⟨lp,_,((i:Nat):Int),_,rfl,rfl,bO.of g4,eK (jF hy),rfl,y," ",rfl,rfl,by decide,by omega,λ p5 hp5=>?_⟩⟩;rw[G4];have hyw:=qK y 32;have hyn:=lP y 32;have hws:∀ u∈Txt.split y (one 32),eA u/\u.length<=y.length:=λ u hu=>⟨dN ya hu,PyProof.Rows.part_short hu⟩;generalize Txt.split y (one 32)=ws at hyw hyn hws ⊢;have hwp:0 < ws.length:=List.length_pos_iff.mpr hyn;have hww:=tQ ws;have s5:=aG.new (o:=HO.lst (ws.map V.str)) hp5;have e5:=e4.new (o:=HO.lst (ws.map V.str)) hp5;have g5:upd H4 p5 (.lst (ws.map V.str)) p5=some (.lst (ws.map V.str)):=aD;have n5t:p5≠t:=e4.ne hp5;have n5l:p5≠lp:=λ z=>by rw[z,g4] at hp5;cases hp5
  have gl5:=s5 _ _ g4;have gw5:=e5.bt _ _ nwt hwl;dsimp only [aW,bL];generalize upd H4 p5 (.lst (ws.map V.str))=H5 at s5 e5 g5 gl5 gw5 ⊢;clear s5 hp5 g4 e4 tp4;have lmm:(ms.map V.str).length=ms.length:=aab ..;have lmw:(ws.map V.str).length=ws.length:=aab ..;refine⟨_,rfl,_,rfl,wl,p5,_,_,rfl,rfl,gw5,g5,by rw[sizeLine_eq];omega,λ p6 hp6=>?_⟩;have s6:=aG.new (o:=HO.lst (ms.map V.str++ws.map V.str)) hp6;have e6:=e5.new (o:=HO.lst (ms.map V.str++ws.map V.str)) hp6;have g6:upd H5 p6 (.lst (ms.map V.str++ws.map V.str)) p6=some (.lst ((ms++ws).map V.str)):=by rw[aD,aaj]
  have n6t:p6≠t:=e5.ne hp6;have gl6:=s6 _ _ gl5;have g56:=s6 _ _ g5;dsimp only [aW,bL];generalize upd H5 p6 (.lst (ms.map V.str++ws.map V.str))=H6 at s6 e6 g6 gl6 g56 ⊢;clear s6 hp6 e5 g5 gl5 gw5;have lmb:((ms++ws).map V.str).length=ms.length+ws.length:=by rw[aab,aao]
  refine⟨_,rfl,_,rfl,_,rfl,p6,_,rfl,.inl (bO.of g6),t,sl,_,rfl,e6.tp,by omega,by omega,λ r H7 b7 tp7 r0 r1=>?_⟩;obtain⟨j,rfl⟩:=Int.eq_ofNat_of_zero_le r0;obtain⟨z,hz⟩:∃ z,(ms++ws)[j]? = some z:=⟨_,abh (by rw[aao];omega)⟩;refine .inl ⟨p6,_,((j:Nat):Int),_,rfl,rfl,bO.of (b7 _ _ n6t g6),eK (jF hz),?_⟩;have e7:=e6.trans ⟨b7,tp7⟩;have gl7:=b7 _ _ nlt gl6;have g7:=b7 _ _ n5t g56;have hzz:eA z/\z.length<=x.length+10:=by
   rcases aba.mp (aad hz) with h | h
   ·exact⟨(hms z h).1,by have:=(hms z h).2;omega⟩
   ·exact⟨(hws z h).1,by have:=(hws z h).2;omega⟩
  have hzy:z.length<=y.length+10:=by
   rcases aba.mp (aad hz) with h | h
   ·have:=(hms z h).2;omega
   ·have:=(hws z h).2;omega
  dsimp only [aW,bL];clear b7 e6 g6 gl6 g56 r0;refine⟨_,rfl,_,rfl,_,rfl,_,rfl,p5,_,rfl,.inl (bO.of g7),_,_,rfl,rfl,t,sl,_,rfl,tp7,by omega,by omega,λ r H8 b8 tp8 r0 r1=>?_⟩;refine⟨_,rfl,p5,ws,wy,r,z,rfl,b8 _ _ n5t g7,r0,by omega,λ p9 us H9 s9 hp9 g9 hu hw hul=>?_⟩;have e9:=(e7.trans ⟨b8,tp8⟩).sm s9;have gl9:=s9 _ _ (b8 _ _ nlt gl7);have n9l:p9≠lp:=λ q=>by rw[q,b8 _ _ nlt gl7] at hp9;cases hp9
  dsimp only [aW,bL];have hua:∀ u∈us,eA u:=λ u h=>by
   rcases hu u h with h | h
   ·exact (hws u h).1
   ·rw[h];exact hzz.1
  refine⟨rfl,_,rfl," ",p9,us,rfl,rfl,bO.of g9,mM (by decide) (by omega),?_⟩;have hj:=nG (sep := " ") (l:=us) (by decide);have ja:eA (Str.join " " us):=hG LR hua;generalize Str.join " " us=y' at hj ja ⊢;refine⟨_,rfl,_,rfl,lp,_,((i:Nat):Int),i,rfl,rfl,gl9,tW (k:=((i:Nat):Int)) (by omega) (by omega),?_⟩;have em:(ls.map V.str).set i (.str y')=(ls.set i y').map V.str:=by rw[List.map_set]
  rw[em];have hwset:=lK (z:=y') hy;refine⟨rfl,_,rfl,"\n",lp,ls.set i y',rfl,rfl,bO.of aD,mM (by decide) (by omega),?_⟩;have hj2:=nG (sep := "\n") (l:=ls.set i y') (by decide);refine k _ _ (e9.put tp fl) (hG GT λ a h=>?_) (by omega);rcases List.mem_or_eq_of_mem_set h with h | h
  ·exact (hls a h).1
  ·rw[h];exact ja
def zH (x:Str):L2.D:=if x = "ground" then .non else match d7 x with
 | none=>.str "none"
 | some n=>.int n
def lw (x:Str):List Str:=Txt.split x (one 32)++List.replicate 7 ("" : Str)
def d3 (x:Str) (i:Nat):Str:=(lw x).getD i ""
def qZ (p:Str):L2.D:=.tup [zH (Txt.partition p (one 42)).1,kT (d7 (Txt.partition p (one 42)).2.2)]
def rN (p:Str):L2.D:=.tup [.str (Txt.partition p (one 46)).1,kT (d7 (Txt.partition p (one 46)).2.2)]
def FZ (x:Str):List Str:=if x = "-" then [] else Txt.split x (one 44)
def qM (x:Str):L2.D:=.tup [kT (d7 (d3 x 1)),kT (d7 (d3 x 2)),.tup ((Txt.split (d3 x 3) (one 44)).map qZ),.bl (decide (d3 x 4 = "holds")),zH (d3 x 5),.tup ((FZ (d3 x 6)).map rN)]
def qS (x:Str):L2.D:=.tup [kT (d7 (d3 x 1)),kT (d7 (d3 x 2)),.bl (decide (d3 x 3 = "open"))]
def xT (ls:List Str):List L2.D:=(ls.filter λ x=>decide (d3 x 0 = "vessel")).map qM
def xY (ls:List Str):List L2.D:=(ls.filter λ x=>decide (d3 x 0 = "spout")).map qS
def FG (x:Str):L2.D:=.tup [.tup (xT (Txt.split x (one 10))),.tup (xY (Txt.split x (one 10)))]
theorem qP {t:Option Int} (h:qI t):zH (bT t)=kT t:=by
 cases t with
 | none=>rfl
 | some i=>
  obtain⟨h0,h1⟩:=h i rfl;show (if aV i = "ground" then L2.D.non else match d7 (aV i) with | none=>.str "none" | some n=>.int n)=_;rw[if_neg (vF h0 (w := "ground") ⟨103,by decide +kernel,.inl (by decide)⟩),gE h0 h1];rfl
theorem zQ {o:Option Int×Int} (h:OutIn o):qZ (gN o)=i8 o:=by
 unfold qZ gN;rw[oE (λ z=>?_)]
 ·show L2.D.tup [zH (bT o.1),kT (d7 (aV o.2))]=_;rw[qP h.tg,gE h.lo h.hi];rfl
 ·cases e:o.1 with
  | none=>rw[e] at z;exact absurd z (by decide +kernel)
  | some i=>rw[e] at z;have:=eM (h.tg i e).1 42 z;omega
theorem AI {a:Str×Int} (h:ActIn a):rN (eZ a)=fF a:=by
 unfold rN eZ;rw[oE (λ z=>by have:=h.sg _ z;omega)];show L2.D.tup [.str a.1,kT (d7 (aV a.2))]=_;rw[gE h.lo h.hi];rfl
theorem DL {as:List (Str×Int)} (h:∀ a∈as,ActIn a):(FZ (dA as)).map rN=as.map fF:=by
 by_cases hn:as=[]
 ·subst hn;rfl
 ·unfold FZ;rw[if_neg (wC hn)];unfold dA;rw[if_neg hn,dR (by simpa using hn) (λ a ha=>by
   obtain⟨o,ho,rfl⟩:=aay.mp ha;exact λ z=>(xC (h o ho) 44 z).2 rfl),acd]
  exact acj λ a ha=>AI (h a ha)
theorem IV {v:Vs} (h:VsIn v):lw (dW v)=(("vessel" : Str)::jY v)++List.replicate 7 ("" : Str):=by
 unfold lw dW;rw[dR (by simp) λ a ha z=>by have:=xD h a ha 32 z;omega]
theorem IW {s:oO} (h:SptIn s):lw (eP s)=(("spout" : Str)::lO s)++List.replicate 7 ("" : Str):=by
 unfold lw eP;rw[dR (by simp) λ a ha z=>by have:=xE h a ha 32 z;omega]
theorem mS {v:Vs} (h:VsIn v):qM (dW v)=o0 v/\d3 (dW v) 0 = "vessel" := by
 have e:=IV h;have w:∀ i,d3 (dW v) i=((("vessel" : Str)::jY v)++List.replicate 7 ("" : Str)).getD i "" := λ i=>by unfold d3;rw[e]
 have e1:d3 (dW v) 1=aV v.size:=w 1;have e2:d3 (dW v) 2=aV v.brim:=w 2;have e3:d3 (dW v) 3=cK v.outs:=w 3;have e4:d3 (dW v) 4=d9 v.holds:=w 4;have e5:d3 (dW v) 5=bT v.spill:=w 5;have e6:d3 (dW v) 6=dA v.acts:=w 6;refine⟨?_,w 0⟩;unfold qM;rw[e1,e2,e3,e4,e5,e6,gE h.s0 h.s1,gE h.b0 h.b1,oT h.on h.os,rE,qP h.sp,DL h.as,acd];have eo:v.outs.map (qZ ∘ gN)=v.outs.map i8:=acj λ o ho=>zQ (h.os o ho);rw[eo];rfl
theorem mU {s:oO} (h:SptIn s):qS (eP s)=qB s/\d3 (eP s) 0 = "spout" := by
 have e:=IW h;have w:∀ i,d3 (eP s) i=((("spout" : Str)::lO s)++List.replicate 7 ("" : Str)).getD i "" := λ i=>by unfold d3;rw[e]
 have e1:d3 (eP s) 1=aV s.1:=w 1;have e2:d3 (eP s) 2=aV s.2.1:=w 2;have e3:d3 (eP s) 3=fN s.2.2:=w 3;refine⟨?_,w 0⟩;unfold qS;rw[e1,e2,e3,gE h.t0 h.t1,gE h.f0 h.f1,rF];rfl
theorem G6:¬ ("spout" : Str) = "vessel" := by decide +kernel
theorem yJ {n:Net} (h:NetIn n):FG (fE n)=eH n:=by
 unfold FG;rw[qT h];have e1:xT (n.vs.map dW++n.sps.map eP)=n.vs.map o0:=by
  unfold xT;rw[List.filter_append,List.filter_eq_self.mpr (λ x hx=>by
   obtain⟨v,hv,rfl⟩:=aay.mp hx;exact aaw (mS (h.vs v hv)).2),List.filter_eq_nil_iff.mpr (λ x hx=>by
   obtain⟨v,hv,rfl⟩:=aay.mp hx;rw[(mU (h.sps v hv)).2];simpa using G6),acb,acd]
  exact acj λ v hv=>(mS (h.vs v hv)).1
 have e2:xY (n.vs.map dW++n.sps.map eP)=n.sps.map qB:=by
  unfold xY;rw[List.filter_append,List.filter_eq_nil_iff.mpr (λ x hx=>by
   obtain⟨v,hv,rfl⟩:=aay.mp hx;rw[(mS (h.vs v hv)).2];simpa using λ z=>G6 z.symm),List.filter_eq_self.mpr (λ x hx=>by
   obtain⟨v,hv,rfl⟩:=aay.mp hx;exact aaw (mU (h.sps v hv)).2),List.nil_append,acd]
  exact acj λ v hv=>(mU (h.sps v hv)).1
 rw[e1,e2];rfl
theorem uW {x:Str}{n:Net} (h:sN (.str x)=some n):NetOk n/\NetFull n/\fE n=x:=by
 have h:(m8 x).bind (λ n=>if fI (dO (eH n))=true/\fE n=x then some n else none)=some n:=h;cases e:m8 x with
 | none=>rw[e] at h;cases h
 | some m=>
  rw[e] at h;have h:(if fI (dO (eH m))=true/\fE m=x then some m else none)=some n:=h
  split at h
  ·rename_i hc
   cases h;exact⟨(tK hc.1).1,(tK hc.1).2,hc.2⟩
  ·cases h
theorem IZ {x:Str} (h:fI (dO (FG x))=false):sN (.str x)=none:=by
 cases e:sN (.str x) with
 | none=>rfl
 | some n=>
  obtain⟨ok,fu,rfl⟩:=uW e;rw[yJ (gT ok fu),tL ok fu] at h;cases h
theorem FF {x:Str} (h:fI (dO (FG x))=true):∃ n,FG x=eH n/\NetOk n/\NetFull n/\(fE n=x->sN (.str x)=some n)/\(fE n≠x->sN (.str x)=none):=by
 obtain⟨n,e,ok,fu⟩:=tI h;have e:=rR e;refine⟨n,e,ok,fu,λ ex=>by rw[<- ex];exact E9 ok fu,λ ex=>?_⟩;cases e2:sN (.str x) with
 | none=>rfl
 | some m=>
  obtain⟨ok2,fu2,rfl⟩:=uW e2;rw[yJ (gT ok2 fu2)] at e;rw[vH e] at ex;exact absurd rfl ex
section
variable {aw:Addr}
theorem DX {i n m:Int}{sz br os ho sp ac:G}:iL i n m (.tup [sz,br,os,ho,sp,ac])=(bZ 1 60 sz && nZ sz br && bK 1 3 os && bK 0 3 ac && (mO os).all (kB n) && DR ho && DO (i+1) (n - 1) sp && (mO ac).all (jM m)):=rfl
theorem oH (g:G):iE g "tuple" = (match g with | .tup _=>true | _=>false):=by cases g <;> rfl
theorem vV (g:G):iE g "bool" = DR g:=by cases g <;> rfl
theorem FP (g:G):iE g "str" = (match g with | .str _=>true | _=>false):=by cases g <;> rfl
theorem pY {q:G->Bool}{gs:List G}{g:G} (h:g∈gs) (e:q g=false):gs.all q=false:=by
 cases z:gs.all q with
 | false=>rfl
 | true=>rw[abl.mp z g h] at e;cases e
theorem lB {f f1:Addr}{fd fd1:FuncData} (F:Fun K "_law_is_vessel" "_law_is_vessel" (bB 69) f fd) (T:Txt mg) (TS:TxtS mg) (G__law_whole:Callee P w K mg base "_law_whole" ["thing","low","high"] 1 (eE K) f1 fd1) :
  FnOk P w K mg base hU 2 f fd ["thing","number","many","spouts"] (mW K):=by
 refine F.ok gH (λ vs H Q E h=>?_) (λ cdv A outer s H vs Q E hr h=>?_)
 ·obtain⟨x,g,i,n,m,rfl,_⟩:=h;rfl
 ·obtain⟨x,g,i,n,m,rfl,hg,k⟩:=h;have sc:=gH;refine⟨_,(aE (bC (PW.pt (d4 (bI (bG (aT (bN (K:=K) rfl) rfl T.b_isinstance bE (aA (pv 0) (aA (cJ (v:=.ty "tuple") rfl T.b_tuple bS rfl) aB))))) (d4 (aQ kO (kA K T.b_len (pv 0)) aF (aP _)) (cQ (bI (bG (cB G__law_whole hr (aA (px K (pv 0) aF) (aA aF (aA aF aB)))))))))) (aH (aM cX)) aS)
   (aE (bC (PW.pt (d4 (bI (bG (cB G__law_whole hr (aA (px K (pv 0) aF) (aA (px K (pv 0) aF) (aA aF aB)))))) (cQ (bI (bG (aT (bN (K:=K) rfl) rfl T.b_isinstance bE (aA (px K (pv 0) aF) (aA (cJ (v:=.ty "bool") rfl T.b_bool jX rfl) aB)))))))) (aH (aM cX)) aS)
   (aE (bC (PW.pt (d4 (bI (bG (aT (bN (K:=K) rfl) rfl T.b_isinstance bE (aA (px K (pv 0) aF) (aA (cJ (v:=.ty "tuple") rfl T.b_tuple bS rfl) aB))))) (cQ (bI (uZ jD jD aF (kA K T.b_len (px K (pv 0) aF)) aF))))) (aH (aM cX)) aS)
   (aE (bC (PW.pt (d4 (bI (bG (aT (bN (K:=K) rfl) rfl T.b_isinstance bE (aA (px K (pv 0) aF) (aA (cJ (v:=.ty "tuple") rfl T.b_tuple bS rfl) aB))))) (cQ (aQ r6 (kA K T.b_len (px K (pv 0) aF)) aF (aP _))))) (aH (aM cX)) aS)
   (aE (dS PassesOwn.never rfl (cV (K:=K) rfl (aU (jR (K:=K) rfl) (px K (pv 0) aF) (px K (pv 0) aF))) (gL 4 sc.nd) (aH (bC (PW.pt (d4 (bI (bG (aT (bN (K:=K) rfl) rfl T.b_isinstance bE (aA (pv 4) (aA (cJ (v:=.ty "tuple") rfl T.b_tuple bS rfl) aB))))) (cQ (aQ kO (kA K T.b_len (pv 4)) aF (aP _))))) (aH (aM cX)) aS)))
   (aE (dS PassesOwn.never rfl (cV (K:=K) rfl (px K (pv 0) aF)) (cG (K:=K) (n:=2) rfl rfl (aJ (gL 5 sc.nd) (aJ (gL 6 sc.nd) bY))) (aH (bC (PW.pt (d4 (PW.pt (nA (aQ yE (pv 5) d8 (aP _)) (jP (bI (bG (cB G__law_whole hr (aA (pv 5) (aA aF (aA (aU fH (pv 2) aF) aB))))))))) (cQ (bI (bG (cB G__law_whole hr (aA (pv 6) (aA aF (aA aF aB))))))))) (aH (aM cX)) aS)))
   (aE (dS PassesOwn.never rfl (cV (K:=K) rfl (px K (pv 0) aF)) (cG (K:=K) (n:=2) rfl rfl (aJ (gL 7 sc.nd) (aJ (gL 8 sc.nd) bY))) (aH (bC (PW.pt (d4 (bI (bG (aT (bN (K:=K) rfl) rfl T.b_isinstance bE (aA (pv 7) (aA (cJ (v:=.ty "str") rfl TS.b_str dU rfl) aB))))) (d4 (aQ (BI (K:=K) rfl hr.units) (pv 7) (aZ (aA aI (aA aI (aA aI aB)))) (by rfl)) (cQ (bI (bG (cB G__law_whole hr (aA (pv 8) (aA aF (aA (aU fH (pv 3) aF) aB)))))))))) (aH (aM cX)) aS)))
   (aH (aM (BE (d2 jE (px K (pv 0) aF) d8 (aP _)) (gA (cB G__law_whole hr (aA (px K (pv 0) aF) (aA (aU cZ (pv 1) aF) (aA (aU fH (pv 2) aF) aB))))))))))))))),?_⟩
  have kF:iL i n m g=false->∀ H',aG H H'->Q (.bl false) H':=λ e H' s=>by have:=k H' s;rw[e] at this;exact this
  refine⟨_,rfl,x,"tuple",g,rfl,by decide,hg,_,rfl,?_⟩;cases e0:iE g "tuple" with
  | false=>exact aX (aX (kF (by cases g <;> first | rfl | (simp [iE,mL] at e0)) _ (aG.refl _)))
  | true=>
  refine bM ?_;cases g with
  | tup gs=>
   obtain⟨a,xs,rfl,q,l⟩:=hg.ut;have el:=l.length;refine⟨_,rfl,a,xs,rfl,.inr q,rfl,_,rfl,?_⟩
   by_cases h6:gs.length=6
   rotate_left
   ·rw[show (!decide (V.int (xs.length:Int)=V.int 6))=true by rw[el];simp;omega];refine aX (aX ?_);exact kF (AM (by simp [bK];omega)) _ (aG.refl _)
   rw[show (!decide (V.int (xs.length:Int)=V.int 6))=false by rw[el,h6];simp];refine bM ?_;obtain⟨sz,br,os,ho,sp,ac,e⟩:=AV (g:=.tup gs) (by simp [bK,h6]);injection e with e;subst e;obtain⟨x1,r,rfl,i1,l⟩:=l.un;obtain⟨x2,r,rfl,i2,l⟩:=l.un;obtain⟨x3,r,rfl,i3,l⟩:=l.un;obtain⟨x4,r,rfl,i4,l⟩:=l.un;obtain⟨x5,r,rfl,i5,l⟩:=l.un;obtain⟨x6,r,rfl,i6,l⟩:=l.un;obtain rfl:=l.un0;rw[DX] at kF k;refine⟨_,rfl,.inr (.inl ⟨a,_,0,_,rfl,rfl,q,rfl,x1,sz,1,60,rfl,i1,_,rfl,?_⟩)⟩;cases e1:bZ 1 60 sz with
   | false=>exact aX (kF (by rw[e1];rfl) _ (aG.refl _))
   | true=>
   refine bM ?_;obtain⟨z,rfl,_⟩:=fA e1;obtain rfl:=i1.ui;refine⟨_,rfl,.inr (.inl ⟨a,_,1,_,rfl,rfl,q,rfl,_,rfl,.inr (.inl ⟨a,_,0,_,rfl,rfl,q,rfl,x2,br,z,200,rfl,i2,_,rfl,?_⟩)⟩)⟩;cases e2:bZ z 200 br with
   | false=>exact aX (aX (kF (by rw[show nZ (.int z) br=false from e2];simp) _ (aG.refl _)))
   | true=>
   refine bM ?_;refine⟨_,rfl,.inr (.inl ⟨a,_,3,_,rfl,rfl,q,rfl,x4,"bool",ho,rfl,by decide,i4,_,rfl,?_⟩)⟩;rw[vV];cases e3:DR ho with
   | false=>exact aX (kF (by rw[e3];simp) _ (aG.refl _))
   | true=>
   refine bM ?_;refine⟨_,rfl,.inr (.inl ⟨a,_,2,_,rfl,rfl,q,rfl,x3,"tuple",os,rfl,by decide,i3,_,rfl,?_⟩)⟩;rw[oH];cases os with
   | tup os=>
    refine bM ?_;obtain⟨oa,oxs,rfl,qo,lo⟩:=i3.ut;have eol:=lo.length;refine⟨_,rfl,.inr (.inl ⟨a,_,2,_,rfl,rfl,q,rfl,oa,oxs,rfl,.inr qo,_,_,rfl,rfl,_,rfl,?_⟩)⟩;rw[eol]
    by_cases ho1:(1:Int)<=os.length
    rotate_left
    ·rw[aau ho1];exact bM ⟨_,rfl,aX (kF (by simp [bK,ho1]) _ (aG.refl _))⟩
    rw[aaw ho1];refine aX ⟨_,_,rfl,rfl,_,rfl,?_⟩
    by_cases ho3:(os.length:Int)<=3
    rotate_left
    ·rw[aau ho3];exact aX (kF (by simp [bK,ho3]) _ (aG.refl _))
    rw[aaw ho3];refine bM ?_;refine⟨_,rfl,.inr (.inl ⟨a,_,5,_,rfl,rfl,q,rfl,x6,"tuple",ac,rfl,by decide,i6,_,rfl,?_⟩)⟩;rw[oH];cases ac with
    | tup ac=>
     refine bM ?_;obtain⟨ca,cxs,rfl,qc,lc⟩:=i6.ut;have ecl:=lc.length;refine⟨_,rfl,.inr (.inl ⟨a,_,5,_,rfl,rfl,q,rfl,ca,cxs,rfl,.inr qc,_,_,rfl,rfl,_,rfl,?_⟩)⟩;rw[ecl]
     by_cases hc3:(3:Int) < ac.length
     ·rw[aaw hc3];exact aX (kF (by simp [bK];omega) _ (aG.refl _))
     rw[aau hc3];refine bM ?_;have eT:bK 1 3 (.tup os)=true/\bK 0 3 (.tup ac)=true:=by simp [bK];omega
     rw[e1,show nZ (.int z) br=true from e2,eT.1,eT.2,e3] at k kF;simp only [Bool.true_and,Bool.and_true,mO] at k kF;clear e1 e2 e3 eT;refine⟨_,rfl,.inr (.inl ⟨a,_,2,_,rfl,rfl,q,rfl,_,rfl,.inr (.inl ⟨a,_,5,_,rfl,rfl,q,rfl,oa,ca,oxs,cxs,rfl,rfl,qo,qc,by rw[sizeLine_eq];omega,λ pa H1 s1 qp=>?_⟩)⟩)⟩;have lp:=aY.same s1 (lo.app lc);refine⟨pa,rfl,⟨_,qp⟩,jU (K:=K) (a:=pa) (xs:=oxs++cxs) (λ t aa H'=>H1=H'/\(∀ (j:Nat) g,j < t->(os++ac)[j]? = some g->bK 2 2 g=true)/\∃ v4,aa=[some (.ref a),some (.int i),some (.int n),some (.int m),v4,none,none,none,none]) ⟨rfl,λ j g h=>absurd h (ace _),_,rfl⟩ (λ t aa H' _ h=>by rw[<- h.1];exact qp) ?_ ?_⟩
     ·rintro t y aa _ hy ⟨rfl,hall,v4,rfl⟩;obtain⟨g,hg,ig⟩:=lp.get' hy;dsimp only [aW];have bad:bK 2 2 g=false->Q (.bl false) H1:=λ e=>kF (by
       rcases aba.mp (aad hg) with hm | hm
       ·rw[pY hm (BF e)];rfl
       ·rw[pY hm (DK e)];simp) _ s1
      refine⟨_,rfl,y,"tuple",g,rfl,by decide,ig,_,rfl,?_⟩;rw[oH];cases g with
      | tup gs=>
       refine bM ?_;obtain⟨ga,gxs,rfl,qg,lg⟩:=ig.ut;have egl:=lg.length;refine⟨_,rfl,ga,gxs,rfl,.inr qg,rfl,_,rfl,?_⟩
       by_cases h2:gs.length=2
       ·rw[show (!decide (V.int (gxs.length:Int)=V.int 2))=false by rw[egl,h2];simp];refine bM ⟨rfl,λ j g' hj hg'=>?_,_,rfl⟩;rcases (show j < t\/j=t by omega) with z | rfl
        ·exact hall j g' z hg'
        ·rw[hg] at hg';cases hg';simp [bK,h2]
       ·rw[show (!decide (V.int (gxs.length:Int)=V.int 2))=true by rw[egl];simp;omega];exact aX (bad (by simp [bK];omega))
      | _=>exact aX (aX (bad rfl))
     ·rintro aa _ ⟨rfl,hall,v4,rfl⟩;have hal:∀ g∈os++ac,bK 2 2 g=true:=λ g hg=>by
       obtain⟨j,hj⟩:=abw.1 hg;exact hall j g (by have:=(aai.mp hj).1;rw[aao] at this ⊢;omega) hj
      clear hall lp qp;have lo1:=aY.same s1 lo;have lc1:=aY.same s1 lc;refine⟨_,rfl,.inr (.inl ⟨a,_,2,_,rfl,rfl,s1.tup q,rfl,oa,rfl,⟨_,s1.tup qo⟩,jU (K:=K) (a:=oa) (xs:=oxs) (λ t aa H'=>H1=H'/\(∀ (j:Nat) g,j < t->os[j]? = some g->kB n g=true)/\∃ v5 v6,aa=[some (.ref a),some (.int i),some (.int n),some (.int m),v4,v5,v6,none,none]) ⟨rfl,λ j g h=>absurd h (ace _),_,_,rfl⟩ (λ t aa H' _ h=>by rw[<- h.1];exact s1.tup qo) ?_ ?_⟩)⟩
      ·rintro t y aa _ hy ⟨rfl,hall,v5,v6,rfl⟩;obtain⟨g,hg,ig⟩:=lo1.get' hy;obtain⟨tg,pt,rfl⟩:=mT (hal g (abq _ (aad hg)));obtain⟨ga,gxs,rfl,qg,lg⟩:=ig.ut;obtain⟨xt,r,rfl,ht,lg⟩:=lg.un;obtain⟨xp,r,rfl,hp,lg⟩:=lg.un;obtain rfl:=lg.un0;refine⟨ga,_,rfl,qg,rfl,_,_,rfl,_,_,rfl,rfl,?_⟩;have bad:kB n (.tup [tg,pt])=false->Q (.bl false) H1:=λ e=>kF (by rw[pY (aad hg) e];rfl) _ s1;have good:kB n (.tup [tg,pt])=true->H1=H1/\(∀ (j:Nat) g,j < t+1->os[j]? = some g->kB n g=true)/\∃ v5 v6,[some (V.ref a),some (.int i),some (.int n),some (.int m),v4,some xt,some xp,none,none]=[some (.ref a),some (.int i),some (.int n),some (.int m),v4,v5,v6,none,none]:=λ e=>by
        refine⟨rfl,λ j g' hj hg'=>?_,_,_,rfl⟩;rcases (show j < t\/j=t by omega) with z | rfl
        ·exact hall j g' z hg'
        ·rw[hg] at hg';cases hg';exact e
       dsimp only [kB] at bad good;rcases oI ht with ⟨rfl,rfl⟩ | ⟨n1,n2⟩
       ·refine⟨_,rfl,rfl,_,rfl,?_⟩;rw[aaw rfl];refine bM (bM ?_);refine⟨_,rfl,xp,pt,1,60,rfl,hp,_,rfl,?_⟩;cases e:bZ 1 60 pt with
        | false=>exact aX (bad (by rw[e];simp))
        | true=>exact bM (good (by rw[e];rfl))
       ·refine⟨_,rfl,rfl,_,rfl,?_⟩;rw[aau n1];rw[rS n2] at bad good;refine aX ⟨_,rfl,_,rfl,_,_,rfl,rfl,xt,tg,0,_,rfl,ht,_,rfl,?_⟩;cases e':bZ 0 (n - 1) tg with
        | false=>exact aX (aX (bad (by rw[e'];rfl)))
        | true=>
         refine bM ⟨_,rfl,xp,pt,1,60,rfl,hp,_,rfl,?_⟩;cases e:bZ 1 60 pt with
         | false=>exact aX (bad (by rw[e];simp))
         | true=>exact bM (good (by rw[e',e];rfl))
      ·rintro aa _ ⟨rfl,hall,v5,v6,rfl⟩;have hos:os.all (kB n)=true:=abl.mpr λ g hg=>by
        obtain⟨j,hj⟩:=abw.1 hg;exact hall j g (by have:=(aai.mp hj).1;omega) hj
       rw[hos] at k kF;simp only [Bool.true_and] at k kF;refine⟨_,rfl,.inr (.inl ⟨a,_,5,_,rfl,rfl,s1.tup q,rfl,ca,rfl,⟨_,s1.tup qc⟩,jU (K:=K) (a:=ca) (xs:=cxs) (λ t aa H'=>aG H1 H'/\(∀ (j:Nat) g,j < t->ac[j]? = some g->jM m g=true)/\∃ v7 v8,aa=[some (.ref a),some (.int i),some (.int n),some (.int m),v4,v5,v6,v7,v8]) ⟨aG.refl _,λ j g h=>absurd h (ace _),_,_,rfl⟩ (λ t aa H' _ h=>(s1.trans h.1).tup qc) ?_ ?_⟩)⟩
       ·rintro t y aa H2 hy ⟨s2,hall,v7,v8,rfl⟩;obtain⟨g,hg,ig⟩:=(aY.same s2 lc1).get' hy;obtain⟨tg,pt,rfl⟩:=mT (hal g (abg _ (aad hg)));obtain⟨ga,gxs,rfl,qg,lg⟩:=ig.ut;obtain⟨xt,r,rfl,ht,lg⟩:=lg.un;obtain⟨xp,r,rfl,hp,lg⟩:=lg.un;obtain rfl:=lg.un0;refine⟨ga,_,rfl,qg,rfl,_,_,rfl,_,_,rfl,rfl,?_⟩;have bad:jM m (.tup [tg,pt])=false->∀ H3,aG H2 H3->Q (.bl false) H3:=λ e H3 s3=>kF (by rw[pY (aad hg) e];simp) _ ((s1.trans s2).trans s3);have good:jM m (.tup [tg,pt])=true->∀ H3,aG H2 H3->aG H1 H3/\(∀ (j:Nat) g,j < t+1->ac[j]? = some g->jM m g=true)/\∃ v7 v8,[some (V.ref a),some (.int i),some (.int n),some (.int m),v4,v5,v6,some xt,some xp]=[some (.ref a),some (.int i),some (.int n),some (.int m),v4,v5,v6,v7,v8]:=λ e H3 s3=>by
         refine⟨s2.trans s3,λ j g' hj hg'=>?_,_,_,rfl⟩;rcases (show j < t\/j=t by omega) with z | rfl
         ·exact hall j g' z hg'
         ·rw[hg] at hg';cases hg';exact e
        dsimp only [jM] at bad good;refine⟨_,rfl,xt,"str",tg,rfl,by decide,ht,_,rfl,?_⟩;rw[FP];cases tg with
        | str zz=>
         refine bM ?_;refine⟨_,rfl,(show 3<=sizeLine by decide),λ wl hwl=>?_⟩;have s3:=aG.new (o:=HO.lst [.str "open",.str "shut",.str "turn"]) hwl;refine⟨.str zz,wl,fW,_,rfl,.inl (bO.of aD),by decide,aO.same s3 ht,.cons (.s _) (.cons (.s _) (.cons (.s _) .nil)),_,rfl,?_⟩;generalize upd H2 wl _=H3 at s3 ⊢;cases e:A0 (.str zz) fW with
         | false=>exact aX (aX (bad (by rw[e];rfl) _ s3))
         | true=>
          refine bM ⟨_,rfl,_,rfl,_,_,rfl,rfl,xp,pt,0,_,rfl,aO.same s3 hp,_,rfl,?_⟩;cases e':bZ 0 (m - 1) pt with
          | false=>exact aX (bad (by rw[e'];simp) _ s3)
          | true=>exact bM (good (by rw[e,e'];rfl) _ s3)
        | _=>exact aX (aX (bad (by simp [A0,fW,bJ]) _ (aG.refl _)))
       ·rintro aa H2 ⟨s2,hall,v7,v8,rfl⟩;have hac:ac.all (jM m)=true:=abl.mpr λ g hg=>by
         obtain⟨j,hj⟩:=abw.1 hg;exact hall j g (by have:=(aai.mp hj).1;omega) hj
        rw[hac] at k;simp only [Bool.and_true] at k;have s12:=s1.trans s2;rcases oI i5 with ⟨rfl,rfl⟩ | ⟨n1,n2⟩
        ·refine⟨_,rfl,.inr (.inl ⟨a,_,4,_,rfl,rfl,s12.tup q,rfl,rfl,_,rfl,tX rfl ?_⟩)⟩;exact k _ s12
        ·refine⟨_,rfl,.inr (.inl ⟨a,_,4,_,rfl,rfl,s12.tup q,rfl,rfl,_,rfl,?_⟩)⟩;rw[aau n1];rw[rS n2] at k;exact bM ⟨_,rfl,.inr (.inl ⟨a,_,4,_,rfl,rfl,s12.tup q,rfl,_,rfl,_,_,rfl,rfl,_,rfl,_,_,rfl,rfl,x5,sp,_,_,rfl,aO.same s12 i5,k _ s12⟩)⟩
    | _=>exact aX (aX (kF (by simp [bK]) _ (aG.refl _)))
   | _=>exact aX (aX (kF (by simp [bK]) _ (aG.refl _)))
  | _=>simp [iE,mL] at e0
theorem mP {g:G} (h:iE g "tuple" = true):∃ gs,g=.tup gs:=by
 rw[oH] at h;cases g with
 | tup gs=>exact⟨gs,rfl⟩
 | _=>cases h
theorem o6 {f f1 f2:Addr}{fd fd1 fd2:FuncData} (F:Fun K "_law_is_net" "_law_is_net" (bB 68) f fd) (T:Txt mg) (G__law_whole:Callee P w K mg base "_law_whole" ["thing","low","high"] 1 (eE K) f1 fd1)
  (G__law_is_vessel:Callee P w K mg base "_law_is_vessel" ["thing","number","many","spouts"] 2 (mW K) f2 fd2):FnOk P w K mg base hU 3 f fd ["thing"] (kW K):=by
 refine F.ok j6 (λ vs H Q E h=>?_) (λ cdv A outer s H vs Q E hr h=>?_)
 ·obtain⟨x,g,rfl,_⟩:=h;rfl
 ·obtain⟨x,g,rfl,hg,k⟩:=h;have sc:=j6;refine⟨_,(aE (bC (PW.pt (d4 (bI (bG (aT (bN (K:=K) rfl) rfl T.b_isinstance bE (aA (pv 0) (aA (cJ (v:=.ty "tuple") rfl T.b_tuple bS rfl) aB))))) (d4 (aQ kO (kA K T.b_len (pv 0)) aF (aP _)) (cQ (bI (bG (aT (gZ (K:=K) rfl rfl) rfl T.b_all PyProof.Rows.boot_all (aA (gB (λ _ _ h=>h) rfl (LcOk.mk (N':=["part"]) (fr:=[none]) rfl trivial rfl rfl rfl rfl rfl trivial) (cV (K:=K) rfl (pv 0)) (λ _ _ _=>(gC 0 ["part"])) (λ _ _ _=>cU) (λ _ _ _=>(aT (bN (K:=K) rfl) rfl T.b_isinstance bE (aA (pv 0) (aA (cJ (v:=.ty "tuple") rfl T.b_tuple bS rfl) aB))))) aB)))))))) (aH (aM cX)) aS)
   (aE (bC (PW.pt (d4 (bI (uZ jD jD aF (kA K T.b_len (px K (pv 0) aF)) aF)) (cQ (aQ r6 (kA K T.b_len (px K (pv 0) aF)) aF (aP _))))) (aH (aM cX)) aS)
   (aE (dS PassesOwn.never rfl (fT rfl T.b_range (aA (kA K T.b_len (px K (pv 0) aF)) aB)) (gL 1 sc.nd) (aH (bC (bI (bG (cB G__law_is_vessel hr (aA (px K (px K (pv 0) aF) (pv 1)) (aA (pv 1) (aA (kA K T.b_len (px K (pv 0) aF)) (aA (kA K T.b_len (px K (pv 0) aF)) aB))))))) (aH (aM cX)) aS)))
   (aE (dS PassesOwn.never rfl (cV (K:=K) rfl (px K (pv 0) aF)) (gL 2 sc.nd) (aE (bC (PW.pt (d4 (bI (bG (aT (bN (K:=K) rfl) rfl T.b_isinstance bE (aA (pv 2) (aA (cJ (v:=.ty "tuple") rfl T.b_tuple bS rfl) aB))))) (d4 (aQ kO (kA K T.b_len (pv 2)) aF (aP _)) (cQ (bI (bG (aT (bN (K:=K) rfl) rfl T.b_isinstance bE (aA (px K (pv 2) aF) (aA (cJ (v:=.ty "bool") rfl T.b_bool jX rfl) aB))))))))) (aH (aM cX)) aS)
   (aH (bC (PW.pt (d4 (bI (bG (cB G__law_whole hr (aA (px K (pv 2) aF) (aA aF (aA (aU fH (kA K T.b_len (px K (pv 0) aF)) aF) aB)))))) (cQ (bI (bG (cB G__law_whole hr (aA (px K (pv 2) aF) (aA aF (aA aF aB))))))))) (aH (aM cX)) aS))))
   (aH (aM cX)))))),?_⟩
  have kF:fI g=false->∀ H',aG H H'->Q (.bl false) H':=λ e H' s=>by have:=k H' s;rw[e] at this;exact this
  refine⟨_,rfl,x,"tuple",g,rfl,by decide,hg,_,rfl,?_⟩;cases e0:iE g "tuple" with
  | false=>exact aX (aX (kF (by cases g <;> first | rfl | (simp [iE,mL] at e0)) _ (aG.refl _)))
  | true=>
  refine bM ?_;obtain⟨gs,rfl⟩:=mP e0;obtain⟨a,xs,rfl,q,l⟩:=hg.ut;have el:=l.length;refine⟨_,rfl,a,xs,rfl,.inr q,rfl,_,rfl,?_⟩
  by_cases h2:gs.length=2
  rotate_left
  ·rw[show (!decide (V.int (xs.length:Int)=V.int 2))=true by rw[el];simp;omega];refine aX (aX ?_);exact kF (yH (by simp [bK];omega)) _ (aG.refl _)
  rw[show (!decide (V.int (xs.length:Int)=V.int 2))=false by rw[el,h2];simp];refine bM ?_;refine⟨_,rfl,a,rfl,⟨_,q⟩,oG (q:=λ g=>iE g "tuple") (rest:=[]) q l rfl (by omega) (λ x g H' Q' s' ig k'=>⟨_,rfl,x,"tuple",g,rfl,by decide,ig,k'⟩) λ D1 H1 s1 hD1=>?_⟩;refine⟨false,D1,_,rfl,bO.of hD1,_,rfl,?_⟩;rw[uI];obtain⟨vs,ss,e⟩:=mT (g:=.tup gs) (by simp [bK,h2]);injection e with e;subst e;obtain⟨x1,r,rfl,i1,l⟩:=l.un;obtain⟨x2,r,rfl,i2,l⟩:=l.un;obtain rfl:=l.un0;clear h2 el e0;cases e1:([vs,ss].all λ g=>iE g "tuple") with
  | false=>
   refine aX (kF ?_ _ s1);rw[tJ];cases vs with
   | tup vs=>
    cases ss with
    | tup ss=>simp [iE,mL] at e1
    | _=>simp [bK]
   | _=>simp [bK]
  | true=>
  refine bM ?_;simp only [List.all_cons,List.all_nil,Bool.and_true,Bool.and_eq_true] at e1;obtain⟨vs,rfl⟩:=mP e1.1;obtain⟨ss,rfl⟩:=mP e1.2;rw[tJ] at k kF;have q1:=s1.tup q;have i11:=aO.same s1 i1;have i21:=aO.same s1 i2;obtain⟨va,vxs,rfl,qv,lv⟩:=i11.ut;obtain⟨sa,sxs,rfl,qs,ls⟩:=i21.ut;have evl:=lv.length;have esl:=ls.length;refine⟨_,rfl,.inr (.inl ⟨a,_,0,_,rfl,rfl,q1,rfl,va,vxs,rfl,.inr qv,_,_,rfl,rfl,_,rfl,?_⟩)⟩;rw[evl]
  by_cases h1:(1:Int)<=vs.length
  rotate_left
  ·rw[aau h1];exact bM ⟨_,rfl,aX (kF (by simp [bK,h1]) _ s1)⟩
  rw[aaw h1];refine aX ⟨_,_,rfl,rfl,_,rfl,?_⟩
  by_cases h12:(vs.length:Int)<=12
  rotate_left
  ·rw[aau h12];exact aX (aX (kF (by simp [bK,h12]) _ s1))
  rw[aaw h12];refine bM ⟨_,rfl,.inr (.inl ⟨a,_,1,_,rfl,rfl,q1,rfl,sa,sxs,rfl,.inr qs,_,_,rfl,rfl,_,rfl,?_⟩)⟩;rw[esl]
  by_cases h3:(12:Int) < ss.length
  ·rw[aaw h3];exact aX (kF (by simp [bK];omega) _ s1)
  rw[aau h3];refine bM ?_;have eT:bK 1 12 (.tup vs)=true/\bK 0 12 (.tup ss)=true:=by simp [bK];omega
  rw[eT.1,eT.2] at k kF;simp only [Bool.true_and,mO] at k kF;refine⟨_,rfl,.inr (.inl ⟨a,_,0,_,rfl,rfl,q1,rfl,va,vxs,rfl,.inr qv,_,rfl,by omega,by omega,?_⟩)⟩;rw[show ((vxs.length:Nat):Int).toNat=vxs.length from by simp];refine gX (lo:=0) (n:=vxs.length) (λ i aa H'=>aG H1 H'/\(∀ (j:Nat) g,j < i->vs[j]? = some g->iL j vs.length ss.length g=true)/\∃ v1,aa=[some (.ref a),v1,none]) ⟨aG.refl _,λ j g h=>absurd h (ace _),_,rfl⟩ ?_ ?_
  ·rintro i aa H2 hi ⟨s2,hall,v1,rfl⟩;rw[Int.zero_add];dsimp only [aW];obtain⟨g,hg⟩:∃ g,vs[i]? = some g:=⟨_,abh (by omega)⟩;obtain⟨y,hy,ig⟩:=lv.get hg;have q2:=s2.tup q1;refine⟨_,rfl,.inr (.inl ⟨a,_,0,_,rfl,rfl,q2,rfl,_,rfl,.inr (.inl ⟨va,vxs,(i:Int),y,rfl,rfl,s2.tup qv,eK hy,_,rfl,_,rfl,.inr (.inl ⟨a,_,0,_,rfl,rfl,q2,rfl,va,vxs,rfl,.inr (s2.tup qv),_,rfl,.inr (.inl ⟨a,_,1,_,rfl,rfl,q2,rfl,sa,sxs,rfl,.inr (s2.tup qs),y,g,i,_,_,rfl,aO.same s2 ig,λ H3 s3=>⟨_,rfl,?_⟩⟩)⟩)⟩)⟩)⟩;rw[evl,esl];cases e:iL i vs.length ss.length g with
   | false=>exact aX (kF (by rw[oP hg e];rfl) _ ((s1.trans s2).trans s3))
   | true=>
    refine bM ⟨s2.trans s3,λ j g' hj hg'=>?_,_,rfl⟩;rcases (show j < i\/j=i by omega) with z | rfl
    ·exact hall j g' z hg'
    ·rw[hg] at hg';cases hg';exact e
  ·rintro aa H2 ⟨s2,hall,v1,rfl⟩;rw[iM.mpr λ i g hg=>hall i g (by have:=(aai.mp hg).1;omega) hg] at k kF;simp only [Bool.true_and] at k kF;have s12:=s1.trans s2;have q2:=s2.tup q1;refine⟨_,rfl,.inr (.inl ⟨a,_,1,_,rfl,rfl,q2,rfl,sa,rfl,⟨_,s2.tup qs⟩,jU (K:=K) (a:=sa) (xs:=sxs) (λ t aa H'=>H2=H'/\(∀ (j:Nat) g,j < t->ss[j]? = some g->jZ vs.length g=true)/\∃ v2,aa=[some (.ref a),v1,v2]) ⟨rfl,λ j g h=>absurd h (ace _),_,rfl⟩ (λ t aa H' _ h=>by rw[<- h.1];exact s2.tup qs) ?_ ?_⟩)⟩
   ·rintro t y aa _ hy ⟨rfl,hall,v2,rfl⟩;dsimp only [aW];obtain⟨g,hg,ig⟩:=(aY.same s2 ls).get' hy;have bad:jZ vs.length g=false->Q (.bl false) H2:=λ e=>kF (pY (aad hg) e) _ s12;have good:jZ vs.length g=true->H2=H2/\(∀ (j:Nat) g,j < t+1->ss[j]? = some g->jZ vs.length g=true)/\∃ v2,[some (V.ref a),v1,some y]=[some (.ref a),v1,v2]:=λ e=>by
     refine⟨rfl,λ j g' hj hg'=>?_,_,rfl⟩;rcases (show j < t\/j=t by omega) with z | rfl
     ·exact hall j g' z hg'
     ·rw[hg] at hg';cases hg';exact e
    refine⟨_,rfl,y,"tuple",g,rfl,by decide,ig,_,rfl,?_⟩;cases e0:iE g "tuple" with
    | false=>exact aX (aX (bad (wO (by cases g <;> first | rfl | (simp [iE,mL] at e0)))))
    | true=>
    refine bM ?_;obtain⟨gs,rfl⟩:=mP e0;obtain⟨ga,gxs,rfl,qg,lg⟩:=ig.ut;have egl:=lg.length;refine⟨_,rfl,ga,gxs,rfl,.inr qg,rfl,_,rfl,?_⟩
    by_cases h3:gs.length=3
    rotate_left
    ·rw[show (!decide (V.int (gxs.length:Int)=V.int 3))=true by rw[egl];simp;omega];exact aX (aX (bad (wO (by simp [bK];omega))))
    rw[show (!decide (V.int (gxs.length:Int)=V.int 3))=false by rw[egl,h3];simp];refine bM ?_;obtain⟨tg,fl,dr,e⟩:=uT (g:=.tup gs) (by simp [bK,h3]);injection e with e;subst e;obtain⟨xt,r,rfl,ht,lg⟩:=lg.un;obtain⟨xp,r,rfl,hp,lg⟩:=lg.un;obtain⟨xd,r,rfl,hd,lg⟩:=lg.un;obtain rfl:=lg.un0;dsimp only [jZ] at bad good;refine⟨_,rfl,.inr (.inl ⟨ga,_,2,_,rfl,rfl,qg,rfl,xd,"bool",dr,rfl,by decide,hd,_,rfl,?_⟩)⟩;rw[vV];cases e3:DR dr with
    | false=>exact aX (bad (by rw[e3];simp))
    | true=>
    refine bM ?_;refine⟨_,rfl,.inr (.inl ⟨ga,_,0,_,rfl,rfl,qg,rfl,_,rfl,.inr (.inl ⟨a,_,0,_,rfl,rfl,q2,rfl,va,vxs,rfl,.inr (s2.tup qv),_,_,rfl,rfl,xt,tg,0,_,rfl,ht,_,rfl,?_⟩)⟩)⟩;rw[evl];cases e4:bZ 0 ((vs.length:Int) - 1) tg with
    | false=>exact aX (aX (bad (by rw[e4];rfl)))
    | true=>
    refine bM ⟨_,rfl,.inr (.inl ⟨ga,_,1,_,rfl,rfl,qg,rfl,xp,fl,0,60,rfl,hp,_,rfl,?_⟩)⟩;cases e5:bZ 0 60 fl with
    | false=>exact aX (bad (by rw[e5];simp))
    | true=>exact bM (good (by rw[e3,e4,e5];rfl))
   ·rintro aa _ ⟨rfl,hall,v2,rfl⟩;have hss:ss.all (jZ vs.length)=true:=abl.mpr λ g hg=>by
     obtain⟨j,hj⟩:=abw.1 hg;exact hall j g (by have:=(aai.mp hj).1;omega) hj
    rw[hss] at k;exact k _ s12
end
def sF:Sp:=λ vs H Q _=>∃ t:Option Int,vs=[gP t]/\qI t/\∀ H',aG H H'->Q (.str (bT t)) H'
theorem lY:FnScope ["target"] ["target"] (aK (bB 70)):={}
theorem tE {f:Addr}{fd:FuncData} (F:Fun K "_law_goal" "_law_goal" (bB 70) f fd) (T:Txt mg) (TS:TxtS mg):FnOk P w K mg base hU 1 f fd ["target"] sF:=by
 refine F.ok lY (λ vs H Q E h=>?_) (λ cdv A outer s H vs Q E hr h=>?_)
 ·obtain⟨t,rfl,_⟩:=h;rfl
 ·obtain⟨t,rfl,ht,k⟩:=h;have sc:=lY;refine⟨_,(aH (aM (px K (aZ (aA (aR dY rfl TS.b_str dU (aA (pv 0) aB)) (aA aI aB))) (aR dZ rfl T.b_int eU (aA (d2 jE (pv 0) d8 (aP _)) aB))))),?_⟩;cases t with
  | none=>exact⟨_,rfl,.non,"None",rfl,rfl,(show 2<=sizeLine by decide),λ l hl=>⟨_,rfl,rfl,.inr ⟨_,rfl,.inl ⟨l,_,1,_,rfl,rfl,bO.of aD,rfl,k _ (aG.new hl)⟩⟩⟩⟩
  | some i=>exact⟨_,rfl,.int i,aV i,rfl,eO (ht i rfl).1 (ht i rfl).2,(show 2<=sizeLine by decide),λ l hl=>⟨_,rfl,rfl,.inr ⟨_,rfl,.inl ⟨l,_,0,_,rfl,rfl,bO.of aD,rfl,k _ (aG.new hl)⟩⟩⟩⟩
def o9 (K:aaa):Sp:=λ vs H Q _=>∃ (x:V) (net:Net),vs=[x]/\Is K H (eH net) x/\NetIn net/\∀ H',aG H H'->Q (.str (fE net)) H'
theorem EO (o:Option Int×Int):bT o.1 ++ "*" ++ aV o.2=gN o:=by unfold gN;rw[w_s]
theorem FY (a:Str×Int):a.1 ++ "." ++ aV a.2=eZ a:=by unfold eZ;rw[w_p]
theorem FT (as:List (Str×Int)):bJ (dO (.tup (as.map fF))) (.tup [])=decide (as=[]):=by
 cases as with
 | nil=>simp [dO,cW,bJ,fQ]
 | cons a as=>simp [dO,cW,bJ,fQ]
theorem DE (as:List (Str×Int)):lF (dO (.tup (as.map fF)))<=30:=by
 have:jL (cW (as.map fF))<=2:=by
  induction as with
  | nil=>simp [cW,jL]
  | cons a as ih=>
   rw[aaq,cW,jL];have:lF (dO (fF a))<=2:=by simp [fF,dO,cW,lF,jL]
   omega
 rw[dO,lF];omega
theorem lV:FnScope ["net","rows","size","brim","outs","holds","spill","acts","words","target","flow","is_open"] ["net"] (aK (bB 71)):={}
theorem sY {f f1:Addr}{fd fd1:FuncData} (F:Fun K "_law_text" "_law_text" (bB 71) f fd) (T:Txt mg) (TS:TxtS mg) (G__law_goal:Callee P w K mg base "_law_goal" ["target"] 1 sF f1 fd1):FnOk P w K mg base hU 2 f fd ["net"] (o9 K):=by
 refine F.ok lV (λ vs H Q E h=>?_) (λ cdv A outer s H vs Q E hr h=>?_)
 ·obtain⟨x,net,rfl,_⟩:=h;rfl
 ·obtain⟨x,net,rfl,hx,hi,k⟩:=h;have sc:=lV;refine⟨_,(aE (pL 1 sc.nd (aZ aB))
   (aE (dS PassesOwn.never rfl (cV (K:=K) rfl (px K (pv 0) aF)) (cG (K:=K) (n:=6) rfl rfl (aJ (gL 2 sc.nd) (aJ (gL 3 sc.nd) (aJ (gL 4 sc.nd) (aJ (gL 5 sc.nd) (aJ (gL 6 sc.nd) (aJ (gL 7 sc.nd) bY))))))) (aE (pL 8 sc.nd (aZ (aA aI (aA (aR dY rfl TS.b_str dU (aA (pv 2) aB)) (aA (aR dY rfl TS.b_str dU (aA (pv 3) aB)) (aA (dC (K:=K) rfl PySem.F.slot_str_join PySem.F.type_str_join (d0 (K:=K) rfl) aI (aA (gB (λ _ _ h=>h) rfl (LcOk.mk (N':=["out"]) (fr:=[none]) rfl trivial rfl rfl rfl rfl rfl trivial) (cV (K:=K) rfl (pv 4)) (λ _ _ _=>(gC 0 ["out"])) (λ _ _ _=>cU) (λ _ _ _=>(aU mD (aU mD (cB G__law_goal hr (aA (px K (pv 0) aF) aB)) aI) (aR dY rfl TS.b_str dU (aA (px K (pv 0) aF) aB))))) aB)) aB))))))
   (aE (pL 8 sc.nd (aU lA (pv 8) (aZ (aA (px K (aZ (aA aI (aA aI aB))) (aR dZ rfl T.b_int eU (aA (pv 5) aB))) (aA (cB G__law_goal hr (aA (pv 6) aB)) aB)))))
   (aE (dG (eC (K:=K) rfl aat abe abf cM (pv 8) (aA (dC (K:=K) rfl PySem.F.slot_str_join PySem.F.type_str_join (d0 (K:=K) rfl) aI (aA (gB (λ _ _ h=>h) rfl (LcOk.mk (N':=["word","spout"]) (fr:=[none,none]) rfl trivial rfl rfl rfl rfl rfl trivial) (cV (K:=K) rfl (pv 7)) (λ _ _ _=>(cG (K:=K) (n:=2) rfl rfl (aJ (gC 0 ["word","spout"]) (aJ (gC 1 ["word","spout"]) bY)))) (λ _ _ _=>cU) (λ _ _ _=>(aU mD (aU mD (pv 0) aI) (aR dY rfl TS.b_str dU (aA (pv 1) aB))))) aB)) aB)))
   (aE (bC (aQ (ET (K:=K) rfl hr.units) (pv 7) (bQ aB) (aP _)) (aH (cR aI (jB (pv 8) (KR GY aF) fC))) aS)
   (aH (dG (eC (K:=K) rfl aat abe abf cM (pv 1) (aA (dC (K:=K) rfl PySem.F.slot_str_join PySem.F.type_str_join (d0 (K:=K) rfl) aI (aA (pv 8) aB)) aB)))))))))
   (aE (dS PassesOwn.never rfl (cV (K:=K) rfl (px K (pv 0) aF)) (cG (K:=K) (n:=3) rfl rfl (aJ (gL 9 sc.nd) (aJ (gL 10 sc.nd) (aJ (gL 11 sc.nd) bY)))) (aH (dG (eC (K:=K) rfl aat abe abf cM (pv 1) (aA (dC (K:=K) rfl PySem.F.slot_str_join PySem.F.type_str_join (d0 (K:=K) rfl) aI (aA (aZ (aA aI (aA (aR dY rfl TS.b_str dU (aA (pv 9) aB)) (aA (aR dY rfl TS.b_str dU (aA (pv 10) aB)) (aA (px K (aZ (aA aI (aA aI aB))) (aR dZ rfl T.b_int eU (aA (pv 11) aB))) aB))))) aB)) aB)))))
   (aH (aM (dC (K:=K) rfl PySem.F.slot_str_join PySem.F.type_str_join (d0 (K:=K) rfl) aI (aA (pv 1) aB))))))),?_⟩
  obtain⟨na,nb,nc,xs,ys,rfl,qn,q1,l1,q2,l2⟩:=nC hx;have e1:xs.length=net.vs.length:=by rw[l1.length,aab]
  have e2:ys.length=net.sps.length:=by rw[l2.length,aab]
  have v12:=hi.v12;have s12:=hi.s12;refine⟨abk _,λ rl hrl=>?_⟩;have s0:=aG.new (o:=HO.lst []) hrl;have g0:upd H rl (.lst []) rl=some (.lst []):=aD;generalize upd H rl (.lst [])=H0 at s0 g0 ⊢;dsimp only [aW,bL];refine n4 (λ aa H'=>aG H H'/\H' rl=some (.lst ((net.vs.map dW).map V.str))/\∃ v2 v3 v4 v5 v6 v7 v8,aa=[some (.ref na),some (.ref rl),v2,v3,v4,v5,v6,v7,v8,none,none,none]) (λ D' hD'=>?_) ?_
  ·refine⟨_,rfl,.inr (.inl ⟨na,_,0,_,rfl,rfl,s0.tup qn,rfl,nb,rfl,⟨_,s0.tup q1⟩,jU (K:=K) (a:=nb) (xs:=xs) (λ i aa H'=>aG H H'/\H' rl=some (.lst (((net.vs.take i).map dW).map V.str))/\∃ v2 v3 v4 v5 v6 v7 v8,aa=[some (.ref na),some (.ref rl),v2,v3,v4,v5,v6,v7,v8,none,none,none])
    ⟨s0,g0,_,_,_,_,_,_,_,rfl⟩ (λ i aa H' _ p=>p.1.tup q1) ?_ ?_⟩)⟩
   rotate_left
   ·rintro aa H1 ⟨s1,h1,v2,v3,v4,v5,v6,v7,v8,rfl⟩;rw[e1,aar (aag _)] at h1;exact hD' _ _ ⟨s1,h1,_,_,_,_,_,_,_,rfl⟩
   rintro i y aa H1 hy ⟨s1,h1,v2,v3,v4,v5,v6,v7,v8,rfl⟩;obtain⟨d,hd,iy⟩:=l1.get' hy;rw[aap] at hd;obtain⟨v,hv,rfl⟩:=abd.mp hd;have hvi:=hi.vs v (aad hv);obtain⟨va,o,c,rfl,qv,ho,hc⟩:=G5 (Is.mono s1.ts _ _ iy);obtain⟨oa,os,rfl,qo,lo⟩:=ho.un;obtain⟨ca,cs,rfl,qc,lc⟩:=hc.un;have eol:os.length=v.outs.length:=by rw[lo.length,aab]
   have ecl:cs.length=v.acts.length:=by rw[lc.length,aab]
   have o3:=hvi.o3;have a3:=hvi.a3;refine⟨va,_,rfl,qv,rfl,_,_,rfl,_,_,rfl,_,_,rfl,_,_,rfl,_,_,rfl,_,_,rfl,rfl,?_⟩;dsimp only [aW,bL];refine⟨_,rfl,.int v.size,_,rfl,eO hvi.s0 hvi.s1,_,rfl,.int v.brim,_,rfl,eO hvi.b0 hvi.b1,rfl,_,rfl,oa,rfl,⟨_,qo⟩,iC (K:=K) (a:=oa) (xs:=os) (λ D i r aa H'=>H1 D=none/\aG H1 H'/\H' D=some (.lst r)/\r=((v.outs.take i).map gN).map V.str/\∃ u1,aa=[u1])
    (λ D i r aa H' p=>p.2.1.tup qo) (λ D hD=>⟨hD,aG.new hD,aD,rfl,none,rfl⟩) ?_ ?_⟩
   rotate_left
   ·rintro D j y r aa H2 hy ⟨hD,sm,hDl,rfl,u1,rfl⟩;obtain⟨t,ht,ta,rfl,qt⟩:=yC lo hy;have ti:=hvi.os t (aad ht);have lg:=mJ ti.tg;have ln:=eJ ti.lo ti.hi;refine⟨_,rfl,.inr (.inl ⟨ta,_,0,_,rfl,rfl,sm.tup qt,rfl,t.1,rfl,ti.tg,λ H3 s3=>⟨_,_,rfl,rfl,(show (bT t.1).length+1<=1000000 by omega),?_⟩⟩)⟩;refine⟨_,rfl,.inr (.inl ⟨ta,_,1,_,rfl,rfl,(sm.trans s3).tup qt,rfl,.int t.2,_,rfl,eO ti.lo ti.hi,_,_,rfl,rfl,?_,?_⟩)⟩
    ·rw[Str.length_append];show (bT t.1).length+1+_<=1000000;omega
    ·refine⟨s3 _ _ hDl,bP (by rw[aab,aab,abj];omega),hD,(sm.trans s3).put hD,aD,?_,_,rfl⟩;rw[aby,ht,aaj,aaj,EO];rfl
   rintro D1 r aa H2 ⟨hD1,s2,hD1l,rfl,_⟩;rw[eol,aar (aag _)] at hD1l;have ej:Str.join "," (v.outs.map gN)=cK v.outs:=by rw[G3];rfl
   refine⟨",",D1,v.outs.map gN,rfl,rfl,bO.of hD1l,gI (B:=19) (λ a ha=>by obtain⟨o,ho,rfl⟩:=aay.mp ha;exact tS (hvi.os o ho)) (by decide) (by rw[aab];omega),(show 4<=sizeLine by decide),λ wl hwl=>?_⟩;rw[ej];have s3:=aG.new (o:=HO.lst [.str "vessel",.str (aV v.size),.str (aV v.brim),.str (cK v.outs)]) hwl;have g3:upd H2 wl (.lst [.str "vessel",.str (aV v.size),.str (aV v.brim),.str (cK v.outs)]) wl=some (.lst [.str "vessel",.str (aV v.size),.str (aV v.brim),.str (cK v.outs)]):=aD;have s13:=s2.trans s3;generalize upd H2 wl (.lst [.str "vessel",.str (aV v.size),.str (aV v.brim),.str (cK v.outs)])=H3 at s3 g3 s13 ⊢;dsimp only [aW,bL];refine⟨_,rfl,(show 2<=sizeLine by decide),λ l4 hl4=>⟨_,rfl,.inr ⟨_,rfl,.inl ⟨l4,_,_,.str (d9 v.holds),rfl,rfl,bO.of aD,by cases v.holds <;> rfl,?_⟩⟩⟩⟩;have s4:=s13.trans (aG.new (o:=HO.lst [.str "loses",.str "holds"]) hl4);have g4:=aG.new (o:=HO.lst [.str "loses",.str "holds"]) hl4 _ _ g3;generalize upd H3 l4 (.lst [.str "loses",.str "holds"])=H4 at s4 g4 ⊢;refine⟨_,rfl,v.spill,rfl,hvi.sp,λ H5 s5=>⟨(show 2<=sizeLine by decide),λ l6 hl6=>⟨wl,l6,_,_,rfl,rfl,aG.new hl6 _ _ (s5 _ _ g4),aD,(show 6<=sizeLine by decide),λ w2 hw2=>?_⟩⟩⟩;have s6:=(s4.trans s5).trans ((aG.new (o:=HO.lst [.str (d9 v.holds),.str (bT v.spill)]) hl6).trans (aG.new (o:=HO.lst [.str "vessel",.str (aV v.size),.str (aV v.brim),.str (cK v.outs),.str (d9 v.holds),.str (bT v.spill)]) hw2));have fw:H1 w2=none:=((s4.trans s5).trans (aG.new (o:=HO.lst [.str (d9 v.holds),.str (bT v.spill)]) hl6)).free hw2;have g6:upd (upd H5 l6 (.lst [.str (d9 v.holds),.str (bT v.spill)])) w2 (.lst [.str "vessel",.str (aV v.size),.str (aV v.brim),.str (cK v.outs),.str (d9 v.holds),.str (bT v.spill)]) w2=some (.lst [.str "vessel",.str (aV v.size),.str (aV v.brim),.str (cK v.outs),.str (d9 v.holds),.str (bT v.spill)]):=aD;dsimp only [aW,bL];show fB _ _ _ _ (upd (upd H5 l6 (.lst [.str (d9 v.holds),.str (bT v.spill)])) w2 (.lst [.str "vessel",.str (aV v.size),.str (aV v.brim),.str (cK v.outs),.str (d9 v.holds),.str (bT v.spill)]));generalize upd (upd H5 l6 (.lst [.str (d9 v.holds),.str (bT v.spill)])) w2 (.lst [.str "vessel",.str (aV v.size),.str (aV v.brim),.str (cK v.outs),.str (d9 v.holds),.str (bT v.spill)])=H6 at s6 g6 ⊢;clear s5 hl6 hw2 s4 g4 hl4 s13 g3 s3 s2 hD1l hD1;have nwr:rl≠w2:=aL h1 fw;have qc6:=s6.tup qc;refine⟨_,rfl,.inl ⟨rfl,_,bO.of g6⟩,rfl,_,rfl,ca,rfl,⟨_,qc6⟩,iC (K:=K) (a:=ca) (xs:=cs) (λ D i r aa H'=>H6 D=none/\aG H6 H'/\H' D=some (.lst r)/\r=((v.acts.take i).map eZ).map V.str/\∃ u1 u2,aa=[u1,u2])
    (λ D i r aa H' p=>p.2.1.tup qc6) (λ D hD=>⟨hD,aG.new hD,aD,rfl,none,none,rfl⟩) ?_ ?_⟩
   rotate_left
   ·rintro D j y r aa H7 hy ⟨hD,sm,hDl,rfl,u1,u2,rfl⟩;obtain⟨t,ht,ta,rfl,qt⟩:=yY lc hy;have ti:=hvi.as t (aad ht);have lg:=CA ti;have ln:=eJ ti.lo ti.hi;refine⟨ta,_,rfl,(s6.trans sm).tup qt,rfl,_,_,rfl,_,_,rfl,rfl,?_⟩;refine⟨_,rfl,_,_,rfl,rfl,(show t.1.length+1<=1000000 by omega),_,rfl,.int t.2,_,rfl,eO ti.lo ti.hi,_,_,rfl,rfl,?_,?_⟩
    ·rw[Str.length_append];show t.1.length+1+_<=1000000;omega
    ·refine⟨hDl,bP (by rw[aab,aab,abj];omega),hD,sm.put hD,aD,?_,_,_,rfl⟩;rw[aby,ht,aaj,aaj,FY];rfl
   rintro D2 r aa H7 ⟨hD2,s7,hD2l,rfl,_⟩;rw[ecl,aar (aag _)] at hD2l;refine⟨",",D2,v.acts.map eZ,rfl,rfl,bO.of hD2l,gI (B:=19) (λ a ha=>by obtain⟨o,ho,rfl⟩:=aay.mp ha;exact tT (hvi.as o ho)) (by decide) (by rw[aab];omega),w2,_,_,rfl,rfl,s7 _ _ g6,bP (show 6<=1000 by decide),?_⟩;have s8:=(s6.trans s7).put (o:=HO.lst [.str "vessel",.str (aV v.size),.str (aV v.brim),.str (cK v.outs),.str (d9 v.holds),.str (bT v.spill),.str (Str.join "," (v.acts.map eZ))]) fw;have g8:upd H7 w2 (.lst [.str "vessel",.str (aV v.size),.str (aV v.brim),.str (cK v.outs),.str (d9 v.holds),.str (bT v.spill),.str (Str.join "," (v.acts.map eZ))]) w2=some (.lst [.str "vessel",.str (aV v.size),.str (aV v.brim),.str (cK v.outs),.str (d9 v.holds),.str (bT v.spill),.str (Str.join "," (v.acts.map eZ))]):=aD;dsimp only [aW,bL];show fB _ _ _ _ (upd H7 w2 (.lst [.str "vessel",.str (aV v.size),.str (aV v.brim),.str (cK v.outs),.str (d9 v.holds),.str (bT v.spill),.str (Str.join "," (v.acts.map eZ))]));generalize upd H7 w2 (.lst [.str "vessel",.str (aV v.size),.str (aV v.brim),.str (cK v.outs),.str (d9 v.holds),.str (bT v.spill),.str (Str.join "," (v.acts.map eZ))])=H8 at s8 g8 ⊢;clear s6 g6 qc6 s7 hD2l hD2;refine n4 (λ aa H'=>aG H1 H'/\H' w2=some (.lst ((("vessel" : Str)::jY v).map V.str))/\aa=[some (.ref na),some (.ref rl),some (.int v.size),some (.int v.brim),some (.ref oa),some (.bl v.holds),some (gP v.spill),some (.ref ca),some (.ref w2),none,none,none]) (λ D2' hD2'=>?_) ?_
   ·refine⟨_,rfl,abk _,λ pt hpt=>⟨dO (.tup (v.acts.map fF)),.tup [],DE _,(Is.mono (s8.trans (aG.new hpt)).ts _ _ hc).g,aO.t (bU.of aD) .nil,_,rfl,?_⟩⟩;rw[FT];have s9:=aG.new (o:=HO.tup []) hpt;have g9:=s9 _ _ g8;generalize upd H8 pt (.tup [])=H9 at s9 g9 ⊢;refine dJ (λ hT=>?_) λ hT=>?_
    ·have hT:=aax hT;refine⟨_,rfl,1,rfl,w2,_,-1,6,rfl,rfl,g9,rfl,hD2' _ _ ⟨(s8.trans s9).put fw,?_,rfl⟩⟩;rw[aD];show some (HO.lst [V.str "vessel",.str (aV v.size),.str (aV v.brim),.str (cK v.outs),.str (d9 v.holds),.str (bT v.spill),.str "-"])=_;rw[show jY v=[aV v.size,aV v.brim,cK v.outs,d9 v.holds,bT v.spill,dA v.acts] from rfl,show dA v.acts = "-" from if_pos hT];rfl
    ·have hT:¬ v.acts=[]:=λ h=>hT (aaw h);refine hD2' _ _ ⟨s8.trans s9,?_,rfl⟩;rw[g9,show jY v=[aV v.size,aV v.brim,cK v.outs,d9 v.holds,bT v.spill,dA v.acts] from rfl,show dA v.acts=Str.join (one 44) (v.acts.map eZ) from if_neg hT,G3];rfl
   rintro aa H9 ⟨s9,g9,rfl⟩;have h9:=s9 _ _ h1;have ew:Str.join " " (("vessel" : Str)::jY v)=dW v:=by rw[G4];rfl
   refine⟨_,rfl,.inl ⟨rfl,_,bO.of h9⟩,rfl,_,rfl," ",w2,("vessel" : Str)::jY v,rfl,rfl,bO.of g9,gI (vM hvi) (by decide) (show 7 * 60+7<=1000000 by decide),rl,_,_,rfl,rfl,h9,bP (by rw[aab,aab,abj];omega),?_⟩;rw[ew];refine⟨(s1.trans s9).put hrl,?_,_,_,_,_,_,_,_,rfl⟩;rw[aD,cL hv,aaj,aaj];rfl
  rintro aa H1 ⟨s1,h1,v2,v3,v4,v5,v6,v7,v8,rfl⟩;refine n4 (λ aa H'=>aG H H'/\H' rl=some (.lst ((net.vs.map dW++net.sps.map eP).map V.str))/\∃ v2 v3 v4 v5 v6 v7 v8 v9 v10 v11,aa=[some (.ref na),some (.ref rl),v2,v3,v4,v5,v6,v7,v8,v9,v10,v11]) (λ D' hD'=>?_) ?_
  ·refine⟨_,rfl,.inr (.inl ⟨na,_,1,_,rfl,rfl,s1.tup qn,rfl,nc,rfl,⟨_,s1.tup q2⟩,jU (K:=K) (a:=nc) (xs:=ys) (λ i aa H'=>aG H H'/\H' rl=some (.lst ((net.vs.map dW++(net.sps.take i).map eP).map V.str))/\∃ v2 v3 v4 v5 v6 v7 v8 v9 v10 v11,aa=[some (.ref na),some (.ref rl),v2,v3,v4,v5,v6,v7,v8,v9,v10,v11])
    ⟨s1,by rw[h1];simp,_,_,_,_,_,_,_,_,_,_,rfl⟩ (λ i aa H' _ p=>p.1.tup q2) ?_ ?_⟩)⟩
   rotate_left
   ·rintro aa H2 ⟨s2,h2,v2,v3,v4,v5,v6,v7,v8,v9,v10,v11,rfl⟩;rw[e2,aar (aag _)] at h2;exact hD' _ _ ⟨s2,h2,_,_,_,_,_,_,_,_,_,_,rfl⟩
   rintro i y aa H2 hy ⟨s2,h2,v2,v3,v4,v5,v6,v7,v8,v9,v10,v11,rfl⟩;obtain⟨d,hd,iy⟩:=l2.get' hy;rw[aap] at hd;obtain⟨sp,hv,rfl⟩:=abd.mp hd;have hsi:=hi.sps sp (aad hv);obtain⟨a,zs,rfl,q,lx⟩:=(show Is K H (.tup [.int sp.1,.int sp.2.1,.bl sp.2.2]) y from iy).un;obtain⟨x1,r,rfl,j1,lx⟩:=lx.un;obtain⟨x2,r,rfl,j2,lx⟩:=lx.un;obtain⟨x3,r,rfl,j3,lx⟩:=lx.un;have:=lx.un0;subst this;have f1:=j1.ui;have f2:=j2.ui;have f3:=j3.ub;subst f1 f2 f3;refine⟨a,_,rfl,s2.tup q,rfl,_,_,rfl,_,_,rfl,_,_,rfl,rfl,?_⟩;dsimp only [aW,bL];refine⟨_,rfl,.inl ⟨rfl,_,bO.of h2⟩,rfl,_,rfl,.int sp.1,_,rfl,eO hsi.t0 hsi.t1,_,rfl,.int sp.2.1,_,rfl,eO hsi.f0 hsi.f1,(show 2<=sizeLine by decide),λ l3 hl3=>?_⟩;refine⟨_,rfl,.inr ⟨_,rfl,.inl ⟨l3,_,_,.str (fN sp.2.2),rfl,rfl,bO.of aD,by cases sp.2.2 <;> rfl,(show 4<=sizeLine by decide),λ l4 hl4=>?_⟩⟩⟩;have s4:=(aG.new (o:=HO.lst [.str "shut",.str "open"]) hl3).trans (aG.new (o:=HO.lst [.str "spout",.str (aV sp.1),.str (aV sp.2.1),.str (fN sp.2.2)]) hl4);have g4:upd (upd H2 l3 (.lst [.str "shut",.str "open"])) l4 (.lst [.str "spout",.str (aV sp.1),.str (aV sp.2.1),.str (fN sp.2.2)]) l4=some (.lst ((("spout" : Str)::lO sp).map V.str)):=aD;have ew:Str.join " " (("spout" : Str)::lO sp)=eP sp:=by rw[G4];rfl
   refine⟨" ",l4,("spout" : Str)::lO sp,rfl,rfl,bO.of g4,gI (vN hsi) (by decide) (show 4 * 60+4<=1000000 by decide),rl,_,_,rfl,rfl,s4 _ _ h2,bP (by rw[aab,aao,aab,aab,abj];omega),?_⟩;rw[ew];refine⟨(s2.trans s4).put hrl,?_,_,_,_,_,_,_,_,_,_,_,rfl⟩;rw[aD,cL hv,aaj,aaj,aaj,aaj,acn];rfl
  rintro aa H2 ⟨s2,h2,v2,v3,v4,v5,v6,v7,v8,v9,v10,v11,rfl⟩;have e3:Str.join "\n" (net.vs.map dW++net.sps.map eP)=fE net:=by rw[K1];rfl
  refine⟨rfl,_,rfl,"\n",rl,net.vs.map dW++net.sps.map eP,rfl,rfl,bO.of h2,gI (nF hi) (by decide) (by rw[aao,aab,aab];omega),?_⟩;rw[e3];exact k _ s2
theorem oF {a:Addr}{xs:List V}{tl:List (Option V)}{te:TE}{fr:List (Option Nat)}{σ:St}{H:Hp}{Q:Addr->Hp->Prop} (ds:List L2.D) (hfr:A4 fr σ=none::tl) (hq:H a=some (.lst xs)) (hn:xs.length<=900000) (hd:ds.length=xs.length)
  (step:∀ (i:Nat) x d H' (R:V->Hp->Prop),xs[i]? = some x->ds[i]? = some d->aG H H'->(∀ y H5,aG H' H5->Is K H5 d y->R y H5)->te (some x::tl) H' R)
  (fin:∀ D H' r,H D=none->aG H H'->H' D=some (.lst r)->IsL K H' ds r->Q D H'):iD (JS K a) (aW 0) zI te fr σ H Q:=by
 refine yK (K:=K) (a:=a) (xs:=xs) (λ D i r aa H'=>H D=none/\aG H H'/\H' D=some (.lst r)/\IsL K H' (ds.take i) r/\∃ u1,aa=u1::tl)
  (λ D i r aa H' p=>bO.of (p.2.1 _ _ hq)) (λ D hD=>⟨hD,aG.new hD,aD,.nil,none,hfr⟩) ?_ ?_
 ·rintro D r aa H1 ⟨hD,sm,hDl,lr,_⟩;rw[<- hd,aar (aag _)] at lr;exact fin D H1 r hD sm hDl lr
 ·rintro D i x r aa H1 hx ⟨hD,sm,hDl,lr,u1,rfl⟩;have hi:i < xs.length:=(aai.mp hx).1;obtain⟨d,hdi⟩:∃ d,ds[i]? = some d:=⟨_,abh (by omega)⟩;have hrl:r.length<=i:=by rw[lr.length,abj];omega
  refine step i x d H1 _ hx hdi sm λ y H5 s5 iy=>?_;have g5:=s5 _ _ hDl;have b6:dQ D H5 (upd H5 D (.lst (r++[y]))):=dQ.upd;have ts6:=b6.ts (K:=K) (by rw[g5];exact trivial);refine⟨g5,eQ (by omega),hD,(sm.trans s5).put hD,aD,?_,_,rfl⟩;rw[cL hdi];exact L2.IsL.snoc (Is.mono ts6 _ _ iy) (L2.IsL.mono (s5.ts.trans ts6) _ _ lr)
def yB (c:Nat) (p:Str):L2.D:=.tup [.str (Txt.partition p (one c)).1,.str (Txt.partition p (one c)).2.1,.str (Txt.partition p (one c)).2.2]
theorem IX (y:Str):8<=(lw y).length:=by
 have:=List.length_pos_iff.mpr (lP y 32);unfold lw;rw[aao,List.length_replicate];omega
theorem BZ {y:Str}{i:Nat} (h:i < 8):(lw y)[i]? = some (d3 y i):=by
 have:=IX y;unfold d3;rw[List.getD_eq_getElem?_getD,abh (show i < (lw y).length by omega)];rfl
theorem IY {y:Str} (ha:eA y):∀ u∈lw y,eA u/\u.length<=y.length:=λ u hu=>by
 rcases aba.mp hu with h | h
 ·exact⟨dN ha h,PyProof.Rows.part_short h⟩
 ·rw[(List.mem_replicate.mp h).2];exact⟨(by decide +kernel:∀ c∈sg (Str.ofString ""),c < 128),abk _⟩
theorem rQ {y:Str} (ha:eA y) {i:Nat} (h:i < 8):eA (d3 y i)/\(d3 y i).length<=y.length:=IY ha _ (aad (BZ h))
theorem LM:(List.replicate 7 [V.str ""]).flatten=(List.replicate 7 ("" : Str)).map V.str:=rfl
abbrev kC:fS:=.inr (some "vessel")
abbrev kD:fS:=.inr (some "spout")
theorem IU (a b:V):nE [] [(kC,a),(kD,b)]=[(kC,a),(kD,b)]:=by rfl
theorem G7 (a b:V):oQ [(kC,a),(kD,b)] kC=some a:=by rfl
theorem G8 (a b:V):oQ [(kC,a),(kD,b)] kD=some b:=by rfl
section
variable {σ:St}{H:Hp}{Q:VK}{q:Addr}{y:Str}{m:Int}
theorem GL (h:σ[3]? = some (some (.ref q))) (hq:H q=some (.lst ((lw y).map V.str))) (h0:0<=m) (h8:m < 8) (k:Q (.str (d3 y m.toNat)) H):fJ (uK K) (cD 3) (tC (.int m)) σ H Q:=
 ⟨_,h,.inl ⟨q,_,m,_,rfl,rfl,bO.of hq,yV h0 (jF (BZ (by omega))),k⟩⟩
theorem EZ (h:σ[3]? = some (some (.ref q))) (hq:H q=some (.lst ((lw y).map V.str))) (ya:eA y) (yl:y.length<=500000) (h0:0<=m) (h8:m < 8) (k:∀ H',aG H H'->Q (gP (d7 (d3 y m.toNat))) H'):iN oX [] E0 (bV (fJ (uK K) (cD 3) (tC (.int m))) fP) σ H Q:=by
 obtain⟨wa,wl⟩:=rQ ya (show m.toNat < 8 by omega);exact GL h hq h0 h8 ⟨_,rfl,wa,by omega,k⟩
theorem tar3 (h:σ[3]? = some (some (.ref q))) (hq:H q=some (.lst ((lw y).map V.str))) (ya:eA y) (yl:y.length<=500000) (h0:0<=m) (h8:m < 8) (k:∀ H',aG H H'->Q (zG (d3 y m.toNat)) H'):iN rY [] E0 (bV (fJ (uK K) (cD 3) (tC (.int m))) fP) σ H Q:=by
 obtain⟨wa,wl⟩:=rQ ya (show m.toNat < 8 by omega);exact GL h hq h0 h8 ⟨_,rfl,wa,by omega,k⟩
end
theorem CO {H:Hp} (x:Str):Is K H (zH x) (zG x):=by
 unfold zH zG
 split
 ·exact Is.n
 ·cases d7 x with
  | none=>exact Is.s _
  | some n=>exact Is.i _
theorem yA {H:Hp}{c:Nat}{ps:List Str}{r:List V}{i:Nat}{v:V} (l:IsL K H (ps.map (yB c)) r) (h:r[i]? = some v):∃ p a,ps[i]? = some p/\v=.ref a/\bU K H a [.str (Txt.partition p (one c)).1,.str (Txt.partition p (one c)).2.1,.str (Txt.partition p (one c)).2.2]:=by
 obtain⟨d,hd,iv⟩:=l.get' h;rw[aap] at hd;obtain⟨p,hp,rfl⟩:=abd.mp hd;obtain⟨a,xs,rfl,q,lx⟩:=(show Is K H (.tup [.str _,.str _,.str _]) v from iv).un;obtain⟨x1,r1,rfl,j1,lx⟩:=lx.un;obtain⟨x2,r2,rfl,j2,lx⟩:=lx.un;obtain⟨x3,r3,rfl,j3,lx⟩:=lx.un;have:=lx.un0;subst this;rw[j1.us,j2.us,j3.us] at q;exact⟨p,a,hp,rfl,q⟩
theorem GV {l:List Str}{y:Str} (h:d3 y 0 ≠ "vessel"):xT (l++[y])=xT l:=by
 unfold xT;rw[List.filter_append];simp [List.filter,h]
theorem DW {l:List Str}{y:Str} (h:d3 y 0 = "vessel"):xT (l++[y])=xT l++[qM y]:=by
 unfold xT;rw[List.filter_append,aaj];simp [List.filter,h]
theorem HI {l:List Str}{y:Str} (h:d3 y 0 ≠ "spout"):xY (l++[y])=xY l:=by
 unfold xY;rw[List.filter_append];simp [List.filter,h]
theorem E4 {l:List Str}{y:Str} (h:d3 y 0 = "spout"):xY (l++[y])=xY l++[qS y]:=by
 unfold xY;rw[List.filter_append,aaj];simp [List.filter,h]
def rZ (K:aaa):Sp:=λ vs H Q _=>∃ x:Str,vs=[.str x]/\eA x/\x.length<=500000/\(∀ net p H',sN (.str x)=some net->NetOk net->NetFull net->aG H H'->Is K H' (eH net) p->Q p H')/\(sN (.str x)=none->∀ H',aG H H'->Q .non H')
theorem lW:FnScope ["text","parts","line","words","outs","acts","thing","flow","net"] ["text"] (aK (bB 76)):={}
theorem sZ {f f1 f2 f3 f4:Addr}{fd fd1 fd2 fd3 fd4:FuncData} (F:Fun K "_law_read" "_law_read" (bB 76) f fd) (T:Txt mg) (G__law_number:Callee P w K mg base "_law_number" ["word"] 1 oX f1 fd1) (G__law_target:Callee P w K mg base "_law_target" ["word"] 2 rY f2 fd2)
  (G__law_is_net:Callee P w K mg base "_law_is_net" ["thing"] 3 (kW K) f3 fd3) (G__law_text:Callee P w K mg base "_law_text" ["net"] 2 (o9 K) f4 fd4):FnOk P w K mg base hU 4 f fd ["text"] (rZ K):=by
 refine F.ok lW (λ vs H Q E h=>?_) (λ cdv A outer s H vs Q E hr h=>?_)
 ·obtain⟨x,rfl,_⟩:=h;rfl
 ·obtain⟨x,rfl,ha,hl,k1,k2⟩:=h;have sc:=lW;have hu:=LG hr
  (with_reducible refine⟨_,(aE (pL 1 sc.nd (EM (vA aI (aZ aB) (vA aI (aZ aB) EF)) rf rf (by simp) (by decide)))
   (aE (dS PassesOwn.never rf (eG (K:=K) rf (dC (K:=K) rf PySem.F.slot_str_split PySem.F.type_str_split dM (pv 0) (aA aI aB))) (gL 2 sc.nd) (aE (sO (i:=3) sc.nd rf (by with_unfolding_all exact .inr rfl) (aU lA (dC (K:=K) rf PySem.F.slot_str_split PySem.F.type_str_split dM (pv 2) (aA aI aB)) (aU IH (aZ (aA aI aB)) aF)))
   (aE (jQ (i:=4) sc.nd rf rf (λ _ _ h=>h) rf (LcOk.mk (N':=["part"]) (fr:=[none]) rf (by with_unfolding_all exact trivial) rf rf rf rf rf (by with_unfolding_all exact trivial)) (eG (K:=K) rf (dC (K:=K) rf PySem.F.slot_str_split PySem.F.type_str_split dM (px K (pv 3) aF) (aA aI aB))) (λ _ _ _=>(gC 0 ["part"])) (λ _ _ _=>cU) (λ _ _ _=>(dC (K:=K) rf PySem.F.slot_str_partition PySem.F.type_str_partition mF (pv 0) (aA aI aB))))
   (aE (jQ (i:=5) sc.nd rf rf (λ _ _ h=>h) rf (LcOk.mk (N':=["part"]) (fr:=[none]) rf (by with_unfolding_all exact trivial) rf rf rf rf rf (by with_unfolding_all exact trivial)) (eG (K:=K) rf (dC (K:=K) rf PySem.F.slot_str_split PySem.F.type_str_split dM (px K (pv 3) aF) (aA aI aB))) (λ _ _ _=>(gC 0 ["part"])) (λ _ _ _=>cU) (λ _ _ _=>(dC (K:=K) rf PySem.F.slot_str_partition PySem.F.type_str_partition mF (pv 0) (aA aI aB))))
   (aE (bC (aQ d5 (px K (pv 3) aF) aI (aP _)) (aE (pL 6 sc.nd (bQ (aA (cB (by with_unfolding_all exact G__law_number) hr (aA (px K (pv 3) aF) aB)) (aA (cB (by with_unfolding_all exact G__law_number) hr (aA (px K (pv 3) aF) aB)) aB))))
   (aE (pL 6 sc.nd (aU (jR (K:=K) rf) (pv 6) (bQ (aA (aR (cO (K:=K) rf) rf (by with_unfolding_all exact T.b_tuple) bS (aA (gB (λ _ _ h=>h) rf (LcOk.mk (N':=["out"]) (fr:=[none]) rf (by with_unfolding_all exact trivial) rf rf rf rf rf (by with_unfolding_all exact trivial)) (eG (K:=K) rf (pv 4)) (λ _ _ _=>(gC 0 ["out"])) (λ _ _ _=>cU) (λ _ _ _=>(bQ (aA (cB (by with_unfolding_all exact G__law_target) hr (aA (px K (pv 0) aF) aB)) (aA (cB (by with_unfolding_all exact G__law_number) hr (aA (px K (pv 0) aF) aB)) aB))))) aB)) aB))))
   (aE (pL 6 sc.nd (aU (jR (K:=K) rf) (pv 6) (bQ (aA (d2 d5 (px K (pv 3) aF) aI (aP _)) (aA (cB (by with_unfolding_all exact G__law_target) hr (aA (px K (pv 3) aF) aB)) aB)))))
   (aE (jQ (i:=5) sc.nd rf rf (λ _ _ h=>h) rf (LcOk.mk (N':=["act","words"]) (fr:=[none,some 3]) rf (by with_unfolding_all exact⟨rfl,trivial⟩) rf rf rf rf rf (by with_unfolding_all exact⟨⟨_,rfl,rfl,rfl,rfl⟩,trivial⟩)) (eG (K:=K) rf (pv 5)) (λ _ _ _=>(gC 0 ["act","words"])) (λ _ _ _=>EG (aQ kO (px K (pv 1) aF) aI (aP _))) (λ _ _ _=>(pv 0)))
   (aE (pL 6 sc.nd (aU (jR (K:=K) rf) (pv 6) (bQ (aA (aR (cO (K:=K) rf) rf (by with_unfolding_all exact T.b_tuple) bS (aA (gB (λ _ _ h=>h) rf (LcOk.mk (N':=["act"]) (fr:=[none]) rf (by with_unfolding_all exact trivial) rf rf rf rf rf (by with_unfolding_all exact trivial)) (eG (K:=K) rf (pv 5)) (λ _ _ _=>(gC 0 ["act"])) (λ _ _ _=>cU) (λ _ _ _=>(bQ (aA (px K (pv 0) aF) (aA (cB (by with_unfolding_all exact G__law_number) hr (aA (px K (pv 0) aF) aB)) aB))))) aB)) aB))))
   (aH (dG (eC (K:=K) rf aat abe abf (um cM) (oC hu (pv 1) aI (by with_unfolding_all exact λ _ _=>rfl)) (aA (pv 6) aB))))))))) aS)
   (aH (bC (aQ d5 (px K (pv 3) aF) aI (aP _)) (aE (pL 7 sc.nd (cB (by with_unfolding_all exact G__law_number) hr (aA (px K (pv 3) aF) aB)))
   (aH (dG (eC (K:=K) rf aat abe abf (um cM) (oC hu (pv 1) aI (by with_unfolding_all exact λ _ _=>rfl)) (aA (bQ (aA (cB (by with_unfolding_all exact G__law_number) hr (aA (px K (pv 3) aF) aB)) (aA (pv 7) (aA (d2 d5 (px K (pv 3) aF) aI (aP _)) aB)))) aB))))) aS)))))))
   (aE (pL 8 sc.nd (bQ (aA (aR (cO (K:=K) rf) rf (by with_unfolding_all exact T.b_tuple) bS (aA (oC hu (pv 1) aI (by with_unfolding_all exact λ _ _=>rfl)) aB)) (aA (aR (cO (K:=K) rf) rf (by with_unfolding_all exact T.b_tuple) bS (aA (oC hu (pv 1) aI (by with_unfolding_all exact λ _ _=>rfl)) aB)) aB))))
   (aE (bC (PW.pt (d4 (bI (bG (cB (by with_unfolding_all exact G__law_is_net) hr (aA (pv 8) aB)))) (cQ (aQ kO (cB (by with_unfolding_all exact G__law_text) hr (aA (pv 8) aB)) (pv 0) (aP _))))) (aH (aM d8)) aS)
   (aH (aM (pv 8))))))),?_⟩)
  refine λ dd hdd=>⟨abk _,λ vl hvl=>⟨abk _,λ sl hsl=>⟨?_,[(kC,.ref vl),(kD,.ref sl)],rfl,(show 2<=15 by decide),?_⟩⟩⟩
  ·rw[aN (λ z=>by rw[<- z] at hsl;rw[aN (aL (show upd H dd (.dK []) dd=_ from aD) hvl)] at hsl;rw[aD] at hsl;cases hsl),aN (aL (show upd H dd (.dK []) dd=_ from aD) hvl)];exact aD
  rw[IU];have nvd:dd≠vl:=aL (show upd H dd (.dK []) dd=_ from aD) hvl;have fv:H vl=none:=(aG.new hdd).free hvl;have fs:H sl=none:=((aG.new hdd).trans (aG.new hvl)).free hsl;have nvs:vl≠sl:=aL (show upd (upd H dd (.dK [])) vl (.lst []) vl=_ from aD) hsl;have nsd:dd≠sl:=aL (show upd (upd H dd (.dK [])) vl (.lst []) dd=some (.dK []) by rw[aN nvd];exact aD) hsl;have s1:aG H (upd (upd (upd (upd H dd (.dK [])) vl (.lst [])) sl (.lst [])) dd (.dK [(kC,.ref vl),(kD,.ref sl)])):=(((aG.new hdd).trans (aG.new hvl)).trans (aG.new hsl)).put hdd;have g1:upd (upd (upd (upd H dd (.dK [])) vl (.lst [])) sl (.lst [])) dd (.dK [(kC,.ref vl),(kD,.ref sl)]) dd=some (.dK [(kC,.ref vl),(kD,.ref sl)]):=aD;have gv:upd (upd (upd (upd H dd (.dK [])) vl (.lst [])) sl (.lst [])) dd (.dK [(kC,.ref vl),(kD,.ref sl)]) vl=some (.lst []):=by rw[aN (Ne.symm nvd),aN nvs];exact aD
  have gs:upd (upd (upd (upd H dd (.dK [])) vl (.lst [])) sl (.lst [])) dd (.dK [(kC,.ref vl),(kD,.ref sl)]) sl=some (.lst []):=by rw[aN (Ne.symm nsd)];exact aD
  dsimp only [aW,bL];generalize upd (upd (upd (upd H dd (.dK [])) vl (.lst [])) sl (.lst [])) dd (.dK [(kC,.ref vl),(kD,.ref sl)])=H1 at s1 g1 gv gs ⊢;clear hvl hsl;refine⟨_,rfl,rfl,x,"\n",rfl,rfl,by decide,by omega,λ lp hlp=>?_⟩;rw[K1];have hls:∀ y∈Txt.split x (one 10),eA y/\y.length<=500000:=λ y hy=>⟨dN ha hy,abn (PyProof.Rows.part_short hy) hl⟩;have hln:=dX x (one 10) (by decide);have elrd:FG x=.tup [.tup (xT (Txt.split x (one 10))),.tup (xY (Txt.split x (one 10)))]:=rfl;generalize Txt.split x (one 10)=ls at hls hln elrd ⊢;have fl:H lp=none:=s1.free hlp;have nlv:lp≠vl:=λ z=>by rw[z,gv] at hlp;cases hlp
  have nlsp:lp≠sl:=λ z=>by rw[z,gs] at hlp;cases hlp
  have nld:lp≠dd:=λ z=>by rw[z,g1] at hlp;cases hlp
  have s2:=s1.trans (aG.new (o:=HO.lst (ls.map V.str)) hlp);have g2:upd H1 lp (.lst (ls.map V.str)) lp=some (.lst (ls.map V.str)):=aD;have g1:=aG.new (o:=HO.lst (ls.map V.str)) hlp _ _ g1;have gv:=aG.new (o:=HO.lst (ls.map V.str)) hlp _ _ gv;have gs:=aG.new (o:=HO.lst (ls.map V.str)) hlp _ _ gs;generalize upd H1 lp (.lst (ls.map V.str))=H2 at s2 g2 g1 gv gs ⊢;have vll:∀ i,(xT (ls.take i)).length<=i:=λ i=>by
   unfold xT;rw[aab];exact abn (List.length_filter_le ..) (by rw[abj];omega)
  have sll:∀ i,(xY (ls.take i)).length<=i:=λ i=>by
   unfold xY;rw[aab];exact abn (List.length_filter_le ..) (by rw[abj];omega)
  refine⟨lp,rfl,⟨_,bO.of g2⟩,jK (K:=K) (a:=lp) (xs:=ls.map V.str) (λ i aa H'=>aG H H'/\H' lp=some (.lst (ls.map V.str))/\H' dd=some (.dK [(kC,.ref vl),(kD,.ref sl)])/\(∃ us ts,H' vl=some (.lst us)/\IsL K H' (xT (ls.take i)) us/\H' sl=some (.lst ts)/\IsL K H' (xY (ls.take i)) ts)/\
   ∃ v2 v3 v4 v5 v6 v7,aa=[some (.str x),some (.ref dd),v2,v3,v4,v5,v6,v7,none]) ⟨s2,g2,g1,⟨[],[],gv,.nil,gs,.nil⟩,_,_,_,_,_,_,rfl⟩ ?_ ?_ ?_⟩
  ·rintro i aa H3 _ ⟨_,h2,_⟩;exact bO.of h2
  ·rintro i y aa H3 hy ⟨s3,hlp3,hdd3,⟨us,ts,hvl3,lu,hsl3,lt⟩,v2,v3,v4,v5,v6,v7,rfl⟩;rw[aap] at hy;obtain⟨y,hyw,rfl⟩:=abd.mp hy;have hyi:i < ls.length:=(aai.mp hyw).1;obtain⟨ya,yl⟩:=hls y (aad hyw);have eul:us.length<=i:=by rw[lu.length];exact vll i
   have etl:ts.length<=i:=by rw[lt.length];exact sll i
   have hys:=dX y (one 32) (by decide);dsimp only [aW];refine⟨_,rfl,rfl,y," ",rfl,rfl,by decide,by omega,λ p1 hp1=>⟨(show 1<=sizeLine by decide),λ p2 hp2=>⟨p2,7,_,rfl,rfl,aD,by decide,by decide,(show 1 * 7<=sizeLine by decide),λ p3 hp3=>?_⟩⟩⟩;have s4:=((aG.new (o:=HO.lst ((Txt.split y " ").map V.str)) hp1).trans (aG.new (o:=HO.lst [.str ""]) hp2)).trans (aG.new (o:=HO.lst (List.replicate 7 [V.str ""]).flatten) hp3);refine⟨p1,p3,_,_,rfl,rfl,((aG.new (o:=HO.lst [.str ""]) hp2).trans (aG.new (o:=HO.lst (List.replicate 7 [V.str ""]).flatten) hp3)) _ _ aD,aD,?_,λ q hq=>?_⟩
   ·rw[aab,G4];show _+7<=sizeLine;rw[sizeLine_eq];omega
   have s5:=s4.trans (aG.new (o:=HO.lst ((Txt.split y " ").map V.str++(List.replicate 7 [V.str ""]).flatten)) hq);have gq:upd (upd (upd (upd H3 p1 (.lst ((Txt.split y " ").map V.str))) p2 (.lst [.str ""])) p3 (.lst (List.replicate 7 [V.str ""]).flatten)) q (.lst ((Txt.split y " ").map V.str++(List.replicate 7 [V.str ""]).flatten)) q=some (.lst ((lw y).map V.str)):=by
    rw[aD,LM,G4,<- aaj];rfl
   dsimp only [aW,bL];show fB _ _ _ _ (upd (upd (upd (upd H3 p1 (.lst ((Txt.split y " ").map V.str))) p2 (.lst [.str ""])) p3 (.lst (List.replicate 7 [V.str ""]).flatten)) q (.lst ((Txt.split y " ").map V.str++(List.replicate 7 [V.str ""]).flatten)));generalize upd (upd (upd (upd H3 p1 (.lst ((Txt.split y " ").map V.str))) p2 (.lst [.str ""])) p3 (.lst (List.replicate 7 [V.str ""]).flatten)) q (.lst ((Txt.split y " ").map V.str++(List.replicate 7 [V.str ""]).flatten))=H5 at s5 gq ⊢;have fq:H3 q=none:=s4.free hq;clear s4 hq hp3 hp2 hp1;obtain⟨a3,l3⟩:=rQ ya (show 3 < 8 by decide);obtain⟨a6,l6⟩:=rQ ya (show 6 < 8 by decide);refine GL rfl gq (by decide) (by decide) ⟨rfl,d3 y 3,",",rfl,rfl,by decide,by omega,λ p4 hp4=>?_⟩;rw[G3];have hp3:∀ p∈Txt.split (d3 y 3) (one 44),eA p/\p.length<=500000:=λ p hp=>⟨dN a3 hp,abn (PyProof.Rows.part_short hp) (by omega)⟩;have hn3:=dX (d3 y 3) (one 44) (by decide);generalize ep3:Txt.split (d3 y 3) (one 44)=ps at hp3 hn3 ⊢;refine⟨p4,rfl,⟨_,bO.of aD⟩,oF (xs:=ps.map V.str) (ps.map (yB 42)) rfl aD (by rw[aab];omega) (by rw[aab,aab]) ?_ ?_⟩
   ·intro j x' d H' R hx' hd' s' hR;rw[aap] at hx' hd';obtain⟨p,hp,rfl⟩:=abd.mp hx';rw[hp] at hd';cases hd';refine⟨_,rfl,rfl,p,"*",rfl,rfl,by decide,by have:=(hp3 p (aad hp)).2;omega,λ q' hq'=>?_⟩;rw[w_s];exact hR _ _ (aG.new hq') (Is.tupOf (bU.of aD) (.cons (Is.s _) (.cons (Is.s _) (.cons (Is.s _) .nil))))
   intro oa H6 ro fo s6 goa lro;have s6:=s5.trans ((aG.new hp4).trans s6);have gq6:=((aG.new hp4).trans ‹aG _ H6›) _ _ gq;dsimp only [aW,bL];refine GL rfl gq6 (by decide) (by decide) ⟨rfl,d3 y 6,",",rfl,rfl,by decide,by omega,λ p7 hp7=>?_⟩;rw[G3];have hq3:∀ p∈Txt.split (d3 y 6) (one 44),eA p/\p.length<=500000:=λ p hp=>⟨dN a6 hp,abn (PyProof.Rows.part_short hp) (by omega)⟩;have hm3:=dX (d3 y 6) (one 44) (by decide);generalize ep6:Txt.split (d3 y 6) (one 44)=rs at hq3 hm3 ⊢;refine⟨p7,rfl,⟨_,bO.of aD⟩,oF (xs:=rs.map V.str) (rs.map (yB 46)) rfl aD (by rw[aab];omega) (by rw[aab,aab]) ?_ ?_⟩
   ·intro j x' d H' R hx' hd' s' hR;rw[aap] at hx' hd';obtain⟨p,hp,rfl⟩:=abd.mp hx';rw[hp] at hd';cases hd';refine⟨_,rfl,rfl,p,".",rfl,rfl,by decide,by have:=(hq3 p (aad hp)).2;omega,λ q' hq'=>?_⟩;rw[w_p];exact hR _ _ (aG.new hq') (Is.tupOf (bU.of aD) (.cons (Is.s _) (.cons (Is.s _) (.cons (Is.s _) .nil))))
   intro ca H8 rc fc s8 gca lrc;have s78:=(aG.new (o:=HO.lst (rs.map V.str)) hp7).trans s8;have s8:=s6.trans s78;have gq8:=s78 _ _ gq6;have goa8:=s78 _ _ goa;have lro8:=L2.IsL.mono s78.ts _ _ lro;dsimp only [aW,bL];clear s78 gq6 goa lro s6 hp7 hp4 gq s5 fo fc;refine n4 (λ aa H'=>aG H H'/\H' lp=some (.lst (ls.map V.str))/\H' dd=some (.dK [(kC,.ref vl),(kD,.ref sl)])/\H' q=some (.lst ((lw y).map V.str))/\(∃ us,H' vl=some (.lst us)/\IsL K H' (xT (ls.take (i+1))) us/\H' sl=some (.lst ts)/\IsL K H' (xY (ls.take i)) ts)/\
    ∃ v4 v5 v6 v7,aa=[some (.str x),some (.ref dd),some (.str y),some (.ref q),v4,v5,v6,v7,none]) (λ D' hD=>?_) ?_
   ·refine GL rfl gq8 (by decide) (by decide) ⟨rfl,_,rfl,dJ (λ hT=>?_) λ hT=>?_⟩;rotate_left
    ·have h0:d3 y 0 ≠ "vessel" := λ h=>hT (aaw (show V.str (d3 y 0)=_ by rw[h]));refine hD _ _ ⟨s3.trans s8,s8 _ _ hlp3,s8 _ _ hdd3,gq8,⟨us,s8 _ _ hvl3,?_,s8 _ _ hsl3,L2.IsL.mono s8.ts _ _ lt⟩,_,_,_,_,rfl⟩;rw[cL hyw,GV h0];exact L2.IsL.mono s8.ts _ _ lu
    have h0:d3 y 0 = "vessel" := V.str.inj (show V.str (d3 y 0)=V.str "vessel" from aax hT);refine EZ rfl gq8 ya yl (by decide) (by decide) λ H9 s9=>?_;refine EZ rfl (s9 _ _ gq8) ya yl (by decide) (by decide) λ H10 s10=>⟨(show 2<=sizeLine by decide),λ t1 ht1=>?_⟩;have s11:=(s9.trans s10).trans (aG.new (o:=HO.tup [gP (d7 (d3 y 1)),gP (d7 (d3 y 2))]) ht1);have q11:bU K (upd H10 t1 (.tup [gP (d7 (d3 y 1)),gP (d7 (d3 y 2))])) t1 [gP (d7 (d3 y 1)),gP (d7 (d3 y 2))]:=bU.of aD;dsimp only [aW,bL];show fB _ _ _ _ (upd H10 t1 (.tup [gP (d7 (d3 y 1)),gP (d7 (d3 y 2))]));generalize upd H10 t1 (.tup [gP (d7 (d3 y 1)),gP (d7 (d3 y 2))])=H11 at s11 q11 ⊢;clear s9 s10 ht1;have goa11:=s11 _ _ goa8;have lro11:=L2.IsL.mono s11.ts _ _ lro8;have lol:ro.length=ps.length:=by rw[lro8.length,aab]
    refine⟨_,rfl,_,rfl,oa,rfl,⟨_,bO.of goa11⟩,oF (xs:=ro) (ps.map qZ) rfl goa11 (by omega) (by rw[aab,lol]) ?_ ?_⟩
    ·intro j x' d H' R hx' hd' s' hR;obtain⟨p,a,hp,rfl,qa⟩:=yA lro11 hx';rw[aap,hp] at hd';cases hd';obtain⟨pa,pl⟩:=hp3 p (aad hp);obtain⟨b1,b2⟩:=mR (c:=42) pa;obtain⟨c1,c2⟩:=mI (c:=42) (x:=p);refine⟨_,rfl,.inr (.inl ⟨a,_,0,_,rfl,rfl,s'.tup qa,rfl,_,rfl,b1,by omega,λ H12 s12=>⟨_,rfl,.inr (.inl ⟨a,_,2,_,rfl,rfl,(s'.trans s12).tup qa,rfl,_,rfl,b2,by omega,λ H13 s13=>⟨(show 2<=sizeLine by decide),λ t2 ht2=>?_⟩⟩)⟩⟩)⟩;exact hR _ _ ((s12.trans s13).trans (aG.new ht2)) (Is.tupOf (bU.of aD) (.cons (CO _) (.cons (Is.tgOf _) .nil)))
    intro D2 H12 r2 f2 s12 g12 l12;refine⟨D2,r2,rfl,.inl ⟨bO.of g12,λ t2 ht2=>⟨(show 1<=sizeLine by decide),λ t3 ht3=>?_⟩⟩⟩;have s13:=(aG.new (o:=HO.tup r2) ht2).trans (aG.new (o:=HO.tup [.ref t2]) ht3);refine⟨t1,t3,_,_,rfl,rfl,(s12.trans s13).tup q11,bU.of aD,(show 3<=sizeLine by decide),λ t4 H14 s14 q14=>?_⟩;have iO:Is K H14 (.tup (ps.map qZ)) (.ref t2):=Is.tupOf (((aG.new ht3).trans s14).tup (bU.of aD)) (L2.IsL.mono (s13.trans s14).ts _ _ l12);have s14:=s11.trans (s12.trans (s13.trans s14));dsimp only [aW,bL];clear s13 ht3 ht2 s12 g12 l12 s11 q11 goa11 lro11;refine⟨_,rfl,GL rfl (s14 _ _ gq8) (by decide) (by decide) ⟨rfl,tar3 rfl (s14 _ _ gq8) ya yl (by decide) (by decide) λ H15 s15=>⟨(show 2<=sizeLine by decide),λ t5 ht5=>?_⟩⟩⟩;refine⟨t4,t5,_,_,rfl,rfl,(s15.trans (aG.new ht5)).tup q14,bU.of aD,(show 5<=sizeLine by decide),λ t6 H16 s16 q16=>?_⟩;have s1416:=(s15.trans (aG.new ht5)).trans s16;have iO:=Is.mono s1416.ts _ _ iO;have s16:=s14.trans s1416;dsimp only [aW,bL];clear s1416 s15 ht5 s14 q14;have lcl:rc.length=rs.length:=by rw[lrc.length,aab]
    have gca16:=s16 _ _ gca;refine⟨_,rfl,ca,rfl,⟨_,bO.of gca16⟩,yK (K:=K) (a:=ca) (xs:=rc) (λ D j r aa H'=>H16 D=none/\aG H16 H'/\H' D=some (.lst r)/\r=(if d3 y 6 = "-" then [] else rc.take j)/\∃ u1,aa=[u1,some (.ref q)])
     (λ D j r aa H' p=>bO.of (p.2.1 _ _ gca16)) (λ D hD=>⟨hD,aG.new hD,aD,by split <;> rfl,none,rfl⟩) ?_ ?_⟩
    rotate_left
    ·rintro D j v r aa H17 hv ⟨hD17,sm,hDl,er,u1,rfl⟩;refine⟨_,rfl,.inl ⟨q,_,6,_,rfl,rfl,bO.of (sm _ _ (s16 _ _ gq8)),eK (xs:=(lw y).map V.str) (j:=6) (jF (BZ (by decide))),rfl,_,rfl,?_⟩⟩
     by_cases h6:d3 y 6 = "-"
     ·rw[aaw (show V.str (d3 y 6)=V.str "-" by rw[h6])];refine⟨hD17,sm,hDl,?_,_,rfl⟩;rw[er,if_pos h6,if_pos h6]
     ·rw[aau (show ¬ V.str (d3 y 6)=V.str "-" from λ h=>h6 (V.str.inj h))];have hrl:r.length<=rc.length:=by rw[er,if_neg h6,abj];omega
      refine⟨_,rfl,hDl,eQ (by omega),hD17,sm.put hD17,aD,?_,_,rfl⟩;rw[er,if_neg h6,if_neg h6,cL hv]
    rintro D3 r3 aa H17 ⟨f3,s17,g17,er,_⟩;rw[aar (aag _)] at er;have lra:IsL K H17 ((FZ (d3 y 6)).map (yB 46)) r3:=by
     rw[er];unfold FZ
     by_cases h6:d3 y 6 = "-"
     ·rw[if_pos h6,if_pos h6];exact .nil
     ·rw[if_neg h6,if_neg h6,ep6];exact L2.IsL.mono (s16.trans s17).ts _ _ lrc
    have hqa:∀ p∈FZ (d3 y 6),eA p/\p.length<=500000:=λ p hp=>by
     unfold FZ at hp
     split at hp
     ·cases hp
     ·rw[ep6] at hp;exact hq3 p hp
    have lal:r3.length=(FZ (d3 y 6)).length:=by rw[lra.length,aab]
    have lal2:r3.length<=rc.length:=by
     rw[er];split
     ·exact abk _
     ·exact aag _
    have iO:=Is.mono s17.ts _ _ iO;have q17:=s17.tup q16;have s17:=s16.trans s17;dsimp only [aW,bL];clear s16 q16 er f3 gca16;generalize eas:FZ (d3 y 6)=as at lra hqa lal;refine⟨_,rfl,_,rfl,D3,rfl,⟨_,bO.of g17⟩,oF (xs:=r3) (as.map rN) rfl g17 (by omega) (by rw[aab,lal]) ?_ ?_⟩
    ·intro j x' d H' R hx' hd' s' hR;obtain⟨p,a,hp,rfl,qa⟩:=yA lra hx';rw[aap,hp] at hd';cases hd';obtain⟨pa,pl⟩:=hqa p (aad hp);obtain⟨b1,b2⟩:=mR (c:=46) pa;obtain⟨c1,c2⟩:=mI (c:=46) (x:=p);refine⟨_,rfl,.inr (.inl ⟨a,_,0,_,rfl,rfl,s'.tup qa,rfl,_,rfl,.inr (.inl ⟨a,_,2,_,rfl,rfl,s'.tup qa,rfl,_,rfl,b2,by omega,λ H13 s13=>⟨(show 2<=sizeLine by decide),λ t2 ht2=>?_⟩⟩)⟩)⟩;exact hR _ _ (s13.trans (aG.new ht2)) (Is.tupOf (bU.of aD) (.cons (Is.s _) (.cons (Is.tgOf _) .nil)))
    intro D4 H18 r4 f4 s18 g18 l18;refine⟨D4,r4,rfl,.inl ⟨bO.of g18,λ t2 ht2=>⟨(show 1<=sizeLine by decide),λ t3 ht3=>?_⟩⟩⟩;have s19:=(aG.new (o:=HO.tup r4) ht2).trans (aG.new (o:=HO.tup [.ref t2]) ht3);refine⟨t6,t3,_,_,rfl,rfl,(s18.trans s19).tup q17,bU.of aD,(show 6<=sizeLine by decide),λ t7 H20 s20 q20=>?_⟩;have iA:Is K H20 (.tup (as.map rN)) (.ref t2):=Is.tupOf (((aG.new ht3).trans s20).tup (bU.of aD)) (L2.IsL.mono (s19.trans s20).ts _ _ l18);have iO:=Is.mono (s18.trans (s19.trans s20)).ts _ _ iO;have s820:=s17.trans (s18.trans (s19.trans s20));have s20:=s8.trans s820;dsimp only [aW,bL];have e4:Is K H20 (.bl (decide (d3 y 4 = "holds"))) (.bl (decide (V.str (d3 y 4)=V.str "holds"))):=by
     rw[show decide (V.str (d3 y 4)=V.str "holds")=decide (d3 y 4 = "holds") by simp];exact Is.b _
    have iT:Is K H20 (qM y) (.ref t7):=by
     unfold qM;rw[ep3,eas];exact Is.tupOf q20 (.cons (Is.tgOf _) (.cons (Is.tgOf _) (.cons iO (.cons e4 (.cons (CO _) (.cons iA .nil))))))
    have hvl20:=s20 _ _ hvl3;have hdd20:=s20 _ _ hdd3;refine⟨_,rfl,dd,_,rfl,.inl ⟨_,kC,.inl hdd20,rfl,(G7 _ _).symm⟩,.inl ⟨rfl,_,bO.of hvl20⟩,_,rfl,vl,us,_,rfl,rfl,hvl20,eQ (by omega),?_⟩;have b21:dQ vl H20 (upd H20 vl (.lst (us++[.ref t7]))):=dQ.upd;have ts21:=b21.ts (K:=K) (by rw[hvl20];exact trivial);refine hD _ _ ⟨(s3.trans s20).put fv,b21 _ _ nlv (s20 _ _ hlp3),b21 _ _ nvd hdd20,b21 _ _ ?_ (s820 _ _ gq8),⟨us++[.ref t7],aD,?_,b21 _ _ (Ne.symm nvs) (s20 _ _ hsl3),L2.IsL.mono (s20.ts.trans ts21) _ _ lt⟩,_,_,_,_,rfl⟩
    ·exact λ z=>by rw[z,hvl3] at fq;cases fq
    ·rw[cL hyw,DW h0];exact L2.IsL.snoc (Is.mono ts21 _ _ iT) (L2.IsL.mono (s20.ts.trans ts21) _ _ lu)
   clear hvl3 lu eul us goa8 lro8 gca lrc gq8 s8;rintro aa H9 ⟨s9,hlp9,hdd9,gq9,⟨us,hvl9,lu9,hsl9,lt9⟩,v4,v5,v6,v7,rfl⟩;refine GL rfl gq9 (by decide) (by decide) ⟨rfl,_,rfl,dJ (λ hT=>?_) λ hT=>?_⟩;rotate_left
   ·have h0:d3 y 0 ≠ "spout" := λ h=>hT (aaw (show V.str (d3 y 0)=_ by rw[h]));refine⟨s9,hlp9,hdd9,⟨us,ts,hvl9,lu9,hsl9,?_⟩,_,_,_,_,_,_,rfl⟩;rw[cL hyw,HI h0];exact lt9
   have h0:d3 y 0 = "spout" := V.str.inj (show V.str (d3 y 0)=V.str "spout" from aax hT);refine EZ rfl gq9 ya yl (by decide) (by decide) λ H10 s10=>?_;have hdd10:=s10 _ _ hdd9;have hsl10:=s10 _ _ hsl9;dsimp only [aW,bL];refine⟨_,rfl,dd,_,rfl,.inl ⟨_,kD,.inl hdd10,rfl,(G8 _ _).symm⟩,.inl ⟨rfl,_,bO.of hsl10⟩,EZ rfl (s10 _ _ gq9) ya yl (by decide) (by decide) λ H11 s11=>⟨_,rfl,GL rfl ((s10.trans s11) _ _ gq9) (by decide) (by decide) ⟨rfl,(show 3<=sizeLine by decide),λ t1 ht1=>?_⟩⟩⟩;have s12:=(s10.trans s11).trans (aG.new (o:=HO.tup [gP (d7 (d3 y (Int.toNat 1))),gP (d7 (d3 y (Int.toNat 2))),.bl (decide (V.str (d3 y (Int.toNat 3))=V.str "open"))]) ht1);have iT:Is K (upd H11 t1 (.tup [gP (d7 (d3 y (Int.toNat 1))),gP (d7 (d3 y (Int.toNat 2))),.bl (decide (V.str (d3 y (Int.toNat 3))=V.str "open"))])) (qS y) (.ref t1):=by
    have e:decide (V.str (d3 y 3)=V.str "open")=decide (d3 y 3 = "open"):=by simp
    unfold qS;refine Is.tupOf (bU.of aD) (.cons (Is.tgOf _) (.cons (Is.tgOf _) (.cons ?_ .nil)));exact e ▸ Is.b _
   have hsl12:=s12 _ _ hsl9;refine⟨sl,ts,_,rfl,rfl,hsl12,eQ (by omega),?_⟩;generalize upd H11 t1 (.tup [gP (d7 (d3 y (Int.toNat 1))),gP (d7 (d3 y (Int.toNat 2))),.bl (decide (V.str (d3 y (Int.toNat 3))=V.str "open"))])=H12 at s12 iT hsl12 ⊢;have b13:dQ sl H12 (upd H12 sl (.lst (ts++[.ref t1]))):=dQ.upd;have ts13:=b13.ts (K:=K) (by rw[hsl12];exact trivial);refine⟨(s9.trans s12).put fs,b13 _ _ nlsp (s12 _ _ hlp9),b13 _ _ nsd (s12 _ _ hdd9),⟨us,ts++[.ref t1],b13 _ _ nvs (s12 _ _ hvl9),L2.IsL.mono (s12.ts.trans ts13) _ _ lu9,aD,?_⟩,_,_,_,_,_,_,rfl⟩;rw[cL hyw,E4 h0];exact L2.IsL.snoc (Is.mono ts13 _ _ iT) (L2.IsL.mono (s12.ts.trans ts13) _ _ lt9)
  ·rintro aa H3 ⟨s3,hlp3,hdd3,⟨us,ts,hvl3,lu,hsl3,lt⟩,v2,v3,v4,v5,v6,v7,rfl⟩;rw[aab,aar (aag _)] at lu lt;refine⟨_,rfl,dd,_,rfl,.inl ⟨_,kC,.inl hdd3,rfl,(G7 _ _).symm⟩,vl,us,rfl,.inl ⟨bO.of hvl3,λ pa hpa=>?_⟩⟩;have s4:=aG.new (o:=HO.tup us) hpa;have q4:bU K (upd H3 pa (.tup us)) pa us:=bU.of aD;generalize upd H3 pa (.tup us)=H4 at s4 q4 ⊢;refine⟨_,rfl,dd,_,rfl,.inl ⟨_,kD,.inl (s4 _ _ hdd3),rfl,(G8 _ _).symm⟩,sl,ts,rfl,.inl ⟨bO.of (s4 _ _ hsl3),λ pb hpb=>⟨(show 2<=sizeLine by decide),λ pn hpn=>?_⟩⟩⟩;have s5:=(aG.new (o:=HO.tup ts) hpb).trans (aG.new (o:=HO.tup [.ref pa,.ref pb]) hpn);have q5:bU K (upd (upd H4 pb (.tup ts)) pn (.tup [.ref pa,.ref pb])) pb ts:=(aG.new hpn).tup (bU.of aD);have q6:bU K (upd (upd H4 pb (.tup ts)) pn (.tup [.ref pa,.ref pb])) pn [.ref pa,.ref pb]:=bU.of aD;generalize upd (upd H4 pb (.tup ts)) pn (.tup [.ref pa,.ref pb])=H5 at s5 q5 q6 ⊢;have s45:=s4.trans s5;have s35:=s3.trans s45;have inet:Is K H5 (FG x) (.ref pn):=by
    rw[elrd];exact Is.tupOf q6 (.cons (Is.tupOf (s5.tup q4) (L2.IsL.mono s45.ts _ _ lu)) (.cons (Is.tupOf q5 (L2.IsL.mono s45.ts _ _ lt)) .nil))
   dsimp only [aW,bL];refine⟨_,rfl,_,dO (FG x),rfl,inet.g,λ H6 s6=>⟨_,rfl,?_⟩⟩;cases hn:fI (dO (FG x)) with
   | false=>exact aX (k2 (IZ hn) _ (s35.trans s6))
   | true=>
    refine bM ?_;obtain⟨net,en,ok,fu,ky,kn⟩:=FF hn;rw[en] at inet;refine⟨_,rfl,_,net,rfl,Is.mono s6.ts _ _ inet,gT ok fu,λ H7 s7=>⟨_,rfl,rfl,_,rfl,?_⟩⟩;have e7:(!decide (V.str (fE net)=V.str x)) = !decide (fE net=x):=by simp
    rw[e7]
    by_cases ez:fE net=x
    ·rw[aaw ez];refine bM ?_;exact⟨_,rfl,k1 net _ _ (ky ez) ok fu ((s35.trans s6).trans s7) (Is.mono (s6.trans s7).ts _ _ inet)⟩
    ·rw[aau ez];refine aX ?_;exact k2 (kn ez) _ ((s35.trans s6).trans s7)
end Tw
namespace HT
open PySem PySem.Spec PyProof.Rows L2
section
variable {prog:Program}{A:Around}{E:Value->Shared->Prop}{s:Shared}
end
end HT
namespace L2
open PySem PySem.Spec PyProof.Rows
section
variable {X:Cx}{e st:Expr}{te:TE}{pos p2:Pos}
end
end L2
namespace Tw
open PySem L2
section
variable {aw:Addr}
end
section
variable {aw t:Addr}
structure MkG (K:aaa) (t:Addr) (g:G) (te:TE):Prop where
 h:∀ σ H (Q:V->Hp->Prop),(∃ q,H t=some (.lst q))->(∀ v H',aG H H'->aO K (kG t H') g v->Q v H')->te σ H Q
structure MkGL (K:aaa) (t:Addr) (gs:List G) (ta:TA):Prop where
 h:∀ σ H (Q:List V->Hp->Prop),(∃ q,H t=some (.lst q))->(∀ vs H',aG H H'->aY K (kG t H') gs vs->Q vs H')->ta σ H Q
theorem mk_i {i:Int}:MkG K t (.int i) (tC (.int i)):=⟨λ σ H Q _ k=>k _ H (aG.refl _) (.i _)⟩
theorem mk_b {i:Bool}:MkG K t (.bl i) (tC (.bl i)):=⟨λ σ H Q _ k=>k _ H (aG.refl _) (.b _)⟩
theorem lD {i:Str}:MkG K t (.str i) (tC (.str i)):=⟨λ σ H Q _ k=>k _ H (aG.refl _) (.s _)⟩
theorem mk_n:MkG K t .non (tC .non):=⟨λ σ H Q _ k=>k _ H (aG.refl _) .n⟩
theorem pQ:MkGL K t [] fP:=⟨λ σ H Q _ k=>k _ H (aG.refl _) .nil⟩
theorem cI {te:TE}{ta:TA}{g:G}{gs:List G} (h1:MkG K t g te) (h2:MkGL K t gs ta):MkGL K t (g::gs) (bV te ta):=⟨λ σ H Q ⟨q,ht⟩ k=>h1.h σ H _ ⟨q,ht⟩ λ v H1 s1 i1=>h2.h σ H1 _ ⟨q,s1 _ _ ht⟩ λ vs H2 s2 i2=>k _ H2 (s1.trans s2) (.cons (aO.same (gW s2) i1) i2)⟩
theorem IO {ta:TA}{gs:List G} (h:MkGL K t gs ta) (hl:gs.length<=100):MkG K t (.tup gs) (K2 ta):=⟨λ σ H Q ⟨q,ht⟩ k=>h.h σ H _ ⟨q,ht⟩ λ vs H1 s1 i1=>⟨by rw[i1.length,sizeLine_eq];omega,λ p hp=>by
 have s2:=aG.new (o:=HO.tup vs) hp;have np:p≠t:=λ z=>by rw[z,s1 _ _ ht] at hp;cases hp
 exact k _ _ (s1.trans s2) (aO.t (bU.of (yO aD np)) (aY.same (gW s2) i1))⟩⟩
theorem tP {ta:TA}{gs:List G}{σ:St}{H:Hp}{Q:V->Hp->Prop} (h:MkGL K t gs ta) (hl:gs.length<=100) (ht:∃ q,H t=some (.lst q)) (k:∀ l xs H',aG H H'->H' l=some (.lst xs)->l≠t->aY K (kG t H') gs xs->Q (.ref l) H'):rV ta σ H Q:=by
 obtain⟨q,ht⟩:=ht;refine h.h σ H _ ⟨q,ht⟩ λ vs H1 s1 i1=>⟨by rw[i1.length,sizeLine_eq];omega,λ p hp=>?_⟩;have s2:=aG.new (o:=HO.lst vs) hp;have np:p≠t:=λ z=>by rw[z,s1 _ _ ht] at hp;cases hp
 exact k _ _ _ (s1.trans s2) aD np (aY.same (gW s2) i1)
theorem IQ {ta:TA}{gs:List G} (h:MkGL K t gs ta) (hl:gs.length<=100):MkG K t (.lst gs) (rV ta):=⟨λ σ H Q ht k=>tP h hl ht λ l xs H' s e n i=>k _ _ s (aO.l (bO.of (yO e n)) i)⟩
theorem IP {ta:TA}{gs:List G}{i:Nat}{R:TS}{D:Ends}{σ:St}{H:Hp} (h:MkGL K t gs ta) (hl:gs.length<=100) (ht:∃ q,H t=some (.lst q)) (k:∀ l xs H',aG H H'->H' l=some (.lst xs)->l≠t->aY K (kG t H') gs xs->R D (σ.set i (some (.ref l))) H'):fB (iJ (rV ta) (aW i)) R D σ H:=by
 dsimp only [fB,iJ,aW];exact tP (K:=K) (t:=t) h hl ht λ l xs H' s e n i=>k l xs H' s e n i
theorem IS {ta:TA}{gs hs:List G}{i:Nat}{R:TS}{D:Ends}{σ:St}{H:Hp}{l:Addr}{xs:List V} (aj:σ[i]? = some (some (.ref l))) (hx:H l=some (.lst xs)) (gx:aY K (kG t H) hs xs) (h:MkGL K t gs ta) (hl:gs.length<=100) (hl2:hs.length<=100) (ht:∃ q,H t=some (.lst q))
  (k:∀ l xs H',aG H H'->H' l=some (.lst xs)->l≠t->aY K (kG t H') (hs++gs) xs->R D (σ.set i (some (.ref l))) H'):fB (iJ (fJ KP (cD i) (rV ta)) (aW i)) R D σ H:=by
 refine⟨_,aj,tP h hl ht λ l2 xs2 H2 s2 hl2' n2 i2=>⟨l,l2,xs,xs2,rfl,rfl,s2 _ _ hx,hl2',by rw[gx.length,i2.length,sizeLine_eq];omega,λ l3 hl3=>?_⟩⟩;obtain⟨q,ht⟩:=ht;have n3:l3≠t:=λ z=>by rw[z,s2 _ _ ht] at hl3;cases hl3
 have s3:=aG.new (o:=HO.lst (xs++xs2)) hl3;exact k l3 _ _ (s2.trans s3) aD n3 ((aY.same (gW (t:=t) (s2.trans s3)) gx).app (aY.same (gW (t:=t) s3) i2))
theorem eI.l {H:Hp}{t sl:Addr} (h:eI H t sl):∃ q,H t=Option.some (HO.lst q):=by obtain⟨ns,pos,cell,e,_⟩:=h;exact⟨_,e⟩
end
def kX (K:aaa):Sp:=λ vs H Q _=>∃ (x:V) (net:Net),vs=[x]/\Is K H (eH net) x/\NetOk net/\∀ p H',aG H H'->Is K H' (L8 (L9 net)) (.ref p)->Q (.ref p) H'
theorem iH:FnScope ["net"] ["net"] (aK (bB 54)):={}
theorem o4 {f f1 f2:Addr}{fd fd1 fd2:FuncData} (F:Fun K "first_moment" "first_moment" (bB 54) f fd) (T:Txt mg)
  (G_first_state:Callee P w K mg base "first_state" ["net"] 1 (sG K) f1 fd1) (G_pouring:Callee P w K mg base "pouring" ["net","amount"] 1 (mY K) f2 fd2):FnOk P w K mg base hU 2 f fd ["net"] (kX K):=by
 refine F.ok iH (λ vs H Q E h=>?_) (λ cdv A outer s H vs Q E hr h=>?_)
 ·obtain⟨x,net,rfl,_⟩:=h;rfl
 ·obtain⟨x,net,rfl,hx,nok,k⟩:=h;have sc:=iH;refine⟨_,(aH (aM (bQ (aA aF (aA (cB G_first_state hr (aA (pv 0) aB)) (aA (cB G_pouring hr (aA (pv 0) (aA aF aB))) (aA aF (aA aF aB)))))))),?_⟩;refine⟨_,rfl,x,net,rfl,hx,nok,λ st H4 sm4 hst=>⟨_,rfl,x,net,0,rfl,Is.mono sm4.ts _ _ hx,nok,λ z H5 sm5 qz=>⟨(show 5<=sizeLine by decide),λ p hp=>?_⟩⟩⟩;rw[wG nok.lo] at qz;have sp:aG H5 (upd H5 p (.tup [.int 0,st,.ref z,.int 0,.int 0])):=aG.new hp;exact k p _ ((sm4.trans sm5).trans sp) (IN (m:=L9 net) (bU.of aD) (Is.mono sp.ts _ _ (Is.mono sm5.ts _ _ hst)) (sp.tup qz))
theorem xZ:FnScope ["self","net"] ["self","net"] (aK (gJ (bB 58) 0)):={}
structure MkCalR (P:Program) (w:World) (K:aaa) (mg:Str->Option Value) (base:Heap) (C:Addr) (x:Str) (ps:List Str) (k:Nat) (sp:Sp) (f:Addr) (fd:FuncData):Prop where
 make:Mk K C f
 ok:FnOk P w K mg base (uM P w) k f fd ps sp
 mg:mg x=some (.ref C)
 bd:kS K fd ps []
section
variable {aw t:Addr}
def sE (K:aaa) (C cN:Addr):Sp:=λ vs H Q E=>∃ (r dx:Addr) (x:V) (g:G),vs=[.ref r,x]/\H r=some (.ins C dx [])/\aO K H g x/\(fI g=false->∀ H',aG H H'->E (.ref cN) none H')/\(fI g=true->∀ H',dQ r H H'->Q .non H')
theorem BN {f f1 f2:Addr}{fd fd1 fd2:FuncData} (F:Fun K "__init__" "Run.__init__" (gJ (bB 58) 0) f fd) (T:Txt mg) (tx:RunTx K C) (XC_NoNet:ExC K "NoNet" c_NoNet)
  (G_is_net:Callee P w K mg base "is_net" ["thing"] 4 (kW K) f1 fd1) (G_first_moment:Callee P w K mg base "first_moment" ["net"] 2 (kX K) f2 fd2) :
  FnOk P w K mg base (uM P w) 5 f fd ["self","net"] (sE K C c_NoNet):=by
 refine F.okR xZ (λ vs H Q E h=>?_) (λ cdv A outer s H vs Q E hr h L=>?_)
 ·obtain⟨r,dx,x,g,rfl,_⟩:=h;rfl
 ·obtain⟨r,dx,x,g,rfl,hi,hg,kE,kQ⟩:=h;have sc:=xZ;refine⟨_,(aE (bC (bI (bG (cB G_is_net hr (aA (pv 1) aB)))) (aH (jA L rfl rfl XC_NoNet.exc XC_NoNet.ns PySem.F.excBase_ValueError (aA aI aB))) aS)
   (aE (mB (K:=K) rfl (pv 0) (pv 1) rfl)
   (aE (mB (K:=K) rfl (pv 0) (aZ aB) rfl)
   (aE (mB (K:=K) rfl (pv 0) (aZ (aA (cB G_first_moment hr (aA (pv 1) aB)) aB)) rfl)
   (aH (EE λ pn=>(mB (K:=K) rfl (pv 0) (gB (λ _ _ h=>h) rfl (LcOk.mk (N':=["vessel"]) (fr:=[none]) rfl trivial rfl rfl rfl rfl rfl trivial) (cV (K:=K) rfl (px K (pv 1) aF)) (λ _ _ _=>(gC 0 ["vessel"])) (λ _ _ _=>cU) (λ _ _ _=>(aZ aB))) rfl))))))),?_⟩
  refine⟨_,rfl,x,g,rfl,hg,λ H1 sm1=>⟨_,rfl,?_⟩⟩;cases e:fI g with
  | false=>
   refine aX ?_;exact⟨(show 1<=100 by decide),kE e H1 sm1⟩
  | true=>
   refine bM ?_;have k:=kQ e;obtain⟨net,rfl,nok,nfu⟩:=tI e;have hx1:=(aO.same sm1 hg).d;refine⟨_,rfl,_,rfl,r,C,dx,[],rfl,sm1 _ _ hi,tx.cls,tx.net,by decide,?_⟩;have mu1:wF (H1 r):=by rw[sm1 _ _ hi];exact trivial
   have i2:upd H1 r (.ins C dx (cA "net" x [])) r=some (.ins C dx (cA "net" x [])):=aD;have b2:dQ r H (upd H1 r (.ins C dx (cA "net" x []))):=sm1.but.trans dQ.upd;have hx2:Is K (upd H1 r (.ins C dx (cA "net" x []))) (eH net) x:=Is.mono (dQ.ts dQ.upd mu1) _ _ hx1;generalize upd H1 r (.ins C dx (cA "net" x []))=H2 at i2 b2 hx2;refine⟨abk _,λ R hR=>⟨_,rfl,r,C,dx,_,rfl,aG.new hR _ _ i2,tx.cls,tx.rows,(show 1 < 1000 by decide),?_⟩⟩;have nRr:R≠r:=λ z=>by rw[z,i2] at hR;cases hR
   have fR:H R=none:=b2.free nRr hR;have mu2:wF (upd H2 R (.lst []) r):=by rw[aG.new hR _ _ i2];exact trivial
   have i3:upd (upd H2 R (.lst [])) r (.ins C dx (cA "rows" (.ref R) (cA "net" x []))) r=some (.ins C dx (cA "rows" (.ref R) (cA "net" x []))):=aD;have b3:dQ r H (upd (upd H2 R (.lst [])) r (.ins C dx (cA "rows" (.ref R) (cA "net" x [])))):=(b2.trans (aG.new hR).but).trans dQ.upd;have hx3:Is K (upd (upd H2 R (.lst [])) r (.ins C dx (cA "rows" (.ref R) (cA "net" x [])))) (eH net) x:=Is.mono (dQ.ts dQ.upd mu2) _ _ (Is.mono (aG.new hR).ts _ _ hx2);have hR3:upd (upd H2 R (.lst [])) r (.ins C dx (cA "rows" (.ref R) (cA "net" x []))) R=some (.lst []):=by rw[aN nRr];exact aD
   generalize upd (upd H2 R (.lst [])) r (.ins C dx (cA "rows" (.ref R) (cA "net" x [])))=H3 at i3 b3 hx3 hR3;refine⟨_,rfl,x,net,rfl,hx3,nok,λ p H6 s36 cm=>⟨(show 1<=sizeLine by decide),λ M hM=>⟨_,rfl,r,C,dx,cA "rows" (.ref R) (cA "net" x []),rfl,aG.new hM _ _ (s36 _ _ i3),tx.cls,tx.moments,(show 2 < 1000 by decide),?_⟩⟩⟩;have i6:=s36 _ _ i3;have nMr:M≠r:=λ z=>by rw[z,i6] at hM;cases hM
   have nMR:M≠R:=λ z=>by rw[z,s36 _ _ hR3] at hM;cases hM
   have fM:H M=none:=(b3.trans s36.but).free nMr hM;have mu6:wF (upd H6 M (.lst [.ref p]) r):=by rw[aG.new hM _ _ i6];exact trivial
   have ts7:cS K H6 (upd (upd H6 M (.lst [.ref p])) r (.ins C dx (cA "moments" (.ref M) (cA "rows" (.ref R) (cA "net" x []))))):=(aG.new hM).ts.trans (dQ.ts dQ.upd mu6);have i7:upd (upd H6 M (.lst [.ref p])) r (.ins C dx (cA "moments" (.ref M) (cA "rows" (.ref R) (cA "net" x [])))) r=some (.ins C dx (cA "moments" (.ref M) (cA "rows" (.ref R) (cA "net" x [])))):=aD;have b7:dQ r H (upd (upd H6 M (.lst [.ref p])) r (.ins C dx (cA "moments" (.ref M) (cA "rows" (.ref R) (cA "net" x []))))):=((b3.trans s36.but).trans (aG.new hM).but).trans dQ.upd;have hM7:upd (upd H6 M (.lst [.ref p])) r (.ins C dx (cA "moments" (.ref M) (cA "rows" (.ref R) (cA "net" x [])))) M=some (.lst [.ref p]):=by rw[aN nMr];exact aD
   have hR7:upd (upd H6 M (.lst [.ref p])) r (.ins C dx (cA "moments" (.ref M) (cA "rows" (.ref R) (cA "net" x [])))) R=some (.lst []):=by rw[aN nRr];exact aG.new hM _ _ (s36 _ _ hR3)
   have hx7:=Is.mono ts7 _ _ (Is.mono s36.ts _ _ hx3);have cm7:=Is.mono ts7 _ _ cm;generalize upd (upd H6 M (.lst [.ref p])) r (.ins C dx (cA "moments" (.ref M) (cA "rows" (.ref R) (cA "net" x []))))=H7 at i7 b7 hM7 hR7 hx7 cm7;obtain⟨a,b,c,xs,ys,rfl,q,q1,l1,q2,l2⟩:=nC hx7;have exl:xs.length=net.vs.length:=by rw[l1.length,aab]
   have n2:=nok.hi;refine⟨_,rfl,.inr (.inl ⟨a,_,0,_,rfl,rfl,q,rfl,b,rfl,⟨_,q1⟩,iC (K:=K) (a:=b) (xs:=xs) (λ D i rr aa H'=>H7 D=none/\aG H7 H'/\H' D=some (.lst rr)/\(∃ ts:List Addr,rr=ts.map V.ref/\ts.length=i/\(D::ts).Nodup/\∀ t∈ts,H7 t=none/\H' t=some (.lst []))/\∃ u,aa=[u])
    (λ D i rr aa H' p=>p.2.1.tup q1) (λ D hD=>⟨hD,aG.new hD,aD,⟨[],rfl,rfl,by simp,λ t ht=>(nomatch ht)⟩,none,rfl⟩) ?_ ?_⟩)⟩
   rotate_left
   ·rintro D i v rr aa H8 hv ⟨hD,sm,hDl,⟨ts,rfl,hts,hnd,hall⟩,u,rfl⟩;have hil:=(aai.mp hv).1;refine pP ?_;refine⟨abk _,λ t ht=>⟨aG.new ht _ _ hDl,bP (by simp;omega),hD,(sm.trans (aG.new ht)).put hD,aD,⟨ts++[t],by rw[aaj];rfl,by simp [hts],?_,?_⟩,_,rfl⟩⟩
    ·have nDt:D≠t:=λ z=>by rw[<- z,hDl] at ht;cases ht
     have nts:t∉ts:=λ z=>by rw[(hall t z).2] at ht;cases ht
     rw[aca] at hnd ⊢;refine⟨λ z=>?_,?_⟩
     ·rcases aba.1 z with z | z
      ·exact hnd.1 z
      ·exact nDt (by simpa using z)
     ·rw[List.nodup_append];exact⟨hnd.2,by simp,λ a ha b hb=>by rw[abt] at hb;subst hb;exact λ z=>nts (z ▸ ha)⟩
    ·intro t' ht';have nDt:t≠D:=λ z=>by rw[z,hDl] at ht;cases ht
     rcases aba.1 ht' with z | z
     ·have h1:=hall t' z;have ne1:t'≠D:=λ z2=>by rw[aca] at hnd;exact hnd.1 (z2 ▸ z)
      exact⟨h1.1,by rw[aN ne1];exact aG.new ht _ _ h1.2⟩
     ·have:t'=t:=by simpa using z
      subst this;exact⟨sm.free ht,by rw[aN nDt];exact aD⟩
   ·rintro D rr aa H8 ⟨hD,sm,hDl,⟨ts,rfl,hts,hnd,hall⟩,_⟩;refine⟨_,rfl,r,C,dx,_,rfl,sm _ _ i7,tx.cls,tx.tips,(show 3 < 1000 by decide),?_⟩;have nDr:D≠r:=λ z=>by rw[z,i7] at hD;cases hD
    have nDR:D≠R:=λ z=>by rw[z,hR7] at hD;cases hD
    have nDM:D≠M:=λ z=>by rw[z,hM7] at hD;cases hD
    have ntr:∀ t∈ts,t≠r:=λ t ht z=>by have:=(hall t ht).1;rw[z,i7] at this;cases this
    have ntR:∀ t∈ts,t≠R:=λ t ht z=>by have:=(hall t ht).1;rw[z,hR7] at this;cases this
    have ntM:∀ t∈ts,t≠M:=λ t ht z=>by have:=(hall t ht).1;rw[z,hM7] at this;cases this
    have mu8:wF (H8 r):=by rw[sm _ _ i7];exact trivial
    have ts8:cS K H7 (upd H8 r (.ins C dx (cA "tip_ticks" (.ref D) (cA "moments" (.ref M) (cA "rows" (.ref R) (cA "net" (.ref a) [])))))):=sm.ts.trans (dQ.ts dQ.upd mu8);exact k _ ((b7.trans sm.but).trans dQ.upd)
end
structure DeskTx (K:aaa) (C:Addr):Prop where
 cls:Cls K C
 run:iG K C "run"
section
variable {C2:Addr}
def sI (K:aaa) (C2 cT:Addr):Sp:=λ vs H Q E=>∃ (r dx:Addr) (x:V) (g:G),vs=[.ref r,x]/\H r=some (.ins C2 dx [])/\aO K H g x/\(∀ z,g=.str z->eA z/\z.length<=100000)/\(sN g=none->∀ H',aG H H'->E (.ref cT) none H')/\(sN g≠none->∀ H',dQ r H H'->Q .non H')
theorem y0:FnScope ["self","text"] ["self","text"] (aK (gJ (bB 60) 0)):={}
theorem EV {f f1 f2:Addr}{fd fd1 fd2:FuncData} (F:Fun K "__init__" "Desk.__init__" (gJ (bB 60) 0) f fd) (T:Txt mg) (tx:DeskTx K C2)
  (G_read_net:CalleeR P w K mg base "read_net" ["text"] 5 (oA K c_NoText) f1 fd1) (G_Run:MkCalR P w K mg base C "Run" ["self","net"] 5 (sE K C c_NoNet) f2 fd2) :
  FnOk P w K mg base (uM P w) 7 f fd ["self","text"] (sI K C2 c_NoText):=by
 refine F.okR y0 (λ vs H Q E h=>?_) (λ cdv A outer s H vs Q E hr h L=>?_)
 ·obtain⟨r,dx,x,g,rfl,_⟩:=h;rfl
 ·obtain⟨r,dx,x,g,rfl,hi,hg,hz,kE,kQ⟩:=h;have sc:=y0;refine⟨_,(aH (mB (K:=K) rfl (pv 0) (y8 G_Run.make G_Run.ok (hr.mono (by decide)) rfl G_Run.mg G_Run.bd .nil (dP L) (aA (dH G_read_net.ok (hr.mono (by decide)) rfl G_read_net.mg G_read_net.kp G_read_net.bd .nil (dP L) (aA (pv 1) aB)) aB)) rfl)),?_⟩;refine⟨_,rfl,x,g,rfl,hg,hz,λ net p H1 e ok fu s1 ip=>?_,kE⟩;intro r2 dx2 hr2 hdx2 nd2;have s2:aG H1 (upd (upd H1 dx2 (.own r2)) r2 (.ins C dx2 [])):=λ b o e=>by rw[aN (aL e hr2),aN (aL e hdx2)];exact e
  have hi1:=s1 _ _ hi;have nr:r≠r2:=aL hi1 hr2;have tN:fI (dO (eH net))=true:=tL ok fu;refine⟨r2,dx2,p,dO (eH net),rfl,aD,aO.same s2 (Is.g ip),λ e=>(by rw[tN] at e;cases e),λ _ H3 b3=>?_⟩;have s3:aG H1 H3:=λ b o eb=>b3 b o (aL eb hr2) (s2 b o eb);refine⟨rfl,_,rfl,r,C2,dx,[],rfl,s3 _ _ hi1,tx.cls,tx.run,by decide,?_⟩;exact kQ (by rw[e];exact λ z=>by cases z) _ ((s1.trans s3).but.trans dQ.upd)
def rW (K:aaa):Sp:=λ vs H Q _=>∃ (way:Int) (x:V) (g:G),vs=[.int way,x]/\aO K H g x/\(∀ z,g=.str z->eA z/\z.length<=100000)/\(sN g=none->∀ p H',aG H H'->bU K H' p [.str "text"]->Q (.ref p) H')/\
 (∀ net,sN g=some net->way=0->∀ p H',aG H H'->Is K H' (eH net) p->Q p H')/\(sN g≠none->way≠0->∀ H',aG H H'->Q .non H')
theorem kM:FnScope ["way","text","error","found","e"] ["way","text"] (aK (bB 77)):={}
theorem o5 {f f1 f2 f3:Addr}{fd fd1 fd2 fd3:FuncData} (F:Fun K "_law_tried" "_law_tried" (bB 77) f fd) (T:Txt mg) (W:TxtW mg c_TipError c_NoNet c_NoVessel c_TooLong c_TooMany c_TooMuch c_Nothing c_NoText c_NoRow)
  (kdX:KindOf K c_NoNet c_NoVessel c_TooLong c_TooMany c_TooMuch c_Nothing c_NoText c_NoRow c_NoText [false,false,false,false,false,false,true,false]) (hmX:PySem.W.exmOne K (.ref c_NoText) (.ref c_TipError)=some true)
  (G_read_net:CalleeR P w K mg base "read_net" ["text"] 5 (oA K c_NoText) f1 fd1) (G_Desk:MkCalR P w K mg base C2 "Desk" ["self","text"] 7 (sI K C2 c_NoText) f2 fd2)
  (G__law_word:Callee P w K mg base "_law_word" ["error"] 1 (wP K c_NoNet c_NoVessel c_TooLong c_TooMany c_TooMuch c_Nothing c_NoText c_NoRow) f3 fd3) :
  FnOk P w K mg base hU 9 f fd ["way","text"] (rW K):=by
 refine F.ok kM (λ vs H Q E h=>?_) (λ cdv A outer s H vs Q E hr h=>?_)
 ·obtain⟨way,x,g,rfl,_⟩:=h;rfl
 ·obtain⟨way,x,g,rfl,hg,hz,kN,k0,k1⟩:=h;have sc:=kM;let EX:XK:=λ cls _ H'=>aG H H'/\cls=.ref c_NoText/\sN g=none;refine⟨_,(aE (pL 2 sc.nd d8)
   (aE (pL 3 sc.nd d8)
   (aE (HW (EX:=EX) rfl rfl (λ pn xe hx=>(aH (bC (aQ d5 (pv 0) aF (aP _)) (aH (pL 3 sc.nd (dH G_read_net.ok (hr.mono (by decide)) rfl G_read_net.mg G_read_net.kp G_read_net.bd .nil hx (aA (pv 1) aB)))) (aH (dG (y8 G_Desk.make G_Desk.ok (hr.mono (by decide)) rfl G_Desk.mg G_Desk.bd .nil hx (aA (pv 1) aB))))))) rfl W.m_TipError sc.nd (i:=4) rfl rfl (λ ea=>(aH (pL 2 sc.nd (pv 4)))))
   (aE (bC (aQ jE (pv 2) d8 (aP _)) (aH (aM (pv 3))) aS)
   (aH (aM (cB G__law_word hr (aA (pv 2) aB)))))))),?_⟩
  dsimp only [fB,iJ,aW,tC];refine⟨?_,?_⟩
  ·refine⟨_,rfl,rfl,_,rfl,dJ (λ hT=>?_) λ hF=>?_⟩
   ·have hT:=aax hT;have hw:way=0:=by injection hT
    refine⟨_,rfl,x,g,rfl,hg,hz,λ net p H1 e ok fu s1 ip=>?_,λ e H1 s1=>⟨s1,rfl,e⟩⟩;exact⟨_,rfl,rfl,_,rfl,aX ⟨_,rfl,k0 net e hw p H1 s1 ip⟩⟩
   ·have hw:way≠0:=λ z=>hF (by rw[z];rfl);refine⟨_,rfl,λ r dx hr1 hdx ndr=>?_⟩;have s1:aG H (upd (upd H dx (.own r)) r (.ins C2 dx [])):=λ b o e=>by rw[aN (aL e hr1),aN (aL e hdx)];exact e
    refine⟨r,dx,x,g,rfl,aD,aO.same s1 hg,hz,λ e H1 sH=>⟨s1.trans sH,rfl,e⟩,λ e H1 bH=>⟨rfl,?_⟩⟩;have s2:aG H H1:=λ b o eb=>bH b o (aL eb hr1) (s1 b o eb);exact⟨_,rfl,rfl,_,rfl,aX ⟨_,rfl,k1 e hw H1 s2⟩⟩
  ·rintro cls H' ea aa ⟨sH,rfl,eF⟩ hlen hea;obtain⟨u0,u1,u2,u3,u4,rfl⟩:∃ u0 u1 u2 u3 u4,aa=[u0,u1,u2,u3,u4]:=by
    match aa,hlen with
    | [u0,u1,u2,u3,u4],_=>exact⟨_,_,_,_,_,rfl⟩
   have s1:=aG.new (o:=A6 ea (.ref c_NoText)) hea;refine⟨hmX,⟨_,rfl,?_⟩⟩;refine⟨_,rfl,rfl,_,rfl,bM ?_⟩;refine⟨_,rfl,ea,c_NoText,_,6,"text",rfl,aD,kdX,rfl,rfl,?_,rfl,λ p H2 sm2 qp=>kN eF p H2 (sH.trans (s1.trans sm2)) qp⟩;intro i b hi hb;rcases i with _ | _ | _ | _ | _ | _ | i
   all_goals first | (injection hb with hb;exact hb.symm) | omega
end
theorem eY {n:Nat}:∀ {ds:List L2.D},(∀ d∈ds,d.depth<=n)->cF ds<=n
 | [],_=>abk _
 | d::ds,h=>by
  have h1:=h d abr;have h2:=eY λ e he=>h e (aam _ he);rw[cF];omega
theorem w6 (t:Option Int):(kT t).depth=0:=by
 cases t with
 | none=>rfl
 | some i=>exact eX i
theorem xO (os:List (Option Int×Int)):cF (os.map i8)<=1:=eY λ d hd=>by
 obtain⟨o,_,rfl⟩:=aay.mp hd;show (L2.D.tup [kT o.1,.int o.2]).depth<=1;rw[L2.D.depth,cF,cF,cF,w6,eX];decide
theorem xP (os:List (Str×Int)):cF (os.map fF)<=1:=eY λ d hd=>by
 obtain⟨o,_,rfl⟩:=aay.mp hd;show (L2.D.tup [.str o.1,.int o.2]).depth<=1;rw[L2.D.depth,cF,cF,cF,rG,eX];decide
theorem DD (v:Vs):(o0 v).depth<=3:=by
 have h1:=xO v.outs;have h2:=xP v.acts;show (L2.D.tup [.int v.size,.int v.brim,.tup (v.outs.map i8),.bl v.holds,kT v.spill,.tup (v.acts.map fF)]).depth<=3;rw[L2.D.depth];have:=eY (n:=2) (ds:=[.int v.size,.int v.brim,.tup (v.outs.map i8),.bl v.holds,kT v.spill,.tup (v.acts.map fF)]) λ d hd=>by
  simp only [aaz,abp,or_false] at hd;rcases hd with rfl | rfl | rfl | rfl | rfl | rfl
  ·rw[eX];decide
  ·rw[eX];decide
  ·rw[L2.D.depth];omega
  ·rw[w8];decide
  ·rw[w6];decide
  ·rw[L2.D.depth];omega
 omega
theorem A9 (net:Net):cF [L2.D.tup (net.vs.map o0),.tup (net.sps.map qB)]<=20:=by
 refine eY λ d hd=>?_;simp only [aaz,abp,or_false] at hd;rcases hd with rfl | rfl
 ·rw[L2.D.depth];have:=eY (n:=3) (ds:=net.vs.map o0) λ d hd=>by obtain⟨v,_,rfl⟩:=aay.mp hd;exact DD v
  omega
 ·rw[L2.D.depth];have:=eY (n:=1) (ds:=net.sps.map qB) λ d hd=>by
   obtain⟨s,_,rfl⟩:=aay.mp hd;show (L2.D.tup [.int s.1,.int s.2.1,.bl s.2.2]).depth<=1;rw[L2.D.depth,cF,cF,cF,cF,eX,eX,w8];decide
  omega
def DZ:List G:=[.non,.int 7,.lst [],.tup [.str "vessel"],.bl true]
theorem DY:∀ g∈DZ,sN g=none/\∀ z,g≠.str z:=by
 intro g hg;simp only [DZ,aaz,abp,or_false] at hg;rcases hg with h | h | h | h | h <;> subst h <;> exact⟨rfl,λ z=>by simp⟩
def uO:List Str:=["ground","0","-1","00","61","201","0*1","ground*61","12*1","open.0","turn.12","-"]
def rP:List Str:=["holds","loses"]
theorem AL:(∀ m∈uO++rP,(∀ c∈sg m,c < 128)/\m.length<=10)/\(uO++rP).length<=30:=⟨by decide +kernel,by decide⟩
theorem rD {K:aaa}{H:Hp}:∀ {ms:List Str}{xs:List V},aY K H (ms.map G.str) xs->xs=ms.map V.str
 | [],xs,h=>h.un0
 | m::ms,xs,h=>by
  obtain⟨x,r,rfl,h1,h2⟩:=aY.un h;rw[aO] at h1;rw[h1,rD h2];rfl
theorem IR {K:aaa}{t:Addr}{ta:TA}{gs:List G}{g:TG}{tb R:TS}{D:Ends}{σ:St}{H:Hp} (h:MkGL K t gs ta) (hl:gs.length<=100) (ht:∃ q,H t=some (.lst q)) (Pv:Addr->List V->Nat->St->Hp->Prop)
  (h0:∀ l xs H',aG H H'->H' l=some (.lst xs)->l≠t->aY K (kG t H') gs xs->Pv l xs 0 σ H') (hk:∀ l xs i σ H,Pv l xs i σ H->bO K H l xs)
  (hs:∀ l xs i x σ H,xs[i]? = some x->Pv l xs i σ H->g x σ H λ ai H2=>tb { D with nx:=Pv l xs (i+1),ct:=Pv l xs (i+1),bk:=R D } ai H2) (hd:∀ l xs σ H,Pv l xs xs.length σ H->R D σ H):fB (HD (yN K (rV ta)) g tb) R D σ H:=by
 dsimp only [fB,HD,yN];refine tP (K:=K) (t:=t) h hl ht λ l xs H1 s1 e1 n1 i1=>?_;exact⟨l,rfl,⟨_,bO.of e1⟩,jK (K:=K) (a:=l) (xs:=xs) (D:={ D with nx:=R D }) (Pv l xs) (h0 l xs H1 s1 e1 n1 i1) (λ i σ H _ p=>hk _ _ _ _ _ p) (λ i x σ H hi p=>hs l xs i x σ H hi p) (λ σ H p=>hd _ _ _ _ p)⟩
theorem sq2 {s1 s2 R:TS}{D:Ends}{σ:St}{H:Hp} (I:St->Hp->Prop) (h1:∀ R':TS,(∀ aa H',I aa H'->R' D aa H')->fB s1 (fB s2 R') D σ H) (h2:∀ aa H',I aa H'->R D aa H'):fB s1 (fB s2 R) D σ H:=h1 R h2
theorem AW:FnScope ["script","tape","thing","text","some","turn","bent","due"] ["script"] (aK (bB 78)):={}
theorem IM {f f1 f2 f3 f4 f5 f6:Addr}{fd fd1 fd2 fd3 fd4 fd5 fd6:FuncData} (F:Fun K "law" "law" (bB 78) f fd) (T:Txt mg)
  (G__law_tried:Callee P w K mg base "_law_tried" ["way","text"] 9 (rW K) f1 fd1)
  (G__law_text:Callee P w K mg base "_law_text" ["net"] 2 (o9 K) f2 fd2)
  (G__law_net:Callee P w K mg base "_law_net" ["tape","most","small"] 4 (wT K) f3 fd3)
  (G__law_bent:Callee P w K mg base "_law_bent" ["tape","text","words_more"] 2 (wU K) f4 fd4)
  (G__law_draw:Callee P w K mg base "_law_draw" ["tape","many"] 1 fY f5 fd5)
  (G__law_read:Callee P w K mg base "_law_read" ["text"] 4 (rZ K) f6 fd6):FnOk P w K mg base hU 10 f fd ["script"] (xX K):=by
 refine F.ok AW (λ vs H Q E h=>?_) (λ cdv A outer s H vs Q E hr h=>?_)
 ·obtain⟨a,ns,rfl,_⟩:=h;rfl
 ·obtain⟨a,ns,rfl,hS,hlen,k⟩:=h;have sc:=AW;have dp:∀ z:Str,cF [L2.D.str z]<=20:=λ z=>by rw[cF,cF,rG];decide
  (with_reducible refine⟨_,(aE (pL 1 sc.nd (aZ (aA (aR (rH (K:=K) rf) rf (by with_unfolding_all exact T.b_list) uF (aA (pv 0) aB)) (aA aF (aA aF aB)))))
   (aE (dS PassesOwn.never rf (eG (K:=K) rf (aZ (aA d8 (aA aF (aA (aZ aB) (aA (bQ (aA aI aB)) (aA cX aB))))))) (gL 2 sc.nd) (aH (bC (PW.pt (d4 (aQ (gD (K:=K) rf hr.units) (cB (by with_unfolding_all exact G__law_tried) hr (aA aF (aA (pv 2) aB))) (bQ (aA aI aB)) (aP _)) (cQ (aQ (gD (K:=K) rf hr.units) (cB (by with_unfolding_all exact G__law_tried) hr (aA aF (aA (pv 2) aB))) (bQ (aA aI aB)) (aP _))))) (aH (aM cX)) aS)))
   (aE (pL 3 sc.nd (cB (by with_unfolding_all exact G__law_text) hr (aA (cB (by with_unfolding_all exact G__law_net) hr (aA (pv 1) (aA aF (aA cX aB)))) aB)))
   (aE (pL 4 sc.nd (aZ (aA aI (aA aI (aA aI (aA aI (aA aI (aA aI (aA aI (aA aI (aA aI (aA aI (aA aI (aA aI aB))))))))))))))
   (aE (pL 4 sc.nd (aU lA (pv 4) (aZ (aA aI (aA aI aB)))))
   (aE (dS PassesOwn.never rf (fT rf (by with_unfolding_all exact T.b_range) (aA aF aB)) (gL 5 sc.nd) (aE (pL 6 sc.nd (cB (by with_unfolding_all exact G__law_bent) hr (aA (pv 1) (aA (pv 3) (aA (pv 4) aB)))))
   (aE (bC (aQ d5 (cB (by with_unfolding_all exact G__law_draw) hr (aA (pv 1) (aA aF aB))) aF (aP _)) (aH (pL 6 sc.nd (cB (by with_unfolding_all exact G__law_bent) hr (aA (pv 1) (aA (pv 6) (aA (pv 4) aB)))))) aS)
   (aE (pL 7 sc.nd (cB (by with_unfolding_all exact G__law_read) hr (aA (pv 6) aB)))
   (aH (bC (aQ jE (pv 7) d8 (aP _)) (aH (bC (PW.pt (d4 (aQ (gD (K:=K) rf hr.units) (cB (by with_unfolding_all exact G__law_tried) hr (aA aF (aA (pv 6) aB))) (bQ (aA aI aB)) (aP _)) (cQ (aQ (gD (K:=K) rf hr.units) (cB (by with_unfolding_all exact G__law_tried) hr (aA aF (aA (pv 6) aB))) (bQ (aA aI aB)) (aP _))))) (aH (aM cX)) aS)) (aH (bC (PW.pt (d4 (aQ (gD (K:=K) rf hr.units) (cB (by with_unfolding_all exact G__law_tried) hr (aA aF (aA (pv 6) aB))) (pv 7) (aP _)) (cQ (aQ yE (cB (by with_unfolding_all exact G__law_tried) hr (aA aF (aA (pv 6) aB))) d8 (aP _))))) (aH (aM cX)) aS))))))))
   (aH (aM cX)))))))),?_⟩)
  refine⟨_,rfl,a,_,rfl,.inl hS,λ sl hsl=>⟨(show 3<=sizeLine by decide),λ t ht=>?_⟩⟩;have nst:sl≠t:=aL (show upd H sl (.lst (ns.map V.int)) sl=_ from aD) ht;have tp0:eI (upd (upd H sl (.lst (ns.map V.int))) t (.lst [.ref sl,.int 0,.int 0])) t sl:=⟨ns,0,0,aD,by rw[aN nst];exact aD,by omega⟩;generalize upd (upd H sl (.lst (ns.map V.int))) t (.lst [.ref sl,.int 0,.int 0])=H0 at tp0;dsimp only [aW,bL];refine IR (K:=K) (t:=t) (gs:=DZ) (cI mk_n (cI mk_i (cI (IQ pQ (by decide)) (cI (IO (cI lD pQ) (by decide)) (cI mk_b pQ))))) (by decide) tp0.l
    (λ l xs m aa H'=>eI H' t sl/\H' l=some (.lst xs)/\aY K H' DZ xs/\∃ v2 v3 v4 v5 v6 v7,aa=[some (.ref a),some (.ref t),v2,v3,v4,v5,v6,v7])
    (λ l xs H1 s1 hl nl gl=>⟨tp0.same s1,hl,aY.same A1 gl,_,_,_,_,_,_,rfl⟩) (λ l xs m aa H' p=>bO.of p.2.1) ?_ ?_
  ·rintro l xs m y aa H2 hy ⟨tp2,hl2,gl2,v2,v3,v4,v5,v6,v7,rfl⟩;obtain⟨g,hgm,ig⟩:=gl2.get' hy;obtain⟨en,nz⟩:=DY g (aad hgm);dsimp only [aW];refine⟨_,rfl,0,y,g,rfl,ig,λ z e=>(nz z e).elim,λ _ p H3 s3 qp=>⟨(show 1<=sizeLine by decide),λ q hq=>?_⟩,λ net e=>(by rw[en] at e;cases e),λ e=>(e en).elim⟩;have s4:=aG.new (o:=HO.tup [.str "text"]) hq;refine⟨[.str "text"],(show 1<=1000 by decide),dp _,Is.tupOf (s4.tup qp) (.cons (Is.s _) .nil),Is.tupOf (bU.of aD) (.cons (Is.s _) .nil),_,rfl,bM ?_⟩;have s24:=s3.trans s4;refine⟨_,rfl,1,y,g,rfl,aO.same s24 ig,λ z e=>(nz z e).elim,λ _ p H3 s3 qp=>⟨(show 1<=sizeLine by decide),λ q hq=>?_⟩,λ net e=>(by rw[en] at e;cases e),λ e=>(e en).elim⟩;have s4:=aG.new (o:=HO.tup [.str "text"]) hq;refine⟨[.str "text"],(show 1<=1000 by decide),dp _,Is.tupOf (s4.tup qp) (.cons (Is.s _) .nil),Is.tupOf (bU.of aD) (.cons (Is.s _) .nil),_,rfl,bM ?_⟩;have s25:=s24.trans (s3.trans s4);exact⟨tp2.same s25,s25 _ _ hl2,aY.same s25 gl2,_,_,_,_,_,_,rfl⟩
  ·rintro l xs aa H2 ⟨tp2,hl2,gl2,v2,v3,v4,v5,v6,v7,rfl⟩;refine⟨_,rfl,t,sl,4,_,rfl,by decide,by decide,tp2,λ net p H3 e3 nok nfu _ hp=>?_⟩;have nin:=gT nok nfu;refine⟨p,net,rfl,hp,nin,λ H4 s4=>?_⟩;dsimp only [aW,bL];refine IP (K:=K) (t:=t) (gs:=uO.map G.str) (cI lD (cI lD (cI lD (cI lD (cI lD (cI lD (cI lD (cI lD (cI lD (cI lD (cI lD (cI lD pQ)))))))))))) (by decide) (e3.tp.same s4).l λ l1 xs1 H5 s5 hl1 n1 i1=>?_;refine IS (K:=K) (t:=t) (gs:=rP.map G.str) (hs:=uO.map G.str) (l:=l1) rfl hl1 i1 (cI lD (cI lD pQ)) (by decide) (by decide) ((e3.tp.same s4).same s5).l λ wl xs2 H6 s6 hwl nwl i2=>?_;have tp6:=((e3.tp.same s4).same s5).same s6;rw[<- aaj] at i2;rw[rD i2] at hwl;have nwt:=nwl;obtain⟨wok,wlen⟩:=AL;have an:=FW nin;have ln:=FJ nin;generalize uO++rP=wds at hwl wok wlen;generalize fE net=tx at an ln;clear i2 i1 hp nin;refine⟨10,rfl,by decide,by decide,?_⟩;refine gX (lo:=0) (n:=10) (λ i aa H'=>eI H' t sl/\H' wl=some (.lst (wds.map V.str))/\∃ v2 v5 v6 v7,aa=[some (.ref a),some (.ref t),v2,some (.str tx),some (.ref wl),v5,v6,v7]) ⟨tp6,hwl,_,_,_,_,rfl⟩ ?_ ?_
   ·rintro i aa H7 hi ⟨tp7,hw7,u2,u5,u6,u7,rfl⟩;dsimp only [aW,bL];refine sq2 (λ aa H'=>∃ y,eI H' t sl/\H' wl=some (.lst (wds.map V.str))/\eA y/\y.length<=100000/\∃ v2 v5 v7,aa=[some (.ref a),some (.ref t),v2,some (.str tx),some (.ref wl),v5,some (.str y),v7]) (λ R' hR=>?_) ?_
    ·refine⟨_,rfl,_,rfl,_,rfl,t,sl,wl,tx,wds,rfl,tp7,an,by omega,nwt,hw7,wok,wlen,λ y H8 e8 ay ly=>?_⟩;dsimp only [aW];refine⟨_,rfl,t,sl,4,rfl,e8.tp,by decide,by decide,λ r H9 b9 t9 r0 r1=>⟨rfl,_,rfl,dJ (λ _=>?_) λ _=>?_⟩⟩
     ·refine⟨_,rfl,_,rfl,_,rfl,t,sl,wl,y,wds,rfl,t9,ay,by omega,nwt,b9 _ _ nwt (e8.bt _ _ nwt hw7),wok,wlen,λ y2 H10 e10 ay2 ly2=>?_⟩;exact hR _ _ ⟨y2,e10.tp,e10.bt _ _ nwt (b9 _ _ nwt (e8.bt _ _ nwt hw7)),ay2,by omega,_,_,_,rfl⟩
     ·exact hR _ _ ⟨y,t9,b9 _ _ nwt (e8.bt _ _ nwt hw7),ay,by omega,_,_,_,rfl⟩
    ·rintro aa H8 ⟨y,tp8,hw8,ay,ly,w2,w5,w7,rfl⟩;have hz:∀ z,G.str y=.str z->eA z/\z.length<=100000:=λ z e=>by cases e;exact⟨ay,ly⟩
     refine⟨_,rfl,y,rfl,ay,by omega,λ nt p H9 e ok fu s9 ip=>?_,λ e H9 s9=>?_⟩
     ·obtain⟨pa,rfl⟩:∃ pa,p=.ref pa:=by
       obtain⟨a,b,c,xs,ys,rfl,_⟩:=nC ip;exact⟨_,rfl⟩
      refine⟨_,rfl,rfl,_,rfl,bM ?_⟩;refine⟨_,rfl,0,_,.str y,rfl,.s _,hz,λ e2=>(by rw[e] at e2;cases e2),λ nt2 e2 _ q H10 s10 iq=>?_,λ _ h=>(h rfl).elim⟩;rw[e] at e2;cases e2;refine⟨_,rfl,[.tup (nt.vs.map o0),.tup (nt.sps.map qB)],(show 2<=1000 by decide),A9 nt,iq,Is.mono s10.ts _ _ ip,_,rfl,bM ?_⟩;refine⟨_,rfl,1,_,.str y,rfl,.s _,hz,λ e2=>(by rw[e] at e2;cases e2),λ nt2 e2 h=>(by cases h),λ _ _ H11 s11=>⟨rfl,_,rfl,bM ?_⟩⟩;have ss:=(s9.trans s10).trans s11;exact⟨tp8.same ss,ss _ _ hw8,_,_,_,_,rfl⟩
     ·refine⟨_,rfl,rfl,_,rfl,aX ?_⟩;refine⟨_,rfl,0,_,.str y,rfl,.s _,hz,λ _ p H3 s3 qp=>⟨(show 1<=sizeLine by decide),λ q hq=>?_⟩,λ net e2=>(by rw[e] at e2;cases e2),λ e2=>(e2 e).elim⟩;have s4:=aG.new (o:=HO.tup [.str "text"]) hq;refine⟨[.str "text"],(show 1<=1000 by decide),dp _,Is.tupOf (s4.tup qp) (.cons (Is.s _) .nil),Is.tupOf (bU.of aD) (.cons (Is.s _) .nil),_,rfl,bM ?_⟩;have s24:=s9.trans (s3.trans s4);refine⟨_,rfl,1,_,.str y,rfl,.s _,hz,λ _ p H3 s3 qp=>⟨(show 1<=sizeLine by decide),λ q hq=>?_⟩,λ net e2=>(by rw[e] at e2;cases e2),λ e2=>(e2 e).elim⟩;have s4:=aG.new (o:=HO.tup [.str "text"]) hq;refine⟨[.str "text"],(show 1<=1000 by decide),dp _,Is.tupOf (s4.tup qp) (.cons (Is.s _) .nil),Is.tupOf (bU.of aD) (.cons (Is.s _) .nil),_,rfl,bM ?_⟩;have s25:=s24.trans (s3.trans s4);exact⟨tp8.same s25,s25 _ _ hw8,_,_,_,_,rfl⟩
   ·rintro aa H7 ⟨tp7,hw7,u2,u5,u6,u7,rfl⟩;exact k _
theorem cC {ae:Type}{p:List ae->Prop} (h:∀ a0,p [a0]):∀ us:List ae,us.length=1->p us
 | [a0],_=>h a0
theorem gM {ae:Type}{p:List ae->Prop} (h:∀ a0 a1,p [a0,a1]):∀ us:List ae,us.length=2->p us
 | [a0,a1],_=>h a0 a1
theorem jW {ae:Type}{p:List ae->Prop} (h:∀ a0 a1 a2,p [a0,a1,a2]):∀ us:List ae,us.length=3->p us
 | [a0,a1,a2],_=>h a0 a1 a2
theorem uE {ae:Type}{p:List ae->Prop} (h:∀ a0 a1 a2 a3,p [a0,a1,a2,a3]):∀ us:List ae,us.length=4->p us
 | [a0,a1,a2,a3],_=>h a0 a1 a2 a3
theorem FV {ae:Type}{p:List ae->Prop} (h:∀ a0 a1 a2 a3 a4,p [a0,a1,a2,a3,a4]):∀ us:List ae,us.length=5->p us
 | [a0,a1,a2,a3,a4],_=>h a0 a1 a2 a3 a4
abbrev Na (K:aaa) (x:Str) (f:Addr):Prop:=PySem.W.nsIn K mainGlobals x=some (some (.ref f))
abbrev Nn (K:aaa) (x:Str):Prop:=PySem.W.nsIn K mainGlobals x=some none
abbrev Kp (K:aaa) (f:Addr):Prop:=PySem.W.keepIn K (.ref f)=true
abbrev Cd (K:aaa) (c:Value) (q:Str):Prop:=PySem.W.codeIn K c q=true
abbrev Lk (K:aaa) (f:Addr) (m q:Str) (s:Stmt) (oc:Value) (od:Option Addr) (kV dc pm:Value) (an:Option Addr) (cd ct:Value) (sl:Array (Option Value)):Prop:=K.lookup f=some ⟨oc,od,.func (PySem.W.fnOf m q (jV s) (gK s) (aK s) .none kV dc pm an cd ct),sl⟩
theorem all_mk {l:PySem.W.OpenLaw}{w:World}{K:aaa}{h:Heap}{mg:Str->Option Value}{fa f0 f1 f2 f3 f4 f5 f6 f7 f8 f9 f10 f11 f12 f13 f14 f15 f16 f17 f18 f19 f20 f21 f22 f23 f24 f25 f26 f27 f28 f29 f30 f31 f32 f33 f34 f35 f36 f37 f38 f39 f40 C CD aw c_TipError c_NoNet c_NoVessel c_TooLong c_TooMany c_TooMuch c_Nothing c_NoText c_NoRow:Addr} (X:K.In h) (G:h.Ns mainGlobals mg) (hfa:mg "law" = some (.ref fa))
  {od0 an0 od1 an1 od2 an2 od3 an3 od4 an4 od5 an5 od6 an6 od7 an7 od8 an8 od9 an9 od10 an10 od11 an11 od12 an12 od13 an13 od14 an14 od15 an15 od16 an16 od17 an17 od18 an18 od19 an19 od20 an20 od21 an21 od22 an22 od23 an23 od24 an24 od25 an25 od26 an26 od27 an27 od28 an28 od29 an29 od30 an30 od31 an31 od32 an32 od33 an33 od34 an34 od35 an35 od36 an36 od37 an37 od38 an38 od39 an39 od40 an40:Option Addr}{sl0 sl1 sl2 sl3 sl4 sl5 sl6 sl7 sl8 sl9 sl10 sl11 sl12 sl13 sl14 sl15 sl16 sl17 sl18 sl19 sl20 sl21 sl22 sl23 sl24 sl25 sl26 sl27 sl28 sl29 sl30 sl31 sl32 sl33 sl34 sl35 sl36 sl37 sl38 sl39 sl40:Array (Option Value)}{oc0 kV0 dc0 pm0 ct0 cd0 oc1 kV1 dc1 pm1 ct1 cd1 oc2 kV2 dc2 pm2 ct2 cd2 oc3 kV3 dc3 pm3 ct3 cd3 oc4 kV4 dc4 pm4 ct4 cd4 oc5 kV5 dc5 pm5 ct5 cd5 oc6 kV6 dc6 pm6 ct6 cd6 oc7 kV7 dc7 pm7 ct7 cd7 oc8 kV8 dc8 pm8 ct8 cd8 oc9 kV9 dc9 pm9 ct9 cd9 oc10 kV10 dc10 pm10 ct10 cd10 oc11 kV11 dc11 pm11 ct11 cd11 oc12 kV12 dc12 pm12 ct12 cd12 oc13 kV13 dc13 pm13 ct13 cd13 oc14 kV14 dc14 pm14 ct14 cd14 oc15 kV15 dc15 pm15 ct15 cd15 oc16 kV16 dc16 pm16 ct16 cd16 oc17 kV17 dc17 pm17 ct17 cd17 oc18 kV18 dc18 pm18 ct18 cd18 oc19 kV19 dc19 pm19 ct19 cd19 oc20 kV20 dc20 pm20 ct20 cd20 oc21 kV21 dc21 pm21 ct21 cd21 oc22 kV22 dc22 pm22 ct22 cd22 oc23 kV23 dc23 pm23 ct23 cd23 oc24 kV24 dc24 pm24 ct24 cd24 oc25 kV25 dc25 pm25 ct25 cd25 oc26 kV26 dc26 pm26 ct26 cd26 oc27 kV27 dc27 pm27 ct27 cd27 oc28 kV28 dc28 pm28 ct28 cd28 oc29 kV29 dc29 pm29 ct29 cd29 oc30 kV30 dc30 pm30 ct30 cd30 oc31 kV31 dc31 pm31 ct31 cd31 oc32 kV32 dc32 pm32 ct32 cd32 oc33 kV33 dc33 pm33 ct33 cd33 oc34 kV34 dc34 pm34 ct34 cd34 oc35 kV35 dc35 pm35 ct35 cd35 oc36 kV36 dc36 pm36 ct36 cd36 oc37 kV37 dc37 pm37 ct37 cd37 oc38 kV38 dc38 pm38 ct38 cd38 oc39 kV39 dc39 pm39 ct39 cd39 oc40 kV40 dc40 pm40 ct40 cd40:Value}
  {tk0 tk1 tk2 tk3 tk4 tk5 tk6 tk7 tw1 tw2 tw3:Tok}{odw:Option Addr}{nw:Nat}{slw:Array (Option Value)}
  (aCD:Na K "Desk" CD)
  (aC:Na K "Run" C)
  {tkF:Tok}
  {qcX:Value}{qdX:Option Addr}{qkX:ClassData}{qsX:Array (Option Value)}
  (a0:Na K "is_number" f0)
  (l0:Lk K f0 "is_number" "is_number" (bB 42) oc0 od0 kV0 dc0 pm0 an0 cd0 ct0 sl0)
  (c0:Cd K cd0 "is_number")
  (k0:Kp K f0)
  (a1:Na K "read_number" f1)
  (l1:Lk K f1 "read_number" "read_number" (bB 41) oc1 od1 kV1 dc1 pm1 an1 cd1 ct1 sl1)
  (c1:Cd K cd1 "read_number")
  (k1:Kp K f1)
  (a2:Na K "read_target" f2)
  (l2:Lk K f2 "read_target" "read_target" (bB 40) oc2 od2 kV2 dc2 pm2 an2 cd2 ct2 sl2)
  (c2:Cd K cd2 "read_target")
  (k2:Kp K f2)
  (a3:Na K "read_acts" f3)
  (l3:Lk K f3 "read_acts" "read_acts" (bB 38) oc3 od3 kV3 dc3 pm3 an3 cd3 ct3 sl3)
  (c3:Cd K cd3 "read_acts")
  (k3:Kp K f3)
  (a4:Na K "read_vessel" f4)
  (l4:Lk K f4 "read_vessel" "read_vessel" (bB 37) oc4 od4 kV4 dc4 pm4 an4 cd4 ct4 sl4)
  (c4:Cd K cd4 "read_vessel")
  (k4:Kp K f4)
  (a5:Na K "read_spout" f5)
  (l5:Lk K f5 "read_spout" "read_spout" (bB 39) oc5 od5 kV5 dc5 pm5 an5 cd5 ct5 sl5)
  (c5:Cd K cd5 "read_spout")
  (k5:Kp K f5)
  (a6:Na K "is_tuple" f6)
  (l6:Lk K f6 "is_tuple" "is_tuple" (bB 27) oc6 od6 kV6 dc6 pm6 an6 cd6 ct6 sl6)
  (c6:Cd K cd6 "is_tuple")
  (k6:Kp K f6)
  (a7:Na K "is_whole" f7)
  (l7:Lk K f7 "is_whole" "is_whole" (bB 28) oc7 od7 kV7 dc7 pm7 an7 cd7 ct7 sl7)
  (c7:Cd K cd7 "is_whole")
  (k7:Kp K f7)
  (a8:Na K "is_out" f8)
  (l8:Lk K f8 "is_out" "is_out" (bB 23) oc8 od8 kV8 dc8 pm8 an8 cd8 ct8 sl8)
  (c8:Cd K cd8 "is_out")
  (k8:Kp K f8)
  (a9:Na K "is_act" f9)
  (l9:Lk K f9 "is_act" "is_act" (bB 24) oc9 od9 kV9 dc9 pm9 an9 cd9 ct9 sl9)
  (c9:Cd K cd9 "is_act")
  (k9:Kp K f9)
  (a10:Na K "is_vessel" f10)
  (l10:Lk K f10 "is_vessel" "is_vessel" (bB 22) oc10 od10 kV10 dc10 pm10 an10 cd10 ct10 sl10)
  (c10:Cd K cd10 "is_vessel")
  (k10:Kp K f10)
  (a11:Na K "is_spout" f11)
  (l11:Lk K f11 "is_spout" "is_spout" (bB 25) oc11 od11 kV11 dc11 pm11 an11 cd11 ct11 sl11)
  (c11:Cd K cd11 "is_spout")
  (k11:Kp K f11)
  (a12:Na K "is_net" f12)
  (l12:Lk K f12 "is_net" "is_net" (bB 21) oc12 od12 kV12 dc12 pm12 an12 cd12 ct12 sl12)
  (c12:Cd K cd12 "is_net")
  (k12:Kp K f12)
  (a13:Na K "target_word" f13)
  (l13:Lk K f13 "target_word" "target_word" (bB 34) oc13 od13 kV13 dc13 pm13 an13 cd13 ct13 sl13)
  (c13:Cd K cd13 "target_word")
  (k13:Kp K f13)
  (a14:Na K "vessel_line" f14)
  (l14:Lk K f14 "vessel_line" "vessel_line" (bB 32) oc14 od14 kV14 dc14 pm14 an14 cd14 ct14 sl14)
  (c14:Cd K cd14 "vessel_line")
  (k14:Kp K f14)
  (a15:Na K "door_word" f15)
  (l15:Lk K f15 "door_word" "door_word" (bB 35) oc15 od15 kV15 dc15 pm15 an15 cd15 ct15 sl15)
  (c15:Cd K cd15 "door_word")
  (k15:Kp K f15)
  (a16:Na K "spout_line" f16)
  (l16:Lk K f16 "spout_line" "spout_line" (bB 33) oc16 od16 kV16 dc16 pm16 an16 cd16 ct16 sl16)
  (c16:Cd K cd16 "spout_line")
  (k16:Kp K f16)
  (a17:Na K "net_text" f17)
  (l17:Lk K f17 "net_text" "net_text" (bB 31) oc17 od17 kV17 dc17 pm17 an17 cd17 ct17 sl17)
  (c17:Cd K cd17 "net_text")
  (k17:Kp K f17)
  (a18:Na K "read_net" f18)
  (l18:Lk K f18 "read_net" "read_net" (bB 36) oc18 od18 kV18 dc18 pm18 an18 cd18 ct18 sl18)
  (c18:Cd K cd18 "read_net")
  (k18:Kp K f18)
  (a19:Na K "first_state" f19)
  (l19:Lk K f19 "first_state" "first_state" (bB 44) oc19 od19 kV19 dc19 pm19 an19 cd19 ct19 sl19)
  (c19:Cd K cd19 "first_state")
  (k19:Kp K f19)
  (a20:Na K "pouring" f20)
  (l20:Lk K f20 "pouring" "pouring" (bB 45) oc20 od20 kV20 dc20 pm20 an20 cd20 ct20 sl20)
  (c20:Cd K cd20 "pouring")
  (k20:Kp K f20)
  (a21:Na K "first_moment" f21)
  (l21:Lk K f21 "first_moment" "first_moment" (bB 54) oc21 od21 kV21 dc21 pm21 an21 cd21 ct21 sl21)
  (c21:Cd K cd21 "first_moment")
  (k21:Kp K f21)
  (a22:PySem.W.findIn K (.ref C) "__init__" = some (some (.ref f22)))
  (i22:PySem.W.isFn K (.ref f22)=true)
  (l22:Lk K f22 "__init__" "Run.__init__" (gJ (bB 58) 0) oc22 od22 kV22 dc22 pm22 an22 cd22 ct22 sl22)
  (c22:Cd K cd22 "Run.__init__")
  (k22:Kp K f22)
  (a23:PySem.W.findIn K (.ref CD) "__init__" = some (some (.ref f23)))
  (i23:PySem.W.isFn K (.ref f23)=true)
  (l23:Lk K f23 "__init__" "Desk.__init__" (gJ (bB 60) 0) oc23 od23 kV23 dc23 pm23 an23 cd23 ct23 sl23)
  (c23:Cd K cd23 "Desk.__init__")
  (k23:Kp K f23)
  (a24:Na K "_law_word" f24)
  (l24:Lk K f24 "_law_word" "_law_word" (bB 64) oc24 od24 kV24 dc24 pm24 an24 cd24 ct24 sl24)
  (c24:Cd K cd24 "_law_word")
  (k24:Kp K f24)
  (a25:Na K "_law_tried" f25)
  (l25:Lk K f25 "_law_tried" "_law_tried" (bB 77) oc25 od25 kV25 dc25 pm25 an25 cd25 ct25 sl25)
  (c25:Cd K cd25 "_law_tried")
  (k25:Kp K f25)
  (a26:Na K "_law_goal" f26)
  (l26:Lk K f26 "_law_goal" "_law_goal" (bB 70) oc26 od26 kV26 dc26 pm26 an26 cd26 ct26 sl26)
  (c26:Cd K cd26 "_law_goal")
  (k26:Kp K f26)
  (a27:Na K "_law_text" f27)
  (l27:Lk K f27 "_law_text" "_law_text" (bB 71) oc27 od27 kV27 dc27 pm27 an27 cd27 ct27 sl27)
  (c27:Cd K cd27 "_law_text")
  (k27:Kp K f27)
  (a28:Na K "_law_draw" f28)
  (l28:Lk K f28 "_law_draw" "_law_draw" (bB 62) oc28 od28 kV28 dc28 pm28 an28 cd28 ct28 sl28)
  (c28:Cd K cd28 "_law_draw")
  (k28:Kp K f28)
  (a29:Na K "_law_outs" f29)
  (l29:Lk K f29 "_law_outs" "_law_outs" (bB 65) oc29 od29 kV29 dc29 pm29 an29 cd29 ct29 sl29)
  (c29:Cd K cd29 "_law_outs")
  (k29:Kp K f29)
  (a30:Na K "_law_vessel" f30)
  (l30:Lk K f30 "_law_vessel" "_law_vessel" (bB 66) oc30 od30 kV30 dc30 pm30 an30 cd30 ct30 sl30)
  (c30:Cd K cd30 "_law_vessel")
  (k30:Kp K f30)
  (a31:Na K "_law_net" f31)
  (l31:Lk K f31 "_law_net" "_law_net" (bB 67) oc31 od31 kV31 dc31 pm31 an31 cd31 ct31 sl31)
  (c31:Cd K cd31 "_law_net")
  (k31:Kp K f31)
  (a32:Na K "_law_turned" f32)
  (l32:Lk K f32 "_law_turned" "_law_turned" (bB 72) oc32 od32 kV32 dc32 pm32 an32 cd32 ct32 sl32)
  (c32:Cd K cd32 "_law_turned")
  (k32:Kp K f32)
  (a33:Na K "_law_bent" f33)
  (l33:Lk K f33 "_law_bent" "_law_bent" (bB 74) oc33 od33 kV33 dc33 pm33 an33 cd33 ct33 sl33)
  (c33:Cd K cd33 "_law_bent")
  (k33:Kp K f33)
  (a34:Na K "_law_number" f34)
  (l34:Lk K f34 "_law_number" "_law_number" (bB 73) oc34 od34 kV34 dc34 pm34 an34 cd34 ct34 sl34)
  (c34:Cd K cd34 "_law_number")
  (k34:Kp K f34)
  (a35:Na K "_law_target" f35)
  (l35:Lk K f35 "_law_target" "_law_target" (bB 75) oc35 od35 kV35 dc35 pm35 an35 cd35 ct35 sl35)
  (c35:Cd K cd35 "_law_target")
  (k35:Kp K f35)
  (a36:Na K "_law_whole" f36)
  (l36:Lk K f36 "_law_whole" "_law_whole" (bB 63) oc36 od36 kV36 dc36 pm36 an36 cd36 ct36 sl36)
  (c36:Cd K cd36 "_law_whole")
  (k36:Kp K f36)
  (a37:Na K "_law_is_vessel" f37)
  (l37:Lk K f37 "_law_is_vessel" "_law_is_vessel" (bB 69) oc37 od37 kV37 dc37 pm37 an37 cd37 ct37 sl37)
  (c37:Cd K cd37 "_law_is_vessel")
  (k37:Kp K f37)
  (a38:Na K "_law_is_net" f38)
  (l38:Lk K f38 "_law_is_net" "_law_is_net" (bB 68) oc38 od38 kV38 dc38 pm38 an38 cd38 ct38 sl38)
  (c38:Cd K cd38 "_law_is_net")
  (k38:Kp K f38)
  (a39:Na K "_law_read" f39)
  (l39:Lk K f39 "_law_read" "_law_read" (bB 76) oc39 od39 kV39 dc39 pm39 an39 cd39 ct39 sl39)
  (c39:Cd K cd39 "_law_read")
  (k39:Kp K f39)
  (a40:Na K "law" f40)
  (l40:Lk K f40 "law" "law" (bB 78) oc40 od40 kV40 dc40 pm40 an40 cd40 ct40 sl40)
  (c40:Cd K cd40 "law")
  (k40:Kp K f40)
  (pg:PySem.W.plainGet K C Str.empty=true)
  (hd:PySem.W.hasDictIn K C=true)
  (po:PySem.W.plainOver K C=true)
  (sa:PySem.W.findIn K (.ref C) "__setattr__" = some (some (.builtin "object.__setattr__")))
  (mk:PySem.W.makesIn K C=true)
  (kc:Kp K C)
  (n0:PySem.W.findIn K (.ref C) "net" = some none)
  (n1:PySem.W.findIn K (.ref C) "rows" = some none)
  (n2:PySem.W.findIn K (.ref C) "moments" = some none)
  (n3:PySem.W.findIn K (.ref C) "tip_ticks" = some none)
  (pg2:PySem.W.plainGet K CD Str.empty=true)
  (hd2:PySem.W.hasDictIn K CD=true)
  (po2:PySem.W.plainOver K CD=true)
  (sa2:PySem.W.findIn K (.ref CD) "__setattr__" = some (some (.builtin "object.__setattr__")))
  (mk2:PySem.W.makesIn K CD=true)
  (kc2:Kp K CD)
  (nr2:PySem.W.findIn K (.ref CD) "run" = some none)
  (mc0:PySem.W.nsIn K mainGlobals "MOST_VESSELS" = some (some (.int 12 tk0)))
  (mc1:PySem.W.nsIn K mainGlobals "MOST_SPOUTS" = some (some (.int 12 tk1)))
  (mc2:PySem.W.nsIn K mainGlobals "MOST_SIZE" = some (some (.int 60 tk2)))
  (mc3:PySem.W.nsIn K mainGlobals "MOST_BRIM" = some (some (.int 200 tk3)))
  (mc4:PySem.W.nsIn K mainGlobals "MOST_OUTS" = some (some (.int 3 tk4)))
  (mc5:PySem.W.nsIn K mainGlobals "MOST_PARTS" = some (some (.int 60 tk5)))
  (mc6:PySem.W.nsIn K mainGlobals "MOST_ACTS" = some (some (.int 3 tk6)))
  (mc7:PySem.W.nsIn K mainGlobals "MOST_FLOW" = some (some (.int 60 tk7)))
  (mcw:Na K "ACT_WORDS" aw)
  (mlw:K.lookup aw=some ⟨.type "tuple",odw,.seq #[.str "open" tw1,.str "shut" tw2,.str "turn" tw3] nw,slw⟩)
  (mcF:PySem.W.nsIn K mainGlobals "MOST_FIGURES" = some (some (.int 9 tkF)))
  (zS:Nn K "str")
  (xcTipError:Na K "TipError" c_TipError)
  (xcNoNet:Na K "NoNet" c_NoNet)
  (xcNoVessel:Na K "NoVessel" c_NoVessel)
  (xcTooLong:Na K "TooLong" c_TooLong)
  (xcTooMany:Na K "TooMany" c_TooMany)
  (xcTooMuch:Na K "TooMuch" c_TooMuch)
  (xcNothing:Na K "Nothing" c_Nothing)
  (xcNoText:Na K "NoText" c_NoText)
  (xcNoRow:Na K "NoRow" c_NoRow)
  (xv:Nn K "ValueError")
  (gaX:PySem.W.findIn K (.ref c_NoText) "__getattribute__" = some (some (.builtin "BaseException.__getattribute__")))
  (gtX:PySem.W.findIn K (.ref c_NoText) "__getattr__" = some none)
  (caX:PySem.W.findIn K (.ref c_NoText) "__class__" = some (some (.builtin "object.__class__")))
  (gg:PySem.W.specialIn K (.builtin "object.__class__") "__get__" = some (some (.builtin "getset_descriptor.__get__")))
  (tk:PySem.W.takesIn K (.builtin "object.__class__")=some true)
  (moX:PySem.W.mroIn K c_NoText (.type "object")=some true)
  (mbX:PySem.W.mroIn K c_NoText (.type "BaseException")=some true)
  (clX:K.lookup c_NoText=some ⟨qcX,qdX,.cls qkX,qsX⟩)
  (z0:Nn K "len")
  (z1:Nn K "sum")
  (z2:Nn K "all")
  (z3:Nn K "max")
  (z4:Nn K "min")
  (z5:Nn K "int")
  (z6:Nn K "tuple")
  (z7:Nn K "list")
  (z8:Nn K "bool")
  (z9:Nn K "range")
  (z10:Nn K "zip")
  (z11:Nn K "enumerate")
  (z12:Nn K "isinstance")
  (z13:Nn K "divmod")
  (z14:Nn K "set")
  (z15:Nn K "sorted")
  (exT:PySem.W.excIn K c_NoNet [.type "ValueError",.type "Exception",.type "BaseException",.type "object"] "ValueError.__new__" = true)
  (exX:PySem.W.excIn K c_NoText [.type "ValueError",.type "Exception",.type "BaseException",.type "object"] "ValueError.__new__" = true)
  (vaX:PySem.W.kitOne K (.ref c_NoText) (.type "ValueError")=some true)
  (kkX0:PySem.W.kitOne K (.ref c_NoText) (.ref c_NoNet)=some false)
  (kkX1:PySem.W.kitOne K (.ref c_NoText) (.ref c_NoVessel)=some false)
  (kkX2:PySem.W.kitOne K (.ref c_NoText) (.ref c_TooLong)=some false)
  (kkX3:PySem.W.kitOne K (.ref c_NoText) (.ref c_TooMany)=some false)
  (kkX4:PySem.W.kitOne K (.ref c_NoText) (.ref c_TooMuch)=some false)
  (kkX5:PySem.W.kitOne K (.ref c_NoText) (.ref c_Nothing)=some false)
  (kkX6:PySem.W.kitOne K (.ref c_NoText) (.ref c_NoText)=some true)
  (kkX7:PySem.W.kitOne K (.ref c_NoText) (.ref c_NoRow)=some false)
  (hmXh:PySem.W.exmOne K (.ref c_NoText) (.ref c_TipError)=some true) :
  ∃ fd:FuncData,(∀ (s:Shared) (v:Value),BindsTo s fd ⟨[v],[]⟩ [("script",v)])/\∀ base:Heap,K.In base->base.Ns mainGlobals mg->FnOk l.prog w K mg base hU 10 fa fd ["script"] (xX K):=by
 have e:=hfa.symm.trans (aae X G a40);cases e;have T:Txt mg:=⟨abc X G z0,abc X G z1,abc X G z2,abc X G z3,abc X G z4,abc X G z5,abc X G z6,abc X G z7,abc X G z8,abc X G z9,abc X G z10,abc X G z11,abc X G z12,abc X G z13,abc X G z14,abc X G z15⟩;have U:TxtN K mg aw:=⟨⟨_,aae X G mc0,_,rfl⟩,⟨_,aae X G mc1,_,rfl⟩,⟨_,aae X G mc2,_,rfl⟩,⟨_,aae X G mc3,_,rfl⟩,⟨_,aae X G mc4,_,rfl⟩,⟨_,aae X G mc5,_,rfl⟩,⟨_,aae X G mc6,_,rfl⟩,⟨_,aae X G mc7,_,rfl⟩,⟨_,aae X G mcw,rfl⟩,λ H=>.inr ⟨_,_,_,mlw,rfl,rfl,by show 3<=sizeLine;decide,.cons ⟨_,rfl⟩ (.cons ⟨_,rfl⟩ (.cons ⟨_,rfl⟩ .nil))⟩⟩;have UF:TxtF mg:=⟨⟨_,aae X G mcF,_,rfl⟩⟩;have TS:TxtS mg:=⟨abc X G zS⟩;have W:TxtW mg c_TipError c_NoNet c_NoVessel c_TooLong c_TooMany c_TooMuch c_Nothing c_NoText c_NoRow:=⟨aae X G xcTipError,aae X G xcNoNet,aae X G xcNoVessel,aae X G xcTooLong,aae X G xcTooMany,aae X G xcTooMuch,aae X G xcNothing,aae X G xcNoText,aae X G xcNoRow,abc X G xv⟩;have XC_NoNet:ExC K "NoNet" c_NoNet:=⟨xcNoNet,exT⟩;have XC_NoText:ExC K "NoText" c_NoText:=⟨xcNoText,exX⟩;have kdX:KindOf K c_NoNet c_NoVessel c_TooLong c_TooMany c_TooMuch c_Nothing c_NoText c_NoRow c_NoText [false,false,false,false,false,false,true,false]:=⟨⟨gaX,gtX,caX,gg,tk,moX,mbX⟩,⟨_,_,_,_,clX⟩,vaX,⟨_,_,_,_,_,_,_,_,rfl,kkX0,kkX1,kkX2,kkX3,kkX4,kkX5,kkX6,kkX7⟩⟩;have hmX:=hmXh;have tx2:DeskTx K CD:=⟨⟨pg2,hd2,po2,sa2⟩,nr2⟩;have tx:RunTx K C:=⟨⟨pg,hd,po,sa⟩,n0,n1,n2,n3⟩;have F0:=bD (st:=(bB 42)) l0 c0 k0;have F1:=bD (st:=(bB 41)) l1 c1 k1;have F2:=bD (st:=(bB 40)) l2 c2 k2;have F3:=bD (st:=(bB 38)) l3 c3 k3;have F4:=bD (st:=(bB 37)) l4 c4 k4;have F5:=bD (st:=(bB 39)) l5 c5 k5;have F6:=bD (st:=(bB 27)) l6 c6 k6;have F7:=bD (st:=(bB 28)) l7 c7 k7;have F8:=bD (st:=(bB 23)) l8 c8 k8;have F9:=bD (st:=(bB 24)) l9 c9 k9;have F10:=bD (st:=(bB 22)) l10 c10 k10;have F11:=bD (st:=(bB 25)) l11 c11 k11;have F12:=bD (st:=(bB 21)) l12 c12 k12;have F13:=bD (st:=(bB 34)) l13 c13 k13;have F14:=bD (st:=(bB 32)) l14 c14 k14;have F15:=bD (st:=(bB 35)) l15 c15 k15;have F16:=bD (st:=(bB 33)) l16 c16 k16;have F17:=bD (st:=(bB 31)) l17 c17 k17;have F18:=bD (st:=(bB 36)) l18 c18 k18;have F19:=bD (st:=(bB 44)) l19 c19 k19;have F20:=bD (st:=(bB 45)) l20 c20 k20;have F21:=bD (st:=(bB 54)) l21 c21 k21;have F22:=bD (st:=(gJ (bB 58) 0)) l22 c22 k22;have F23:=bD (st:=(gJ (bB 60) 0)) l23 c23 k23;have F24:=bD (st:=(bB 64)) l24 c24 k24;have F25:=bD (st:=(bB 77)) l25 c25 k25;have F26:=bD (st:=(bB 70)) l26 c26 k26;have F27:=bD (st:=(bB 71)) l27 c27 k27;have F28:=bD (st:=(bB 62)) l28 c28 k28;have F29:=bD (st:=(bB 65)) l29 c29 k29;have F30:=bD (st:=(bB 66)) l30 c30 k30;have F31:=bD (st:=(bB 67)) l31 c31 k31;have F32:=bD (st:=(bB 72)) l32 c32 k32;have F33:=bD (st:=(bB 74)) l33 c33 k33;have F34:=bD (st:=(bB 73)) l34 c34 k34;have F35:=bD (st:=(bB 75)) l35 c35 k35;have F36:=bD (st:=(bB 63)) l36 c36 k36;have F37:=bD (st:=(bB 69)) l37 c37 k37;have F38:=bD (st:=(bB 68)) l38 c38 k38;have F39:=bD (st:=(bB 76)) l39 c39 k39;have F40:=bD (st:=(bB 78)) l40 c40 k40;refine⟨PySem.W.fnOf "law" "law" (jV (bB 78)) (gK (bB 78)) (aK (bB 78)) .none kV40 dc40 pm40 an40 cd40 ct40,λ s v=>.of_eq rfl,λ base _ _=>?_⟩;have C0:Callee l.prog w K mg base "is_number" ["word"] 1 sD f0 _:=⟨sV F0 T TS UF,aae X G a0,k0,F0.binds λ _ _ _ _ _ _=>cC λ _=>rfl⟩;have C1:CalleeR l.prog w K mg base "read_number" ["word"] 2 (jO c_NoText) f1 _:=⟨pG F1 T XC_NoText C0,aae X G a1,k1,F1.binds λ _ _ _ _ _ _=>cC λ _=>rfl⟩;have C2:CalleeR l.prog w K mg base "read_target" ["word"] 3 (sB c_NoText) f2 _:=⟨pF F2 T C1,aae X G a2,k2,F2.binds λ _ _ _ _ _ _=>cC λ _=>rfl⟩;have C3:CalleeR l.prog w K mg base "read_acts" ["act_words"] 3 (oW K c_NoText) f3 _:=⟨sR F3 T C1,aae X G a3,k3,F3.binds λ _ _ _ _ _ _=>cC λ _=>rfl⟩;have C4:CalleeR l.prog w K mg base "read_vessel" ["words"] 4 (sA K c_NoText) f4 _:=⟨pE F4 T C1 C2 C3,aae X G a4,k4,F4.binds λ _ _ _ _ _ _=>cC λ _=>rfl⟩;have C5:CalleeR l.prog w K mg base "read_spout" ["words"] 3 (sC K c_NoText) f5 _:=⟨qD F5 T C1,aae X G a5,k5,F5.binds λ _ _ _ _ _ _=>cC λ _=>rfl⟩;have C6:Callee l.prog w K mg base "is_tuple" ["thing","least","most"] 1 (kU K) f6 _:=⟨sT F6 T,aae X G a6,k6,F6.binds λ _ _ _ _ _ _=>jW λ _ _ _=>rfl⟩;have C7:Callee l.prog w K mg base "is_whole" ["thing","least","most"] 1 (eE K) f7 _:=⟨sS F7 T,aae X G a7,k7,F7.binds λ _ _ _ _ _ _=>jW λ _ _ _=>rfl⟩;have C8:Callee l.prog w K mg base "is_out" ["thing","vessel_count"] 2 (wS K) f8 _:=⟨x8 F8 T U C6 C7,aae X G a8,k8,F8.binds λ _ _ _ _ _ _=>gM λ _ _=>rfl⟩;have C9:Callee l.prog w K mg base "is_act" ["thing","spout_count"] 2 (sJ K) f9 _:=⟨xA F9 T U C6 C7,aae X G a9,k9,F9.binds λ _ _ _ _ _ _=>gM λ _ _=>rfl⟩;have C10:Callee l.prog w K mg base "is_vessel" ["thing","number","vessel_count","spout_count"] 3 (mW K) f10 _:=⟨qE F10 T U C6 C7 C8 C9,aae X G a10,k10,F10.binds λ _ _ _ _ _ _=>uE λ _ _ _ _=>rfl⟩;have C11:Callee l.prog w K mg base "is_spout" ["thing","vessel_count"] 2 (wQ K) f11 _:=⟨sU F11 T U C6 C7,aae X G a11,k11,F11.binds λ _ _ _ _ _ _=>gM λ _ _=>rfl⟩;have C12:Callee l.prog w K mg base "is_net" ["thing"] 4 (kW K) f12 _:=⟨x9 F12 T U C6 C10 C11,aae X G a12,k12,F12.binds λ _ _ _ _ _ _=>cC λ _=>rfl⟩;have C13:Callee l.prog w K mg base "target_word" ["target"] 1 rX f13 _:=⟨pD F13 T TS,aae X G a13,k13,F13.binds λ _ _ _ _ _ _=>cC λ _=>rfl⟩;have C14:Callee l.prog w K mg base "vessel_line" ["vessel"] 2 (mV K) f14 _:=⟨pC F14 T C13,aae X G a14,k14,F14.binds λ _ _ _ _ _ _=>cC λ _=>rfl⟩;have C15:Callee l.prog w K mg base "door_word" ["door"] 1 oB f15 _:=⟨sW F15 T,aae X G a15,k15,F15.binds λ _ _ _ _ _ _=>cC λ _=>rfl⟩;have C16:Callee l.prog w K mg base "spout_line" ["spout"] 2 (mX K) f16 _:=⟨qC F16 T C15,aae X G a16,k16,F16.binds λ _ _ _ _ _ _=>cC λ _=>rfl⟩;have C17:Callee l.prog w K mg base "net_text" ["net"] 3 (mZ K) f17 _:=⟨vE F17 T C14 C16,aae X G a17,k17,F17.binds λ _ _ _ _ _ _=>cC λ _=>rfl⟩;have C18:CalleeR l.prog w K mg base "read_net" ["text"] 5 (oA K c_NoText) f18 _:=⟨vD F18 T TS XC_NoText C4 C5 C12 C17,aae X G a18,k18,F18.binds λ _ _ _ _ _ _=>cC λ _=>rfl⟩;have C19:Callee l.prog w K mg base "first_state" ["net"] 1 (sG K) f19 _:=⟨pH F19 T,aae X G a19,k19,F19.binds λ _ _ _ _ _ _=>cC λ _=>rfl⟩;have C20:Callee l.prog w K mg base "pouring" ["net","amount"] 1 (mY K) f20 _:=⟨x0 F20 T,aae X G a20,k20,F20.binds λ _ _ _ _ _ _=>gM λ _ _=>rfl⟩;have C21:Callee l.prog w K mg base "first_moment" ["net"] 2 (kX K) f21 _:=⟨o4 F21 T C19 C20,aae X G a21,k21,F21.binds λ _ _ _ _ _ _=>cC λ _=>rfl⟩;have C22:MkCalR l.prog w K mg base C "Run" ["self","net"] 5 (sE K C c_NoNet) f22 _:=⟨⟨mk,a22,i22,kc⟩,BN F22 T tx XC_NoNet C12 C21,aae X G aC,F22.binds λ _ _ _ _ _ _=>gM λ _ _=>rfl⟩;have C23:MkCalR l.prog w K mg base CD "Desk" ["self","text"] 7 (sI K CD c_NoText) f23 _:=⟨⟨mk2,a23,i23,kc2⟩,EV F23 T tx2 C18 C22,aae X G aCD,F23.binds λ _ _ _ _ _ _=>gM λ _ _=>rfl⟩;have C24:Callee l.prog w K mg base "_law_word" ["error"] 1 (wP K c_NoNet c_NoVessel c_TooLong c_TooMany c_TooMuch c_Nothing c_NoText c_NoRow) f24 _:=⟨sX F24 T W,aae X G a24,k24,F24.binds λ _ _ _ _ _ _=>cC λ _=>rfl⟩;have C25:Callee l.prog w K mg base "_law_tried" ["way","text"] 9 (rW K) f25 _:=⟨o5 F25 T W kdX hmX C18 C23 C24,aae X G a25,k25,F25.binds λ _ _ _ _ _ _=>gM λ _ _=>rfl⟩;have C26:Callee l.prog w K mg base "_law_goal" ["target"] 1 sF f26 _:=⟨tE F26 T TS,aae X G a26,k26,F26.binds λ _ _ _ _ _ _=>cC λ _=>rfl⟩;have C27:Callee l.prog w K mg base "_law_text" ["net"] 2 (o9 K) f27 _:=⟨sY F27 T TS C26,aae X G a27,k27,F27.binds λ _ _ _ _ _ _=>cC λ _=>rfl⟩;have C28:Callee l.prog w K mg base "_law_draw" ["tape","many"] 1 fY f28 _:=⟨tF F28 T,aae X G a28,k28,F28.binds λ _ _ _ _ _ _=>gM λ _ _=>rfl⟩;have C29:Callee l.prog w K mg base "_law_outs" ["tape","many","small"] 2 (wR K) f29 _:=⟨t8 F29 T C28,aae X G a29,k29,F29.binds λ _ _ _ _ _ _=>jW λ _ _ _=>rfl⟩;have C30:Callee l.prog w K mg base "_law_vessel" ["tape","number","many","spouts","small"] 3 (oU K) f30 _:=⟨pJ F30 T C28 C29,aae X G a30,k30,F30.binds λ _ _ _ _ _ _=>FV λ _ _ _ _ _=>rfl⟩;have C31:Callee l.prog w K mg base "_law_net" ["tape","most","small"] 4 (wT K) f31 _:=⟨tD F31 T C28 C30,aae X G a31,k31,F31.binds λ _ _ _ _ _ _=>jW λ _ _ _=>rfl⟩;have C32:Callee l.prog w K mg base "_law_turned" ["row","way","at","thing"] 1 (oV K) f32 _:=⟨pK F32 T,aae X G a32,k32,F32.binds λ _ _ _ _ _ _=>uE λ _ _ _ _=>rfl⟩;have C33:Callee l.prog w K mg base "_law_bent" ["tape","text","words_more"] 2 (wU K) f33 _:=⟨tG F33 T C28 C32,aae X G a33,k33,F33.binds λ _ _ _ _ _ _=>jW λ _ _ _=>rfl⟩;have C34:Callee l.prog w K mg base "_law_number" ["word"] 1 oX f34 _:=⟨pN F34 T,aae X G a34,k34,F34.binds λ _ _ _ _ _ _=>cC λ _=>rfl⟩;have C35:Callee l.prog w K mg base "_law_target" ["word"] 2 rY f35 _:=⟨pM F35 T C34,aae X G a35,k35,F35.binds λ _ _ _ _ _ _=>cC λ _=>rfl⟩;have C36:Callee l.prog w K mg base "_law_whole" ["thing","low","high"] 1 (eE K) f36 _:=⟨pI F36 T,aae X G a36,k36,F36.binds λ _ _ _ _ _ _=>jW λ _ _ _=>rfl⟩;have C37:Callee l.prog w K mg base "_law_is_vessel" ["thing","number","many","spouts"] 2 (mW K) f37 _:=⟨lB F37 T TS C36,aae X G a37,k37,F37.binds λ _ _ _ _ _ _=>uE λ _ _ _ _=>rfl⟩;have C38:Callee l.prog w K mg base "_law_is_net" ["thing"] 3 (kW K) f38 _:=⟨o6 F38 T C36 C37,aae X G a38,k38,F38.binds λ _ _ _ _ _ _=>cC λ _=>rfl⟩;have C39:Callee l.prog w K mg base "_law_read" ["text"] 4 (rZ K) f39 _:=⟨sZ F39 T C34 C35 C38 C27,aae X G a39,k39,F39.binds λ _ _ _ _ _ _=>cC λ _=>rfl⟩;exact IM F40 T C25 C27 C31 C33 C28 C39
theorem walk {l:PySem.W.OpenLaw}{q:Program}{loose:List Str}{XP:(Str->Option Value)->Heap->Prop}{YP:World->Heap->Prop}{d:DefRec}{K:Params->aaa} (hn:l.most=some 63) (hdf:d.params.defaults=[])
  (hY:∀ (w:World) (h:Heap),YP w h->(K w.params).In h)
  (F:∀ (w:World) (mg:Str->Option Value) (fa:Addr) (h:Heap),(K w.params).In h->h.Ns mainGlobals mg->mg d.name=some (.ref fa)->
   ∃ fd:FuncData,(∀ (s:Shared) (u:Value),BindsTo s fd ⟨[u],[]⟩ [("script",u)])/\∀ base:Heap,(K w.params).In base->base.Ns mainGlobals mg->FnOk l.prog w (K w.params) mg base hU 10 fa fd ["script"] (xX (K w.params))) :
  PySem.W.WalkO q loose XP YP l.row.toRowW d [] (λ f vs=>PySem.call f vs):=
 L2.walk_of (n:=63) (k:=10) (x := "script") (CX:=λ _=>hU) (sp:=λ w=>xX (K w.params)) hn (by decide) hdf ⟨rfl,by decide,by decide⟩ hY F (λ _ _ a ns hl _ hS=>⟨a,ns,rfl,hS,hl,λ _=>rfl⟩) λ _ _ _ _ _ z=>z
end Tw
def PySem.W.Fast.tw14071702832150533002:Nat:=0
theorem PySem.W.Fast.te14071702832150533002:PySem.W.Fast.tw14071702832150533002=PySem.W.Fast.tw14071702832150533002:=rfl
def PySem.W.Fast.tw16349036917102135345:PySem.Program:=PySem.Challenge.pw_tipwell_k15_whole_nets_spoilt_anywhere
theorem PySem.W.Fast.te16349036917102135345:PySem.Challenge.pw_tipwell_k15_whole_nets_spoilt_anywhere=PySem.W.Fast.tw16349036917102135345:=rfl
namespace PySem.W.Fast
def tw7558230419398572383:=0
def tw8275096684024194645:=0
def tw4959743891541419858:=0
def tw9200938965801935352:=0
def tw8425708811406293534:=0
def tw13408893063680402028:=0
def tw354448019386601236:=0
def tw16225048240362837886:=0
def tw18249120291430175335:=0
def tw14804026297739688658:=0
def tw16856190492537001056:=0
def tw12317198921964732068:=0
def tw1666227124329684973:=0
def tw12347230425157179822:=0
def tw17262208150085448605:=0
def tw1308890859425902170:=0
def tw6045489117468757418:=0
def tw17095720969580682288:=0
def tw16208964575956551447:=0
def tw331930368209930100:=0
def tw1796548363453419114:=0
def tw13521883928229266278:=0
def tw8079715379425561219:=0
def tw6292982772097965826:=0
def tw7228458119495447303:=0
def tw12963042901635761666:=0
def tw110656584194970749:=0
def tw11279183362771866010:=0
def tw845980341804108757:=0
def tw15990621505329495979:=0
def tw4726207338444071731:=0
def tw2213261209983589071:=0
def tw4409379180820352925:=0
def tw3601441369039590042:=0
def tw10228139451273293797:=0
def tw17468322455115559945:=0
def tw7962104920741616331:=0
def tw2483706161764726026:=0
def tw11456109897950849581:=0
def tw13992858400881640404:=0
def tw16190556097366936414:=0
def tw9324850538288960095:=0
def tw1861201296709068177:=0
def tw10442177318918865023:=0
def tw13321381565045757471:=0
def tw3122535485007930750:=0
def tw16198534836247339920:=0
def tw6557115431353637164:=0
def tw14772965874451849158:=0
def tw7570648825725747688:=0
def tw15119454169324801036:=0
def tw17110015741391132272:=0
def tw13201233653875917195:=0
def tw1783664775499583479:=0
def tw3380676345993577652:=0
def tw15682952122890438276:=0
def tw163319284212206321:=0
def tw12165675972515100260:=0
def tw14440554928509565692:=0
def tw2667372691982803131:=0
def tw4449171808302819164:=0
def tw14213748240577714273:=0
def tw17489141401483033765:=0
def tw16351177286803662489:=0
def tw12941551670976266519:=0
def tw5690484410532351193:=0
def tw3583775155289823552:=0
def tw15646792020430189596:=0
def tw9795160342094020383:=0
def tw8546715588147453334:=0
def tw9888182583493622731:=0
def tw13089206972820770099:=0
def tw11129106421246205384:=0
def tw941851359225375292:=0
def tw15647235176281405196:=0
def tw16804882335820954478:=0
def tw14495028085830867687:=0
def tw12838226385035281356:=0
def tw10598807028210033085:=0
def tw14620505732959288571:=0
def tw6740628804149849512:=0
def tw9822688666992557313:=0
def tw3378908304606471920:=0
def tw2955413968367631915:=0
def tw741601173078630685:=0
def tw17714441044816000555:=0
def tw17643222060994114317:=0
def tw6127971160246644440:=0
def tw5114760505153791100:=0
def tw5815952993283806635:=0
def tw10170261869423461571:=0
def tw2338223577233323945:=0
def tw1043796806605409294:=0
def tw18355514676675362717:=0
def tw8645664852658856420:=0
def tw7065839435236453560:=0
def tw386761949484727014:=0
def tw807482393472401470:=0
def tw11669664426603787242:=0
def tw16460536107894747575:=0
def tw3544657174800076467:=0
def tw18057938410957043568:=0
def tw2404829473513371191:=0
def tw388559429585237571:=0
def tw11909752933829768863:=0
def tw14203420691706334353:=0
def tw13910485427915130009:=0
def tw1291541196604796557:=0
def tw16504193178134737854:=0
def tw7356273037851377183:=0
def tw5599086077450860409:=0
def tw18225329002739836819:=0
def tw7104341556119518605:=0
def tw8665658140153360221:=0
def tw17213356247885663549:=0
def tw7673338454273644216:=0
def tw5860048233055657632:=0
def tw8890320397353618573:=0
def tw15152827319760733756:=0
def tw7109808843533722824:=0
def tw11170531505288519404:=0
def tw16183037202116676681:=0
def tw12570711348263051234:=0
def tw4048754939901496861:=0
def tw4871285970096305182:=0
def tw4989182423244322270:=0
def tw17745374782037276974:=0
def tw17012332033852386783:=0
def tw5386444105496930088:=0
def tw14326446162700859697:=0
def tw4206373577811702106:=0
def tw7918809965306225042:=0
def tw7802650547982452191:=0
def tw3807187762434220363:=0
def tw17278540468601809140:=0
def tw16005248977641500334:=0
def tw5947874873476365466:=0
def tw6029288661130177432:=0
def tw1120444190667025870:=0
def tw168697274666846546:=0
def tw15284837753395427996:=0
def tw6006108789430726003:=0
def tw12682858962481837388:=0
def tw6068799553755983566:=0
def tw3141528313015883832:=0
end PySem.W.Fast
open PySem PySem.W PyProof.Rows
set_option maxRecDepth 100000 in
set_option maxHeartbeats 0 in
theorem PySem.Challenge.cw_tipwell_k15_whole_nets_spoilt_anywhere_holds : PySem.Challenge.rw_tipwell_k15_whole_nets_spoilt_anywhere.Holds := by
 w_on;o_law;k_head;(case hw=>w_witness2)
 k_fill
 refine Tw.walk (l:=PySem.Challenge.rw_tipwell_k15_whole_nets_spoilt_anywhere) rfl rfl (λ w h Y=>by first | exact PySem.W.kIn_of Y | exact PySem.W.km_in_of Y) ?F
 case F=>
  intro w mg fa h KX G hmg;refine' Tw.all_mk KX G hmg ?_ ?_ ?_ ?_ ?_ ?_ ?_ ?_ ?_ ?_ ?_ ?_ ?_ ?_ ?_ ?_ ?_ ?_ ?_ ?_ ?_ ?_ ?_ ?_ ?_ ?_ ?_ ?_ ?_ ?_ ?_ ?_ ?_ ?_ ?_ ?_ ?_ ?_ ?_ ?_ ?_ ?_ ?_ ?_ ?_ ?_ ?_ ?_ ?_ ?_ ?_ ?_ ?_ ?_ ?_ ?_ ?_ ?_ ?_ ?_ ?_ ?_ ?_ ?_ ?_ ?_ ?_ ?_ ?_ ?_ ?_ ?_ ?_ ?_ ?_ ?_ ?_ ?_ ?_ ?_ ?_ ?_ ?_ ?_ ?_ ?_ ?_ ?_ ?_ ?_ ?_ ?_ ?_ ?_ ?_ ?_ ?_ ?_ ?_ ?_ ?_ ?_ ?_ ?_ ?_ ?_ ?_ ?_ ?_ ?_ ?_ ?_ ?_ ?_ ?_ ?_ ?_ ?_ ?_ ?_ ?_ ?_ ?_ ?_ ?_ ?_ ?_ ?_ ?_ ?_ ?_ ?_ ?_ ?_ ?_ ?_ ?_ ?_ ?_ ?_ ?_ ?_ ?_ ?_ ?_ ?_ ?_ ?_ ?_ ?_ ?_ ?_ ?_ ?_ ?_ ?_ ?_ ?_ ?_ ?_ ?_ ?_ ?_ ?_ ?_ ?_ ?_ ?_ ?_ ?_ ?_ ?_ ?_ ?_ ?_ ?_ ?_ ?_ ?_ ?_ ?_ ?_ ?_ ?_ ?_ ?_ ?_ ?_ ?_ ?_ ?_ ?_ ?_ ?_ ?_ ?_ ?_ ?_ ?_ ?_ ?_ ?_ ?_ ?_ ?_ ?_ ?_ ?_ ?_ ?_ ?_ ?_ ?_ ?_ ?_ ?_ ?_ ?_ ?_ ?_ ?_ ?_ ?_ ?_ ?_ ?_ ?_ ?_ ?_ ?_ ?_ ?exT ?exX ?vaX ?kkX0 ?kkX1 ?kkX2 ?kkX3 ?kkX4 ?kkX5 ?kkX6 ?kkX7 ?hmXh
  all_goals (try delta Tw.Na)
  all_goals (try delta Tw.Nn)
  all_goals (try delta Tw.Kp)
  all_goals (try delta Tw.Cd)
  all_goals (try delta Tw.Lk)
  all_goals try k_is
  (case exT=>k_exc)
  (case exX=>k_exc)
  (case vaX=>kit_is)
  (case kkX0=>kit_is)
  (case kkX1=>kit_is)
  (case kkX2=>kit_is)
  (case kkX3=>kit_is)
  (case kkX4=>kit_is)
  (case kkX5=>kit_is)
  (case kkX6=>kit_is)
  (case kkX7=>kit_is)
  (case hmXh=>kts_exm)
#print axioms PySem.Challenge.cw_tipwell_k15_whole_nets_spoilt_anywhere_holds