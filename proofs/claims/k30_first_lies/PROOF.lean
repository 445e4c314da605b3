import PyProof.Rows.All
import Wide.All
import OpenK.AllK
import Wide.FinOn
import Lean
import PyProof.EqAt
import PyProof.EqKinds
import PyProof.TupleCall
import PyProof.FactsAll.NoneType
import PyProof.ZipIter
import PyProof.EnumMake
import KE.KUnpack
import PyProof.NeKinds
import KE.KIsAll
import KE.KTryMore
import PyProof.NsDelKeeps
import PyProof.Rows.IntBool
import PyProof.TupleKey
import PyProof.FactsAll.bool_1
import PySem.Challenge.RW_tipwell_k30_first_lies
set_option Elab.async false
set_option linter.all false
set_option maxRecDepth 100000
noncomputable section
abbrev aaa:=PySem.W.Frag
def aab:=@PySem.wpAny_bind
def aac:=@PySem.Heap.get?_push_of_some
def aad:=@List.length_map
def aae:=@PySem.wpAny_pure
def aaf:=@List.size_toArray
def aag:=@List.getElem?_eq_some_iff
def aah:=@List.getElem?_map
def aai:=@PySem.Heap.get?_push_size
def aaj:=@Bool.false_ne_true
def aak:=@Nat.le_refl
def aal:=@List.map_append
def aam:=@PySem.Heap.lt_size
def aan:=@PySem.W.mg_of
def aao:=@List.mem_of_getElem?
def aap:=@List.length_append
def aaq:=@List.take_length
def aar:=@Nat.zero_le
def aas:=@PySem.F.plainAttrs_list
def aat:=@Nat.lt_of_lt_of_le
def aau:=@List.length_take
def aav:=@PySem.F.slot_list_append
def aaw:=@PySem.F.type_list_append
def aax:=@List.getElem?_eq_getElem
def aay:=@List.mem_cons_of_mem
def aaz:=@List.mem_append_right
def aba:=@Option.map_eq_some_iff
def abb:=@PySem.W.mg_none_of
def abc:=@Nat.ne_of_lt
def abd:=@List.getD_eq_getElem?_getD
def abe:=@PySem.wpAny_field
def abf:=@List.length_cons
def abg:=@List.mem_append
def abh:=@List.length_singleton
def abi:=@List.mem_cons_self
def abj:=@List.take_of_length_le
def abk:=@List.map_cons
def abl:=@List.mem_cons
def abm:=@PySem.Heap.size_push
def abn:=@Option.some.inj
def abo:=@Nat.le_trans
def abp:=@of_decide_eq_true
def abq:=@List.mem_singleton
def abr:=@PySem.wpAny_holding
def abt:=@PySem.mem_of_lookup
def abu:=@List.all_eq_true
def abv:=@PySem.wpAny_mono
def abw:=@decide_eq_false
def abx:=@List.getElem_mem
def aby:=@Nat.lt_irrefl
def abz:=@decide_eq_true
def aca:=@Nat.le_of_lt
def acb:=@List.map_nil
def acd:=@List.append_assoc
def ace:=@Int.toNat_natCast
def acf:=@List.map_map
def acg:=@List.append_nil
def ach:=@List.getElem?_append_right
def aci:=@List.getElem?_append_left
def acj:=@List.mem_range
def ack:=@PySem.wpAny_rule
def acl:=@List.getElem?_set_self
def acm:=@List.mem_map
def acn:=@List.getElem?_eq_none
def aco:=@List.not_mem_nil
def acp:=@List.getElem?_set_ne
def acq:=@List.nodup_cons
variable {P:PySem.Program}{w:PySem.World}{K:aaa}{mg:PySem.Str->Option PySem.Value}{base:PySem.Heap}{C c_TipError c_NoNet c_NoVessel c_TooLong c_TooMany c_TooMuch c_Nothing c_NoText c_NoRow:PySem.Addr}
namespace L2
open PySem PySem.Spec PyProof.Rows
abbrev fT:=Sum Int (Option Str)
def AT:Value->Bool
 | .none=>true
 | _=>false
theorem u8 {v:Value} (h:AT v=true):v=Value.none:=by
 cases v <;> simp_all [AT]
def r6:fT->Value->Bool
 | .inl k,v=>Value.isInt k v
 | .inr (some x),v=>Value.isStrOf x v
 | .inr none,v=>AT v
def mL:Int:=0xFCA86420
def keyH (w:World):fT->Int
 | .inl k=>hashInt k
 | .inr (some x)=>hashStr w x
 | .inr none=>mL
theorem cK:∀ {k:fT}{v:Value},r6 k v=true->(∃ i t,k=Sum.inl i/\v=Value.int i t)\/(∃ x t,k=Sum.inr (some x)/\v=Value.str x t)\/(k=Sum.inr none/\v=Value.none)
 | .inl i,v,h=>by
  obtain⟨t,e⟩:=Value.isInt_shape (k:=i) (v:=v) h;exact .inl ⟨i,t,rfl,e⟩
 | .inr (some x),v,h=>by
  obtain⟨t,e⟩:=Value.isStrOf_shape (x:=x) (v:=v) h;exact .inr (.inl ⟨x,t,rfl,e⟩)
 | .inr none,v,h=>.inr (.inr ⟨rfl,u8 h⟩)
theorem yJ (i:Int) (t:Tok):r6 (.inl i) (.int i t)=true:=by simp [r6,Value.isInt]
theorem yI (x:Str) (t:Tok):r6 (.inr (some x)) (.str x t)=true:=by simp [r6,Value.isStrOf]
theorem FE (a b:Int):decide ((Sum.inl a:fT)=Sum.inl b)=(a == b):=by
 by_cases e:a=b
 ·subst e;simp
 ·have h:¬ (Sum.inl a:fT)=Sum.inl b:=λ q=>e (Sum.inl.inj q);rw[abw h];exact (beq_eq_false_iff_ne.mpr e).symm
theorem FC (a b:Str):decide ((Sum.inr (some a):fT)=Sum.inr (some b))=decide (a=b):=by
 by_cases e:a=b
 ·subst e;simp
 ·have h:¬ (Sum.inr (some a):fT)=Sum.inr (some b):=λ q=>e (abn (Sum.inr.inj q));rw[abw h,abw e]
theorem AM (i:Int) (o:Option Str):decide ((Sum.inl i:fT)=Sum.inr o)=false:=abw (λ q=>nomatch q)
theorem AN (i:Int) (o:Option Str):decide ((Sum.inr o:fT)=Sum.inl i)=false:=abw (λ q=>nomatch q)
theorem FB (x:Str):decide ((Sum.inr (some x):fT)=Sum.inr none)=false:=abw (λ q=>nomatch (Sum.inr.inj q))
theorem FD (x:Str):decide ((Sum.inr none:fT)=Sum.inr (some x))=false:=abw (λ q=>nomatch (Sum.inr.inj q))
theorem AX {prog:Program}{w:World}{A:Around}{E:Value->Shared->Prop}{s:Shared}{Q:Int->Shared->Prop} (h:Q mL { s with toks:=s.toks+1 }) :
  wpAny (model prog w) A (pyHash .none) Q E s:=by
 have hT:s.TypeIs .none "NoneType" := rfl;unfold pyHash;have hv:[Value.none].any Value.onHeap=false:=rfl;refine aab ?_;rw[cRoomFor,if_neg (by rw[hv];exact aaj)];refine aae ?_;refine aab (wpAny_specialOf hT F.slot_NoneType_hash.lookup ?_);show wpAny _ _ (if (some (Value.builtin "NoneType.__hash__") == some Value.none)=true then _ else _) Q E s;rw[if_neg (by rw[beq_builtin_none];exact aaj)];refine aab (wpAny_specialOf hT F.slot_NoneType_hash.lookup ?_);show wpAny _ _ (callSpecialIfBoundUnlessNone? .none "__hash__" _ >>= _) Q E s;refine aab (wpAny_callSpecialIfBoundUnlessNone?_slot hT F.slot_NoneType_hash
  (wpAny_call_entry F.slot_NoneType_hash hT F.entry_NoneType_hash
   (show wpAny _ _ (do ret (<- mkInt mL)) _ _ s from wpAny_ret_mkInt ?_) (F.args_NoneType_hash_1 _)))
 show wpAny _ _ (if (decide (-(2:Int) ^ 63<=mL) && decide (mL < 2 ^ 63))=true then _ else _) Q E _;rw[if_pos (by decide)];exact aae h
def dQ (prog:Program) (w:World):PySem.KeyKind prog w fT where
 is:=r6
 hash:=keyH w
 inj:=λ v a b ha hb=>by
  rcases cK ha with ⟨i,t,rfl,rfl⟩ | ⟨x,t,rfl,rfl⟩ | ⟨rfl,rfl⟩
  ·rcases cK hb with ⟨j,u,rfl,e⟩ | ⟨y,u,rfl,e⟩ | ⟨rfl,e⟩
   ·injection e with e1 _;rw[e1]
   ·exact nomatch e
   ·exact nomatch e
  ·rcases cK hb with ⟨j,u,rfl,e⟩ | ⟨y,u,rfl,e⟩ | ⟨rfl,e⟩
   ·exact nomatch e
   ·injection e with e1 _;rw[e1]
   ·exact nomatch e
  ·rcases cK hb with ⟨j,u,rfl,e⟩ | ⟨y,u,rfl,e⟩ | ⟨rfl,e⟩
   ·exact nomatch e
   ·exact nomatch e
   ·rfl
 byValue:=λ k v h=>by
  rcases cK h with ⟨i,t,rfl,rfl⟩ | ⟨x,t,rfl,rfl⟩ | ⟨rfl,rfl⟩ <;> rfl
 pyHash:=λ hv h=>by
  rcases cK hv with ⟨i,t,rfl,rfl⟩ | ⟨x,t,rfl,rfl⟩ | ⟨rfl,rfl⟩
  ·exact wpAny_pyHash_int h
  ·exact wpAny_pyHash_str h
  ·exact AX h
 eqBool:=λ hu hv h=>by
  rcases cK hu with ⟨i,t,rfl,rfl⟩ | ⟨x,t,rfl,rfl⟩ | ⟨rfl,rfl⟩
  ·rcases cK hv with ⟨j,u,rfl,rfl⟩ | ⟨y,u,rfl,rfl⟩ | ⟨rfl,rfl⟩
   ·rw[FE] at h;exact wpAny_eqBool_int h
   ·rw[AM] at h;exact SeqAt.EqAt.int_str i t y u _ _ _ _ h
   ·rw[AM] at h;exact SeqAt.EqAt.int_none i t _ _ _ _ h
  ·rcases cK hv with ⟨j,u,rfl,rfl⟩ | ⟨y,u,rfl,rfl⟩ | ⟨rfl,rfl⟩
   ·rw[AN] at h;exact SeqAt.EqAt.str_int x t j u _ _ _ _ h
   ·rw[FC] at h;exact wpAny_eqBool_str h
   ·rw[FB] at h;exact SeqAt.EqAt.str_none x t _ _ _ _ h
  ·rcases cK hv with ⟨j,u,rfl,rfl⟩ | ⟨y,u,rfl,rfl⟩ | ⟨rfl,rfl⟩
   ·rw[AN] at h;exact SeqAt.EqAt.none_int j u _ _ _ _ h
   ·rw[FD] at h;exact SeqAt.EqAt.none_str y u _ _ _ _ h
   ·rw[abz rfl] at h;exact SeqAt.EqAt.same Value.none _ _ _ _ h
 «strs»:=λ k x t v h=>by
  rcases cK h with ⟨i,u,rfl,e⟩ | ⟨y,u,rfl,e⟩ | ⟨rfl,e⟩
  ·exact nomatch e
  ·injection e with e1 _;subst e1;cases v <;> rfl
  ·exact nomatch e
theorem tY (prog:Program) (w:World) (i:Int) (t:Tok):(dQ prog w).is (.inl i) (.int i t)=true:=yJ i t
theorem tX (prog:Program) (w:World) (x:Str) (t:Tok):(dQ prog w).is (.inr (some x)) (.str x t)=true:=yI x t
inductive V where
 | non | bl (b:Bool) | int (i:Int) | str (x:Str) | byt (b:Array UInt8) | flt (b:UInt64) | ref (a:Addr) | ty (n:String)
 deriving DecidableEq
def bM:V->Value->Prop
 | .non,u=>u=Value.none
 | .bl b,u=>u=Value.bool b
 | .int i,u=>∃ t,u=Value.int i t
 | .str x,u=>∃ t,u=Value.str x t
 | .byt b,u=>∃ t,u=Value.bytes b t
 | .flt b,u=>∃ t,u=Value.float b t
 | .ref a,u=>u=Value.ref a
 | .ty n,u=>u=Value.type n
abbrev bL:List V->List Value->Prop:=Paired bM
theorem bL.length {xs:List V}{us:List Value} (r:bL xs us):xs.length=us.length:=Paired.length r
theorem bL.get:∀ {xs:List V}{us:List Value}{i:Nat}{x:V},bL xs us->xs[i]? = some x->∃ u,us[i]? = some u/\bM x u
 | _,_,_,_,.nil,e=>by simp at e
 | _,_,0,_,.cons r _,e=>by simp at e;subst e;exact⟨_,rfl,r⟩
 | _,_,i+1,x,.cons _ t,e=>by
  obtain⟨u,h1,h2⟩:=bL.get (i:=i) (x:=x) t (by simpa using e);exact⟨u,by simpa using h1,h2⟩
theorem bL.set {x:V}{u:Value} (r:bM x u):∀ {xs:List V}{us:List Value} (i:Nat),bL xs us->bL (xs.set i x) (us.set i u)
 | _,_,_,.nil=>.nil
 | _,_,0,.cons _ t=>.cons r t
 | _,_,i+1,.cons q t=>.cons q (bL.set r i t)
theorem bL.append:∀ {xs ys:List V}{us ws:List Value},bL xs us->bL ys ws->bL (xs++ys) (us++ws)
 | _,_,_,_,.nil,s=>s
 | _,_,_,_,.cons r t,s=>.cons r (bL.append t s)
theorem bL.take:∀ {xs:List V}{us:List Value} (n:Nat),bL xs us->bL (xs.take n) (us.take n)
 | _,_,0,_=>.nil
 | _,_,_+1,.nil=>.nil
 | _,_,n+1,.cons r t=>.cons r (bL.take n t)
theorem bL.drop:∀ {xs:List V}{us:List Value} (n:Nat),bL xs us->bL (xs.drop n) (us.drop n)
 | _,_,0,r=>r
 | _,_,_+1,.nil=>.nil
 | _,_,n+1,.cons _ t=>bL.drop n t
def t8:Option V->Option Value->Prop
 | some v,some u=>bM v u
 | none,none=>True
 | _,_=>False
def KV {az:Type}:List (az×V)->List (az×Value)->Prop:=Paired λ (p:az×V) (q:az×Value)=>p.1=q.1/\bM p.2 q.2
def kV:fT->V
 | .inl i=>.int i
 | .inr (some x)=>.str x
 | .inr none=>.non
inductive HO where
 | lst (xs:List V)
 | tup (xs:List V)
 | dK (kvs:List (fT×V)) | dT (kvs:List (List fT×V))
 | set (S:Int->Bool) (n:Nat)
 | ins (C dx:Addr) (fs:List (Str×V))
 | own (x:Addr)
 | xd (fs:List (Str×V))
 | met (f x:Addr)
 | rng (lo hi:Int)
 | frz (o:Obj) (u:HO)
 | tbl (ps:Array Value)
 | ext (dt:Heap->Prop)
abbrev Hp:=Addr->Option HO
def upd (H:Hp) (a:Addr) (o:HO):Hp:=λ b=>if b=a then some o else H b
theorem aD {H:Hp}{a:Addr}{o:HO}:upd H a o a=some o:=by unfold upd;rw[if_pos rfl]
theorem aM {H:Hp}{a b:Addr}{o:HO} (h:b≠a):upd H a o b=H b:=by unfold upd;rw[if_neg h]
theorem BY {H:Hp}{a:Addr}{o u:HO}:upd (upd H a o) a u=upd H a u:=by
 funext b;unfold upd;split <;> rfl
theorem DP {H:Hp}{a b:Addr}{o u:HO} (h:H a=some o) (h':H b=some u) (d:o≠u):a≠b:=by
 intro e;subst e;rw[h] at h';exact d (abn h')
theorem aN {H:Hp}{a b:Addr}{o:HO} (h:H a=some o) (h':H b=none):a≠b:=by
 intro e;subst e;rw[h] at h';cases h'
section
variable (P:Program)(w:World)
def dG (H:Hp) (h:Heap) (a:Addr):HO->Prop
 | .lst xs=>xs.length<=sizeLine/\∃ (its:List Value) (n:Nat),bL xs its/\h.get? a=some { cls:=.type "list",data:=.seq its.toArray n }
 | .tup xs=>xs.length<=sizeLine/\∃ its:List Value,bL xs its/\IsTup h a its.toArray
 | .dK kvs=>kvs.length<=sizeLine/\(a == sysModules)=false/\∃ vs,KV kvs vs/\h.DictOf (dQ P w) a vs
 | .dT kvs=>kvs.length<=sizeLine/\(a == sysModules)=false/\∃ xs:List (List fT×Addr×Value),
   Paired (λ (p:List fT×V) (q:List fT×Addr×Value)=>p.1=q.1/\H q.2.1=some (.tup (p.1.map kV))/\bM p.2 q.2.2) kvs xs/\
   ∃ o es ep,h.get? a=some o/\o.ExactDict/\o.data=.dict es ep/\es.toList=xs.map (entryOfKey (tupleKind (dQ P w)))/\(xs.map (·.1)).Nodup
 | .set S n=>h.SetOf (intKind P w) a S n
 | .ins C dx fs=>H dx=some (.own a)/\fs.length<=1000/\dx≠a/\h.get? a=some (PySem.W.instObj C dx)/\
   ∃ mA,h.Ns1 dx mA/\(∀ f,t8 (fs.lookup f) (mA f))/\PySem.Within mA (fs.map (·.1))
 | .own _=>∃ o,h.get? a=some o
 | .xd fs=>∃ mA,h.Ns1 a mA/\∀ f,t8 (fs.lookup f) (mA f)
 | .rng lo hi=>∃ t u v,h.get? a=some { cls:=.type "range",data:=.fields #[.int lo t,.int hi u,.int 1 v] }
 | .frz o u=>h.get? a=some o/\dG H h a u
 | .tbl ps=>h.get? a=some { cls:=.none,data:=.fields ps }
 | .met f x=>h.get? a=some (PySem.W.methodObj (.ref f) (.ref x))
 | .ext dt=>dt h/\(∃ o,h.get? a=some o)/\∀ h1 h2:Heap,dt h1->(∀ o,h1.get? a=some o->h2.get? a=some o)->dt h2
def lN (H:Hp) (h:Heap):Prop:=∀ a o,H a=some o->dG P w H h a o
end
section
variable {H H':Hp}{h h':Heap}{a:Addr}{o:HO}
theorem dG.lt (x:dG P w H h a o):a < h.objs.size:=by
 cases o with
 | lst xs=>obtain⟨_,_,_,_,e⟩:=x;exact aam e
 | tup xs=>obtain⟨_,_,_,p⟩:=x;exact p.lt
 | dK kvs=>obtain⟨_,_,_,_,o,_,_,e,_⟩:=x;exact aam e
 | dT kvs=>obtain⟨_,_,_,_,o,_,_,e,_⟩:=x;exact aam e
 | set S n=>obtain⟨o,_,_,_,e,_⟩:=x;exact aam e
 | ins C dx fs=>obtain⟨_,_,_,e,_⟩:=x;exact aam e
 | own y=>obtain⟨_,e⟩:=x;exact aam e
 | xd fs=>obtain⟨_,⟨_,_,_,e,_⟩,_⟩:=x;exact aam e
 | rng lo hi=>obtain⟨_,_,_,e⟩:=x;exact aam e
 | frz ob u=>obtain⟨e,_⟩:=x;exact aam e
 | tbl ps=>exact aam (show h.get? a=some _ from x)
 | met f y=>exact aam (show h.get? a=some _ from x)
 | ext dt=>obtain⟨_,⟨_,e⟩,_⟩:=x;exact aam e
theorem Paired.mapP {au β:Type}{F G:au->β->Prop}:∀ {dy:List au}{dz:List β},Paired F dy dz->(∀ a b,F a b->G a b)->Paired G dy dz
 | _,_,.nil,_=>.nil
 | _,_,.cons r t,f=>.cons (f _ _ r) (Paired.mapP t f)
theorem dG.stay (x:dG P w H h a o) (k:∀ b u,(b=a\/H b=some (.own a))->h.get? b=some u->h'.get? b=some u)
  (ho:∀ b,H b=some (.own a)->H' b=some (.own a)) (ht:∀ b xs,H b=some (.tup xs)->H' b=some (.tup xs)):dG P w H' h' a o:=by
 induction o with
 | lst xs=>obtain⟨z,its,n,r,e⟩:=x;exact⟨z,its,n,r,k _ _ (.inl rfl) e⟩
 | tup xs=>obtain⟨z,its,r,ob,e,c⟩:=x;exact⟨z,its,r,ob,k _ _ (.inl rfl) e,c⟩
 | dK kvs=>obtain⟨z,y,vs,r,ob,es,ep,e,c⟩:=x;exact⟨z,y,vs,r,ob,es,ep,k _ _ (.inl rfl) e,c⟩
 | dT kvs=>
  obtain⟨z,y,xs,r,ob,es,ep,e,c⟩:=x;exact⟨z,y,xs,Paired.mapP r λ p q z=>⟨z.1,ht _ _ z.2.1,z.2.2⟩,ob,es,ep,k _ _ (.inl rfl) e,c⟩
 | set S n=>obtain⟨ob,es,ep,t,e,c⟩:=x;exact⟨ob,es,ep,t,k _ _ (.inl rfl) e,c⟩
 | ins C dx fs=>
  obtain⟨d,z,ne,e,mA,⟨od,es,ep,e2,c⟩,r⟩:=x;exact⟨ho _ d,z,ne,k _ _ (.inl rfl) e,mA,⟨od,es,ep,k _ _ (.inr d) e2,c⟩,r⟩
 | own y=>obtain⟨ob,e⟩:=x;exact⟨ob,k _ _ (.inl rfl) e⟩
 | xd fs=>obtain⟨mA,⟨od,es,ep,e,c⟩,r⟩:=x;exact⟨mA,⟨od,es,ep,k _ _ (.inl rfl) e,c⟩,r⟩
 | rng lo hi=>obtain⟨t,u,v,e⟩:=x;exact⟨t,u,v,k _ _ (.inl rfl) e⟩
 | frz ob u ih=>obtain⟨e,q⟩:=x;exact⟨k _ _ (.inl rfl) e,ih q⟩
 | tbl ps=>
  have e:h.get? a=some { cls:=.none,data:=.fields ps }:=x;show h'.get? a=some { cls:=.none,data:=.fields ps };exact k a _ (.inl rfl) e
 | met f y=>
  have e:h.get? a=some (PySem.W.methodObj (.ref f) (.ref y)):=x;show h'.get? a=some (PySem.W.methodObj (.ref f) (.ref y));exact k a _ (.inl rfl) e
 | ext dt=>obtain⟨p,⟨o,e⟩,st⟩:=x;exact⟨st _ _ p λ o q=>k _ _ (.inl rfl) q,⟨o,k _ _ (.inl rfl) e⟩,st⟩
theorem lN.lt (x:lN P w H h) (e:H a=some o):a < h.objs.size:=(x a o e).lt
theorem lN.fresh (x:lN P w H h) (e:h.objs.size<=a):H a=none:=by
 cases q:H a with
 | none=>rfl
 | some u=>exact absurd (aat (x.lt q) e) (aby _)
theorem lN.kept (x:lN P w H h) (k:∀ b u,h.get? b=some u->h'.get? b=some u):lN P w H h':=λ a o e=>
 (x a o e).stay (λ b u _ q=>k b u q) (λ _ q=>q) λ _ _ q=>q
theorem lN.laid (x:lN P w H h) (k:∀ b u,h.get? b=some u->h'.get? b=some u) (hp:h.objs.size<=a) (new:dG P w (upd H a o) h' a o):lN P w (upd H a o) h':=λ b u e=>by
 have hn:=x.fresh hp
 by_cases hb:b=a
 ·subst hb;rw[aD] at e;cases e;exact new
 ·rw[aM hb] at e;exact (x b u e).stay (λ c v _ q=>k c v q) (λ c q=>by rw[aM (aN q hn)];exact q) λ c xs q=>by rw[aM (aN q hn)];exact q
end
def Rd (H:Hp) (a:Addr) (u:HO):Prop:=H a=some u\/∃ o,H a=some (.frz o u)
theorem Rd.ok {P:Program}{w:World}{H:Hp}{h:Heap}{a:Addr}{u:HO} (r:Rd H a u) (x:lN P w H h):dG P w H h a u:=by
 rcases r with r | ⟨o,r⟩
 ·exact x a u r
 ·obtain⟨_,q⟩:=x a _ r;exact q
def t9:Option HO->Prop
 | some (.lst _)=>True
 | some (.dK _)=>True
 | some (.dT _)=>True
 | some (.set _ _)=>True
 | some (.ins _ _ _)=>True
 | some (.ext _)=>True
 | _=>False
section
variable {H:Hp}{h h':Heap}{x e:Addr}{o':HO}
theorem lN.write (ok:lN P w H h) (mu:t9 (H x)) (he:e=x\/H e=some (.own x)) (k:∀ b u,b≠e->h.get? b=some u->h'.get? b=some u) (heo:∃ u,h'.get? e=some u)
  (new:dG P w (upd H x o') h' x o'):lN P w (upd H x o') h':=λ b u q=>by
 have nown:∀ c y,H c=some (.own y)->c≠x:=λ c y r z=>by subst z;rw[r] at mu;exact mu
 have ntup:∀ c xs,H c=some (.tup xs)->c≠x:=λ c xs r z=>by subst z;rw[r] at mu;exact mu
 by_cases hb:b=x
 ·subst hb;rw[aD] at q;cases q;exact new
 ·rw[aM hb] at q
  by_cases hbe:b=e
  ·have q':H b=some (.own x):=by
    rcases he with z | z
    ·exact absurd (hbe.trans z) hb
    ·rw[hbe];exact z
   rw[q] at q';cases q';obtain⟨v,hv⟩:=heo;exact⟨v,by rw[hbe];exact hv⟩
  ·refine (ok b u q).stay (λ c v hc r=>k c v ?_ r) (λ c r=>by rw[aM (nown c b r)];exact r) λ c xs r=>by rw[aM (ntup c xs r)];exact r
   rcases hc with rfl | hc
   ·exact hbe
   ·rintro rfl;rcases he with z | z
    ·exact nown c b hc z
    ·rw[hc] at z;cases z;exact hb rfl
end
structure Un (fs ex:List Addr) (H H':Hp) (h h':Heap):Prop where
 keep:∀ b o,h.get? b=some o->H b=none->b∉fs->b∉ex->h'.get? b=some o
 slot:∀ b o,h.get? b=some o->H b=none->b∈fs->b∉ex->∃ sl,h'.get? b=some { o with slots:=sl }
 free:∀ b o,h.get? b=some o->H b=none->b∉ex->H' b=none
 there:∀ b o,h.get? b=some o->b∉ex->∃ o',h'.get? b=some o'
 tups:∀ b xs,H b=some (.tup xs)->H' b=some (.tup xs)
 frzs:∀ b o u,H b=some (.frz o u)->H' b=some (.frz o u)
 tbls:∀ b ps,H b=some (.tbl ps)->∃ more,H' b=some (.tbl (ps++more))
section
variable {fs fs' ex ex':List Addr}{H H1 H2:Hp}{h h1 h2 h':Heap}{a x e:Addr}{o:HO}
theorem Un.any (u:Un fs ex H H1 h h1) {b:Addr}{ob:Obj} (q:h.get? b=some ob) (n:H b=none) (hx:b∉ex):∃ sl,h1.get? b=some { ob with slots:=sl }:=by
 by_cases hb:b∈fs
 ·exact u.slot b ob q n hb hx
 ·exact⟨ob.slots,u.keep b ob q n hb hx⟩
theorem Un.kept (k:∀ b u,h.get? b=some u->h'.get? b=some u):Un fs ex H H h h':=
 ⟨λ b ob q _ _ _=>k b ob q,λ b ob q _ _ _=>⟨ob.slots,k b ob q⟩,λ _ _ _ n _=>n,λ b ob q _=>⟨ob,k b ob q⟩,λ _ _ q=>q,λ _ _ _ q=>q,λ _ ps q=>⟨#[],by rw[q];simp⟩⟩
theorem Un.refl:Un fs ex H H h h:=Un.kept λ _ _ q=>q
theorem Un.laid (k:∀ b u,h.get? b=some u->h'.get? b=some u) (hp:h.objs.size<=a) (hn:H a=none):Un fs ex H (upd H a o) h h' where
 keep:=λ b u q _ _ _=>k b u q
 slot:=λ b u q _ _ _=>⟨u.slots,k b u q⟩
 free:=λ b u q n _=>by rw[aM (abc (aat (aam q) hp))];exact n
 there:=λ b u q _=>⟨u,k b u q⟩
 tups:=λ b xs q=>by rw[aM (aN q hn)];exact q
 frzs:=λ b u xs q=>by rw[aM (aN q hn)];exact q
 tbls:=λ b ps q=>⟨#[],by rw[aM (aN q hn),q];simp⟩
theorem Un.write (mu:t9 (H x)) (he:e=x\/H e=some (.own x)) (k:∀ b u,b≠e->h.get? b=some u->h'.get? b=some u) (heo:∃ u,h'.get? e=some u):Un fs ex H (upd H x o) h h':=by
 have hx:∀ b,H b=none->b≠x:=λ b n z=>by subst z;rw[n] at mu;exact mu
 have hb:∀ b,H b=none->b≠e:=λ b n z=>by
  subst z;rcases he with r | r
  ·exact hx b n r
  ·rw[n] at r;cases r
 have hm:∀ b u,H b=some u->¬ t9 (some u)->b≠x:=λ b u q nm z=>by subst z;rw[q] at mu;exact nm mu
 refine⟨λ b u q n _ _=>k b u (hb b n) q,λ b u q n _ _=>⟨u.slots,k b u (hb b n) q⟩,λ b u q n _=>by rw[aM (hx b n)];exact n,λ b u q _=>?_,
  λ b xs q=>by rw[aM (hm b _ q λ z=>z)];exact q,λ b u xs q=>by rw[aM (hm b _ q λ z=>z)];exact q,λ b ps q=>⟨#[],by rw[aM (hm b _ q λ z=>z),q];simp⟩⟩
 by_cases hbe:b=e
 ·subst hbe;exact heo
 ·exact⟨u,k b u hbe q⟩
end
def trk (h:Heap) (H:Hp):List Addr:=(List.range h.objs.size).filter λ a=>(H a).isSome
def sR (h:Heap) (H:Hp):Heap:=PySem.W.hideAll h (trk h H)
theorem yL (h:Heap) (H:Hp):(sR h H).objs.size=h.objs.size:=PySem.W.hideAll_size _ _
theorem AW {h:Heap}{H:Hp}{b:Addr}{o:Obj} (e:h.get? b=some o) (n:H b=none):(sR h H).get? b=some o:=
 PySem.W.hideAll_get _ e λ hm=>by
  have q:(H b).isSome=true:=(List.mem_filter.mp hm).2;rw[n] at q;simp at q
theorem CZ {h:Heap}{H:Hp}{b:Addr}{o:Obj} (e:(sR h H).get? b=some o):h.get? b=some o/\H b=none:=by
 have e':h.get? b=some o:=PySem.W.of_hideAll (trk h H) e;refine⟨e',?_⟩;cases q:H b with
 | none=>rfl
 | some x=>
  have hm:b∈trk h H:=List.mem_filter.mpr ⟨acj.mpr (aam e'),by simp [q]⟩;have z:(sR h H).get? b=none:=PySem.W.hideAll_none (trk h H) hm;rw[z] at e;cases e
structure Mod (K:aaa) (mg:Str->Option Value) (base:Heap):Prop where
 kin:K.In base
 glob:base.Ns mainGlobals mg
 blt:∃ mb,base.Ns builtinsNs mb/\∀ x:Str,x ≠ "__name__" -> mb x=bootBuiltins x
 nolimit:base.NoLimit
structure Cx where
 prog:Program
 w:World
 K:aaa
 mg:Str->Option Value
 base:Heap
 A:Around
 N:List Str
 s₀:Shared
 H₀:Hp
 env:Env
 outer:List Env
 stack:List Env
 ex:List Addr
 fn:Str->Bool
 calm:Bool
 pn:List (Addr×Obj)
 xe:Value->Shared->Prop
def BA (l:List Env):List Addr:=l.filterMap (·.frame)
abbrev Cx.fs (X:Cx):List Addr:=BA X.outer
def Vis (sc:Scope) (x:Str):Prop:=sc.names.lookup x=some .local\/sc.names.lookup x=some .cell\/sc.names.lookup x=some .free
def E5 (sc:Scope) (x:Str):Prop:=sc.names.lookup x=some .local\/sc.names.lookup x=some .cell
def Look (env:Env) (h:Heap) (m:Str->Option Value) (x:Str) (u:Value):Prop:=
 (env.kindOf x=some .local/\m x=some u)\/((env.kindOf x=some .cell\/env.kindOf x=some .free)/\∃ c,env.cells.lookup x=some c/\h.IsCell c (some u))
structure Cx.Ok (X:Cx):Prop where
 mod:Mod X.K X.mg X.base
 kind:X.env.scope.kind=.function
 glob:X.env.globals=mainGlobals
 blt:X.env.builtins=builtinsNs
 above:X.s₀.heap.objs.size<=X.env.locals
 inj:∀ x y c,X.env.cells.lookup x=some c->X.env.cells.lookup y=some c->x=y
 has:∀ x,(X.env.kindOf x=some .cell\/X.env.kindOf x=some .free)->∃ c,X.env.cells.lookup x=some c
 cab:∀ x c,X.fn x=true->X.env.cells.lookup x=some c->X.s₀.heap.objs.size<=c
 hd:X.calm=true->X.A.handled=none
 frames:X.A.frames=some X.stack
 stk:X.stack=X.outer\/(X.stack=X.env::X.outer/\X.env.frame=some X.env.locals)
 exf:∀ b∈X.ex,b≠X.env.locals/\∀ x c,X.env.cells.lookup x=some c->c≠b
 bs:∀ b o,X.base.get? b=some o->X.s₀.heap.get? b=some o/\X.H₀ b=none
 bsz:X.base.objs.size<=X.s₀.heap.objs.size
 noex:∀ b o,X.base.get? b=some o->b∉X.ex
 exfs:∀ b∈X.ex,b∉X.fs
 funs:X.s₀.heap.FunFrames X.base X.outer
 frf:∀ b∈X.fs,X.H₀ b=none
structure Inv (X:Cx) (pins:List (Addr×Obj)) (σ:List (Option V)) (H:Hp) (s:Shared):Prop where
 ok:X.Ok
 os:s.os=X.s₀.os
 bare:AllBare s.gens
 base:Un X.fs X.ex X.H₀ H X.s₀.heap s.heap
 loc:∃ m,s.heap.Ns X.env.locals m/\∀ (i:Nat) (x:Str) (v:V),X.N[i]? = some x->σ[i]? = some (some v)->Vis X.env.scope x->∃ u,bM v u/\Look X.env s.heap m x u
 cell:∀ x c,X.env.cells.lookup x=some c->∃ v,s.heap.IsCell c v
 free:H X.env.locals=none
 freeC:∀ x c,X.env.cells.lookup x=some c->H c=none
 pin:∀ p∈X.pn++pins,s.heap.get? p.1=some p.2/\H p.1=none/\p.1≠X.env.locals/\p.1∉X.fs/\∀ v,p.2.data≠.cell v
 hok:lN X.prog X.w H s.heap
 len:σ.length=X.N.length
section
variable {X:Cx}{pins:List (Addr×Obj)}{σ:List (Option V)}{H H':Hp}{s:Shared}{h':Heap}
theorem Cx.Ok.nofr (ok:X.Ok) {b:Addr}{o:Obj} (e:X.base.get? b=some o):b∉X.fs:=λ hb=>by
 have:=(ok.funs.mem hb).1;rw[e] at this;cases this
theorem Inv.bs (I:Inv X pins σ H s):∀ b o,X.base.get? b=some o->s.heap.get? b=some o/\H b=none:=λ b o e=>
 ⟨I.base.keep b o (I.ok.bs b o e).1 (I.ok.bs b o e).2 (I.ok.nofr e) (I.ok.noex b o e),I.base.free b o (I.ok.bs b o e).1 (I.ok.bs b o e).2 (I.ok.noex b o e)⟩
theorem Inv.bk (I:Inv X pins σ H s):∀ b o,X.base.get? b=some o->s.heap.get? b=some o:=λ b o e=>(I.bs b o e).1
theorem Inv.mod (I:Inv X pins σ H s):Mod X.K X.mg X.base:=I.ok.mod
theorem Inv.kIn (I:Inv X pins σ H s):X.K.In s.heap:=I.ok.mod.kin.keeps I.bk
theorem Inv.lt (I:Inv X pins σ H s):X.env.locals < s.heap.objs.size:=let ⟨_,hn,_⟩:=I.loc;hn.lt
theorem Inv.sz (I:Inv X pins σ H s):X.s₀.heap.objs.size<=s.heap.objs.size:=abo I.ok.above (aca I.lt)
theorem Inv.nofs (I:Inv X pins σ H s) {a:Addr} (h:s.heap.objs.size<=a):a∉X.fs:=λ hb=>by
 obtain⟨_,o,ho,_⟩:=I.ok.funs.mem hb;exact absurd (aat (aam ho) (abo I.sz h)) (aby _)
theorem Inv.cne (I:Inv X pins σ H s):∀ x c,X.env.cells.lookup x=some c->c≠X.env.locals:=λ x c e z=>by
 obtain⟨v,o,ho,hd⟩:=I.cell x c e;obtain⟨m,⟨o',es,ep,ho',hd',_⟩,_⟩:=I.loc;rw[z,ho'] at ho;cases ho;rw[hd'] at hd;cases hd
theorem Inv.funs (I:Inv X pins σ H s):s.heap.FunFrames X.base X.outer:=by
 have all:∀ (l:List Env),(∀ b∈BA l,b∈X.fs)->X.s₀.heap.FunFrames X.base l->s.heap.FunFrames X.base l:=by
  intro l
  induction l with
  | nil=>intro _ _;trivial
  | cons env r ih=>
   intro hs hl;obtain⟨hk,⟨L,o,hf,hn,ho,hd⟩,hr⟩:=hl;have hL:L∈X.fs:=hs L (by unfold BA;rw[List.filterMap_cons,hf];exact abi);obtain⟨sl,e⟩:=I.base.slot L o ho (I.ok.frf L hL) hL λ z=>I.ok.exfs L z hL;exact⟨hk,⟨L,_,hf,hn,e,hd⟩,ih (λ b hb=>hs b (by unfold BA;rw[List.filterMap_cons,hf];exact aay _ hb)) hr⟩
 exact all X.outer (λ _ hb=>hb) I.ok.funs
theorem Inv.stack (I:Inv X pins σ H s):s.heap.FunFrames X.base X.stack:=by
 rcases I.ok.stk with e | ⟨e,hf⟩
 ·rw[e];exact I.funs
 ·rw[e];obtain⟨m,hn,_⟩:=I.loc;refine .cons (by rw[I.ok.kind];decide) hf hn ?_ I.funs;exact Heap.get?_none_of_le (abo I.ok.bsz I.ok.above)
theorem Inv.stkSub (I:Inv X pins σ H s):∀ b∈BA X.stack,b∈X.env.locals::X.fs:=λ b hb=>by
 rcases I.ok.stk with e | ⟨e,hf⟩
 ·rw[e] at hb;exact aay _ hb
 ·rw[e] at hb;unfold BA at hb;rw[List.filterMap_cons,hf] at hb;exact hb
theorem Inv.stkFree (I:Inv X pins σ H s):∀ b∈BA X.stack,H b=none:=λ b hb=>by
 rcases abl.mp (I.stkSub b hb) with e | hb
 ·rw[e];exact I.free
 ·obtain⟨_,o,ho,_⟩:=I.ok.funs.mem hb;exact I.base.free b o ho (I.ok.frf b hb) λ z=>I.ok.exfs b z hb
theorem Inv.step {g':Array GenState}{t':Nat}{d':Drawn}{ch:List Addr} (I:Inv X pins σ H s)
  (hch:∀ b∈ch,(b∈X.ex\/X.s₀.heap.objs.size<=b)/\b≠X.env.locals/\(∀ x c,X.env.cells.lookup x=some c->c≠b)/\∀ p∈X.pn++pins,p.1≠b)
  (keep:∀ b o,b≠X.env.locals->b∉X.fs->b∉ch->s.heap.get? b=some o->H b=none->h'.get? b=some o)
  (slot:∀ b o,b≠X.env.locals->b∈X.fs->b∉ch->s.heap.get? b=some o->H b=none->∃ sl,h'.get? b=some { o with slots:=sl }) (free:∀ b o,b∉ch->s.heap.get? b=some o->H b=none->H' b=none)
  (there:∀ b o,b∉ch->s.heap.get? b=some o->∃ o',h'.get? b=some o')
  (tups:∀ b xs,H b=some (.tup xs)->H' b=some (.tup xs)) (frzs:∀ b o u,H b=some (.frz o u)->H' b=some (.frz o u)) (tbls:∀ b ps,H b=some (.tbl ps)->∃ more,H' b=some (.tbl (ps++more)))
  (ns:∀ m,s.heap.Ns X.env.locals m->h'.Ns X.env.locals m) (hok:lN X.prog X.w H' h') (hg:AllBare g') :
  Inv X pins σ H' { s with heap:=h',gens:=g',drawn:=d',toks:=t' }:=by
 have neL:∀ b o,X.s₀.heap.get? b=some o->b≠X.env.locals:=λ b o e=>abc (aat (aam e) I.ok.above);have neC:∀ b o,X.s₀.heap.get? b=some o->b∉X.ex->b∉ch:=λ b o e hx hb=>by
  rcases (hch b hb).1 with z | z
  ·exact hx z
  ·exact absurd (aat (aam e) z) (aby _)
 have cellK:∀ x c,X.env.cells.lookup x=some c->∀ v,s.heap.IsCell c v->h'.IsCell c v:=λ x c e v ⟨o,ho,hd⟩=>by
  have nch:c∉ch:=λ z=>(hch c z).2.2.1 x c e rfl
  by_cases hc:c∈X.fs
  ·obtain⟨sl,q⟩:=slot c o (I.cne x c e) hc nch ho (I.freeC x c e);exact⟨_,q,hd⟩
  ·exact⟨o,keep c o (I.cne x c e) hc nch ho (I.freeC x c e),hd⟩
 refine⟨I.ok,I.os,hg,⟨λ b o e n hb hx=>?_,λ b o e n hb hx=>?_,λ b o e n hx=>?_,λ b o e hx=>?_,λ b xs e=>tups b xs (I.base.tups b xs e),λ b o xs e=>frzs b o xs (I.base.frzs b o xs e),λ b ps e=>?_⟩,?_,λ x c e=>?_,?_,λ x c e=>?_,λ p hp=>?_,hok,I.len⟩
 ·exact keep b o (neL b o e) hb (neC b o e hx) (I.base.keep b o e n hb hx) (I.base.free b o e n hx)
 ·obtain⟨sl,e1⟩:=I.base.slot b o e n hb hx;obtain⟨sl',e2⟩:=slot b _ (neL b o e) hb (neC b o e hx) e1 (I.base.free b o e n hx);exact⟨sl',e2⟩
 ·obtain⟨o',e1⟩:=I.base.there b o e hx;exact free b o' (neC b o e hx) e1 (I.base.free b o e n hx)
 ·obtain⟨o',e1⟩:=I.base.there b o e hx;exact there b o' (neC b o e hx) e1
 ·obtain⟨m1,e1⟩:=I.base.tbls b ps e;obtain⟨m2,e2⟩:=tbls b _ e1;exact⟨m1++m2,by rw[e2,Array.append_assoc]⟩
 ·obtain⟨m,hn,hl⟩:=I.loc;refine⟨m,ns m hn,λ i x v e1 e2 e3=>?_⟩;obtain⟨u,r,l⟩:=hl i x v e1 e2 e3;refine⟨u,r,?_⟩;rcases l with l | ⟨k,c,e,z⟩
  ·exact .inl l
  ·exact .inr ⟨k,c,e,cellK x c e _ z⟩
 ·obtain⟨v,z⟩:=I.cell x c e;exact⟨v,cellK x c e v z⟩
 ·obtain⟨m,⟨o,_,_,ho,_⟩,_⟩:=I.loc;exact free _ o (λ z=>(hch _ z).2.1 rfl) ho I.free
 ·obtain⟨v,o,ho,hd⟩:=I.cell x c e;exact free c o (λ z=>(hch c z).2.2.1 x c e rfl) ho (I.freeC x c e)
 ·obtain⟨e,n,ne,nf,d⟩:=I.pin p hp;have nch:p.1∉ch:=λ z=>(hch p.1 z).2.2.2 p hp rfl;exact⟨keep p.1 p.2 ne nf nch e n,free p.1 p.2 nch e n,ne,nf,d⟩
theorem Inv.un {t':Nat} (I:Inv X pins σ H s) (u:Un X.fs [] H H' s.heap h') (hok:lN X.prog X.w H' h'):Inv X pins σ H' { s with heap:=h',toks:=t' }:=by
 obtain⟨m,⟨o,es,ep,ho,r⟩,_⟩:=id I.loc;obtain⟨sl,hL⟩:=u.any ho I.free (by simp);exact I.step (g':=s.gens) (d':=s.drawn) (ch:=[]) (λ _ z=>nomatch z) (λ b o _ hb _ e n=>u.keep b o e n hb (by simp)) (λ b o _ hb _ e n=>u.slot b o e n hb (by simp)) (λ b o _ e n=>u.free b o e n (by simp)) (λ b o _ e=>u.there b o e (by simp)) u.tups u.frzs u.tbls (λ m' hm=>by
  obtain⟨o',es',ep',ho',r'⟩:=hm;rw[ho] at ho';cases ho';exact⟨_,es',ep',hL,r'⟩) hok I.bare
theorem Inv.call {g':Array GenState}{t':Nat}{d':Drawn}{ch:List Addr} (I:Inv X pins σ H s) (u:Un (BA X.stack) ch H H' s.heap h') (hok:lN X.prog X.w H' h') (hg:AllBare g')
  (hch:∀ b∈ch,(b∈X.ex\/X.s₀.heap.objs.size<=b)/\b≠X.env.locals/\(∀ x c,X.env.cells.lookup x=some c->c≠b)/\∀ p∈X.pn++pins,p.1≠b) :
  Inv X pins σ H' { s with heap:=h',gens:=g',drawn:=d',toks:=t' }:=by
 obtain⟨m,⟨o,es,ep,ho,r⟩,_⟩:=id I.loc;obtain⟨sl,hL⟩:=u.any ho I.free λ z=>(hch _ z).2.1 rfl;exact I.step (ch:=ch) hch (λ b o hL hb hc e n=>u.keep b o e n (λ z=>(abl.mp (I.stkSub b z)).elim hL hb) hc) (λ b o _ _ hc e n=>u.any e n hc) (λ b o hc e n=>u.free b o e n hc) (λ b o hc e=>u.there b o e hc) u.tups u.frzs u.tbls (λ m' hm=>by
  obtain⟨o',es',ep',ho',r'⟩:=hm;rw[ho] at ho';cases ho';exact⟨_,es',ep',hL,r'⟩) hok hg
theorem Inv.turned {t':Nat}{it:Addr} (I:Inv X pins σ H s) (k:∀ b o,b≠it->s.heap.get? b=some o->h'.get? b=some o) (hn:H it=none) (hL:it≠X.env.locals)
  (h1:it∈X.ex\/X.s₀.heap.objs.size<=it) (h2:∀ x c,X.env.cells.lookup x=some c->c≠it) (h3:∀ p∈X.pn++pins,p.1≠it):Inv X pins σ H { s with heap:=h',toks:=t' }:=by
 have nit:∀ b u,H b=some u->b≠it:=λ b u e z=>by rw[z,hn] at e;cases e
 refine I.step (g':=s.gens) (d':=s.drawn) (ch:=[it]) (λ b hb=>?_) (λ b o _ _ hc e _=>k b o (λ z=>hc (by simp [z])) e) (λ b o _ _ hc e _=>⟨o.slots,k b o (λ z=>hc (by simp [z])) e⟩) (λ _ _ _ _ n=>n)
  (λ b o hc e=>⟨o,k b o (λ z=>hc (by simp [z])) e⟩) (λ _ _ e=>e) (λ _ _ _ e=>e) (λ b ps e=>⟨#[],by rw[e];simp⟩) (λ m hm=>?_) (λ b u e=>?_) I.bare
 ·have e:b=it:=by simpa using hb
  subst e;exact⟨h1,hL,h2,h3⟩
 ·obtain⟨o,es,ep,ho,r⟩:=hm;exact⟨o,es,ep,k _ o (Ne.symm hL) ho,r⟩
 ·refine (I.hok b u e).stay (λ c v hc q=>k c v ?_ q) (λ _ q=>q) λ _ _ q=>q;rcases hc with z | z
  ·rw[z];exact nit b u e
  ·exact nit c _ z
theorem Inv.tok (I:Inv X pins σ H s) (t:Nat):Inv X pins σ H { s with toks:=t }:=I.un (h':=s.heap) (t':=t) Un.refl I.hok
theorem Inv.kept {t':Nat} (I:Inv X pins σ H s) (k:∀ b u,s.heap.get? b=some u->h'.get? b=some u):Inv X pins σ H { s with heap:=h',toks:=t' }:=I.un (Un.kept k) (I.hok.kept k)
theorem Inv.laid {a:Addr}{o:HO}{t':Nat} (I:Inv X pins σ H s) (k:∀ b u,s.heap.get? b=some u->h'.get? b=some u) (hp:s.heap.objs.size<=a) (new:dG X.prog X.w (upd H a o) h' a o) :
  Inv X pins σ (upd H a o) { s with heap:=h',toks:=t' }:=I.un (Un.laid k hp (I.hok.fresh hp)) (I.hok.laid k hp new)
theorem Inv.write {x e:Addr}{o:HO}{t':Nat} (I:Inv X pins σ H s) (mu:t9 (H x)) (he:e=x\/H e=some (.own x)) (k:∀ b u,b≠e->s.heap.get? b=some u->h'.get? b=some u) (heo:∃ u,h'.get? e=some u)
  (new:dG X.prog X.w (upd H x o) h' x o):Inv X pins σ (upd H x o) { s with heap:=h',toks:=t' }:=I.un (Un.write mu he k heo) (I.hok.write mu he k heo new)
theorem Inv.pins_of {pins':List (Addr×Obj)} (I:Inv X pins σ H s) (h:∀ p∈pins',s.heap.get? p.1=some p.2/\H p.1=none/\p.1≠X.env.locals/\p.1∉X.fs/\∀ v,p.2.data≠.cell v):Inv X pins' σ H s:=
 ⟨I.ok,I.os,I.bare,I.base,I.loc,I.cell,I.free,I.freeC,λ p hp=>(abg.mp hp).elim (λ z=>I.pin p (List.mem_append_left _ z)) (h p),I.hok,I.len⟩
theorem tW {N:List Str} (hN:N.Nodup) {i j:Nat}{x:Str} (a:N[i]? = some x) (b:N[j]? = some x):i=j:=by
 obtain⟨h1,e1⟩:=aag.mp a;obtain⟨h2,e2⟩:=aag.mp b;exact (List.getElem_inj hN).mp (e1.trans e2.symm)
theorem mV {M:Model}{A:Around}{E:Value->Shared->Prop}{i:Nat}{x:Str}{v:V}{u:Value}{Q:Unit->Shared->Prop} (I:Inv X pins σ H s) (hN:X.N.Nodup) (hi:X.N[i]? = some x) (hx:E5 X.env.scope x) (r:bM v u)
  (h:∀ s',Inv X pins (σ.set i (some v)) H s'->(∃ a,Heap.SameBut a s.heap s'.heap/\(a=X.env.locals\/X.env.cells.lookup x=some a))->Q () s') (hf:X.fn x=true\/X.env.scope.names.lookup x=some .local:=by first | exact .inl rfl | exact .inr rfl | assumption):wpAny M A (storeName X.env x u) Q E s:=by
 obtain⟨m,hn,hl⟩:=id I.loc;have hcls:(X.env.scope.kind == .class || (X.env.scope.kind == .module && X.env.locals != X.env.globals))=false:=by rw[I.ok.kind];rfl
 have ed:i < σ.length:=by rw[I.len];exact (aag.mp hi).1
 have cne:=I.cne;have tracked:∀ {a:Addr}{h':Heap},(∃ o,s.heap.get? a=some o/\H a=none)->Heap.SameBut a s.heap h'->lN X.prog X.w H h':=λ {a h'} ha hs b ob e=>by
  obtain⟨_,_,hfree⟩:=ha;refine (I.hok b ob e).stay (λ c w' hc q=>(hs.2 c ?_).trans q) (λ _ q=>q) λ _ _ q=>q;rintro rfl;rcases hc with rfl | hc
  ·rw[hfree] at e;cases e
  ·rw[hfree] at hc;cases hc
 rcases hx with hk | hk
 ·refine wpAny_storeName_local hk hn (λ h' hn' hs=>?_) hcls;obtain⟨oL,_,_,hoL,_⟩:=id hn;refine h _ ⟨I.ok,I.os,I.bare,⟨λ b o e n hb hx=>?_,λ b o e n hb hx=>?_,I.base.free,λ b o e hx=>?_,I.base.tups,I.base.frzs,I.base.tbls⟩,⟨_,hn',λ j y v' e1 e2 e3=>?_⟩,λ y c e=>?_,I.free,I.freeC,λ p hp=>?_,tracked ⟨oL,hoL,I.free⟩ hs,by simpa using I.len⟩ ⟨_,hs,.inl rfl⟩
  ·exact (hs.2 b (abc (aat (aam e) I.ok.above))).trans (I.base.keep b o e n hb hx)
  ·obtain⟨sl,e1⟩:=I.base.slot b o e n hb hx;exact⟨sl,(hs.2 b (abc (aat (aam e) I.ok.above))).trans e1⟩
  ·obtain⟨o',e1⟩:=I.base.there b o e hx;exact⟨o',(hs.2 b (abc (aat (aam e) I.ok.above))).trans e1⟩
  ·by_cases hj:j=i
   ·subst hj;rw[hi] at e1;cases e1;rw[acl ed] at e2;cases e2;exact⟨u,r,.inl ⟨hk,by simp⟩⟩
   ·rw[acp (Ne.symm hj)] at e2;obtain⟨u',r',q⟩:=hl j y v' e1 e2 e3;refine⟨u',r',?_⟩;rcases q with ⟨k,e⟩ | ⟨k,c,e,z⟩
    ·refine .inl ⟨k,?_⟩;have:y≠x:=λ e=>hj (tW hN e1 (e ▸ hi));simp [this,e]
    ·exact .inr ⟨k,c,e,z.sameBut hs (cne y c e)⟩
  ·obtain⟨w',z⟩:=I.cell y c e;exact⟨w',z.sameBut hs (cne y c e)⟩
  ·obtain⟨e,n,ne,nf,d⟩:=I.pin p hp;exact⟨(hs.2 p.1 ne).trans e,n,ne,nf,d⟩
 ·have hfn:X.fn x=true:=by
   rcases hf with z | z
   ·exact z
   ·rw[z] at hk;cases hk
  obtain⟨c,hc⟩:=I.ok.has x (.inl hk);obtain⟨w',z⟩:=I.cell x c hc;refine wpAny_storeName_cell I.ok.kind hk hc z (λ h' hc' hs=>?_);obtain⟨oc,hoc,hocd⟩:=id z;refine h { s with heap:=h' } ⟨I.ok,I.os,I.bare,⟨λ b o e n hb hx=>?_,λ b o e n hb hx=>?_,I.base.free,λ b o e hx=>?_,I.base.tups,I.base.frzs,I.base.tbls⟩,⟨m,hn.sameBut hs (Ne.symm (cne x c hc)),λ j y v' e1 e2 e3=>?_⟩,λ y c' e=>?_,I.free,I.freeC,λ p hp=>?_,tracked ⟨oc,hoc,I.freeC x c hc⟩ hs,by simpa using I.len⟩ ⟨c,hs,.inr hc⟩
  ·exact (hs.2 b (abc (aat (aam e) (I.ok.cab x c hfn hc)))).trans (I.base.keep b o e n hb hx)
  ·obtain⟨sl,e1⟩:=I.base.slot b o e n hb hx;exact⟨sl,(hs.2 b (abc (aat (aam e) (I.ok.cab x c hfn hc)))).trans e1⟩
  ·obtain⟨o',e1⟩:=I.base.there b o e hx;exact⟨o',(hs.2 b (abc (aat (aam e) (I.ok.cab x c hfn hc)))).trans e1⟩
  ·by_cases hj:j=i
   ·subst hj;rw[hi] at e1;cases e1;rw[acl ed] at e2;cases e2;exact⟨u,r,.inr ⟨.inl hk,c,hc,hc'⟩⟩
   ·rw[acp (Ne.symm hj)] at e2;obtain⟨u',r',q⟩:=hl j y v' e1 e2 e3;refine⟨u',r',?_⟩;rcases q with q | ⟨k,c',e,z'⟩
    ·exact .inl q
    ·refine .inr ⟨k,c',e,z'.sameBut hs ?_⟩;rintro rfl;exact hj (tW hN e1 (I.ok.inj _ _ _ e hc ▸ hi))
  ·by_cases hcc:c'=c
   ·subst hcc;exact⟨_,hc'⟩
   ·obtain⟨w2,z2⟩:=I.cell y c' e;exact⟨w2,z2.sameBut hs hcc⟩
  ·obtain⟨e,n,ne,nf,d⟩:=I.pin p hp;refine⟨(hs.2 p.1 ?_).trans e,n,ne,nf,d⟩;intro q;rw[q,hoc] at e;have q':oc=p.2:=abn e;exact d w' (by rw[<- q'];exact hocd)
theorem oU {M:Model}{A:Around}{E:Value->Shared->Prop}{i:Nat}{x:Str}{v:V}{u:Value}{Q:Unit->Shared->Prop} (I:Inv X pins σ H s) (hN:X.N.Nodup) (hi:X.N[i]? = some x) (hx:E5 X.env.scope x) (r:bM v u)
  (h:∀ s',Inv X pins (σ.set i (some v)) H s'->Q () s') (hf:X.fn x=true\/X.env.scope.names.lookup x=some .local:=by first | exact .inl rfl | exact .inr rfl | assumption):wpAny M A (storeName X.env x u) Q E s:=
 mV I hN hi hx r (λ s' I' _=>h s' I') hf
theorem Inv.call' {s':Shared}{ch:List Addr} (I:Inv X pins σ H s) (ho:s'.os=s.os) (u:Un (BA X.stack) ch H H' s.heap s'.heap) (hok:lN X.prog X.w H' s'.heap) (hg:AllBare s'.gens)
  (hch:∀ b∈ch,(b∈X.ex\/X.s₀.heap.objs.size<=b)/\b≠X.env.locals/\(∀ x c,X.env.cells.lookup x=some c->c≠b)/\∀ p∈X.pn++pins,p.1≠b):Inv X pins σ H' s':=by
 obtain⟨h',g',d',t',o'⟩:=s';have e:o'=s.os:=ho;subst e;exact I.call (g':=g') (t':=t') (d':=d') u hok hg hch
end
abbrev XK:=Value->Option Addr->Hp->Prop
abbrev St:=List (Option V)
abbrev VK:=V->Hp->Prop
abbrev TE:=St->Hp->VK->Prop
abbrev TT:=St->Hp->(Bool->Hp->Prop)->Prop
abbrev TA:=St->Hp->(List V->Hp->Prop)->Prop
structure Ends where
 nx:St->Hp->Prop
 rt:VK
 bk:St->Hp->Prop:=λ _ _=>False
 ct:St->Hp->Prop:=λ _ _=>False
abbrev TS:=Ends->St->Hp->Prop
def EP (X:Cx) (pins:List (Addr×Obj)) (σ:St) (Q:VK) (u:Value) (s':Shared):Prop:=∃ v H',Inv X pins σ H' s'/\bM v u/\Q v H'
def TP (X:Cx) (pins:List (Addr×Obj)) (σ:St) (Q:Bool->Hp->Prop) (b:Bool) (s':Shared):Prop:=∃ H',Inv X pins σ H' s'/\Q b H'
def AP (X:Cx) (pins:List (Addr×Obj)) (σ:St) (Q:List V->Hp->Prop) (us:List Value) (s':Shared):Prop:=∃ vs H',Inv X pins σ H' s'/\bL vs us/\Q vs H'
def SP (X:Cx) (pins:List (Addr×Obj)) (D:Ends) (f:Flow) (s':Shared):Prop:=
 match f with
 | .next=>∃ Z H',Inv X pins Z H' s'/\D.nx Z H'
 | .brk=>∃ Z H',Inv X pins Z H' s'/\D.bk Z H'
 | .cont=>∃ Z H',Inv X pins Z H' s'/\D.ct Z H'
 | .ret u=>∃ v Z H',Inv X pins Z H' s'/\bM v u/\D.rt v H'
def PE (X:Cx) (e:Expr) (t:TE):Prop:=
 ∀ (pins:List (Addr×Obj)) (s:Shared) (σ:St) (H:Hp) (Q:VK),Inv X pins σ H s->t σ H Q->wpAny (model X.prog X.w) X.A (eval e X.env) (EP X pins σ Q) X.xe s
def PT (X:Cx) (e:Expr) (t:TT):Prop:=
 ∀ (pins:List (Addr×Obj)) (s:Shared) (σ:St) (H:Hp) (Q:Bool->Hp->Prop),Inv X pins σ H s->t σ H Q->wpAny (model X.prog X.w) X.A (isTrue e X.env (eval e X.env)) (TP X pins σ Q) X.xe s
def PW (X:Cx) (e:Expr) (t:TT):Prop:=
 ∀ (whole:Sem Value) (pins:List (Addr×Obj)) (s:Shared) (σ:St) (H:Hp) (Q:Bool->Hp->Prop),Inv X pins σ H s->t σ H Q->wpAny (model X.prog X.w) X.A (isTrue e X.env whole) (TP X pins σ Q) X.xe s
theorem PW.pt {X:Cx}{e:Expr}{t:TT} (h:PW X e t):PT X e t:=h _
def PA (X:Cx) (es:List Expr) (t:TA):Prop:=
 ∀ (pos:Pos) (pins:List (Addr×Obj)) (s:Shared) (σ:St) (H:Hp) (Q:List V->Hp->Prop),Inv X pins σ H s->t σ H Q->wpAny (model X.prog X.w) X.A (spliced (backTo pos (starEach es X.env))) (AP X pins σ Q) X.xe s
def PS (X:Cx) (st:Stmt) (t:TS):Prop:=
 ∀ (pins:List (Addr×Obj)) (s:Shared) (σ:St) (H:Hp) (D:Ends),Inv X pins σ H s->t D σ H->wpAny (model X.prog X.w) X.A (exec st X.env) (SP X pins D) X.xe s
def zF (X:Cx) (st:List Stmt) (t:TS):Prop:=
 ∀ (pins:List (Addr×Obj)) (s:Shared) (σ:St) (H:Hp) (D:Ends),Inv X pins σ H s->t D σ H->wpAny (model X.prog X.w) X.A (execs st X.env) (SP X pins D) X.xe s
theorem d5 {au:Type}{t:Sem au}{Q Q':au->Shared->Prop}{M:Model}{A:Around}{E:Value->Shared->Prop}{s:Shared} (h:wpAny M A t Q E s) (hQ:∀ a s,Q a s->Q' a s):wpAny M A t Q' E s:=abv h hQ λ _ _ x=>x
section
variable {X:Cx}
def aZ (i:Nat):TE:=λ σ H Q=>∃ v,σ[i]? = some (some v)/\Q v H
def tC (v:V):TE:=λ _ H Q=>Q v H
theorem ER {i:Nat}{x:Str}{pos:Pos} (hN:X.N[i]? = some x) (hv:Vis X.env.scope x) (hd:(x == ("__debug__" : Str))=false:=by decide) (hcd:(x == ("__classdict__" : Str))=false:=by decide):PE X (.Name x pos) (aZ i):=by
 intro pins s σ H Q I h;obtain⟨v,e,h⟩:=h;obtain⟨m,hn,hl⟩:=I.loc;obtain⟨u,r,l⟩:=hl i x v hN e hv;have fin:EP X pins σ Q u s:=⟨v,H,I,r,h⟩;rcases l with ⟨hk,hm⟩ | ⟨hk,c,hc,hcell⟩
 ·exact wpAny_Name (wpAny_loadName_local I.ok.kind hk hn hm fin) hd
 ·rcases hk with hk | hk
  ·exact wpAny_Name (wpAny_loadName_cell I.ok.kind hk hc hcell fin) hd
  ·exact wpAny_Name (wpAny_loadName_free I.ok.kind hk hc hcell fin hcd) hd
theorem aE {i j pos}:PE X (.Constant (.int i) j pos) (tC (.int i)):=λ _ _ _ H _ I h=>wpAny_Constant_int ⟨.int i,H,I.tok _,⟨_,rfl⟩,h⟩
theorem fR {b j pos}:PE X (.Constant (.bool b) j pos) (tC (.bl b)):=λ _ _ _ H _ I h=>Constant_bool ⟨.bl b,H,I,rfl,h⟩
theorem dO {j pos}:PE X (.Constant .none j pos) (tC .non):=λ _ _ _ H _ I h=>Constant_none ⟨.non,H,I,rfl,h⟩
theorem cI {x j pos}:PE X (.Constant (.str x) j pos) (tC (.str x)):=λ _ _ _ H _ I h=>Calls.Constant_str ⟨.str x,H,I.tok _,⟨_,rfl⟩,h⟩
def Gl (X:Cx) (x:Str):Prop:=X.env.kindOf x=some .globalImplicit
theorem x8 {E:Value->Shared->Prop}{pins:List (Addr×Obj)}{s:Shared}{σ:St}{H:Hp}{x:Str}{u:Value}{pos:Pos}{Q:Value->Shared->Prop} (I:Inv X pins σ H s) (hg:Gl X x) (hm:X.mg x=some u) (h:Q u s)
  (hd:(x == ("__debug__" : Str))=false:=by decide):wpAny (model X.prog X.w) X.A (eval (.Name x pos) X.env) Q E s:=
 Calls.Name_function_global I.ok.kind hg (Calls.loadGlobal_global (by rw[I.ok.glob];exact I.mod.glob.keeps I.bk) hm h) hd
theorem lF {E:Value->Shared->Prop}{pins:List (Addr×Obj)}{s:Shared}{σ:St}{H:Hp}{x:Str}{u:Value}{pos:Pos}{Q:Value->Shared->Prop} (I:Inv X pins σ H s) (hg:Gl X x) (hm:X.mg x=none) (hv:bootBuiltins x=some u) (h:Q u s)
  (hn:x ≠ "__name__" := by decide) (hd:(x == ("__debug__" : Str))=false:=by decide):wpAny (model X.prog X.w) X.A (eval (.Name x pos) X.env) Q E s:=by
 obtain⟨mb,h1,h2⟩:=I.mod.blt;exact Calls.Name_function_global I.ok.kind hg (Calls.loadGlobal_builtin (by rw[I.ok.glob];exact I.mod.glob.keeps I.bk) hm (by rw[I.ok.blt];exact h1.keeps I.bk) ((h2 x hn).trans hv) h) hd
theorem CQ {x:Str}{v:V}{u:Value}{pos:Pos} (hg:Gl X x) (hm:X.mg x=some u) (r:bM v u) (hd:(x == ("__debug__" : Str))=false:=by decide):PE X (.Name x pos) (tC v):=
 λ _ _ _ H _ I h=>x8 I hg hm ⟨v,H,I,r,h⟩ hd
theorem g8 {x:Str}{v:V}{u:Value}{pos:Pos} (hg:Gl X x) (hm:X.mg x=none) (hv:bootBuiltins x=some u) (r:bM v u) (hn:x ≠ "__name__" := by decide) (hd:(x == ("__debug__" : Str))=false:=by decide):PE X (.Name x pos) (tC v):=
 λ _ _ _ H _ I h=>lF I hg hm hv ⟨v,H,I,r,h⟩ hn hd
variable {a b:Expr}{ta tb:TE}{pos:Pos}
def tB (t:TE):TT:=λ σ H Q=>t σ H λ x H1=>∃ c,x=.bl c/\Q c H1
theorem dF {e:Expr}{t:TE} (h:PE X e t) (he:∀ whole,isTrue e X.env whole=(do let v <- whole;standAt e.pos;holding [v] (truthy v)):=by intro _;rfl):PT X e (tB t):=by
 intro pins s σ H Q I hw;refine isTrue_plain (d5 (h pins s σ H _ I hw) λ v s1 ⟨x,H1,I1,r1,q1⟩=>?_) (he _);obtain⟨d,rfl,q⟩:=q1;cases r1;exact wpAny_truthy_bool ⟨H1,I1,q⟩
variable {tA tB':TT}{rest:List Expr}
def GF (t u:TT):TT:=λ σ H Q=>t σ H λ c H1=>if c=true then u σ H1 Q else Q false H1
def tOr (t u:TT):TT:=λ σ H Q=>t σ H λ c H1=>if c=true then Q true H1 else u σ H1 Q
def tNot (t:TT):TT:=λ σ H Q=>t σ H λ c H1=>Q (!c) H1
theorem oF (ha:PT X a tA):PW X (.BoolOp .And [a] pos) tA:=by
 intro wh pins s σ H Q I h;refine isTrue_and (d5 (ha pins s σ H Q I h) λ c s1 e=>?_);cases c with
 | true=>exact isTrue_and_nil e
 | false=>exact e
theorem lA (ha:PT X a tA):PW X (.BoolOp .Or [a] pos) tA:=by
 intro wh pins s σ H Q I h;refine isTrue_or (d5 (ha pins s σ H Q I h) λ c s1 e=>?_);cases c with
 | false=>exact isTrue_or_nil e
 | true=>exact e
theorem sB (ha:PT X a tA) (hb:PW X (.BoolOp .And (b::rest) pos) tB'):PW X (.BoolOp .And (a::b::rest) pos) (GF tA tB'):=by
 intro wh pins s σ H Q I h;refine isTrue_and (d5 (ha pins s σ H _ I h) λ c s1 ⟨H1,I1,q1⟩=>?_);cases c with
 | true=>exact hb wh pins s1 σ H1 Q I1 q1
 | false=>exact⟨H1,I1,q1⟩
theorem m7 (ha:PT X a tA) (hb:PW X (.BoolOp .Or (b::rest) pos) tB'):PW X (.BoolOp .Or (a::b::rest) pos) (tOr tA tB'):=by
 intro wh pins s σ H Q I h;refine isTrue_or (d5 (ha pins s σ H _ I h) λ c s1 ⟨H1,I1,q1⟩=>?_);cases c with
 | true=>exact⟨H1,I1,q1⟩
 | false=>exact hb wh pins s1 σ H1 Q I1 q1
theorem gJ (ha:PT X a tA):PT X (.UnaryOp .Not a pos) (tNot tA):=by
 intro pins s σ H Q I h;exact isTrue_not (ha pins s σ H (λ c H1=>Q (!c) H1) I h)
def GE (ta tb:TE):TE:=λ σ H Q=>ta σ H λ x H1=>∃ c,x=.bl c/\if c=true then tb σ H1 Q else Q (.bl false) H1
def tOrV (ta tb:TE):TE:=λ σ H Q=>ta σ H λ x H1=>∃ c,x=.bl c/\if c=true then Q (.bl true) H1 else tb σ H1 Q
def DH (ta:TE):TE:=λ σ H Q=>ta σ H λ x H1=>∃ c,x=.bl c/\Q (.bl (!c)) H1
theorem jH {op}{t:TE} (h:PE X a t):PE X (.BoolOp op [a] pos) t:=λ pins s σ H Q I hw=>BoolOp_one (h pins s σ H Q I hw)
theorem gK (ha:PE X a ta) (hb:PE X (.BoolOp .And (b::rest) pos) tb):PE X (.BoolOp .And (a::b::rest) pos) (GE ta tb):=by
 intro pins s σ H Q I h;refine BoolOp_and (d5 (ha pins s σ H _ I h) λ v s1 ⟨x,H1,I1,r1,q1⟩=>?_);obtain⟨c,rfl,q1⟩:=q1;cases r1;refine wpAny_truthy_bool ?_;cases c with
 | true=>exact hb pins s1 σ H1 Q I1 q1
 | false=>exact⟨.bl false,H1,I1,rfl,q1⟩
theorem GP (ha:PE X a ta) (hb:PE X (.BoolOp .Or (b::rest) pos) tb):PE X (.BoolOp .Or (a::b::rest) pos) (tOrV ta tb):=by
 intro pins s σ H Q I h;refine BoolOp_or (d5 (ha pins s σ H _ I h) λ v s1 ⟨x,H1,I1,r1,q1⟩=>?_);obtain⟨c,rfl,q1⟩:=q1;cases r1;refine wpAny_truthy_bool ?_;cases c with
 | false=>exact hb pins s1 σ H1 Q I1 q1
 | true=>exact⟨.bl true,H1,I1,rfl,q1⟩
theorem pG (ha:PE X a ta):PE X (.UnaryOp .Not a pos) (DH ta):=by
 intro pins s σ H Q I h;refine UnaryOp_ (d5 (ha pins s σ H _ I h) λ v s1 ⟨x,H1,I1,r1,q1⟩=>?_);obtain⟨c,rfl,q1⟩:=q1;cases r1;exact not_of (wpAny_truthy_bool ⟨.bl (!c),H1,I1,rfl,q1⟩)
def tIf (t:TT) (ta tb:TE):TE:=λ σ H Q=>t σ H λ c H1=>if c=true then ta σ H1 Q else tb σ H1 Q
theorem A7 {c:Expr} (hc:PT X c tA) (ha:PE X a ta) (hb:PE X b tb):PE X (.IfExp c a b pos) (tIf tA ta tb):=by
 intro pins s σ H Q I h;refine wpAny_IfExp (d5 (hc pins s σ H _ I h) λ d s1 ⟨H1,I1,q1⟩=>?_);cases d with
 | true=>exact ha pins s1 σ H1 Q I1 q1
 | false=>exact hb pins s1 σ H1 Q I1 q1
end
def bV (K:aaa) (H:Hp) (a:Addr) (xs:List V):Prop:=
 Rd H a (.lst xs)\/
  ∃ (o:Obj) (its:Array Value) (n:Nat),K.lookup a=some o/\o.cls=.type "list" /\ o.dict=none/\o.data=.seq its n/\its.size<=sizeLine/\bL xs its.toList
def bH (K:aaa) (H:Hp) (a:Addr) (xs:List V):Prop:=
 Rd H a (.tup xs)\/
  ∃ (o:Obj) (its:Array Value) (n:Nat),K.lookup a=some o/\o.cls=.type "tuple" /\ o.data=.seq its n/\its.size<=sizeLine/\bL xs its.toList
def absV:Value->Option V
 | .none=>some .non
 | .bool b=>some (.bl b)
 | .int i _=>some (.int i)
 | .str x _=>some (.str x)
 | .bytes b _=>some (.byt b)
 | .float b _=>some (.flt b)
 | .ref a=>some (.ref a)
 | .type n=>some (.ty n)
 | _=>none
theorem bM.abs {x:V}{u:Value} (r:bM x u):absV u=some x:=by
 cases x with
 | non=>cases r;rfl
 | bl _=>cases r;rfl
 | int _=>obtain⟨t,rfl⟩:=r;rfl
 | str _=>obtain⟨t,rfl⟩:=r;rfl
 | byt _=>obtain⟨t,rfl⟩:=r;rfl
 | flt _=>obtain⟨t,rfl⟩:=r;rfl
 | ref _=>cases r;rfl
 | ty _=>cases r;rfl
theorem bM.inj {x y:V}{u:Value} (r:bM x u) (q:bM y u):x=y:=abn (r.abs.symm.trans q.abs)
theorem bL.inj:∀ {xs ys:List V}{us:List Value},bL xs us->bL ys us->xs=ys
 | _,_,_,.nil,.nil=>rfl
 | _,_,_,.cons r t,.cons r' t'=>by rw[r.inj r',bL.inj t t']
section
variable {X:Cx}{pins:List (Addr×Obj)}{σ:St}{H:Hp}{s:Shared}{a:Addr}{xs ys:List V}
theorem bV.of {K:aaa} (h:H a=some (.lst xs)):bV K H a xs:=.inl (.inl h)
theorem bH.of {K:aaa} (h:H a=some (.tup xs)):bH K H a xs:=.inl (.inl h)
theorem Inv.list (I:Inv X pins σ H s) (h:bV X.K H a xs):∃ its:List Value,bL xs its/\PlainL s.heap a its.toArray/\xs.length<=sizeLine:=by
 rcases h with h | ⟨o,its,n,hk,hc,hd,hs,hz,r⟩
 ·obtain⟨z,its,n,r,e⟩:=h.ok I.hok;exact⟨its,r,⟨_,n,e,rfl,rfl,rfl⟩,z⟩
 ·refine⟨its.toList,r,⟨o,n,I.kIn a o hk,hc,hd,by simpa using hs⟩,?_⟩;have e:=r.length;simp only [Array.length_toList] at e;omega
theorem Inv.tuple (I:Inv X pins σ H s) (h:bH X.K H a xs):∃ its:List Value,bL xs its/\IsTup s.heap a its.toArray/\xs.length<=sizeLine:=by
 rcases h with h | ⟨o,its,n,hk,hc,hs,hz,r⟩
 ·obtain⟨z,its,r,p⟩:=h.ok I.hok;exact⟨its,r,p,z⟩
 ·refine⟨its.toList,r,⟨o,I.kIn a o hk,hc,n,by simpa using hs⟩,?_⟩;have e:=r.length;simp only [Array.length_toList] at e;omega
theorem Inv.list_inj (I:Inv X pins σ H s) (h:bV X.K H a xs) (h':bV X.K H a ys):xs=ys:=by
 obtain⟨its,r,⟨o,n,e,_,_,d⟩,_⟩:=I.list h;obtain⟨its',r',⟨o',n',e',_,_,d'⟩,_⟩:=I.list h';rw[e] at e';cases e';rw[d] at d';injection d' with d1 _;have:its=its':=by simpa using congrArg Array.toList d1
 subst this;exact r.inj r'
theorem Inv.tuple_inj (I:Inv X pins σ H s) (h:bH X.K H a xs) (h':bH X.K H a ys):xs=ys:=by
 obtain⟨its,r,⟨o,e,_,n,d⟩,_⟩:=I.tuple h;obtain⟨its',r',⟨o',e',_,n',d'⟩,_⟩:=I.tuple h';rw[e] at e';cases e';rw[d] at d';injection d' with d1 _;have:its=its':=by simpa using congrArg Array.toList d1
 subst this;exact r.inj r'
end
abbrev Cx.wish (X:Cx) (E:Value->Shared->Prop):Cx:={ X with xe:=E }
abbrev Cx.nox (X:Cx):Cx:=X.wish λ _ _=>False
theorem Cx.Ok.wish {X:Cx} (ok:X.Ok) (E:Value->Shared->Prop):(X.wish E).Ok:=
 ⟨ok.mod,ok.kind,ok.glob,ok.blt,ok.above,ok.inj,ok.has,ok.cab,ok.hd,ok.frames,ok.stk,ok.exf,ok.bs,ok.bsz,ok.noex,ok.exfs,ok.funs,ok.frf⟩
theorem Cx.Ok.unwish {X:Cx}{E:Value->Shared->Prop} (ok:(X.wish E).Ok):X.Ok:=
 ⟨ok.mod,ok.kind,ok.glob,ok.blt,ok.above,ok.inj,ok.has,ok.cab,ok.hd,ok.frames,ok.stk,ok.exf,ok.bs,ok.bsz,ok.noex,ok.exfs,ok.funs,ok.frf⟩
section
variable {X:Cx}{pins:List (Addr×Obj)}{σ:St}{H:Hp}{s:Shared}{E:Value->Shared->Prop}
theorem Inv.wish (I:Inv X pins σ H s) (E:Value->Shared->Prop):Inv (X.wish E) pins σ H s:=⟨I.ok.wish E,I.os,I.bare,I.base,I.loc,I.cell,I.free,I.freeC,I.pin,I.hok,I.len⟩
theorem Inv.unwish (I:Inv (X.wish E) pins σ H s):Inv X pins σ H s:=⟨I.ok.unwish,I.os,I.bare,I.base,I.loc,I.cell,I.free,I.freeC,I.pin,I.hok,I.len⟩
theorem SP.unwish {D:Ends}{f:Flow}{s':Shared} (h:SP (X.wish E) pins D f s'):SP X pins D f s':=by
 cases f with
 | next=>obtain⟨Z,H',I,q⟩:=h;exact⟨Z,H',I.unwish,q⟩
 | brk=>obtain⟨Z,H',I,q⟩:=h;exact⟨Z,H',I.unwish,q⟩
 | cont=>obtain⟨Z,H',I,q⟩:=h;exact⟨Z,H',I.unwish,q⟩
 | ret u=>obtain⟨v,Z,H',I,r,q⟩:=h;exact⟨v,Z,H',I.unwish,r,q⟩
theorem zF.nox {st:List Stmt}{t:TS} (h:zF X.nox st t):zF X st t:=λ pins s σ H D I hw=>
 abv (h pins s σ H D (I.wish _) hw) (λ _ _ q=>q.unwish) λ _ _ z=>False.elim z
end
section
variable {X:Cx}{st:Stmt}{rest:List Stmt}{t u:TS}{e:Expr}{te:TE}{pos:Pos}
def j7:TS:=λ D σ H=>D.nx σ H
def fA (t u:TS):TS:=λ D σ H=>t { D with nx:=u D } σ H
theorem bK:zF X [] j7:=λ _ _ σ H _ I h=>wpAny_execs_nil ⟨σ,H,I,h⟩
theorem aF (h1:PS X st t) (h2:zF X rest u):zF X (st::rest) (fA t u):=by
 intro pins s σ H D I h;refine wpAny_execs_cons (d5 (h1 pins s σ H { D with nx:=u D } I h) λ f s1 q=>?_);cases f with
 | next=>
  obtain⟨Z,H',I',q⟩:=q;exact h2 pins s1 Z H' D I' q
 | ret v=>exact q
 | brk=>exact q
 | cont=>exact q
theorem aJ (h1:PS X st t):zF X [st] t:=by
 intro pins s σ H D I h;refine wpAny_execs_cons (d5 (h1 pins s σ H D I h) λ f s1 q=>?_);cases f with
 | next=>exact wpAny_execs_nil q
 | ret v=>exact q
 | brk=>exact q
 | cont=>exact q
theorem Inv.quiet {pins:List (Addr×Obj)}{σ:St}{H:Hp}{s:Shared} (I:Inv X pins σ H s):interactive X.env=false:=by simp [interactive,I.ok.kind]
def zT (te:TE):TS:=λ D σ H=>te σ H λ _ H1=>D.nx σ H1
theorem cV (he:PE X e te) (hs:swapsWith e none pos.line X.env=pure false:=by rfl):PS X (.Expr e pos) (zT te):=by
 intro pins s σ H D I h;exact wpAny_Expr_any (d5 (he pins s σ H _ I h) λ v s1 ⟨x,H1,I1,r1,q1⟩=>⟨σ,H1,I1,q1⟩) I.quiet hs
def CC (te:TE):TS:=λ D σ H=>te σ H D.rt
theorem aY (he:PE X e te):PS X (.Return (some e) pos) (CC te):=by
 intro pins s σ H D I h;exact wpAny_Return_some (d5 (he pins s σ H _ I h) λ v s1 ⟨x,H1,I1,r1,q1⟩=>⟨x,σ,H1,I1,r1,q1⟩)
def y8 (c:TT) (t u:TS):TS:=λ D σ H=>c σ H λ b H1=>if b=true then t D σ H1 else u D σ H1
theorem cQ {c:Expr}{a b:List Stmt}{tc:TT} (hc:PT X c tc) (ha:zF X a t) (hb:zF X b u):PS X (.If c a b pos) (y8 tc t u):=by
 intro pins s σ H D I h;refine wpAny_If (d5 (hc pins s σ H _ I h) λ d s1 ⟨H1,I1,q1⟩=>?_);cases d with
 | true=>exact ha pins s1 σ H1 D I1 q1
 | false=>exact hb pins s1 σ H1 D I1 q1
end
abbrev TG:=V->St->Hp->(St->Hp->Prop)->Prop
abbrev BQ:=List V->St->Hp->(St->Hp->Prop)->Prop
def PG (X:Cx) (target:Expr) (t:TG):Prop:=
 ∀ (pins:List (Addr×Obj)) (s:Shared) (σ:St) (H:Hp) (v:V) (u:Value) (Q:St->Hp->Prop),Inv X pins σ H s->bM v u->t v σ H Q->
  wpAny (model X.prog X.w) X.A (assign target X.env u) (λ _ s'=>∃ Z H',Inv X pins Z H' s'/\Q Z H') X.xe s
def FV (X:Cx) (ts:List Expr) (t:BQ):Prop:=
 ∀ (pins:List (Addr×Obj)) (s:Shared) (σ:St) (H:Hp) (vs:List V) (us:List Value) (Q:St->Hp->Prop),Inv X pins σ H s->bL vs us->t vs σ H Q->
  wpAny (model X.prog X.w) X.A (assignInOrder ((assignEach ts X.env).map (·.2)) us) (λ _ s'=>∃ Z H',Inv X pins Z H' s'/\Q Z H') X.xe s
abbrev BP:=V->V->V->Hp->(Hp->Prop)->Prop
def FU (X:Cx) (t:BP):Prop:=
 ∀ (pins:List (Addr×Obj)) (s:Shared) (σ:St) (H:Hp) (o i v:V) (ov iv u:Value) (Q:Hp->Prop),Inv X pins σ H s->bM o ov->bM i iv->bM v u->t o i v H Q->
  wpAny (model X.prog X.w) X.A (setItem ov iv u) (λ _ s'=>∃ H',Inv X pins σ H' s'/\Q H') X.xe s
abbrev G4:=V->V->Hp->VK->Prop
def PIp (X:Cx) (op:Operator) (t:G4):Prop:=
 ∀ (pins:List (Addr×Obj)) (s:Shared) (σ:St) (H:Hp) (x y:V) (v u:Value) (Q:VK),Inv X pins σ H s->bM x v->bM y u->t x y H Q->
  wpAny (model X.prog X.w) X.A (inplaceOp op v u) (EP X pins σ Q) X.xe s
section
variable {X:Cx}{pos:Pos}
def cB (i:Nat):TG:=λ v σ H Q=>Q (σ.set i (some v)) H
theorem iJ {i:Nat}{x:Str} (hN:X.N.Nodup) (hi:X.N[i]? = some x) (hx:E5 X.env.scope x) (hf:X.fn x=true\/X.env.scope.names.lookup x=some .local:=by first | exact .inl rfl | exact .inr rfl | assumption):PG X (.Name x pos) (cB i):=by
 intro pins s σ H v u Q I r h;exact wpAny_assign_Name (oU I hN hi hx r (λ s' I'=>⟨_,H,I',h⟩) hf)
def HD:BQ:=λ vs σ H Q=>vs=[]/\Q σ H
def B9 (t:TG) (u:BQ):BQ:=λ vs σ H Q=>∃ v r,vs=v::r/\t v σ H λ Z H'=>u r Z H' Q
theorem bA:FV X [] HD:=by
 intro pins s σ H vs us Q I r h;obtain⟨e,h⟩:=h;subst e;cases r;exact assignInOrder_nil ⟨σ,H,I,h⟩
theorem aH {e:Expr}{es:List Expr}{t:TG}{u:BQ} (h1:PG X e t) (h2:FV X es u)
  (hs:(assignEach (e::es) X.env).map (·.2)=assign e X.env::(assignEach es X.env).map (·.2):=by rfl):FV X (e::es) (B9 t u):=by
 intro pins s σ H vs us Q I r h;obtain⟨v,vr,e1,h⟩:=h;subst e1;cases r with
 | cons r rr=>
  rw[hs];refine assignInOrder_cons (d5 (h1 pins s σ H _ _ _ I r h) λ _ s1 ⟨σ1,H1,I1,q1⟩=>?_);exact h2 pins s1 σ1 H1 _ _ Q I1 rr q1
def FM (K:aaa) (n:Nat) (t:BQ):TG:=λ v σ H Q=>∃ a xs,v=.ref a/\bH K H a xs/\xs.length=n/\t xs σ H Q
theorem EO {es:List Expr}{k:Nat}{t:BQ}{n:Nat} (hc:X.calm=true) (h:FV X es t)
  (hn:(assignEach es X.env).length=n:=by rfl) (hst:(assignEach es X.env).findIdx? (·.1)=none:=by rfl):PG X (.Tuple es k pos) (FM X.K n t):=by
 intro pins s σ H v u Q I r hw;obtain⟨a,xs,e1,hq,hl,hw⟩:=hw;subst e1;cases r;obtain⟨its,rv,ht,hz⟩:=I.tuple hq;refine assign_Tuple_tuple (I.ok.hd hc) ht (by simp [hn,<- hl,rv.length]) hst λ h' hx=>?_;have I1:Inv X pins σ H { s with heap:=h' }:=I.kept (t':=s.toks) λ b o e=>hx b o (abc (aam e)) e;exact h pins _ σ H xs _ Q I1 (by simpa using rv) hw
def B8 (to ti:TE) (t:BP):TG:=λ v σ H Q=>to σ H λ o H1=>ti σ H1 λ i H2=>t o i v H2 λ H3=>Q σ H3
theorem nA {o i:Expr}{to ti:TE}{t:BP} (ho:PE X o to) (hi:PE X i ti) (hs:FU X t)
  (ha:∀ v,assign (.Subscript o i pos) X.env v=(do
   let ov <- holding [v] (eval o X.env);let iv <- holding [v,ov] (eval i X.env)
   standAt pos
   holding [v,ov,iv] (setItem ov iv v)
   release [v,ov,iv] []):=by intro _;rfl):PG X (.Subscript o i pos) (B8 to ti t):=by
 intro pins s σ H v u Q I r h;rw[ha];refine aab (abr (d5 (ho pins s σ H _ I h) λ ov s1 ⟨x,H1,I1,r1,q1⟩=>?_));refine aab (abr (d5 (hi pins s1 σ H1 _ I1 q1) λ iv s2 ⟨y,H2,I2,r2,q2⟩=>?_));refine aab (wpAny_standAt (aab (abr (d5 (hs pins s2 σ H2 x y v ov iv u _ I2 r1 r2 r q2) λ _ s3 ⟨H3,I3,q3⟩=>?_))));exact wpAny_release ⟨σ,H3,I3,q3⟩
def fI (te:TE) (g:TG):TS:=λ D σ H=>te σ H λ x H1=>g x σ H1 D.nx
theorem cG {tg e:Expr}{te:TE}{g:TG} (he:PE X e te) (hg:PG X tg g) (hs:swapsWithSole [tg] e pos.line X.env=pure false:=by rfl) (hw:swappedStores [tg] e X.env=pure none:=by rfl)
  (h1:(assignEach [tg] X.env).map (·.2)=[assign tg X.env]:=by rfl):PS X (.Assign [tg] e pos) (fI te g):=by
 intro pins s σ H D I h;refine wpAny_Assign_stores (d5 (he pins s σ H _ I h) λ v s1 ⟨x,H1,I1,r1,q1⟩=>?_) hs hw;rw[h1];exact d5 (hg pins s1 σ H1 x v _ I1 r1 q1) λ _ s2 q=>q
theorem fB {i:Nat}{x:Str}{e:Expr}{te:TE}{pos':Pos} (hN:X.N.Nodup) (hi:X.N[i]? = some x) (hx:E5 X.env.scope x) (he:PE X e te) (hs:swapsWith e (some (.Name x pos')) pos.line X.env=pure false:=by rfl) (hf:X.fn x=true\/X.env.scope.names.lookup x=some .local:=by first | exact .inl rfl | exact .inr rfl | assumption) :
  PS X (.Assign [.Name x pos'] e pos) (fI te (cB i)):=by
 intro pins s σ H D I h;refine wpAny_Assign_Name (d5 (he pins s σ H _ I h) λ v s1 ⟨y,H1,I1,r1,q1⟩=>?_) hs;exact oU I1 hN hi hx r1 (λ s2 I2=>⟨_,H1,I2,q1⟩) hf
def tAug (i:Nat) (te:TE) (ti:G4):TS:=λ D σ H=>∃ x,σ[i]? = some (some x)/\te σ H λ y H1=>ti x y H1 λ z H2=>D.nx (σ.set i (some z)) H2
theorem A4 {i:Nat}{x:Str}{e:Expr}{te:TE}{op:Operator}{ti:G4}{pos':Pos} (hN:X.N.Nodup) (hi:X.N[i]? = some x) (hx:E5 X.env.scope x) (he:PE X e te) (ho:PIp X op ti) (hf:X.fn x=true\/X.env.scope.names.lookup x=some .local:=by first | exact .inl rfl | exact .inr rfl | assumption) :
  PS X (.AugAssign (.Name x pos') op e pos) (tAug i te ti):=by
 intro pins s σ H D I h;obtain⟨v,e1,h⟩:=h;obtain⟨m,hn,hl⟩:=I.loc;have vis:Vis X.env.scope x:=by rcases hx with k | k;exact .inl k;exact .inr (.inl k)
 obtain⟨u,r,l⟩:=hl i x v hi e1 vis;refine wpAny_AugAssign_Name ?_;have go:wpAny (model X.prog X.w) X.A (eval e X.env) (λ w cj=>wpAny (model X.prog X.w) X.A (inplaceOp op u w) (λ r bq=>wpAny (model X.prog X.w) X.A (storeName X.env x r) (λ _=>SP X pins D .next) X.xe bq) X.xe cj) X.xe s:=by
  refine d5 (he pins s σ H _ I h) λ w s1 ⟨y,H1,I1,r1,q1⟩=>?_;refine d5 (ho pins s1 σ H1 v y u w _ I1 r r1 q1) λ z s2 ⟨zv,H2,I2,r2,q2⟩=>?_;exact oU I2 hN hi hx r2 (λ s3 I3=>⟨_,H2,I3,q2⟩) hf
 rcases l with ⟨hk,hm⟩ | ⟨hk,c,hc,hcell⟩
 ·exact wpAny_loadName_local I.ok.kind hk hn hm go
 ·rcases hk with hk | hk
  ·exact wpAny_loadName_cell I.ok.kind hk hc hcell go
  ·rcases hx with k | k
   ·have:X.env.scope.names.lookup x=some .free:=hk;rw[k] at this;cases this
   ·have:X.env.scope.names.lookup x=some .free:=hk;rw[k] at this;cases this
def GD (to ti te:TE) (tget:V->V->Hp->VK->Prop) (tip:G4) (tset:BP):TS:=λ D σ H=>to σ H λ o H1=>ti σ H1 λ i H2=>tget o i H2 λ x H3=>te σ H3 λ y H4=>tip x y H4 λ z H5=>tset o i z H5 λ H6=>D.nx σ H6
def FW (X:Cx) (t:V->V->Hp->VK->Prop):Prop:=
 ∀ (pins:List (Addr×Obj)) (s:Shared) (σ:St) (H:Hp) (o i:V) (ov iv:Value) (Q:VK),Inv X pins σ H s->bM o ov->bM i iv->t o i H Q->
  wpAny (model X.prog X.w) X.A (getItem ov iv) (EP X pins σ Q) X.xe s
theorem wQ {o i e:Expr}{to ti te:TE}{tget:V->V->Hp->VK->Prop}{tip:G4}{tset:BP}{op:Operator}{tpos:Pos} (ho:PE X o to) (hi:PE X i ti) (hg:FW X tget) (he:PE X e te) (hp:PIp X op tip) (hs:FU X tset)
  (ha:∀ ov iv new,augStore i ov iv new=(do holding [new,ov,iv] (setItem ov iv new);release [new,ov,iv] [];pure .next):=by intros;rfl):PS X (.AugAssign (.Subscript o i tpos) op e pos) (GD to ti te tget tip tset):=by
 intro pins s σ H D I h;refine wpAny_AugAssign_SubscriptAny (d5 (ho pins s σ H _ I h) λ ov s1 ⟨x1,H1,I1,r1,q1⟩=>?_) ha;refine d5 (hi pins s1 σ H1 _ I1 q1) λ iv s2 ⟨x2,H2,I2,r2,q2⟩=>?_;refine d5 (hg pins s2 σ H2 x1 x2 ov iv _ I2 r1 r2 q2) λ old s3 ⟨x3,H3,I3,r3,q3⟩=>?_;refine d5 (he pins s3 σ H3 _ I3 q3) λ v s4 ⟨x4,H4,I4,r4,q4⟩=>?_;refine d5 (hp pins s4 σ H4 x3 x4 old v _ I4 r3 r4 q4) λ new s5 ⟨x5,H5,I5,r5,q5⟩=>?_;exact d5 (hs pins s5 σ H5 x1 x2 x5 ov iv new _ I5 r1 r2 r5 q5) λ _ s6 ⟨H6,I6,q6⟩=>⟨σ,H6,I6,q6⟩
def ipI (f:Int->Int->Int):G4:=λ x y H Q=>∃ i j,x=.int i/\y=.int j/\Q (.int (f i j)) H
theorem vW:PIp X .Add (ipI λ i j=>i+j):=by
 intro pins s σ H x y v u Q I r1 r2 h;obtain⟨i,j,e1,e2,q⟩:=h;subst e1;subst e2;obtain⟨t,rfl⟩:=r1;obtain⟨t',rfl⟩:=r2;exact iadd_int ⟨.int _,H,I.tok _,⟨_,rfl⟩,q⟩
theorem FK:PIp X .Sub (ipI λ i j=>i - j):=by
 intro pins s σ H x y v u Q I r1 r2 h;obtain⟨i,j,e1,e2,q⟩:=h;subst e1;subst e2;obtain⟨t,rfl⟩:=r1;obtain⟨t',rfl⟩:=r2;exact isub_int ⟨.int _,H,I.tok _,⟨_,rfl⟩,q⟩
end
structure It where
 go:Nat->Hp->Prop
 yld:Nat->Hp->V->Hp->Prop
 stop:Nat->Hp->Prop
def hJ (X:Cx) (pins:List (Addr×Obj)) (H:Hp) (b:Addr):Prop:=
 H b=none/\b≠X.env.locals/\b∉X.fs/\(b∈X.ex\/X.s₀.heap.objs.size<=b)/\(∀ x c,X.env.cells.lookup x=some c->c≠b)/\∀ p∈X.pn++pins,p.1≠b
theorem Inv.fpOk {X:Cx}{pins:List (Addr×Obj)}{σ:St}{H H':Hp}{s:Shared}{b:Addr} (I:Inv X pins σ H s) (hb:s.heap.objs.size<=b) (hn:H' b=none):hJ X pins H' b:=by
 refine⟨hn,Nat.ne_of_gt (aat I.lt hb),I.nofs hb,.inr (abo I.sz hb),λ x c e z=>?_,λ p hp z=>?_⟩
 ·obtain⟨v,q⟩:=I.cell x c e;exact absurd (aat q.lt (by rw[z];exact hb)) (aby _)
 ·exact absurd (aat (aam (I.pin p hp).1) (by rw[z];exact hb)) (aby _)
structure Turn (P:Program) (w:World) (K:aaa) (tg:Expr) (J:It) (fp:List Addr) (it:Addr) (tn:Nat->Heap->Prop):Prop where
 mem:it∈fp
 obj:∀ i h,tn i h->∀ b∈fp,∃ o,h.get? b=some o/\∀ v,o.data≠.cell v
 keep:∀ i h h',tn i h->(∀ b∈fp,∀ o,h.get? b=some o->h'.get? b=some o)->tn i h'
 item:∀ (X:Cx),X.prog=P->X.w=w->X.K=K->X.calm=true->∀ (i:Nat) (pins:List (Addr×Obj)) (s:Shared) (σ:St) (H:Hp) (E:Value->Shared->Prop),Inv X pins σ H s->(∀ b∈fp,hJ X pins H b)->tn i s.heap->J.go i H->
  wpAny (model P w) X.A (pyNext (.ref it)) (λ r s1=>∃ u,r=some u/\
   wpAny (model P w) X.A (letOwnedTupleGo tg (.ref it) u) (λ _ s2=>∃ x H',Inv X pins σ H' s2/\bM x u/\J.yld i H x H'/\tn (i+1) s2.heap/\∀ b∈fp,H' b=none) E s1) E s
 done:∀ (X:Cx),X.prog=P->X.w=w->X.K=K->X.calm=true->∀ (i:Nat) (pins:List (Addr×Obj)) (s:Shared) (σ:St) (H:Hp) (E:Value->Shared->Prop),Inv X pins σ H s->(∀ b∈fp,hJ X pins H b)->tn i s.heap->J.stop i H->
  wpAny (model P w) X.A (pyNext (.ref it)) (λ r s1=>r=none/\Inv X pins σ H s1) E s
 self:∀ (A:Around) (i:Nat) (s:Shared) (Q:Value->Shared->Prop) (E:Value->Shared->Prop),tn i s.heap->Q (.ref it) s->wpAny (model P w) A (pyIter (.ref it)) Q E s
abbrev TI:=St->Hp->(It->Hp->Prop)->Prop
def PIE (X:Cx) (pins:List (Addr×Obj)) (σ:St) (tg:Expr) (R:It->Hp->Prop) (itv:Value) (s2:Shared):Prop:=
 ∃ (it:Addr) (fp:List Addr) (tn:Nat->Heap->Prop) (J:It) (H':Hp),itv=.ref it/\Inv X pins σ H' s2/\Turn X.prog X.w X.K tg J fp it tn/\tn 0 s2.heap/\(∀ b∈fp,hJ X pins H' b)/\R J H'
def PI (X:Cx) (tg iter:Expr) (wi:TI):Prop:=
 ∀ (pins:List (Addr×Obj)) (s:Shared) (σ:St) (H:Hp) (R:It->Hp->Prop),Inv X pins σ H s->wi σ H R->
  wpAny (model X.prog X.w) X.A (eval iter X.env) (λ v s1=>wpAny (model X.prog X.w) X.A (pyIter v) (PIE X pins σ tg R) X.xe s1) X.xe s
theorem AZ {M:Model}{A:Around}{E:Value->Shared->Prop}{s:Shared}{tg:Expr}{it:Addr}{u:Value}{o:Obj}{n:String}{vs:Array Value}{Q:Unit->Shared->Prop} (ho:s.heap.get? it=some o) (hc:o.cls=.type n) (hd:o.data=.fields vs)
  (hn:["enumerate","zip","dict_itemiterator","dict_reverseitemiterator","odict_iterator","itertools.zip_longest","itertools.pairwise"].contains n=false) (hQ:Q () s):wpAny M A (letOwnedTupleGo tg (.ref it) u) Q E s:=by
 unfold letOwnedTupleGo;cases tg <;> first
  | exact aae hQ
  | (cases u <;> first
    | exact aae hQ
    | (refine aab (wpAny_load ho ?_)
       rw[hc,hd];show wpAny M A (if (["enumerate","zip","dict_itemiterator","dict_reverseitemiterator","odict_iterator","itertools.zip_longest","itertools.pairwise"].contains n && vs[0]? == some (rawInt _))=true then _ else _) Q E s;rw[if_neg (by intro h;rw[hn,Bool.false_and] at h;cases h)];exact aae hQ))
def G8 (K:aaa) (a:Addr):It:=
 ⟨λ i H=>∃ xs x,bV K H a xs/\xs[i]? = some x,λ i H x H'=>H'=H/\∀ xs,bV K H a xs->xs[i]? = some x,λ i H=>∃ xs,bV K H a xs/\xs.length<=i⟩
def G7 (K:aaa) (a:Addr):It:=
 ⟨λ i H=>∃ xs x,bH K H a xs/\xs[i]? = some x,λ i H x H'=>H'=H/\∀ xs,bH K H a xs->xs[i]? = some x,λ i H=>∃ xs,bH K H a xs/\xs.length<=i⟩
def FZ (lo:Int) (n:Nat):It:=⟨λ i _=>i < n,λ i H x H'=>H'=H/\x=.int (lo+i),λ i _=>n<=i⟩
theorem xY {P:Program}{w:World}{K:aaa}{tg:Expr} (a it:Addr):Turn P w K tg (G8 K a) [it] it (λ i h=>h.IsListIter it a i) where
 mem:=by simp
 obj:=λ i h st b hb=>by
  have e:b=it:=by simpa using hb
  subst e;obtain⟨o,e,c,d⟩:=st;exact⟨o,e,λ v z=>by rw[d] at z;cases z⟩
 keep:=λ i h h' st k=>st.at λ o e=>k it (by simp) o e
 item:=by
  intro X hP hw hK hc i pins s σ H E I hf st hg;subst hP hw hK;obtain⟨xs,x,hq,hx⟩:=hg;obtain⟨its,rv,p,hz⟩:=I.list hq;obtain⟨u,hu,ru⟩:=rv.get hx;obtain⟨f0,f1,f2,f3,f4,f5⟩:=hf it (by simp);refine wpAny_pyNext_list_item st p.isList (x:=u) (by simpa using hu) λ h' st' sb=>?_;have I1:Inv X pins σ H { s with heap:=h' }:=I.turned (t':=s.toks) (λ b o hb e=>(sb.2 b hb).trans e) f0 f1 f3 f4 f5;obtain⟨o,e,c,d⟩:=id st';exact⟨u,rfl,AZ (s:={ s with heap:=h' }) e c d (by decide) ⟨x,H,I1,ru,⟨rfl,λ ys hy=>by rw[I.list_inj hy hq];exact hx⟩,st',λ b hb=>(hf b hb).1⟩⟩
 done:=by
  intro X hP hw hK hc i pins s σ H E I hf st hg;subst hP hw hK;obtain⟨xs,hq,hx⟩:=hg;obtain⟨its,rv,p,hz⟩:=I.list hq;obtain⟨f0,f1,f2,f3,f4,f5⟩:=hf it (by simp);have hl:=rv.length;exact wpAny_pyNext_list_end (I.ok.hd hc) st p.isList (by simp;omega) λ h' eb=>⟨rfl,I.turned (t':=s.toks) (λ b o hb e=>eb b o hb e) f0 f1 f3 f4 f5⟩
 self:=λ _ _ _ _ _ st h=>wpAny_pyIter_listiter st h
theorem uS {P:Program}{w:World}{K:aaa}{tg:Expr} (a it:Addr):Turn P w K tg (G7 K a) [it] it (λ i h=>h.IsTupleIter it a i) where
 mem:=by simp
 obj:=λ i h st b hb=>by
  have e:b=it:=by simpa using hb
  subst e;obtain⟨o,e,c,d⟩:=st;exact⟨o,e,λ v z=>by rw[d] at z;cases z⟩
 keep:=λ i h h' st k=>st.at λ o e=>k it (by simp) o e
 item:=by
  intro X hP hw hK hc i pins s σ H E I hf st hg;subst hP hw hK;obtain⟨xs,x,hq,hx⟩:=hg;obtain⟨its,rv,p,hz⟩:=I.tuple hq;obtain⟨u,hu,ru⟩:=rv.get hx;obtain⟨f0,f1,f2,f3,f4,f5⟩:=hf it (by simp);refine wpAny_pyNext_tuple_item st (show s.heap.IsTuple a its.toArray from p) (x:=u) (by simpa using hu) λ h' st' sb=>?_;have I1:Inv X pins σ H { s with heap:=h' }:=I.turned (t':=s.toks) (λ b o hb e=>(sb.2 b hb).trans e) f0 f1 f3 f4 f5;obtain⟨o,e,c,d⟩:=id st';exact⟨u,rfl,AZ (s:={ s with heap:=h' }) e c d (by decide) ⟨x,H,I1,ru,⟨rfl,λ ys hy=>by rw[I.tuple_inj hy hq];exact hx⟩,st',λ b hb=>(hf b hb).1⟩⟩
 done:=by
  intro X hP hw hK hc i pins s σ H E I hf st hg;subst hP hw hK;obtain⟨xs,hq,hx⟩:=hg;obtain⟨its,rv,p,hz⟩:=I.tuple hq;obtain⟨f0,f1,f2,f3,f4,f5⟩:=hf it (by simp);have hl:=rv.length;exact wpAny_pyNext_tuple_end (I.ok.hd hc) st (show s.heap.IsTuple a its.toArray from p) (by simp;omega) λ h' eb=>⟨rfl,I.turned (t':=s.toks) (λ b o hb e=>eb b o hb e) f0 f1 f3 f4 f5⟩
 self:=λ _ _ _ _ _ st h=>wpAny_pyIter_tupleiter st h
theorem uT {P:Program}{w:World}{K:aaa}{tg:Expr} (it:Addr) (lo:Int) (n:Nat):Turn P w K tg (FZ lo n) [it] it (λ i h=>IsRangeIter h it (lo+(i:Nat) * 1) ((n:Int) - (i:Nat)) 1) where
 mem:=by simp
 obj:=λ i h st b hb=>by
  have e:b=it:=by simpa using hb
  subst e;exact⟨_,st,λ v z=>by
   have z':Data.fields _=Data.cell v:=z;cases z'⟩
 keep:=λ i h h' st k=>k it (by simp) _ st
 item:=by
  intro X hP hw hK hc i pins s σ H E I hf st hg;subst hP hw hK;obtain⟨f0,f1,f2,f3,f4,f5⟩:=hf it (by simp);have W:=Walks.range (prog:=X.prog) (w:=X.w) (I.ok.hd hc) it lo 1 n;refine W.item i s _ _ hg st λ v h' tk hv st' kk=>?_;obtain⟨t,rfl⟩:=hv;have I1:Inv X pins σ H { s with heap:=h',toks:=tk }:=I.turned (λ b o hb e=>kk b o (by simpa using hb) e) f0 f1 f3 f4 f5;refine⟨_,rfl,AZ (s:={ s with heap:=h',toks:=tk }) (n := "range_iterator") st' rfl rfl (by decide) ⟨.int (lo+i),H,I1,⟨t,?_⟩,⟨rfl,rfl⟩,st',λ b hb=>(hf b hb).1⟩⟩;rw[Int.mul_one]
 done:=by
  intro X hP hw hK hc i pins s σ H E I hf st hg;subst hP hw hK;obtain⟨f0,f1,f2,f3,f4,f5⟩:=hf it (by simp);exact wpAny_pyNext_range_end (I.ok.hd hc) st (by have:n<=i:=hg;omega) λ h' eb=>⟨rfl,I.turned (t':=s.toks) (λ b o hb e=>eb b o hb e) f0 f1 f3 f4 f5⟩
 self:=λ _ _ _ _ _ st h=>wpAny_pyIter_rangeiter st h
section
variable {X:Cx}{tg:Expr}
def DV (K:aaa) (tl:TE):TI:=λ σ H R=>tl σ H λ x H1=>∃ a,x=.ref a/\(∃ xs,bV K H1 a xs)/\R (G8 K a) H1
def GZ (K:aaa) (tl:TE):TI:=λ σ H R=>tl σ H λ x H1=>∃ a,x=.ref a/\(∃ xs,bH K H1 a xs)/\R (G7 K a) H1
theorem CM {l:Expr}{tl:TE} (hl:PE X l tl):PI X tg l (DV X.K tl):=by
 intro pins s σ H R I h;refine d5 (hl pins s σ H _ I h) λ v s1 ⟨x,H1,I1,r1,q1⟩=>?_;obtain⟨a,e,⟨xs,hq⟩,q⟩:=q1;subst e;cases r1;obtain⟨its,rv,p,hz⟩:=I1.list hq;refine wpAny_pyIter_list p.isList ?_;refine⟨s1.heap.objs.size,[s1.heap.objs.size],_,_,H1,rfl,I1.kept (t':=s1.toks) λ b o e=>aac _ e,xY a _,⟨_,aai _ rfl,rfl,rfl⟩,λ b hb=>?_,q⟩;have e:b=s1.heap.objs.size:=by simpa using hb
 subst e;exact I1.fpOk (aak _) (I1.hok.fresh (aak _))
theorem EN {l:Expr}{tl:TE} (hl:PE X l tl):PI X tg l (GZ X.K tl):=by
 intro pins s σ H R I h;refine d5 (hl pins s σ H _ I h) λ v s1 ⟨x,H1,I1,r1,q1⟩=>?_;obtain⟨a,e,⟨xs,hq⟩,q⟩:=q1;subst e;cases r1;obtain⟨its,rv,p,hz⟩:=I1.tuple hq;refine wpAny_pyIter_tuple (show s1.heap.IsTuple a its.toArray from p) ?_;refine⟨s1.heap.objs.size,[s1.heap.objs.size],_,_,H1,rfl,I1.kept (t':=s1.toks) λ b o e=>aac _ e,uS a _,⟨_,aai _ rfl,rfl,rfl⟩,λ b hb=>?_,q⟩;have e:b=s1.heap.objs.size:=by simpa using hb
 subst e;exact I1.fpOk (aak _) (I1.hok.fresh (aak _))
theorem A1 {pins:List (Addr×Obj)}{σ:St}{H:Hp}{s:Shared}{R:It->Hp->Prop}{E:Value->Shared->Prop}{lo hi:Int}{t u v:Tok}{tk:Nat} (I:Inv X pins σ H s) (h1 : -(2 ^ 62)<=lo) (h2:lo < 2 ^ 62) (h3 : -(2 ^ 62)<=hi) (h4:hi < 2 ^ 62)
  (q:R (FZ lo (hi - lo).toNat) H):wpAny (model X.prog X.w) X.A (pyIter (.ref s.heap.objs.size)) (PIE X pins σ tg R) E { s with heap:=s.heap.push { cls:=.type "range",data:=.fields #[.int lo t,.int hi u,.int 1 v] },toks:=tk }:=by
 refine wpAny_pyIter_range (IsRange.new ..) (small_one h1 h2 h3 h4) ?_;have I1:Inv X pins σ H { s with heap:=s.heap.push { cls:=.type "range",data:=.fields #[.int lo t,.int hi u,.int 1 v] },toks:=tk }:=I.kept λ b o e=>aac _ e;refine⟨(s.heap.push { cls:=.type "range",data:=.fields #[.int lo t,.int hi u,.int 1 v] }).objs.size,[(s.heap.push { cls:=.type "range",data:=.fields #[.int lo t,.int hi u,.int 1 v] }).objs.size],_,_,H,rfl,
  I1.kept (t':=tk) λ b o e=>aac _ e,uT _ lo (hi - lo).toNat,?_,λ b hb=>?_,q⟩
 ·have e1:lo+((0:Nat):Int) * 1=lo:=by simp
  have e2:(((hi - lo).toNat:Nat):Int) - ((0:Nat):Int)=Builtin.Range.rangeSize lo hi 1:=by rw[rangeSize_one];split <;> omega
  show IsRangeIter _ _ (lo+((0:Nat):Int) * 1) ((((hi - lo).toNat:Nat):Int) - ((0:Nat):Int)) 1;rw[e1,e2];exact aai _ rfl
 ·have e:b=(s.heap.push { cls:=.type "range",data:=.fields #[.int lo t,.int hi u,.int 1 v] }).objs.size:=by simpa using hb
  subst e;exact I1.fpOk (aak _) (I1.hok.fresh (aak _))
def HA (ta:TA):TI:=λ σ H R=>ta σ H λ vs H1=>∃ j:Int,vs=[.int j]/\-(2 ^ 62)<=j/\j < 2 ^ 62/\R (FZ 0 j.toNat) H1
theorem cH {a:Expr}{ta:TA}{p pos:Pos} (hg:Gl X "range") (hm:X.mg "range" = none) (ha:PA X [a] ta) (hs:starEach [a] X.env=[(false,eval a X.env)]:=by rfl):PI X tg (.Call (.Name "range" p) [a] [] pos) (HA ta):=by
 intro pins s σ H R I h;refine Call_ (lF I hg hm boot_range (PyProof.Rows.callWith_type1 (d5 (ha pos pins s σ H _ I h) λ us s1 ⟨vs,H1,I1,r1,q1⟩=>?_) hs rfl));obtain⟨j,e,q1,q2,q⟩:=q1;subst e;cases r1 with
 | cons r rr=>
  cases rr;obtain⟨t,rfl⟩:=r;exact call_range_1 (A1 I1 (by omega) (by omega) q1 q2 (by simpa using q))
def EA (wi:TI) (g:TG) (tb:TS):TS:=λ D σ H=>wi σ H λ J H1=>∃ W:Nat->Nat->St->Hp->Prop,(∃ m,W 0 m σ H1)/\∀ i m σ H,W i m σ H->
 (J.stop i H/\D.nx σ H)\/(J.go i H/\∃ N:St->Hp->Prop,(∀ Z H',N Z H'->∃ m',m' < m/\W (i+1) m' Z H')/\∀ x H',J.yld i H x H'->g x σ H' λ bf H2=>tb { D with nx:=N,ct:=N,bk:=D.nx } bf H2)
def n6 (fp:List Addr) (h:Heap):List (Addr×Obj):=fp.filterMap λ b=>(h.get? b).map λ o=>(b,o)
theorem fK {fp:List Addr}{h:Heap}{b:Addr}{o:Obj} (hb:b∈fp) (e:h.get? b=some o):(b,o)∈n6 fp h:=List.mem_filterMap.mpr ⟨b,hb,by rw[e];rfl⟩
theorem yF {fp:List Addr}{h:Heap}{p:Addr×Obj} (hp:p∈n6 fp h):p.1∈fp/\h.get? p.1=some p.2:=by
 obtain⟨b,hb,e⟩:=List.mem_filterMap.mp hp;cases q:h.get? b with
 | none=>rw[q] at e;cases e
 | some o=>
  rw[q] at e;have e':(b,o)=p:=abn e;subst e';exact⟨hb,q⟩
theorem Inv.pinned {pins:List (Addr×Obj)}{σ:St}{H:Hp}{s:Shared}{fp:List Addr} (I:Inv X pins σ H s) (hf:∀ b∈fp,hJ X pins H b) (ho:∀ b∈fp,∃ o,s.heap.get? b=some o/\∀ v,o.data≠.cell v):Inv X (pins++n6 fp s.heap) σ H s:=
 I.pins_of λ p hp=>(abg.mp hp).elim (λ z=>I.pin p (aaz _ z)) λ z=>by
  obtain⟨hb,e⟩:=yF z;obtain⟨f0,f1,f2,_⟩:=hf p.1 hb;obtain⟨o,e',d⟩:=ho p.1 hb;rw[e] at e';cases e';exact⟨e,f0,f1,f2,d⟩
theorem Inv.unpinned {pins pl:List (Addr×Obj)}{σ:St}{H:Hp}{s:Shared} (I:Inv X (pins++pl) σ H s):Inv X pins σ H s:=I.pins_of λ p hp=>I.pin p (aaz _ (List.mem_append_left _ hp))
theorem dM {iter:Expr}{body:List Stmt}{wi:TI}{g:TG}{tb:TS}{pos:Pos} (hp:PassesOwn (model X.prog X.w) X.A X.env X.xe) (hc:X.calm=true) (hi:PI X tg iter wi) (hg:PG X tg g) (hb:zF X body tb)
  (hs:∀ x,foldedSetIterable iter X.env x=pure x:=by intro _;rfl):PS X (.For tg iter body [] pos) (EA wi g tb):=by
 intro pins s σ H D I h;refine wpAny_For (d5 (hi pins s σ H _ I h) λ v s1 h1=>d5 h1 λ itv s2 h2=>?_) hs;obtain⟨it,fp,tn,J,H2,e,I2,T,st2,f2,W,⟨m0,w0⟩,turn⟩:=h2;subst e;have stat:∀ {H':Hp},(∀ b∈fp,H' b=none)->∀ b∈fp,hJ X pins H' b:=λ hn b hb=>⟨hn b hb,(f2 b hb).2⟩;refine codeAny_forLoop_any (λ n s'=>∃ i Z H',Inv X pins Z H' s'/\tn i s'.heap/\(∀ b∈fp,H' b=none)/\W i n Z H') ?_ m0 ⟨0,σ,H2,I2,st2,λ b hb=>(f2 b hb).1,w0⟩;rintro n s3 ⟨i,ak,H3,I3,st3,fr3,w3⟩;rcases turn i n ak H3 w3 with ⟨stop,qn⟩ | ⟨go,N,hN,step⟩
 ·refine wpAny_passesOwn hp (d5 (T.done X rfl rfl rfl hc i pins s3 ak H3 X.xe I3 (stat fr3) st3 stop) λ r s4 ⟨hr,I4⟩=>?_);subst hr;exact wpAny_execs_nil ⟨ak,H3,I4,qn⟩
 ·refine wpAny_passesOwn hp (d5 (T.item X rfl rfl rfl hc i pins s3 ak H3 X.xe I3 (stat fr3) st3 go) λ r s4 ⟨u,hr,h4⟩=>?_);subst hr;refine wpAny_passesOwn hp (d5 h4 λ _ s5 ⟨x,H5,I5,r5,y5,st5,fr5⟩=>?_);have I5':=I5.pinned (stat fr5) (T.obj _ _ st5);refine wpAny_passesOwn hp (d5 (hg _ s5 ak H5 x u _ I5' r5 (step x H5 y5)) λ _ s6 ⟨σ6,H6,I6,q6⟩=>?_);refine wpAny_passesOwn hp (d5 (hb _ s6 σ6 H6 _ I6 q6) λ f s7 q7=>?_);have again:∀ {bw:St}{H7:Hp},Inv X (pins++n6 fp s5.heap) bw H7 s7->N bw H7->∃ m,m < n/\∃ i Z H',Inv X pins Z H' s7/\tn i s7.heap/\(∀ b∈fp,H' b=none)/\W i m Z H':=λ {bw H7} I7 n7=>by
   obtain⟨m',hm,w7⟩:=hN bw H7 n7;refine⟨m',hm,i+1,bw,H7,I7.unpinned,T.keep _ _ _ st5 λ b hb o e=>(I7.pin (b,o) (aaz _ (aaz _ (fK hb e)))).1,λ b hb=>?_,w7⟩;obtain⟨o,e,d⟩:=T.obj _ _ st5 b hb;exact (I7.pin (b,o) (aaz _ (aaz _ (fK hb e)))).2.1
  cases f with
  | next=>obtain⟨bw,H7,I7,n7⟩:=q7;exact again I7 n7
  | cont=>obtain⟨bw,H7,I7,n7⟩:=q7;exact again I7 n7
  | brk=>obtain⟨bw,H7,I7,q7⟩:=q7;exact⟨bw,H7,I7.unpinned,q7⟩
  | ret v=>obtain⟨x7,bw,H7,I7,r7,q7⟩:=q7;exact⟨x7,bw,H7,I7.unpinned,r7,q7⟩
end
theorem uF {K:aaa}{a:Addr}{xs:List V}{g:TG}{tb:TS}{D:Ends}{σ:St}{H:Hp} (Pv:Nat->St->Hp->Prop) (h0:Pv 0 σ H) (hl:∀ i σ H,i<=xs.length->Pv i σ H->bV K H a xs)
  (hs:∀ i x σ H,xs[i]? = some x->Pv i σ H->g x σ H λ bf H2=>tb { D with nx:=Pv (i+1),ct:=Pv (i+1),bk:=D.nx } bf H2) (hd:∀ σ H,Pv xs.length σ H->D.nx σ H) :
  ∃ W:Nat->Nat->St->Hp->Prop,(∃ m,W 0 m σ H)/\∀ i m σ H,W i m σ H->
   ((G8 K a).stop i H/\D.nx σ H)\/((G8 K a).go i H/\∃ N:St->Hp->Prop,(∀ Z H',N Z H'->∃ m',m' < m/\W (i+1) m' Z H')/\∀ x H',(G8 K a).yld i H x H'->g x σ H' λ bf H2=>tb { D with nx:=N,ct:=N,bk:=D.nx } bf H2):=by
 refine⟨λ i m σ H=>m=xs.length - i/\i<=xs.length/\Pv i σ H,⟨xs.length,by simp,aar _,h0⟩,?_⟩;rintro i m σ H ⟨rfl,hi,p⟩;have q:=hl i σ H hi p
 by_cases hlt:i < xs.length
 ·refine .inr ⟨⟨xs,xs[i],q,by simp [hlt]⟩,Pv (i+1),λ Z H' p'=>⟨xs.length - (i+1),by omega,rfl,hlt,p'⟩,λ x H' y=>?_⟩;obtain⟨e,y⟩:=y;subst e;exact hs i x σ _ (y xs q) p
 ·have e:i=xs.length:=by omega
  subst e;exact .inl ⟨⟨xs,q,aak _⟩,hd σ H p⟩
theorem oI {K:aaa}{a:Addr}{xs:List V}{g:TG}{tb:TS}{D:Ends}{σ:St}{H:Hp} (Pv:Nat->St->Hp->Prop) (h0:Pv 0 σ H) (hl:∀ i σ H,i<=xs.length->Pv i σ H->bH K H a xs)
  (hs:∀ i x σ H,xs[i]? = some x->Pv i σ H->g x σ H λ bf H2=>tb { D with nx:=Pv (i+1),ct:=Pv (i+1),bk:=D.nx } bf H2) (hd:∀ σ H,Pv xs.length σ H->D.nx σ H) :
  ∃ W:Nat->Nat->St->Hp->Prop,(∃ m,W 0 m σ H)/\∀ i m σ H,W i m σ H->
   ((G7 K a).stop i H/\D.nx σ H)\/((G7 K a).go i H/\∃ N:St->Hp->Prop,(∀ Z H',N Z H'->∃ m',m' < m/\W (i+1) m' Z H')/\∀ x H',(G7 K a).yld i H x H'->g x σ H' λ bf H2=>tb { D with nx:=N,ct:=N,bk:=D.nx } bf H2):=by
 refine⟨λ i m σ H=>m=xs.length - i/\i<=xs.length/\Pv i σ H,⟨xs.length,by simp,aar _,h0⟩,?_⟩;rintro i m σ H ⟨rfl,hi,p⟩;have q:=hl i σ H hi p
 by_cases hlt:i < xs.length
 ·refine .inr ⟨⟨xs,xs[i],q,by simp [hlt]⟩,Pv (i+1),λ Z H' p'=>⟨xs.length - (i+1),by omega,rfl,hlt,p'⟩,λ x H' y=>?_⟩;obtain⟨e,y⟩:=y;subst e;exact hs i x σ _ (y xs q) p
 ·have e:i=xs.length:=by omega
  subst e;exact .inl ⟨⟨xs,q,aak _⟩,hd σ H p⟩
theorem dW {lo:Int}{n:Nat}{g:TG}{tb:TS}{D:Ends}{σ:St}{H:Hp} (Pv:Nat->St->Hp->Prop) (h0:Pv 0 σ H)
  (hs:∀ i σ H,i < n->Pv i σ H->g (.int (lo+i)) σ H λ bf H2=>tb { D with nx:=Pv (i+1),ct:=Pv (i+1),bk:=D.nx } bf H2) (hd:∀ σ H,Pv n σ H->D.nx σ H) :
  ∃ W:Nat->Nat->St->Hp->Prop,(∃ m,W 0 m σ H)/\∀ i m σ H,W i m σ H->
   ((FZ lo n).stop i H/\D.nx σ H)\/((FZ lo n).go i H/\∃ N:St->Hp->Prop,(∀ Z H',N Z H'->∃ m',m' < m/\W (i+1) m' Z H')/\∀ x H',(FZ lo n).yld i H x H'->g x σ H' λ bf H2=>tb { D with nx:=N,ct:=N,bk:=D.nx } bf H2):=by
 refine⟨λ i m σ H=>m=n - i/\i<=n/\Pv i σ H,⟨n,by simp,aar _,h0⟩,?_⟩;rintro i m σ H ⟨rfl,hi,p⟩
 by_cases hlt:i < n
 ·refine .inr ⟨hlt,Pv (i+1),λ Z H' p'=>⟨n - (i+1),by omega,rfl,hlt,p'⟩,λ x H' y=>?_⟩;obtain⟨e,y⟩:=y;subst e y;exact hs i σ _ hlt p
 ·have e:i=n:=by omega
  subst e;exact .inl ⟨aak _,hd σ H p⟩
abbrev R2:=V->V->Hp->VK->Prop
def j5 (X:Cx) (f:Value->Value->Sem Value) (r:R2):Prop:=
 ∀ (pins:List (Addr×Obj)) (s:Shared) (σ:St) (H:Hp) (x y:V) (v u:Value) (Q:VK),Inv X pins σ H s->bM x v->bM y u->r x y H Q->
  wpAny (model X.prog X.w) X.A (f v u) (EP X pins σ Q) X.xe s
def UnR (X:Cx) (f:Value->Sem Value) (r:V->Hp->VK->Prop):Prop:=
 ∀ (pins:List (Addr×Obj)) (s:Shared) (σ:St) (H:Hp) (x:V) (v:Value) (Q:VK),Inv X pins σ H s->bM x v->r x H Q->
  wpAny (model X.prog X.w) X.A (f v) (EP X pins σ Q) X.xe s
def fW (X:Cx) (f:Value) (r:List V->Hp->VK->Prop):Prop:=
 ∀ (pins:List (Addr×Obj)) (s:Shared) (σ:St) (H:Hp) (xs:List V) (us:List Value) (Q:VK),Inv X pins σ H s->bL xs us->r xs H Q->
  wpAny (model X.prog X.w) X.A (call f us) (EP X pins σ Q) X.xe s
def eZ (r:R2) (ta tb:TE):TE:=λ σ H Q=>ta σ H λ x H1=>tb σ H1 λ y H2=>r x y H2 Q
def tUn (r:V->Hp->VK->Prop) (ta:TE):TE:=λ σ H Q=>ta σ H λ x H1=>r x H1 Q
def rI (C:Int->Int->Prop) (g:Int->Int->V):R2:=λ x y H Q=>∃ i j,x=.int i/\y=.int j/\C i j/\Q (g i j) H
def mY (g:Int->Int->V):R2:=λ x y H Q=>∃ i j,x=.int i/\y=.int j/\Q (g i j) H
def rU (g:Int->V):V->Hp->VK->Prop:=λ x H Q=>∃ i,x=.int i/\Q (g i) H
section
variable {X:Cx}{a b c:Expr}{ta tb tc:TE}{pos:Pos}
theorem FS (ha:PE X a ta) (hb:PE X b tb) {pins:List (Addr×Obj)}{s:Shared}{σ:St}{H:Hp}{R:V->V->Hp->Prop} (I:Inv X pins σ H s)
  (h:ta σ H λ x H1=>tb σ H1 λ y H2=>R x y H2) {Q:Value->Shared->Prop}{f:Value->Value->Sem Value}
  (hf:∀ v u s2 x y H2,Inv X pins σ H2 s2->bM x v->bM y u->R x y H2->wpAny (model X.prog X.w) X.A (f v u) Q X.xe s2) :
  wpAny (model X.prog X.w) X.A (eval a X.env) (λ v ag=>wpAny (model X.prog X.w) X.A (eval b X.env) (λ u cj=>wpAny (model X.prog X.w) X.A (f v u) Q X.xe cj) X.xe ag) X.xe s:=by
 refine d5 (ha pins s σ H _ I h) λ v s1 ⟨x,H1,I1,r1,q1⟩=>?_;refine d5 (hb pins s1 σ H1 _ I1 q1) λ u s2 ⟨y,H2,I2,r2,q2⟩=>?_;exact hf v u s2 x y H2 I2 r1 r2 q2
theorem aK {op:Operator}{r:R2} (ho:j5 X (binaryOp op) r) (ha:PE X a ta) (hb:PE X b tb):PE X (.BinOp a op b pos) (eZ r ta tb):=by
 intro pins s σ H Q I h;exact wpAny_BinOp (FS ha hb I h λ v u s2 x y H2 I2 rx ry q=>ho pins s2 σ H2 x y v u Q I2 rx ry q)
theorem wR {op:UnaryOp}{r:V->Hp->VK->Prop} (ho:UnR X (unaryOp op) r) (ha:PE X a ta):PE X (.UnaryOp op a pos) (tUn r ta):=by
 intro pins s σ H Q I h;exact UnaryOp_ (d5 (ha pins s σ H _ I h) λ v s1 ⟨x,H1,I1,r1,q1⟩=>ho pins s1 σ H1 x v Q I1 r1 q1)
theorem GU {f:Value->Value->Sem Value}{C:Int->Int->Prop}{g:Int->Int->Int}
  (rule:∀ (i j:Int) (t u:Tok) (s:Shared) (Q:Value->Shared->Prop) (E:Value->Shared->Prop),C i j->Q (.int (g i j) s.toks) { s with toks:=s.toks+1 }->wpAny (model X.prog X.w) X.A (f (.int i t) (.int j u)) Q E s) :
  j5 X f (rI C λ i j=>.int (g i j)):=by
 intro pins s σ H x y v u Q I rx ry h;obtain⟨i,j,rfl,rfl,hc,q⟩:=h;obtain⟨t,rfl⟩:=rx;obtain⟨t',rfl⟩:=ry;exact rule i j t t' s _ _ hc ⟨.int (g i j),H,I.tok _,⟨_,rfl⟩,q⟩
theorem GT {f:Value->Value->Sem Value}{g:Int->Int->Int}
  (rule:∀ (i j:Int) (t u:Tok) (s:Shared) (Q:Value->Shared->Prop) (E:Value->Shared->Prop),Q (.int (g i j) s.toks) { s with toks:=s.toks+1 }->wpAny (model X.prog X.w) X.A (f (.int i t) (.int j u)) Q E s) :
  j5 X f (mY λ i j=>.int (g i j)):=by
 intro pins s σ H x y v u Q I rx ry h;obtain⟨i,j,rfl,rfl,q⟩:=h;obtain⟨t,rfl⟩:=rx;obtain⟨t',rfl⟩:=ry;exact rule i j t t' s _ _ ⟨.int (g i j),H,I.tok _,⟨_,rfl⟩,q⟩
theorem CW {f:Value->Value->Sem Value}{g:Int->Int->Bool}
  (rule:∀ (i j:Int) (t u:Tok) (s:Shared) (Q:Value->Shared->Prop) (E:Value->Shared->Prop),Q (.bool (g i j)) s->wpAny (model X.prog X.w) X.A (f (.int i t) (.int j u)) Q E s) :
  j5 X f (mY λ i j=>.bl (g i j)):=by
 intro pins s σ H x y v u Q I rx ry h;obtain⟨i,j,rfl,rfl,q⟩:=h;obtain⟨t,rfl⟩:=rx;obtain⟨t',rfl⟩:=ry;exact rule i j t t' s _ _ ⟨.bl (g i j),H,I,rfl,q⟩
def G0 (i j:Int):Prop:=0 < j/\j < 1073741824
def DF (i j:Int):Prop:=0<=j/\j<=1000000/\i.natAbs < 2 ^ 64
def uQ (i j:Int):Prop:=(-(2 ^ 64) < i/\i < 2 ^ 64)\/(-(2 ^ 64) < j/\j < 2 ^ 64)
theorem uQ.ok {i j:Int} (h:uQ i j):IntMulOk i j:=by
 rcases h with ⟨h1,h2⟩ | ⟨h1,h2⟩
 ·exact .of_left (intBits_le_64 h1 h2)
 ·exact .of_right (intBits_le_64 h1 h2)
theorem bG:j5 X (binaryOp .Add) (mY λ i j=>.int (i+j)):=GT λ _ _ _ _ _ _ _ q=>add_int q
theorem d8:j5 X (binaryOp .Sub) (mY λ i j=>.int (i - j)):=GT λ _ _ _ _ _ _ _ q=>sub_int q
theorem jJ:j5 X (binaryOp .Mult) (rI uQ λ i j=>.int (i * j)):=GU λ _ _ _ _ _ _ _ hc q=>mul_int q hc.ok
theorem fM:j5 X (binaryOp .FloorDiv) (rI G0 λ i j=>.int (i / j)):=GU λ i j _ _ _ _ _ hc q=>by
 have h1:(0:Int) < j:=hc.1;have h2:j < 1073741824:=hc.2;exact floordiv_int (by omega) (by rw[Int.fdiv_eq_ediv_of_nonneg i (by omega)];exact q) (.inl (PyProof.noPylong_small (by omega)))
theorem nC:j5 X (binaryOp .Mod) (rI (λ _ j=>0 < j) λ i j=>.int (i % j)):=GU λ i j _ _ _ _ _ hc q=>by
 have h1:(0:Int) < j:=hc;exact mod_int' (by omega) (by rw[Int.fmod_eq_emod_of_nonneg i (by omega)];exact q)
theorem lC:j5 X (binaryOp .Pow) (rI DF λ i j=>.int (i ^ j.toNat)):=GU λ _ _ _ _ _ _ _ hc q=>pow_int_small hc.1 hc.2.1 hc.2.2 q
theorem unI {f:Value->Sem Value}{g:Int->Int}
  (rule:∀ (i:Int) (t:Tok) (s:Shared) (Q:Value->Shared->Prop) (E:Value->Shared->Prop),Q (.int (g i) s.toks) { s with toks:=s.toks+1 }->wpAny (model X.prog X.w) X.A (f (.int i t)) Q E s) :
  UnR X f (rU λ i=>.int (g i)):=by
 intro pins s σ H x v Q I rx h;obtain⟨i,rfl,q⟩:=h;obtain⟨t,rfl⟩:=rx;exact rule i t s _ _ ⟨.int (g i),H,I.tok _,⟨_,rfl⟩,q⟩
theorem rM:UnR X (unaryOp .USub) (rU λ i=>.int (-i)):=unI λ _ _ _ _ _ q=>neg_int q
end
def EF:V->V->Bool
 | .non,.non=>true | .non,.int _=>true | .int _,.non=>true | .non,.bl _=>true | .bl _,.non=>true | .non,.str _=>true | .str _,.non=>true
 | .int _,.int _=>true | .bl _,.bl _=>true | .str _,.str _=>true | .byt _,.byt _=>true
 | .int _,.str _=>true | .str _,.int _=>true | .bl _,.str _=>true | .str _,.bl _=>true
 | _,_=>false
def rEq:R2:=λ x y H Q=>EF x y=true/\Q (.bl (decide (x=y))) H
def rNe:R2:=λ x y H Q=>EF x y=true/\Q (.bl (!decide (x=y))) H
theorem xL {i j:Int}:decide (V.int i=V.int j)=(i == j):=by
 rw[Bool.eq_iff_iff];simp
theorem BJ {i j:Bool}:decide (V.bl i=V.bl j)=(i == j):=by
 rw[Bool.eq_iff_iff];simp
theorem xK {i j:Str}:decide (V.str i=V.str j)=(i == j):=by
 rw[Bool.eq_iff_iff];simp
theorem xM {i j:Array UInt8}:decide (V.byt i=V.byt j)=(i.toList == j.toList):=by
 rw[Bool.eq_iff_iff];cases i;cases j;simp
section
variable {X:Cx}{a b c:Expr}{ta tb tc:TE}{pos:Pos}
theorem bY {pins:List (Addr×Obj)}{σ:St}{H:Hp}{s:Shared}{Q:VK}{k k':Bool} (I:Inv X pins σ H s) (q:Q (.bl k) H) (e:k=k'):EP X pins σ Q (.bool k') s:=by
 subst e;exact⟨.bl k,H,I,rfl,q⟩
theorem iW:j5 X (compareOp .Eq) rEq:=by
 intro pins s σ H x y v u Q I rx ry h;obtain⟨hs,q⟩:=h;cases x with
 | non=>
  cases rx;cases y with
  | non=>cases ry;exact PySem.EqNone.eq_none_none (bY I q (by simp))
  | bl j=>cases ry;exact PySem.EqNone.eq_none_bool (bY I q (by simp))
  | int j=>obtain⟨t',rfl⟩:=ry;exact PySem.EqNone.eq_none_int (bY I q (by simp))
  | str j=>obtain⟨t',rfl⟩:=ry;exact PySem.EqNone.eq_none_str (bY I q (by simp))
  | _=>exact absurd (show false=true from hs) aaj
 | bl i=>
  cases rx;cases y with
  | non=>cases ry;exact PySem.EqNone.eq_bool_none (bY I q (by simp))
  | bl j=>cases ry;exact eq_bool (bY I q BJ)
  | str j=>obtain⟨t',rfl⟩:=ry;exact PySem.EqMixed.eq_bool_str (bY I q (by simp))
  | _=>exact absurd (show false=true from hs) aaj
 | int i=>
  obtain⟨t,rfl⟩:=rx;cases y with
  | non=>cases ry;exact PySem.EqNone.eq_int_none (bY I q (by simp))
  | int j=>obtain⟨t',rfl⟩:=ry;exact eq_int (bY I q xL)
  | str j=>obtain⟨t',rfl⟩:=ry;exact PySem.EqMixed.eq_int_str (bY I q (by simp))
  | _=>exact absurd (show false=true from hs) aaj
 | str i=>
  obtain⟨t,rfl⟩:=rx;cases y with
  | non=>cases ry;exact PySem.EqNone.eq_str_none (bY I q (by simp))
  | bl j=>cases ry;exact PySem.EqMixed.eq_str_bool (bY I q (by simp))
  | int j=>obtain⟨t',rfl⟩:=ry;exact PySem.EqMixed.eq_str_int (bY I q (by simp))
  | str j=>obtain⟨t',rfl⟩:=ry;exact eq_str (bY I q xK)
  | _=>exact absurd (show false=true from hs) aaj
 | byt i=>
  obtain⟨t,rfl⟩:=rx;cases y with
  | byt j=>obtain⟨t',rfl⟩:=ry;exact PySem.W.eq_bytes (bY I q xM)
  | _=>exact absurd (show false=true from hs) aaj
 | _=>cases y <;> exact absurd (show false=true from hs) aaj
theorem wV:j5 X (compareOp .NotEq) rNe:=by
 intro pins s σ H x y v u Q I rx ry h;obtain⟨hs,q⟩:=h;cases x with
 | non=>
  cases rx;cases y with
  | non=>cases ry;exact PySem.EqNone.ne_none_none (bY I q (by simp))
  | bl j=>cases ry;exact PySem.EqNone.ne_none_bool (bY I q (by simp))
  | int j=>obtain⟨t',rfl⟩:=ry;exact PySem.EqNone.ne_none_int (bY I q (by simp))
  | str j=>obtain⟨t',rfl⟩:=ry;exact PySem.EqNone.ne_none_str (bY I q (by simp))
  | _=>exact absurd (show false=true from hs) aaj
 | bl i=>
  cases rx;cases y with
  | non=>cases ry;exact PySem.EqNone.ne_bool_none (bY I q (by simp))
  | bl j=>cases ry;exact ne_bool (bY I q (congrArg not BJ))
  | str j=>obtain⟨t',rfl⟩:=ry;exact PySem.EqMixed.ne_bool_str (bY I q (by simp))
  | _=>exact absurd (show false=true from hs) aaj
 | int i=>
  obtain⟨t,rfl⟩:=rx;cases y with
  | non=>cases ry;exact PySem.EqNone.ne_int_none (bY I q (by simp))
  | int j=>obtain⟨t',rfl⟩:=ry;exact ne_int (bY I q (congrArg not xL))
  | str j=>obtain⟨t',rfl⟩:=ry;exact PySem.EqMixed.ne_int_str (bY I q (by simp))
  | _=>exact absurd (show false=true from hs) aaj
 | str i=>
  obtain⟨t,rfl⟩:=rx;cases y with
  | non=>cases ry;exact PySem.EqNone.ne_str_none (bY I q (by simp))
  | bl j=>cases ry;exact PySem.EqMixed.ne_str_bool (bY I q (by simp))
  | int j=>obtain⟨t',rfl⟩:=ry;exact PySem.EqMixed.ne_str_int (bY I q (by simp))
  | str j=>obtain⟨t',rfl⟩:=ry;exact ne_str (bY I q (congrArg not xK))
  | _=>exact absurd (show false=true from hs) aaj
 | byt i=>
  obtain⟨t,rfl⟩:=rx;cases y with
  | byt j=>obtain⟨t',rfl⟩:=ry;exact PySem.W.ne_bytes (bY I q (congrArg not xM))
  | _=>exact absurd (show false=true from hs) aaj
 | _=>cases y <;> exact absurd (show false=true from hs) aaj
theorem qW:j5 X (compareOp .Lt) (mY λ i j=>.bl (decide (i < j))):=CW λ _ _ _ _ _ _ _ q=>lt_int q
theorem qX:j5 X (compareOp .LtE) (mY λ i j=>.bl (decide (i<=j))):=CW λ _ _ _ _ _ _ _ q=>le_int q
theorem AC:j5 X (compareOp .Gt) (mY λ i j=>.bl (decide (j < i))):=CW λ _ _ _ _ _ _ _ q=>gt_int q
theorem DO:j5 X (compareOp .GtE) (mY λ i j=>.bl (decide (j<=i))):=CW λ _ _ _ _ _ _ _ q=>ge_int q
theorem AB:j5 X (compareOp .Is) (λ x y H Q=>y=.non/\Q (.bl (decide (x=.non))) H):=by
 intro pins s σ H x y v u Q I rx ry h;obtain⟨rfl,q⟩:=h;cases ry;refine is_none_gen (bY I q ?_);cases x <;> first
  | (cases rx;rfl)
  | (obtain⟨t,rfl⟩:=rx;rfl)
theorem bQ (b:Expr) {op:CmpOp} (h:op≠.In:=by decide) (h2:op≠.NotIn:=by decide):behindInMarks op b=false:=by
 have e1:(op == CmpOp.In)=false:=by cases op <;> first | rfl | exact absurd rfl h
 have e2:(op == CmpOp.NotIn)=false:=by cases op <;> first | rfl | exact absurd rfl h2
 cases b <;> simp [behindInMarks,e1,e2]
theorem iK {op:CmpOp}{r:R2} (ho:j5 X (compareOp op) r) (ha:PE X a ta) (hb:PE X b tb) (hm:behindInMarks op b=false):PE X (.Compare a [op] [b] pos) (eZ r ta tb):=by
 intro pins s σ H Q I h;exact wpAny_Compare1 (FS ha hb I h λ v u s2 x y H2 I2 rx ry q=>ho pins s2 σ H2 x y v u Q I2 rx ry q) hm
def tJ (t:TE):TT:=λ σ H Q=>t σ H λ x H'=>∃ k,x=.bl k/\Q k H'
theorem bN {op:CmpOp}{r:R2} (ho:j5 X (compareOp op) r) (ha:PE X a ta) (hb:PE X b tb) (hm:behindInMarks op b=false):PT X (.Compare a [op] [b] pos) (tJ (eZ r ta tb)):=by
 intro pins s σ H Q I h;refine wpAny_isTrue_Compare1 (d5 (ha pins s σ H _ I h) λ v s1 ⟨x,H1,I1,r1,q1⟩=>d5 (hb pins s1 σ H1 _ I1 q1) λ u s2 ⟨y,H2,I2,r2,q2⟩=>
  d5 (ho pins s2 σ H2 x y v u _ I2 r1 r2 q2) λ c s3 ⟨z,H3,I3,r3,k,e,q3⟩=>?_) hm
 subst e;cases r3;exact wpAny_truthy_bool ⟨H3,I3,q3⟩
def ED (r r':R2) (ta tb tc:TE):TE:=λ σ H Q=>ta σ H λ x H1=>tb σ H1 λ y H2=>r x y H2 λ z H3=>∃ k,z=.bl k/\
 (if k=true then tc σ H3 λ w' H4=>r' y w' H4 Q else Q (.bl false) H3)
theorem tT {op op':CmpOp}{r r':R2} (ho:j5 X (compareOp op) r) (ho':j5 X (compareOp op') r') (ha:PE X a ta) (hb:PE X b tb) (hc:PE X c tc)
  (hm:lastMarks [op,op'] [b,c]=false:=by with_unfolding_all rfl):PE X (.Compare a [op,op'] [b,c] pos) (ED r r' ta tb tc):=by
 intro pins s σ H Q I h;refine Compare_chain (d5 (ha pins s σ H _ I h) λ v s1 ⟨x,H1,I1,r1,q1⟩=>chain_link (d5 (hb pins s1 σ H1 _ I1 q1) λ u s2 ⟨y,H2,I2,r2,q2⟩=>
  d5 (ho pins s2 σ H2 x y v u _ I2 r1 r2 q2) λ d s3 ⟨z,H3,I3,r3,k,e,q3⟩=>?_)) hm
 subst e;cases r3;refine wpAny_truthy_bool ?_;cases k with
 | false=>exact ite_ff ⟨.bl false,H3,I3,rfl,q3⟩
 | true=>exact ite_tt (chain_last (d5 (hc pins s3 σ H3 _ I3 q3) λ w' s4 ⟨z',H4,I4,r4,q4⟩=>ho' pins s4 σ H4 y z' u w' Q I4 r2 r4 q4))
theorem pP:(sizeLine:Nat) < 2 ^ 63:=by rw[sizeLine_eq];decide
theorem qP {x:V}{us:List Value} (r:bL [x] us):∃ u,us=[u]/\bM x u:=by
 cases r with
 | cons r1 r2=>cases r2;exact⟨_,rfl,r1⟩
theorem zM {x y:V}{us:List Value} (r:bL [x,y] us):∃ u w',us=[u,w']/\bM x u/\bM y w':=by
 cases r with
 | cons r1 r2=>
  cases r2 with
  | cons r3 r4=>cases r4;exact⟨_,_,rfl,r1,r3⟩
theorem nP (hc:X.calm=true):fW X (.builtin "max") (λ xs H Q=>∃ i j,xs=[.int i,.int j]/\Q (.int (if j > i then j else i)) H):=by
 intro pins s σ H xs us Q I r h;obtain⟨i,j,rfl,q⟩:=h;obtain⟨u,w',rfl,⟨t,rfl⟩,⟨t',rfl⟩⟩:=zM r;refine max_two_ints (I.ok.hd hc) λ h' tk k=>⟨_,H,I.kept k,?_,q⟩
 by_cases hj:j > i
 ·rw[if_pos hj,if_pos hj];exact⟨_,rfl⟩
 ·rw[if_neg hj,if_neg hj];exact⟨_,rfl⟩
theorem kF (hc:X.calm=true):fW X (.builtin "min") (λ xs H Q=>∃ i j,xs=[.int i,.int j]/\Q (.int (if j < i then j else i)) H):=by
 intro pins s σ H xs us Q I r h;obtain⟨i,j,rfl,q⟩:=h;obtain⟨u,w',rfl,⟨t,rfl⟩,⟨t',rfl⟩⟩:=zM r;refine min_two_ints (I.ok.hd hc) λ h' tk k=>⟨_,H,I.kept k,?_,q⟩
 by_cases hj:j < i
 ·rw[if_pos hj,if_pos hj];exact⟨_,rfl⟩
 ·rw[if_neg hj,if_neg hj];exact⟨_,rfl⟩
theorem iD:fW X (.type "int") (λ xs H Q=>(∃ i,xs=[.int i]/\Q (.int i) H)\/∃ k,xs=[.bl k]/\Q (.int (if k then 1 else 0)) H):=by
 intro pins s σ H xs us Q I r h;rcases h with ⟨i,rfl,q⟩ | ⟨k,rfl,q⟩
 ·obtain⟨u,rfl,t,rfl⟩:=qP r;exact call_int_int ⟨.int i,H,I,⟨_,rfl⟩,q⟩
 ·obtain⟨u,rfl,r1⟩:=qP r;cases r1;exact call_int_bool ⟨.int (if k then 1 else 0),H,I.tok _,⟨_,rfl⟩,q⟩
end
structure ObjM (h:Heap) (x dx C:Addr) (mA:Str->Option Value):Prop where
 obj:h.get? x=some (PySem.W.instObj C dx)
 ns:h.Ns1 dx mA
 ne:dx≠x
theorem yH {h:Heap}{dx:Addr}{mA:Str->Option Value} (n:h.Ns1 dx mA):∃ od,h.get? dx=some od/\∀ name,PySem.W.lookIn name od=some (mA name):=by
 obtain⟨o,es,ep,ho,hd,hk,_,hm⟩:=n;refine⟨o,ho,λ name=>?_⟩;have e:=hm name;unfold nsFind findBy at e;rw[<- Array.find?_toList] at e;unfold PySem.W.lookIn;rw[hd];dsimp only
 split
 ·rename_i y q
  rw[q] at e;exact congrArg some e
 ·rename_i q
  rw[q] at e;have a:es.toList.any (·.refKey)=false:=by
   rw[List.any_eq_false];intro y hy;obtain⟨z,t,hkey⟩:=hk y (Array.mem_toList_iff.mp hy);simp [DictEntry.refKey,hkey]
  have a':¬ es.toList.any (·.refKey)=true:=by rw[a];exact aaj
  rw[if_neg a'];exact congrArg some e
theorem ObjM.look {h:Heap}{x dx C:Addr}{mA:Str->Option Value} (I:ObjM h x dx C mA):∃ od,PySem.W.InstAt h x (PySem.W.instObj C dx) C (some od)/\∀ name,PySem.W.lookIn name od=some (mA name):=
 let ⟨od,ho,hl⟩:=yH I.ns
 ⟨od,⟨I.obj,rfl,rfl,ho⟩,hl⟩
section
variable {prog:Program}{A:Around}{E:Value->Shared->Prop}{s:Shared}{x dx f:Addr}{mA:Str->Option Value}{name:Str}{v:Value}
end
section
variable {H H':Hp}{h h':Heap}{a dx:Addr}{fs fs':List (Str×V)}
theorem D8 (hok:lN P w H h) (e:H a=some (.ins C dx fs)):∃ mA,ObjM h a dx C mA/\(∀ f,t8 (fs.lookup f) (mA f))/\PySem.Within mA (fs.map (·.1))/\fs.length<=1000/\H dx=some (.own a):=by
 obtain⟨d,z,ne,ob,mA,n,r,q⟩:=(show dG P w H h a (.ins C dx fs) from hok a _ e);exact⟨mA,⟨ob,n,ne⟩,r,q,z,d⟩
end
structure Cls (K:aaa) (C:Addr):Prop where
 pg:PySem.W.plainGet K C Str.empty=true
 hd:PySem.W.hasDictIn K C=true
 po:PySem.W.plainOver K C=true
 sa:PySem.W.findIn K (.ref C) "__setattr__" = some (some (.builtin "object.__setattr__"))
theorem Cls.get {K:aaa}{C:Addr} (c:Cls K C) (f:Str):PySem.W.plainGet K C f=true:=c.pg
section
variable {X:Cx}{pins:List (Addr×Obj)}{σ:St}{H:Hp}{s:Shared}{a dx:Addr}{fs:List (Str×V)}{f:Str}{v:V}{A:Around}{E:Value->Shared->Prop}
end
section
variable {X:Cx}{o e value:Expr}{f:Str}{pos pos' tpos:Pos}{ta tv:TE}
end
section
variable {X:Cx}{pins:List (Addr×Obj)}{σ:St}{H:Hp}{s:Shared}{A:Around}{E:Value->Shared->Prop}{Q:Value->Shared->Prop}{c:Value}{b:Bool}
inductive TyOf (K:aaa) (H:Hp):V->Value->Prop where
 | non:TyOf K H .non (.type "NoneType")
 | bl (x:Bool):TyOf K H (.bl x) (.type "bool")
 | int (i:Int):TyOf K H (.int i) (.type "int")
 | str (x:Str):TyOf K H (.str x) (.type "str")
 | flt (x:UInt64):TyOf K H (.flt x) (.type "float")
 | lst {a:Addr}{xs:List V} (e:H a=some (.lst xs)):TyOf K H (.ref a) (.type "list")
 | frz {a:Addr}{o:Obj}{xs:List V} (e:H a=some (.frz o (.lst xs))):TyOf K H (.ref a) (.type "list")
 | tup {a:Addr}{xs:List V} (e:H a=some (.tup xs)):TyOf K H (.ref a) (.type "tuple")
 | dK {a:Addr}{kvs:List (fT×V)} (e:H a=some (.dK kvs)):TyOf K H (.ref a) (.type "dict")
 | dT {a:Addr}{kvs:List (List fT×V)} (e:H a=some (.dT kvs)):TyOf K H (.ref a) (.type "dict")
 | ins {a C dx:Addr}{fs:List (Str×V)} (e:H a=some (.ins C dx fs)) (cl:Cls K C) (ha:PySem.W.findIn K (.ref C) "__class__" = some (some (.builtin "object.__class__")))
   (hn:PySem.W.specialIn K (.builtin "object.__class__") "__get__" = some (some (.builtin "getset_descriptor.__get__"))) (htk:PySem.W.takesIn K (.builtin "object.__class__")=some true)
   (hm:PySem.W.mroIn K C (.type "object")=some true):TyOf K H (.ref a) (.ref C)
theorem kB {x:V}{u t:Value} (I:Inv X pins σ H s) (rx:bM x u) (ty:TyOf X.K H x t) (e:PySem.W.kitOne X.K t c=some b) (h:∀ tk,Q (.bool b) { s with toks:=tk }) :
  wpAny (model X.prog X.w) A (call (.builtin "isinstance") [u,c]) Q E s:=by
 cases ty with
 | non=>cases (show u=Value.none from rx);exact PySem.W.kia_one PySem.W.kitx_none I.kIn True.intro e (λ z=>nomatch z) h
 | bl y=>cases (show u=Value.bool y from rx);exact PySem.W.kia_one PySem.W.kitx_bool I.kIn True.intro e (λ z=>nomatch z) h
 | int i=>obtain⟨t,q⟩:=(show ∃ t,u=Value.int i t from rx);cases q;exact PySem.W.kia_one PySem.W.kitx_int I.kIn True.intro e (λ z=>nomatch z) h
 | str y=>obtain⟨t,q⟩:=(show ∃ t,u=Value.str y t from rx);cases q;exact PySem.W.kia_one PySem.W.kitx_str I.kIn True.intro e (λ z=>nomatch z) h
 | flt y=>obtain⟨t,q⟩:=(show ∃ t,u=Value.float y t from rx);cases q;exact PySem.W.kia_one PySem.W.kitx_float I.kIn True.intro e (λ z=>nomatch z) h
 | @lst a xs ea=>
  cases (show u=Value.ref a from rx);obtain⟨_,_,n,_,h1⟩:=(show dG X.prog X.w H s.heap a (.lst xs) from I.hok a _ ea);exact PySem.W.kia_one PySem.W.kitx_list I.kIn ⟨_,h1,rfl⟩ e (λ z=>nomatch z) h
 | @frz a ob xs ea=>
  cases (show u=Value.ref a from rx);obtain⟨_,_,_,n,_,h1⟩:=(show dG X.prog X.w H s.heap a (.frz ob (.lst xs)) from I.hok a _ ea);exact PySem.W.kia_one PySem.W.kitx_list I.kIn ⟨_,h1,rfl⟩ e (λ z=>nomatch z) h
 | @tup a xs ea=>
  cases (show u=Value.ref a from rx);obtain⟨_,_,_,p⟩:=(show dG X.prog X.w H s.heap a (.tup xs) from I.hok a _ ea);obtain⟨o,h1,h2,_⟩:=p;exact PySem.W.kia_one PySem.W.kitx_tuple I.kIn ⟨o,h1,h2⟩ e (λ z=>nomatch z) h
 | @dK a kvs ea=>
  cases (show u=Value.ref a from rx);obtain⟨_,_,vs,_,p⟩:=(show dG X.prog X.w H s.heap a (.dK kvs) from I.hok a _ ea);obtain⟨o,es,ep,h1,h2,_⟩:=p;exact PySem.W.kia_one PySem.W.kitx_dict I.kIn ⟨o,h1,h2.1⟩ e (λ z=>nomatch z) h
 | @dT a kvs ea=>
  cases (show u=Value.ref a from rx);obtain⟨_,_,xs,_,o,es,ep,h1,h2,_⟩:=(show dG X.prog X.w H s.heap a (.dT kvs) from I.hok a _ ea);exact PySem.W.kia_one PySem.W.kitx_dict I.kIn ⟨o,h1,h2.1⟩ e (λ z=>nomatch z) h
 | @ins a C dx fs ea cl ha hn htk hm=>
  cases (show u=Value.ref a from rx);obtain⟨mA,O,_⟩:=D8 I.hok ea;obtain⟨od,J,_⟩:=O.look;exact PySem.W.kia_one (PySem.W.kitx_own (cl.get _) cl.hd ha hn htk hm) I.kIn J e (λ z=>nomatch z) h
end
structure Room (k:Nat) (A:Around):Prop where
 hd:A.handled=none
 dp:A.depth+3 * k+5 < recursionLimit
 un:A.units+16 * k+200 < cLine
theorem Room.mono {j k:Nat}{A:Around} (r:Room k A) (h:j<=k):Room j A:=⟨r.hd,by have:=r.dp;omega,by have:=r.un;omega⟩
theorem Room.deeper {k:Nat}{A:Around} (r:Room (k+1) A) (env:Env):Room k (A.deeper env):=
 ⟨r.hd,by have:=r.dp;show A.depth+1+3 * k+5 < _;omega,by have:=r.un;show A.units+3+16 * k+200 < _;omega⟩
theorem Room.depth {k:Nat}{A:Around} (r:Room k A):A.depth < recursionLimit:=by have:=r.dp;omega
theorem Room.units {k:Nat}{A:Around} (r:Room k A):A.units+64 < cLine:=by have:=r.un;omega
def eD:TA:=λ _ H Q=>Q [] H
def bE (ta:TE) (tr:TA):TA:=λ σ H Q=>ta σ H λ x H1=>tr σ H1 λ xs H2=>Q (x::xs) H2
section
variable {X:Cx}{e:Expr}{es:List Expr}{te:TE}{t:TA}{pos:Pos}
theorem aC:PA X [] eD:=λ _ _ _ _ H Q I h=>Calls.spliced_nil ⟨[],H,I,.nil,h⟩
theorem aA (ha:PE X e te) (hr:PA X es t) (hs:starEach (e::es) X.env=(false,eval e X.env)::starEach es X.env:=by rfl):PA X (e::es) (bE te t):=by
 intro pos pins s σ H Q I h;rw[hs];show wpAny _ _ (spliced ((false,eval e X.env)::backTo pos (starEach es X.env))) _ _ s;refine Calls.spliced_cons (d5 (ha pins s σ H _ I h) λ u s1 ⟨x,H1,I1,r1,q1⟩=>?_);exact d5 (hr pos pins s1 σ H1 _ I1 q1) λ us s2 ⟨xs,H2,I2,r2,q2⟩=>⟨x::xs,H2,I2,.cons r1 r2,q2⟩
def y4 (t:TA):TE:=λ σ H Q=>t σ H λ xs H1=>xs.length<=sizeLine/\∀ p,H1 p=none->Q (.ref p) (upd H1 p (.tup xs))
def kJ (t:TA):TE:=λ σ H Q=>t σ H λ xs H1=>xs.length<=sizeLine/\∀ p,H1 p=none->Q (.ref p) (upd H1 p (.lst xs))
theorem aO {x1} (h:PA X es t):PE X (.Tuple es x1 pos) (y4 t):=by
 intro pins s σ H Q I hq;refine wpAny_Tuple_spliced (d5 (h pos pins s σ H _ I hq) λ us s1 ⟨xs,H1,I1,r,z,q⟩=>⟨by rw[<- r.length];exact z,?_⟩);have hf:H1 s1.heap.objs.size=none:=I1.hok.fresh (aak _);refine⟨.ref s1.heap.objs.size,upd H1 s1.heap.objs.size (.tup xs),I1.laid (t':=s1.toks) (λ b u e=>aac _ e) (aak _) ?_,rfl,q _ hf⟩;exact⟨z,us,r,⟨_,aai _ rfl,rfl,_,rfl⟩⟩
theorem b9 (h:PA X es t):PE X (.List es pos) (kJ t):=by
 intro pins s σ H Q I hq;refine wpAny_List_spliced (d5 (h pos pins s σ H _ I hq) λ us s1 ⟨xs,H1,I1,r,z,q⟩=>⟨by rw[<- r.length];exact z,?_⟩);have hf:H1 s1.heap.objs.size=none:=I1.hok.fresh (aak _);refine⟨.ref s1.heap.objs.size,upd H1 s1.heap.objs.size (.lst xs),I1.laid (t':=s1.toks) (λ b u e=>aac _ e) (aak _) ?_,rfl,q _ hf⟩;exact⟨z,us,0,r,aai _ rfl⟩
end
abbrev Sp:=List V->Hp->VK->XK->Prop
abbrev zG:=List Env->Hp->Shared->XK->Value->Shared->Prop
structure Env0 (P:Program) (w:World) (K:aaa) (mg:Str->Option Value) (base:Heap) (A:Around) (outer:List Env) (s:Shared) (H:Hp):Prop where
 frames:A.frames=some outer
 mod:Mod K mg base
 bs:∀ b o,base.get? b=some o->s.heap.get? b=some o/\H b=none
 bsz:base.objs.size<=s.heap.objs.size
 funs:s.heap.FunFrames base outer
 frf:∀ b∈BA outer,H b=none
 hok:lN P w H s.heap
 bare:AllBare s.gens
def CE (outer:List Env) (P:Program) (w:World) (H:Hp) (s:Shared) (Q:VK) (u:Value) (s':Shared):Prop:=
 ∃ v H',s'.os=s.os/\AllBare s'.gens/\Un (BA outer) [] H H' s.heap s'.heap/\lN P w H' s'.heap/\bM v u/\Q v H'
def CR (CX:zG) (outer:List Env) (P:Program) (w:World) (H:Hp) (s:Shared) (Q:VK) (E:XK) (r:Result) (s':Shared):Prop:=
 match r with
 | .ok (.ret u)=>CE outer P w H s Q u s'
 | .ok _=>False
 | .error e=>CX outer H s E e s'
structure FnOk (P:Program) (w:World) (K:aaa) (mg:Str->Option Value) (base:Heap) (CX:zG) (k:Nat) (f:Addr) (fd:FuncData) (ps:List Str) (sp:Sp):Prop where
 len:∀ vs H Q E,sp vs H Q E->vs.length=ps.length
 run:∀ (A:Around) (outer:List Env) (s:Shared) (H:Hp) (args:Args) (us:List Value) (vs:List V) (Q:VK) (E:XK),Room k A->Env0 P w K mg base A outer s H->BindsTo s fd args (ps.zip us)->bL vs us->sp vs H Q E->
  codeAny (model P w) A (.call (.ref f) args) (CR CX outer P w H s Q E) s
theorem FnOk.imp {P:Program}{w:World}{K:aaa}{mg:Str->Option Value}{base:Heap}{CX:zG}{k:Nat}{f:Addr}{fd:FuncData}{ps:List Str}{sp sp':Sp} (F:FnOk P w K mg base CX k f fd ps sp)
  (h:∀ vs H Q E,sp' vs H Q E->sp vs H Q E):FnOk P w K mg base CX k f fd ps sp':=
 ⟨λ vs H Q E q=>F.len vs H Q E (h _ _ _ _ q),λ A outer s H args us vs Q E hr he hb hv hs=>F.run A outer s H args us vs Q E hr he hb hv (h _ _ _ _ hs)⟩
section
variable {X:Cx}{pins:List (Addr×Obj)}{σ:St}{H:Hp}{s s':Shared}
theorem Inv.env0 (I:Inv X pins σ H s):Env0 X.prog X.w X.K X.mg X.base X.A X.stack s H:=
 ⟨I.ok.frames,I.ok.mod,I.bs,abo I.ok.bsz I.sz,I.stack,I.stkFree,I.hok,I.bare⟩
theorem Inv.after {Q:VK}{u:Value} (I:Inv X pins σ H s) (h:CE X.stack X.prog X.w H s Q u s'):EP X pins σ Q u s':=by
 obtain⟨v,H',os,bare,un,hok,r,q⟩:=h;obtain⟨hh,g,d,t,os'⟩:=s';obtain rfl:os'=s.os:=os;exact⟨v,H',I.call (h':=hh) (g':=g) (d':=d) (t':=t) (ch:=[]) un hok bare (λ b z=>absurd z (by simp)),r,q⟩
end
def iS (sp:Sp) (dvs:List V) (E:XK) (t:TA):TE:=λ σ H Q=>t σ H λ vs H1=>sp (vs++dvs) H1 Q E
def rL (K:aaa) (fd:FuncData) (ps:List Str) (ds:List Value):Prop:=
 ∀ (s:Shared) (us:List Value),K.In s.heap->(us++ds).length=ps.length->BindsTo s fd ⟨us,[]⟩ (ps.zip (us++ds))
theorem rL.all {K:aaa}{fd:FuncData}{ps:List Str} (h:∀ us:List Value,us.length=ps.length->bindArgs fd ⟨us,[]⟩=pure (ps.zip us)):rL K fd ps []:=λ s us _ hl=>by
 rw[acg] at hl ⊢;exact .of_eq (h us hl)
def wB (CX:zG) (X:Cx) (E:XK):Prop:=∀ (pins:List (Addr×Obj)) (σ:St) (H:Hp) (s:Shared) (e:Value) (s':Shared),Inv X pins σ H s->CX X.stack H s E e s'->X.xe e s'
section
variable {X:Cx}{CX:zG}{k:Nat}{f:Addr}{fd:FuncData}{ps:List Str}{sp:Sp}{dvs:List V}{ds:List Value}{E:XK}{x m:Str}{p pos apos:Pos}{e o:Expr}{es:List Expr}{ta:TE}{t:TA}
theorem EH {pins:List (Addr×Obj)}{σ:St}{H:Hp}{s:Shared}{Q:VK}{us:List Value}{vs:List V} (F:FnOk X.prog X.w X.K X.mg X.base CX k f fd ps sp) (hr:Room k X.A) (hb:rL X.K fd ps ds) (hd:bL dvs ds) (hx:wB CX X E)
  (I:Inv X pins σ H s) (r:bL vs us) (h:sp (vs++dvs) H Q E):wpAny (model X.prog X.w) X.A (call (.ref f) us) (EP X pins σ Q) X.xe s:=by
 have r2:bL (vs++dvs) (us++ds):=r.append hd;have hl:(us++ds).length=ps.length:=by rw[<- r2.length];exact F.len _ _ _ _ h
 refine wpAny_call (codeAny_mono (F.run X.A X.stack s H ⟨us,[]⟩ (us++ds) (vs++dvs) Q E hr I.env0 (hb s us I.kIn hl) r2 h) λ r s' hq=>?_);cases r with
 | error e=>exact hx pins σ H s e s' I hq
 | ok fl=>
  cases fl with
  | ret u=>exact I.after hq
  | next=>exact False.elim hq
  | brk=>exact False.elim hq
  | cont=>exact False.elim hq
theorem CS (F:FnOk X.prog X.w X.K X.mg X.base CX k f fd ps sp) (hr:Room k X.A) (hg:Gl X x) (hm:X.mg x=some (.ref f)) (hk:PySem.W.keepIn X.K (.ref f)=true) (hb:rL X.K fd ps ds) (hd:bL dvs ds) (hx:wB CX X E)
  (ha:PA X (e::es) t) (hdb:(x == ("__debug__" : Str))=false:=by decide) (he:starEach (e::es) X.env=(false,eval e X.env)::starEach es X.env:=by rfl) (hpl:(backTo pos (starEach es X.env)).any (·.1)=false:=by rfl) :
  PE X (.Call (.Name x p) (e::es) [] pos) (iS sp dvs E t):=by
 intro pins s σ H Q I h;refine wpAny_Call_Name_kw (x8 I hg hm ?_ hdb);refine PySem.W.callWith_K (h₀:=X.base) I.ok.mod.kin hk (d5 (ha pos pins s σ H _ I h) λ us s1 ⟨vs,H1,I1,r,q⟩=>⟨I1.kIn,?_⟩) he hpl;exact EH F hr hb hd hx I1 r q
end
section
variable {X:Cx}{CX:zG}{k:Nat}{f:Addr}{fd:FuncData}{ps ks:List Str}{sp:Sp}{E:XK}{x m:Str}{p pos apos kpos:Pos}{e o:Expr}{es:List Expr}{kws:List Keyword}{te ta:TE}{t tk:TA}{nm:Option Str}
variable {g:List Value->List Value->List Value}{gV:List V->List V->List V}
end
structure FnScope (N P:List Str) (sc:Scope):Prop where
 kind:sc.kind=.function:=by rfl
 co:sc.isCoroutine=false:=by rfl
 gen:sc.isGenerator=false:=by rfl
 nd:N.Nodup:=by decide +kernel
 pre:N.take P.length=P:=by rfl
 par:∀ x∈P,sc.names.lookup x=some .local\/sc.names.lookup x=some .cell:=by decide +kernel
 nofree:∀ y∈sc.names,y.2≠.free:=by decide +kernel
theorem rG {kindOf:Str->Option NameKind}{x:Str}:∀ {binds:List (Str×Value)}{m:Str->Option Value},(∀ v,(x,v)∉binds)->bindL kindOf binds m x=m x
 | [],_,_=>rfl
 | (n,v)::r,m,h=>by
  unfold bindL;rw[rG λ w hw=>h w (aay _ hw)]
  split
  ·have:x≠n:=by rintro rfl;exact h v abi
   simp [this]
  ·rfl
theorem rJ {kindOf:Str->Option NameKind}{x:Str}:∀ {binds:List (Str×Value)}{m:Str->Option Value},(∀ v,(x,v)∉binds)->bindC kindOf binds m x=m x
 | [],_,_=>rfl
 | (n,v)::r,m,h=>by
  unfold bindC;rw[rJ λ w hw=>h w (aay _ hw)]
  split
  ·rfl
  ·have:x≠n:=by rintro rfl;exact h v abi
   simp [this]
theorem rH {kindOf:Str->Option NameKind}{x:Str}{v:Value}:∀ {P:List Str}{vs:List Value}{i:Nat}{m:Str->Option Value},P.Nodup->P[i]? = some x->vs[i]? = some v->kindOf x=some .local->
  bindL kindOf (P.zip vs) m x=some v
 | [],_,_,_,_,h,_,_=>by simp at h
 | _::_,[],_,_,_,_,h,_=>by simp at h
 | p::P,w::vs,0,m,nd,h1,h2,hk=>by
  simp at h1 h2;subst h1;subst h2;show bindL kindOf ((p,w)::P.zip vs) m p=_;unfold bindL;rw[rG λ v hv=>(acq.mp nd).1 (List.of_mem_zip hv).1,if_pos hk];simp
 | p::P,w::vs,i+1,m,nd,h1,h2,hk=>by
  show bindL kindOf ((p,w)::P.zip vs) m x=_;unfold bindL;exact rH (i:=i) (acq.mp nd).2 (by simpa using h1) (by simpa using h2) hk
theorem rK {kindOf:Str->Option NameKind}{x:Str}{v:Value}:∀ {P:List Str}{vs:List Value}{i:Nat}{m:Str->Option Value},P.Nodup->P[i]? = some x->vs[i]? = some v->kindOf x≠some .local->
  bindC kindOf (P.zip vs) m x=some v
 | [],_,_,_,_,h,_,_=>by simp at h
 | _::_,[],_,_,_,_,h,_=>by simp at h
 | p::P,w::vs,0,m,nd,h1,h2,hk=>by
  simp at h1 h2;subst h1;subst h2;show bindC kindOf ((p,w)::P.zip vs) m p=_;unfold bindC;rw[rJ λ v hv=>(acq.mp nd).1 (List.of_mem_zip hv).1,if_neg hk];simp
 | p::P,w::vs,i+1,m,nd,h1,h2,hk=>by
  show bindC kindOf ((p,w)::P.zip vs) m x=_;unfold bindC;exact rK (i:=i) (acq.mp nd).2 (by simpa using h1) (by simpa using h2) hk
def nR (N:List Str) (vs:List V):St:=vs.map some++List.replicate (N.length - vs.length) none
def yR (CX:zG) (P:Program) (w:World) (K:aaa) (mg:Str->Option Value) (base:Heap) (N:List Str) (qual:Str) (scope:Scope) (f:Addr) (cd:Value) (A:Around) (outer:List Env) (s:Shared) (H:Hp) (E:XK):Cx where
 prog:=P
 w:=w
 K:=K
 mg:=mg
 base:=base
 A:=A.deeper (envOfC qual scope s.heap.objs.size f cd)
 N:=N
 s₀:=s
 H₀:=H
 env:=envOfC qual scope s.heap.objs.size f cd
 outer:=outer
 stack:=envOfC qual scope s.heap.objs.size f cd::outer
 ex:=[]
 calm:=true
 fn:=λ _=>true
 pn:=[]
 xe:=λ e s'=>wpAny (model P w) (A.deeper (envOfC qual scope s.heap.objs.size f cd)) (leaving (envOfC qual scope s.heap.objs.size f cd) e) (λ _ s''=>CX outer H s E e s'') (λ e' s''=>CX outer H s E e' s'') s'
theorem uM {sc:Scope}{n:Nat}{x:Str} (h:sc.names.lookup x=some .cell):∃ c,(cellsFrom n sc.names []).lookup x=some c:=by
 have q:=PySem.W.cellsFrom_some sc.names n [] (.inl h);exact Option.isSome_iff_exists.mp q
theorem yK {CX:zG}{P:Program}{w:World}{K:aaa}{mg:Str->Option Value}{base:Heap}{N ps:List Str}{qual:Str}{scope:Scope}{f:Addr}{cd:Value}{A:Around}{outer:List Env}{s s1:Shared}{H:Hp}{E:XK}{us:List Value}{vs:List V}
  (S:FnScope N ps scope) (hd:A.handled=none) (e0:Env0 P w K mg base A outer s H) (hl:vs.length=ps.length) (r:bL vs us)
  (x:InCallC s s.heap.objs.size (bindL (envOfC qual scope s.heap.objs.size f cd).kindOf (ps.zip us) λ _=>none) (cellsFrom (s.heap.objs.size+1) scope.names []) (bindC (envOfC qual scope s.heap.objs.size f cd).kindOf (ps.zip us) λ _=>none) s1) :
  Inv (yR CX P w K mg base N qual scope f cd A outer s H E) [] (nR N vs) H s1:=by
 have hpl:ps.length<=N.length:=by have:=congrArg List.length S.pre;rw[aau] at this;omega
 obtain⟨h1,tk,rfl,hk⟩:=x.done;have noA:∀ b:Addr,b∉(yR CX P w K mg base N qual scope f cd A outer s H E).ex:=λ b z=>absurd (show b∈([]:List Addr) from z) (by simp);refine⟨⟨e0.mod,S.kind,rfl,rfl,aak _,λ y z c h1 h2=>?_,λ y hy=>?_,λ y c _ h=>?_,λ _=>hd,Around.frames_deeper e0.frames,.inr ⟨rfl,rfl⟩,λ b z=>absurd z (noA b),e0.bs,e0.bsz,λ b _ _=>noA b,λ b z=>absurd z (noA b),e0.funs,e0.frf⟩,
  rfl,e0.bare,Un.kept hk,⟨_,x.toInCall.ns,λ i y v h1 h2 h3=>?_⟩,λ y c h=>⟨_,x.cell y c h⟩,e0.hok.fresh (aak _),λ y c h=>?_,λ p hp=>absurd (show p∈([]:List (Addr×Obj)) from hp) (by simp),e0.hok.kept hk,?_⟩
 ·exact name_of_addr x.apart (abt h1) (abt h2)
 ·have hy:scope.names.lookup y=some .cell\/scope.names.lookup y=some .free:=hy;rcases hy with hy | hy
  ·exact uM hy
  ·exact absurd rfl (S.nofree _ (abt hy))
 ·exact aca (x.above y c (abt h))
 ·have hi:i < vs.length:=by
   unfold nR at h2
   by_cases hi:i < vs.length
   ·exact hi
   ·rw[ach (by simpa using hi)] at h2;rw[List.getElem?_replicate] at h2
    split at h2 <;> cases h2
  have ha:vs[i]? = some v:=by
   unfold nR at h2;rw[aci (by simpa using hi),aah] at h2;cases e:vs[i]? with
   | none=>rw[e] at h2;cases h2
   | some a=>rw[e] at h2;cases h2;rfl
  obtain⟨u,hu,rv⟩:=r.get ha;have hp:ps[i]? = some y:=by
   rw[<- S.pre,List.getElem?_take_of_lt (by omega)];exact h1
  have ndP:ps.Nodup:=by rw[<- S.pre];exact S.nd.sublist (List.take_sublist _ _)
  refine⟨u,rv,?_⟩;rcases S.par y (aao hp) with k | k
  ·exact .inl ⟨k,rH ndP hp hu k⟩
  ·obtain⟨c,e⟩:=uM (n:=s.heap.objs.size+1) k;refine .inr ⟨.inl k,c,e,?_⟩;have q:=x.cell y c e;rw[rK ndP hp hu (by show scope.names.lookup y≠_;rw[k];decide)] at q;exact q
 ·exact e0.hok.fresh (aca (x.above y c (abt h)))
 ·unfold nR;show _=N.length;rw[aap,aad,List.length_replicate];omega
theorem HF {CX:zG}{P:Program}{w:World}{K:aaa}{mg:Str->Option Value}{base:Heap}{k:Nat}{f:Addr}{name qual:Str}{params:Arguments}{body:List Stmt}{scope:Scope}{dV kV doc pm cdv ct oc:Value}{an od:Option Addr}
  {osl:Array (Option Value)}{N ps:List Str}{sp:Sp} (lk:K.lookup f=some ⟨oc,od,.func (PySem.W.fnOf name qual params body scope dV kV doc pm an cdv ct),osl⟩) (hcd:PySem.W.codeIn K cdv qual=true) (S:FnScope N ps scope)
  (len:∀ vs H Q E,sp vs H Q E->vs.length=ps.length)
  (hbody:∀ (A:Around) (outer:List Env) (s:Shared) (H:Hp) (vs:List V) (Q:VK) (E:XK),Room k (A.deeper (envOfC qual scope s.heap.objs.size f cdv))->sp vs H Q E->
   ∃ t,zF (yR CX P w K mg base N qual scope f cdv A outer s H E) body t/\t { nx:=λ _ H'=>Q .non H',rt:=Q } (nR N vs) H) :
  FnOk P w K mg base CX (k+1) f (PySem.W.fnOf name qual params body scope dV kV doc pm an cdv ct) ps sp:=by
 refine⟨len,λ A outer s H args us vs Q E hr e0 hb r hsp=>?_⟩;have hl:=len _ _ _ _ hsp;have KX:K.In s.heap:=e0.mod.kin.keeps λ b o e=>(e0.bs b o e).1;have lim:s.heap.NoLimit:=e0.mod.nolimit.keeps λ b o e=>(e0.bs b o e).1;have hkind:∀ y∈ps.zip us,scope.names.lookup y.1=some .local\/(scope.names.lookup y.1=some .cell/\((cellsFrom (s.heap.objs.size+1) scope.names []).lookup y.1).isSome=true):=λ ⟨n,v⟩ hy=>by
  rcases S.par n (List.of_mem_zip hy).1 with q | q
  ·exact .inl q
  ·exact .inr ⟨q,PySem.W.cellsFrom_some _ _ _ (.inl q)⟩
 refine codeAny_call_function hr.depth (KX _ _ lk) rfl S.co S.gen rfl (PySem.W.codeRec_of KX hcd) (hb _ _ _ _ ?_);refine wpAny_newFunctionEnv_cells S.kind hkind λ env he s1 x=>?_;subst he;refine⟨lim.keeps x.toInCall.keep,codeAny_func ?_⟩;obtain⟨t,ht,hq⟩:=hbody A outer s H vs Q E (hr.deeper _) hsp;have I:Inv (yR CX P w K mg base N qual scope f cdv A outer s H E) [] (nR N vs) H s1:=yK S hr.hd e0 hl r x;refine abv (ht [] s1 (nR N vs) H _ I hq) (λ fl s' hs=>?_) λ e s' hs=>hs;have fin:∀ {Z:St}{H':Hp}{v:V}{u:Value},Inv (yR CX P w K mg base N qual scope f cdv A outer s H E) [] Z H' s'->bM v u->Q v H'->CE outer P w H s Q u s':=
  λ {Z H' v u} J rv q=>⟨v,H',J.os,J.bare,J.base,J.hok,rv,q⟩
 cases fl with
 | ret u=>
  obtain⟨v,Z,H',J,rv,q⟩:=hs;exact fin J rv q
 | next=>
  obtain⟨Z,H',J,q⟩:=hs;exact fin (v:=V.non) (u:=Value.none) J rfl q
 | brk=>
  obtain⟨_,_,_,q⟩:=hs;exact False.elim q
 | cont=>
  obtain⟨_,_,_,q⟩:=hs;exact False.elim q
section
variable {X:Cx}{x:Str}{p pos:Pos}{e:Expr}{es:List Expr}{t:TA}{id T:String}{r:List V->Hp->VK->Prop}
def zE (r:List V->Hp->VK->Prop) (t:TA):TE:=λ σ H Q=>t σ H λ vs H1=>r vs H1 Q
theorem bF (hc:fW X (.builtin id) r) (hg:Gl X x) (hm:X.mg x=none) (hv:bootBuiltins x=some (.builtin id)) (ha:PA X (e::es) t) (hn:x ≠ "__name__" := by decide) (hdb:(x == ("__debug__" : Str))=false:=by decide)
  (he:starEach (e::es) X.env=(false,eval e X.env)::starEach es X.env:=by rfl) (hpl:(backTo pos (starEach es X.env)).any (·.1)=false:=by rfl):PE X (.Call (.Name x p) (e::es) [] pos) (zE r t):=by
 intro pins s σ H Q I h;refine wpAny_Call_Name_kw (lF I hg hm hv ?_ hn hdb);exact PyProof.Rows.callWith_builtin1 (d5 (ha pos pins s σ H _ I h) λ us s1 ⟨vs,H1,I1,r1,q1⟩=>hc pins s1 σ H1 vs us Q I1 r1 q1) he hpl
theorem b0 (hc:fW X (.type T) r) (hg:Gl X x) (hm:X.mg x=none) (hv:bootBuiltins x=some (.type T)) (ha:PA X (e::es) t) (hn:x ≠ "__name__" := by decide) (hdb:(x == ("__debug__" : Str))=false:=by decide)
  (he:starEach (e::es) X.env=(false,eval e X.env)::starEach es X.env:=by rfl) (hpl:(backTo pos (starEach es X.env)).any (·.1)=false:=by rfl):PE X (.Call (.Name x p) (e::es) [] pos) (zE r t):=by
 intro pins s σ H Q I h;refine wpAny_Call_Name_kw (lF I hg hm hv ?_ hn hdb);exact PyProof.Rows.callWith_type1 (d5 (ha pos pins s σ H _ I h) λ us s1 ⟨vs,H1,I1,r1,q1⟩=>hc pins s1 σ H1 vs us Q I1 r1 q1) he hpl
end
end L2
namespace HT
open PySem PyProof.Rows
section
open PySem.SeqAt
open PySem.AutoSeq1 (wpAny_loadPart')
open PySem.MeetsSeq PySem.MeetsSeq2 PySem.MeetsSeq3
end
section
variable {prog:Program}{A:Around}{E:Value->Shared->Prop}{s:Shared}
theorem cat_tup {t b:Addr}{vs ws:List Value}{Q:Value->Shared->Prop} (ht:IsTup s.heap t vs.toArray) (hb:IsTup s.heap b ws.toArray) (hv:vs≠[])
  (h1:ws=[]->Q (.ref t) s) (h2:ws≠[]->Q (.ref s.heap.objs.size) { s with heap:=s.heap.push { cls:=.type "tuple",data:=.seq (vs++ws).toArray } })
  (hsz:vs.length+ws.length<=sizeLine):wpAny (model prog w) A (binaryOp .Add (.ref t) (.ref b)) Q E s:=by
 obtain⟨⟨cls,dd,data,sl⟩,ho,hc,n,hd⟩:=id ht;obtain⟨⟨cls2,dd2,data2,sl2⟩,ho2,hc2,n2,hd2⟩:=id hb;simp only at hc hd hc2 hd2;subst hc hd hc2 hd2;have e:vs.toArray++ws.toArray=(vs++ws).toArray:=by simp
 by_cases hw:ws=[]
 ·exact concat_meets ⟨_,ho,rfl⟩ ⟨_,ho2,rfl⟩ noFill_tuple_add seq_tuple_add PySem.F.slot_tuple_add PySem.F.entry_tuple_add (PySem.F.args_tuple_add_2 _ _)
   (tuple_addW1 t b vs.toArray ws.toArray n n2 dd dd2 sl sl2 (by simpa using hv) (by simp [hw])) ⟨ho,ho2,h1 hw⟩
 ·refine concat_meets ⟨_,ho,rfl⟩ ⟨_,ho2,rfl⟩ noFill_tuple_add seq_tuple_add PySem.F.slot_tuple_add PySem.F.entry_tuple_add (PySem.F.args_tuple_add_2 _ _)
   (tuple_addW2 t b vs.toArray ws.toArray n n2 dd dd2 sl sl2 (by simpa using hv) (by simpa using hw) (by rw[aaf,aaf];exact hsz)) ⟨ho,ho2,?_⟩
  rw[e];exact h2 hw
def sIx (n d:Nat):Option Int->Nat
 | none=>d
 | some v=>if v < 0 then (v+(n:Int)).toNat else min v.toNat n
theorem sIx_none (n d:Nat):sIx n d none=d:=rfl
theorem sIx_nat (n d k:Nat):sIx n d (some (k:Int))=min k n:=by
 show (if (k:Int) < 0 then ((k:Int)+(n:Int)).toNat else min (k:Int).toNat n)=min k n;rw[if_neg (by omega),ace]
theorem EG (n d:Nat) (hd:d<=n) (o:Option Int):sIx n d o<=n:=by
 cases o with
 | none=>exact hd
 | some v=>
  show (if v < 0 then (v+(n:Int)).toNat else min v.toNat n)<=n
  by_cases hv:v < 0
  ·rw[if_pos hv];omega
  ·rw[if_neg hv];exact Nat.min_le_right _ _
theorem xO (v:Int) (n d:Nat):(if v < 0 then max (v+(n:Int)) 0 else min v (n:Int))=((sIx n d (some v):Nat):Int):=by
 show (if v < 0 then max (v+(n:Int)) 0 else min v (n:Int))=(((if v < 0 then (v+(n:Int)).toNat else min v.toNat n):Nat):Int)
 by_cases hv:v < 0
 ·simp only [if_pos hv];omega
 ·simp only [if_neg hv];omega
theorem w8 (lo hi:Option Int) (n:Nat):Builtin.Slice.sliceAdjust lo hi 1 (n:Int)=(((sIx n 0 lo:Nat):Int),((sIx n n hi:Nat):Int)):=by
 have h1:¬ ((1:Int) < 0):=by omega
 unfold Builtin.Slice.sliceAdjust;simp only [h1,if_false];refine Prod.ext ?_ ?_
 ·cases lo with
  | none=>rfl
  | some v=>exact xO v n 0
 ·cases hi with
  | none=>rfl
  | some v=>exact xO v n n
theorem vG (i j:Nat):Builtin.Slice.slicePlaces (i:Int) (j:Int) 1=j - i:=by
 unfold Builtin.Slice.slicePlaces;have h1:(1:Int) > 0:=by omega
 simp only [h1,if_true,Int.ediv_one]
 split <;> omega
theorem p8 {v:Value}{o:Option Int}{Q:Option Int->Shared->Prop} (p:IsPart v o) (h:Q o s):wpAny (model prog w) A (Builtin.Slice.slicePartIndex v) Q E s:=by
 cases p with
 | none=>exact slicePart_none h
 | int i t=>exact slicePart_int h
theorem hV {sl:Addr}{vl vu:Value}{lo hi:Option Int}{n:Nat}{Q:Int×Int×Nat->Shared->Prop} (hs:s.heap.IsSliceOf sl vl vu .none) (pl:IsPart vl lo) (pu:IsPart vu hi)
  (h:Q (((sIx n 0 lo:Nat):Int),1,sIx n n hi - sIx n 0 lo) s):wpAny (model prog w) A (Builtin.Slice.sliceApplied (.ref sl) (pure (n:Int))) Q E s:=by
 obtain⟨os,hos,hcs,hds⟩:=id hs;unfold Builtin.Slice.sliceApplied Builtin.Slice.sliceFields;refine aab (aab (abe hos hds (x:=vl) rfl (aab (abe hos hds (x:=vu) rfl (aab (abe hos hds (x:=.none) rfl (aae ?_)))))));refine aab (slicePart_none ?_);show wpAny _ _ (if ((1:Int) == 0)=true then _ else _) _ _ s;rw[if_neg (by decide)];refine aab (p8 pl (aab (p8 pu (aab (aae ?_)))));show wpAny _ _ (match Builtin.Slice.sliceAdjust lo hi 1 (n:Int) with | (lo,hi)=>pure (lo,(1:Int),Builtin.Slice.slicePlaces lo hi 1)) _ _ s;rw[w8 lo hi n];show wpAny _ _ (pure (((sIx n 0 lo:Nat):Int),(1:Int),Builtin.Slice.slicePlaces ((sIx n 0 lo:Nat):Int) ((sIx n n hi:Nat):Int) 1)) _ _ s;rw[vG];exact aae h
theorem A5 (xs:Array Value) (i k:Nat):((List.range k).filterMap λ (m:Nat)=>xs[((i:Int)+(m:Int) * 1).toNat]?).toArray=((xs.toList.drop i).take k).toArray:=by
 have e:(λ (m:Nat)=>xs[((i:Int)+(m:Int) * 1).toNat]?)=λ m=>xs[i+m]?:=by
  funext m;have:((i:Int)+(m:Int) * 1).toNat=i+m:=by omega
  rw[this]
 rw[e];have:=pick_run xs i k;rw[List.filterMap_map] at this;have e2:((λ x=>xs[x]?) ∘ λ x=>i+x)=λ m=>xs[i+m]?:=rfl;rw[e2] at this;rw[this]
theorem getItem_tuple_cut {t sl:Addr}{items:Array Value}{vl vu:Value}{lo hi:Option Int}{Q:Value->Shared->Prop} (ht:IsTup s.heap t items) (hs:s.heap.IsSliceOf sl vl vu .none) (pl:IsPart vl lo) (pu:IsPart vu hi)
  (hw:¬ (sIx items.size 0 lo=0/\sIx items.size items.size hi=items.size))
  (h:Q (.ref s.heap.objs.size) { s with heap:=s.heap.push { cls:=.type "tuple",data:=.seq ((items.toList.drop (sIx items.size 0 lo)).take (sIx items.size items.size hi - sIx items.size 0 lo)).toArray } })
  (hsz:items.size<=sizeLine):wpAny (model prog w) A (getItem (.ref t) (.ref sl)) Q E s:=by
 have htake:sizeOk (.seq ((items.toList.drop (sIx items.size 0 lo)).take (sIx items.size items.size hi - sIx items.size 0 lo)).toArray):=by
  show ((items.toList.drop (sIx items.size 0 lo)).take (sIx items.size items.size hi - sIx items.size 0 lo)).toArray.size<=sizeLine;rw[aaf,aau,List.length_drop,Array.length_toList];omega
 have hj:sIx items.size items.size hi<=items.size:=EG _ _ (aak _) hi;obtain⟨os,hos,hcs,hds⟩:=id hs;have hTs:s.TypeIs (.ref sl) "slice" := ⟨os,hos,hcs⟩;unfold getItem
 try with_reducible refine abr ?_
 first | refine aab (aae ?_) | skip
 refine aab (wpAny_sequenceKey ht.typeIs (by decide) ?_);refine aab (wpAny_callSpecial?_slot (name:=Str.ofString "__getitem__") ht.typeIs PyProof.Rows.slot_tuple_getitem
  (wpAny_call_entry PyProof.Rows.slot_tuple_getitem ht.typeIs entry_tuple_getitem ?_ (args_tuple_getitem _ _)))
 show wpAny _ _ (Builtin.Tuple.tupleItemsOf (.ref t) >>= _) _ _ s;refine aab (tupleItemsOf_ ht ?_);refine aab (wpAny_typeOf hTs ?_);rw[if_pos (by decide)];refine aab (hV hs pl pu ?_);have hno:¬ ((((sIx items.size 0 lo:Nat):Int) == 0 && (1:Int) == 1 && (sIx items.size items.size hi - sIx items.size 0 lo) == items.size)=true):=by
  intro q;rw[Bool.and_eq_true,Bool.and_eq_true] at q;have q1:((sIx items.size 0 lo:Nat):Int)=0:=eq_of_beq q.1.1;have q2:sIx items.size items.size hi - sIx items.size 0 lo=items.size:=eq_of_beq q.2;exact hw ⟨by omega,by omega⟩
 show wpAny _ _ (if (((sIx items.size 0 lo:Nat):Int) == 0 && (1:Int) == 1 && (sIx items.size items.size hi - sIx items.size 0 lo) == items.size)=true then _ else _) _ _ s;rw[if_neg hno,A5]
 first
  | exact aab (m:=Builtin.Tuple.tupleExact _) (wpAny_newObj_type (aae ⟨_,rfl,aae h⟩) htake)
  | exact aab (m:=Builtin.Tuple.tupleExact _) (wpAny_newObj_type (aab (aae (aae ⟨_,rfl,aae h⟩))) htake)
  | exact aab (aab (m:=Builtin.Tuple.tupleExact _) (wpAny_newObj_type (aae (aae ⟨_,rfl,aae h⟩)) htake))
  | exact aab (aab (m:=Builtin.Tuple.tupleExact _) (wpAny_newObj_type (aae ⟨_,rfl,aae h⟩) htake))
end
end HT
namespace L2
open PySem PySem.Spec PyProof.Rows
abbrev TO:=St->Hp->(Option Int->Hp->Prop)->Prop
def PO (X:Cx) (e:Option Expr) (t:TO):Prop:=
 ∀ (pins:List (Addr×Obj)) (s:Shared) (σ:St) (H:Hp) (Q:Option Int->Hp->Prop),Inv X pins σ H s->t σ H Q->
  wpAny (model X.prog X.w) X.A (evalPart e X.env) (λ u s'=>∃ o H',Inv X pins σ H' s'/\IsPart u o/\Q o H') X.xe s
def fL:TO:=λ _ H Q=>Q none H
def g7 (t:TE):TO:=λ σ H Q=>t σ H λ x H1=>∃ i,x=.int i/\Q (some i) H1
theorem vX {ns:List Int}:∀ {us:List Value},bL (ns.map V.int) us->IntsAre us ns:=by
 induction ns with
 | nil=>intro us r;rw[acb] at r;cases r;exact .nil
 | cons n ns ih=>
  intro us r;rw[abk] at r;cases r with
  | cons r1 r2=>
   obtain⟨t,e⟩:=r1;subst e;exact .cons n t (ih r2)
section
variable {X:Cx}{e:Expr}{te:TE}{lo hi:Option Expr}{tl th:TO}{pos p2:Pos}
theorem cJ:PO X none fL:=by
 intro pins s σ H Q I h;rw[evalPart_none];exact aae ⟨none,H,I,.none,h⟩
theorem bX (h:PE X e te):PO X (some e) (g7 te):=by
 intro pins s σ H Q I hw;rw[evalPart_some];refine d5 (h pins s σ H _ I hw) λ u s1 ⟨x,H1,I1,r1,q1⟩=>?_;obtain⟨i,rfl,q⟩:=q1;obtain⟨t,rfl⟩:=r1;exact⟨some i,H1,I1,.int i t,q⟩
def G6 (X:Cx) (r:V->Option Int->Option Int->Hp->VK->Prop):Prop:=
 ∀ (pins:List (Addr×Obj)) (s:Shared) (σ:St) (H:Hp) (x:V) (v vl vu:Value) (lo hi:Option Int) (sl:Addr) (Q:VK),Inv X pins σ H s->bM x v->s.heap.IsSliceOf sl vl vu .none->IsPart vl lo->IsPart vu hi->r x lo hi H Q->
  ∃ T id,typeLookup (.type T) "__getitem__" = pure (some (.builtin id))/\s.TypeIs v T/\wpAny (model X.prog X.w) X.A (getItem v (.ref sl)) (EP X pins σ Q) X.xe s
def y6 (r:V->Option Int->Option Int->Hp->VK->Prop) (te:TE) (tl th:TO):TE:=λ σ H Q=>te σ H λ x H1=>tl σ H1 λ l H2=>th σ H2 λ u H3=>r x l u H3 Q
theorem bS {r:V->Option Int->Option Int->Hp->VK->Prop} (hr:G6 X r) (he:PE X e te) (hl:PO X lo tl) (hu:PO X hi th):PE X (.Subscript e (.Slice lo hi none p2) pos) (y6 r te tl th):=by
 intro pins s σ H Q I h;refine Subscript_ (d5 (he pins s σ H _ I h) λ v s1 ⟨x,H1,I1,r1,q1⟩=>?_);refine wpAny_Slice (d5 (hl pins s1 σ H1 _ I1 q1) λ vl s2 ⟨l,H2,I2,pl,q2⟩=>d5 (hu pins s2 σ H2 _ I2 q2) λ vu s3 ⟨u,H3,I3,pu,q3⟩=>?_);rw[evalPart_none];refine aae ?_;have I4:Inv X pins σ H3 { s3 with heap:=s3.heap.push { cls:=.type "slice",data:=.fields #[vl,vu,.none] } }:=I3.kept (t':=s3.toks) λ b ob q=>aac _ q;obtain⟨T,id,hT,ht,hg⟩:=hr pins { s3 with heap:=s3.heap.push { cls:=.type "slice",data:=.fields #[vl,vu,.none] } } σ H3 x v vl vu l u s3.heap.objs.size Q I4 r1 (Heap.IsSliceOf.new ..) pl pu q3;show wpAny (model X.prog X.w) X.A (subscriptTail e (.Slice lo hi none p2) v (.ref s3.heap.objs.size)) (EP X pins σ Q) X.xe { s3 with heap:=s3.heap.push { cls:=.type "slice",data:=.fields #[vl,vu,.none] } };exact tail_any (ops:=[.ref s3.heap.objs.size,v]) ht hT hg (by with_unfolding_all rfl)
def nO (xs:List V) (lo hi:Option Int):List V:=(xs.drop (HT.sIx xs.length 0 lo)).take (HT.sIx xs.length xs.length hi - HT.sIx xs.length 0 lo)
theorem o6 (xs:List V) (lo hi:Option Int):(nO xs lo hi).length<=xs.length:=by
 unfold nO;rw[aau,List.length_drop];omega
def GI (K:aaa):V->Option Int->Option Int->Hp->VK->Prop:=λ x lo hi H Q=>∃ a xs,x=.ref a/\bH K H a xs/\
 ¬ (HT.sIx xs.length 0 lo=0/\HT.sIx xs.length xs.length hi=xs.length)/\∀ p,H p=none->Q (.ref p) (upd H p (.tup (nO xs lo hi)))
theorem zU:G6 X (GI X.K):=by
 intro pins s σ H x v vl vu lo hi sl Q I rx hs pl pu h;obtain⟨a,xs,rfl,hx,hw,q⟩:=h;cases rx;obtain⟨its,r,ht,hz⟩:=I.tuple hx;have hlen:its.toArray.size=xs.length:=by rw[aaf];exact r.length.symm
 refine⟨"tuple",_,PyProof.Rows.slot_tuple_getitem.lookup,ht.typeIs,?_⟩;refine HT.getItem_tuple_cut ht hs pl pu (by rw[hlen];exact hw) ?_ (by rw[hlen];exact hz);rw[hlen];refine⟨.ref s.heap.objs.size,_,I.laid (t':=s.toks) (o:=.tup (nO xs lo hi)) (λ b ob q=>aac _ q) (aak _) ?_,rfl,q _ (I.hok.fresh (aak _))⟩;exact⟨abo (o6 xs lo hi) hz,_,(r.drop (HT.sIx xs.length 0 lo)).take (HT.sIx xs.length xs.length hi - HT.sIx xs.length 0 lo),IsTup.new _ _⟩
def DN (K:aaa):R2:=λ x y H Q=>∃ a b xs ys,x=.ref a/\y=.ref b/\bH K H a xs/\bH K H b ys/\xs≠[]/\xs.length+ys.length<=sizeLine/\
 (ys=[]->Q (.ref a) H)/\(ys≠[]->∀ p,H p=none->Q (.ref p) (upd H p (.tup (xs++ys))))
theorem bL.nil_iff {xs:List V}{us:List Value} (r:bL xs us):us=[]↔xs=[]:=by
 cases r with
 | nil=>simp
 | cons _ _=>simp
theorem wW:j5 X (binaryOp .Add) (DN X.K):=by
 intro pins s σ H x y v u Q I rx ry h;obtain⟨a,b,xs,ys,rfl,rfl,ha,hb,hx,hz,q1,q2⟩:=h;cases rx;cases ry;obtain⟨its,r1,p1,_⟩:=I.tuple ha;obtain⟨its2,r2,p2,_⟩:=I.tuple hb;refine HT.cat_tup p1 p2 (λ z=>hx (r1.nil_iff.mp z)) (λ z=>⟨.ref a,H,I,rfl,q1 (r2.nil_iff.mp z)⟩) (λ z=>?_) (by rw[<- r1.length,<- r2.length];exact hz);refine⟨.ref s.heap.objs.size,_,I.laid (t':=s.toks) (o:=.tup (xs++ys)) (λ b ob q=>aac _ q) (aak _) ?_,rfl,q2 (λ w=>z (r2.nil_iff.mpr w)) _ (I.hok.fresh (aak _))⟩;exact⟨by rw[aap];exact hz,_,r1.append r2,IsTup.new _ _⟩
end
def AS (n:Nat) (i:Int):Option Nat:=if 0<=i then (if i < n then some i.toNat else none) else if -(n:Int)<=i then some (i+n).toNat else none
def BM {au:Type} (xs:List au) (i:Int):Option au:=(AS xs.length i).bind λ j=>xs[j]?
theorem xB {n:Nat}{i:Int}{j:Nat} (h:AS n i=some j):seqIndex? i n=some j/\j < n/\-(n:Int)<=i/\i < n:=by
 unfold AS at h
 by_cases h0:0<=i
 ·rw[if_pos h0] at h
  by_cases h1:i < n
  ·rw[if_pos h1] at h;have e:i.toNat=j:=abn h;exact⟨by rw[seqIndex_of h0 h1,e],by omega,by omega,h1⟩
  ·rw[if_neg h1] at h;cases h
 ·rw[if_neg h0] at h
  by_cases h1 : -(n:Int)<=i
  ·rw[if_pos h1] at h;have e:(i+n).toNat=j:=abn h;exact⟨by rw[seqIndex_neg (by omega) h1,e],by omega,h1,by omega⟩
  ·rw[if_neg h1] at h;cases h
theorem t7 {au:Type}{xs:List au}{i:Int}{v:au} (h:BM xs i=some v):∃ j,seqIndex? i xs.length=some j/\xs[j]? = some v/\j < xs.length/\-(xs.length:Int)<=i/\i < xs.length:=by
 unfold BM at h;cases e:AS xs.length i with
 | none=>rw[e] at h;cases h
 | some j=>
  rw[e] at h;obtain⟨h1,h2,h3,h4⟩:=xB e;exact⟨j,h1,h,h2,h3,h4⟩
theorem cE {au:Type}{xs:List au}{j:Nat}{v:au} (h:xs[j]? = some v):BM xs (j:Int)=some v:=by
 have hj:j < xs.length:=(aag.mp h).1;have e:AS xs.length (j:Int)=some j:=by
  unfold AS;rw[if_pos (by omega),if_pos (by omega)];simp
 unfold BM;rw[e];exact h
theorem BL {au:Type} (xs:List au) (v:au):BM (xs++[v]) (-1)=some v:=by
 have hl:(xs++[v]).length=xs.length+1:=by simp
 have e:AS (xs++[v]).length (-1)=some xs.length:=by
  unfold AS;rw[hl,if_neg (by decide),if_pos (by omega)];congr 1;omega
 unfold BM;rw[e];show (xs++[v])[xs.length]? = some v;simp
def xQ (b:Expr):Prop:=∀ o i,subscripted b false o i=operate [o,i] (getItem o i)
def BU (X:Cx) (r:R2):Prop:=
 ∀ (value slice:Expr) (pins:List (Addr×Obj)) (s:Shared) (σ:St) (H:Hp) (x y:V) (v u:Value) (Q:VK),Inv X pins σ H s->bM x v->bM y u->r x y H Q->
  subscripted slice false v u=operate [v,u] (getItem v u)->wpAny (model X.prog X.w) X.A (subscriptTail value slice v u) (EP X pins σ Q) X.xe s
def MtR (X:Cx) (id:String) (r:V->List V->Hp->VK->Prop):Prop:=
 ∀ (pins:List (Addr×Obj)) (s:Shared) (σ:St) (H:Hp) (x:V) (xs:List V) (v:Value) (us:List Value) (Q:VK),Inv X pins σ H s->bM x v->bL xs us->r x xs H Q->
  wpAny (model X.prog X.w) X.A (call (.builtin id) (v::us)) (EP X pins σ Q) X.xe s
section
variable {X:Cx}{a b:Expr}{ta tb:TE}{pos:Pos}
theorem BU.or {r r':R2} (h:BU X r) (h':BU X r'):BU X (λ x y H Q=>r x y H Q\/r' x y H Q):=by
 intro value slice pins s σ H x y v u Q I rx ry q hs;rcases q with q | q
 ·exact h value slice pins s σ H x y v u Q I rx ry q hs
 ·exact h' value slice pins s σ H x y v u Q I rx ry q hs
theorem GQ {r:R2} (hr:BU X r) (ha:PE X a ta) (hb:PE X b tb) (hs:xQ b):PE X (.Subscript a b pos) (eZ r ta tb):=by
 intro pins s σ H Q I h;exact Subscript_ (FS ha hb I h λ v u s2 x y H2 I2 rx ry q=>hr a b pins s2 σ H2 x y v u Q I2 rx ry q (hs _ _))
def GM (K:aaa):R2:=λ x y H Q=>∃ p xs i v,x=.ref p/\y=.int i/\bV K H p xs/\BM xs i=some v/\Q v H
def GK (K:aaa):R2:=λ x y H Q=>∃ p xs i v,x=.ref p/\y=.int i/\bH K H p xs/\BM xs i=some v/\Q v H
def GL:R2:=λ x y H Q=>∃ z i c,x=.str z/\y=.int i/\z.length<=sizeLine/\BM z.cps.toList i=some c/\Q (.str ⟨#[c]⟩) H
theorem D5:BU X (GM X.K):=by
 intro value slice pins s σ H x y v u Q I rx ry h hs;obtain⟨p,xs,i,z,rfl,rfl,hq,he,q⟩:=h;cases rx;obtain⟨t,rfl⟩:=ry;obtain⟨its,r,pl,hz⟩:=I.list hq;obtain⟨j,h1,h2,h3,h4,h5⟩:=t7 he;obtain⟨w,ew,rw'⟩:=r.get h2;have hl:=r.length;have hn:=pP;have fin:EP X pins σ Q w s:=⟨z,H,I,rw',q⟩
 by_cases h0:0<=i
 ·have hj:i.toNat=j:=by
   rw[seqIndex_of h0 h5] at h1;exact abn h1
  exact item_listR pl.isList h0 (by omega) (by rw[hj];simpa using ew) fin hs
 ·have hj:(i+(its.toArray.size:Int)).toNat=j:=by
   rw[seqIndex_neg (by omega) h4] at h1;rw[aaf,<- hl];exact abn h1
  exact subscriptTail_builtinR (x:=w) pl.isList.typeIs slot_list_getitem.lookup
   (wpAny_getItem_list_neg (Q:=λ r s'=>r=w/\EP X pins σ Q r s') pl.isList (by omega) (by rw[aaf] <;> omega) (by omega) (by rw[hj];simpa using ew) ⟨rfl,fin⟩) hs
theorem FF:BU X (GK X.K):=by
 intro value slice pins s σ H x y v u Q I rx ry h hs;obtain⟨p,xs,i,z,rfl,rfl,hq,he,q⟩:=h;cases rx;obtain⟨t,rfl⟩:=ry;obtain⟨its,r,pl,hz⟩:=I.tuple hq;obtain⟨j,h1,h2,h3,h4,h5⟩:=t7 he;obtain⟨w,ew,rw'⟩:=r.get h2;have hl:=r.length;have hn:=pP;have fin:EP X pins σ Q w s:=⟨z,H,I,rw',q⟩;exact subscriptTail_builtinR (x:=w) pl.typeIs slot_tuple_getitem.lookup
  (getItem_tuple (j:=j) (Q:=λ r s'=>r=w/\EP X pins σ Q r s') pl (by omega) (by omega) (by rw[aaf,<- hl];exact h1) (by simpa using ew) ⟨rfl,fin⟩) hs
theorem FG:BU X GL:=by
 intro value slice pins s σ H x y v u Q I rx ry h hs;obtain⟨z,i,c,rfl,rfl,hz,he,q⟩:=h;obtain⟨t,rfl⟩:=rx;obtain⟨t',rfl⟩:=ry;obtain⟨j,h1,h2,h3,h4,h5⟩:=t7 he;have hl:z.cps.toList.length=z.length:=by simp [Str.length]
 rw[hl] at h1 h4 h5;have hn:=pP;exact tail_any (typeIs_str s z t) slot_str_getitem.lookup (getItem_str (c:=c) (by
  have e1:decide (i < -(2 ^ 63:Int))=false:=abw (by omega);have e2:decide (i ≥ 2 ^ 63)=false:=abw (by omega);rw[e1,e2,Bool.or_false]) (by rw[h1];simpa using h2) ⟨.str ⟨#[c]⟩,H,I.tok _,⟨_,rfl⟩,q⟩) hs
def rY (K:aaa):R2:=λ x y H Q=>GM K x y H Q\/GK K x y H Q\/GL x y H Q
theorem FH:BU X (rY X.K):=D5.or (FF.or FG)
theorem vS (its:List Value) (n j:Nat) (u:Value):Obj.mapSeq (·.setIfInBounds j u) { cls:=.type "list",data:=.seq its.toArray n }={ cls:=.type "list",data:=.seq (its.set j u).toArray n }:=by
 simp [Obj.mapSeq]
theorem Inv.lst {pins:List (Addr×Obj)}{σ:St}{H:Hp}{s:Shared}{p:Addr}{xs:List V} (I:Inv X pins σ H s) (h:H p=some (.lst xs)) :
  ∃ (its:List Value) (n:Nat),bL xs its/\s.heap.get? p=some { cls:=.type "list",data:=.seq its.toArray n }/\xs.length<=sizeLine:=by
 obtain⟨z,its,n,r,e⟩:=I.hok p _ h;exact⟨its,n,r,e,z⟩
theorem Inv.lstUpd {pins:List (Addr×Obj)}{σ:St}{H:Hp}{s:Shared}{p:Addr}{xs ys:List V}{its its':List Value}{n n':Nat}{f:Obj->Obj} (I:Inv X pins σ H s) (h:H p=some (.lst xs))
  (ho:s.heap.get? p=some { cls:=.type "list",data:=.seq its.toArray n }) (hf:f { cls:=.type "list",data:=.seq its.toArray n }={ cls:=.type "list",data:=.seq its'.toArray n' }) (r:bL ys its') (hz:ys.length<=sizeLine) (t:Nat) :
  Inv X pins σ (upd H p (.lst ys)) { s with heap:=s.heap.update p f,toks:=t }:=by
 have e:(s.heap.update p f).get? p=some { cls:=.type "list",data:=.seq its'.toArray n' }:=by
  rw[Heap.get?_update_self f ho (by rw[hf] <;> rfl),hf]
 refine I.write (x:=p) (e:=p) (by rw[h];trivial) (.inl rfl) (λ b u hb q=>(Heap.get?_update_other _ _ (Ne.symm hb)).trans q) ⟨_,e⟩ ?_;exact⟨hz,its',n',r,e⟩
def tP:V->V->V->Hp->(Hp->Prop)->Prop:=λ o i v H Q=>∃ p xs k j,o=.ref p/\i=.int k/\H p=some (.lst xs)/\AS xs.length k=some j/\Q (upd H p (.lst (xs.set j v)))
theorem fQ:FU X tP:=by
 intro pins s σ H o i v ov iv u Q I ro ri rv h;obtain⟨p,xs,k,j,rfl,rfl,hp,hj,q⟩:=h;cases ro;obtain⟨t,rfl⟩:=ri;obtain⟨its,n,r,ho,hz⟩:=I.lst hp;obtain⟨h1,h2,h3,h4⟩:=xB hj;have hl:=r.length;have hn:=pP;have I':Inv X pins σ (upd H p (.lst (xs.set j v))) { s with heap:=s.heap.update p (Obj.mapSeq (·.setIfInBounds j u)) }:=
  I.lstUpd hp ho (vS its n j u) (r.set rv j) (by rw[List.length_set];exact hz) s.toks
 by_cases h0:0<=k
 ·have hk:k.toNat=j:=by
   rw[seqIndex_of h0 h4] at h1;exact abn h1
  exact PySem.W.ki_setAt ho h0 (by omega) (by rw[aaf,<- hl];exact h4) (by rw[hk];exact⟨_,I',q⟩)
 ·have hk:(k+(its.toArray.size:Int)).toNat=j:=by
   rw[seqIndex_neg (by omega) h3] at h1;rw[aaf,<- hl];exact abn h1
  exact PySem.W.ki_setBack ho (by omega) (by rw[aaf,<- hl];exact h3) (by omega) (by rw[hk];exact⟨_,I',q⟩)
theorem rW (lo hi:Option Int) (n:Nat):(sliceBounds lo hi none n).1=((HT.sIx n 0 lo:Nat):Int)/\(sliceBounds lo hi none n).2.1=((HT.sIx n n hi:Nat):Int)/\(sliceBounds lo hi none n).2.2=1:=by
 refine⟨?_,?_,rfl⟩
 ·cases lo with
  | none=>simp [sliceBounds,HT.sIx]
  | some i=>
   simp only [sliceBounds,HT.sIx,Option.getD_none,show (1:Int) > 0 by decide,if_true]
   by_cases h:i < 0
   ·simp only [h,if_true] <;> omega
   ·simp only [h,if_false] <;> omega
 ·cases hi with
  | none=>simp [sliceBounds,HT.sIx]
  | some i=>
   simp only [sliceBounds,HT.sIx,Option.getD_none,show (1:Int) > 0 by decide,if_true]
   by_cases h:i < 0
   ·simp only [h,if_true] <;> omega
   ·simp only [h,if_false] <;> omega
theorem qG (its:List Value) (lo hi:Option Int):slicePick its.toArray lo hi none=((its.drop (HT.sIx its.length 0 lo)).take (HT.sIx its.length its.length hi - HT.sIx its.length 0 lo)).toArray:=by
 obtain⟨h1,h2,h3⟩:=rW lo hi its.toArray.size;unfold slicePick;rw[h1,h2,h3];simp only [sliceRange_one,pick_run,aaf] <;> rfl
def mX (K:aaa):V->Option Int->Option Int->Hp->VK->Prop:=λ x lo hi H Q=>∃ a xs,x=.ref a/\bV K H a xs/\∀ p,H p=none->Q (.ref p) (upd H p (.lst (nO xs lo hi)))
theorem CD:G6 X (mX X.K):=by
 intro pins s σ H x v vl vu lo hi sl Q I rx hs pl pu h;obtain⟨a,xs,rfl,hx,q⟩:=h;cases rx;obtain⟨its,r,ht,hz⟩:=I.list hx;have hlen:=r.length;refine⟨"list",_,slot_list_getitem.lookup,ht.isList.typeIs,?_⟩;refine wpAny_getItem_list_slice ht.isList hs pl pu .none (by simp) ?_ (by rw[aaf] <;> omega);rw[qG,<- hlen];refine⟨.ref s.heap.objs.size,_,I.laid (t':=s.toks) (o:=.lst (nO xs lo hi)) (λ b ob q=>aac _ q) (aak _) ?_,rfl,q _ (I.hok.fresh (aak _))⟩;exact⟨abo (o6 xs lo hi) hz,_,0,(r.drop (HT.sIx xs.length 0 lo)).take (HT.sIx xs.length xs.length hi - HT.sIx xs.length 0 lo),aai _ rfl⟩
def o0:V->Bool
 | .non=>true
 | .bl _=>true
 | .int _=>true
 | .str _=>true
 | _=>false
def BT:V->V->Bool
 | .non,.non=>true
 | .bl a,.bl b=>a == b
 | .bl a,.int b=>(if a then 1 else 0) == b
 | .int a,.bl b=>a == (if b then 1 else 0)
 | .int a,.int b=>a == b
 | .str a,.str b=>a == b
 | _,_=>false
theorem FO {A:Around}{s:Shared}{y x:V}{u v:Value} (ry:bM y u) (rx:bM x v) (fy:o0 y=true) (fx:o0 x=true):SeqAt.EqAt A s u v (BT y x):=by
 cases y with
 | non=>
  cases ry;cases x with
  | non=>cases rx;exact SeqAt.EqAt.same _
  | bl b=>cases rx;exact SeqAt.EqAt.none_bool b
  | int b=>obtain⟨t,rfl⟩:=rx;exact SeqAt.EqAt.none_int b t
  | str b=>obtain⟨t,rfl⟩:=rx;exact SeqAt.EqAt.none_str b t
  | _=>exact absurd (show false=true from fx) aaj
 | bl a=>
  cases ry;cases x with
  | non=>cases rx;exact SeqAt.EqAt.bool_none a
  | bl b=>cases rx;exact SeqAt.EqAt.bool_bool a b
  | int b=>obtain⟨t,rfl⟩:=rx;exact SeqAt.EqAt.bool_int a b t
  | str b=>obtain⟨t,rfl⟩:=rx;exact SeqAt.EqAt.bool_str a b t
  | _=>exact absurd (show false=true from fx) aaj
 | int a=>
  obtain⟨t',rfl⟩:=ry;cases x with
  | non=>cases rx;exact SeqAt.EqAt.int_none a t'
  | bl b=>cases rx;exact SeqAt.EqAt.int_bool a t' b
  | int b=>obtain⟨t,rfl⟩:=rx;exact SeqAt.EqAt.int_int a t' b t
  | str b=>obtain⟨t,rfl⟩:=rx;exact SeqAt.EqAt.int_str a t' b t
  | _=>exact absurd (show false=true from fx) aaj
 | str a=>
  obtain⟨t',rfl⟩:=ry;cases x with
  | non=>cases rx;exact SeqAt.EqAt.str_none a t'
  | bl b=>cases rx;exact SeqAt.EqAt.str_bool a t' b
  | int b=>obtain⟨t,rfl⟩:=rx;exact SeqAt.EqAt.str_int a t' b t
  | str b=>obtain⟨t,rfl⟩:=rx;exact SeqAt.EqAt.str_str a t' b t
  | _=>exact absurd (show false=true from fx) aaj
 | _=>exact absurd (show false=true from fy) aaj
def HG (x:V) (u:Value):Bool:=match u with
 | .none=>BT .non x
 | .bool b=>BT (.bl b) x
 | .int i _=>BT (.int i) x
 | .str z _=>BT (.str z) x
 | _=>false
theorem vZ {x y:V}{u:Value} (r:bM y u) (f:o0 y=true):HG x u=BT y x:=by
 cases y with
 | non=>cases r;rfl
 | bl b=>cases r;rfl
 | int i=>obtain⟨t,rfl⟩:=r;rfl
 | str z=>obtain⟨t,rfl⟩:=r;rfl
 | _=>exact absurd (show false=true from f) aaj
theorem tZ {A:Around}{s:Shared}{x:V}{v:Value} (rx:bM x v) (fx:o0 x=true):∀ {xs:List V}{us:List Value},bL xs us->xs.all o0=true->∀ u∈us,SeqAt.EqAt A s u v (HG x u)
 | _,_,.nil,_=>λ u hu=>by cases hu
 | y::xs,u::us,.cons r t,f=>λ u' hu=>by
  rw[List.all_cons,Bool.and_eq_true] at f;rcases abl.mp hu with rfl | hu
  ·rw[vZ r f.1];exact FO r rx f.1 fx
  ·exact tZ rx fx t f.2 u' hu
theorem sX:fW X (.builtin "len") (λ xs H Q=>∃ p ys,xs=[.ref p]/\(bV X.K H p ys\/bH X.K H p ys)/\Q (.int ys.length) H):=by
 intro pins s σ H xs us Q I r h;obtain⟨p,ys,rfl,hq,q⟩:=h;obtain⟨u,rfl,rx⟩:=qP r;cases rx;have hn:=pP;rcases hq with hq | hq
 ·obtain⟨its,r',pl,hz⟩:=I.list hq;have hlen:=r'.length;exact Calls.call_len_list pl.isList (by simp only [aaf] <;> omega) ⟨.int ys.length,H,I.tok _,⟨s.toks+1,by rw[aaf,hlen]⟩,q⟩
 ·obtain⟨its,r',pl,hz⟩:=I.tuple hq;have hlen:=r'.length;exact len_tuple pl (by simp only [aaf] <;> omega) ⟨.int ys.length,H,I.tok _,⟨s.toks+1,by rw[aaf,hlen]⟩,q⟩
theorem sW:fW X (.type "list") (λ xs H Q=>∃ p ys,xs=[.ref p]/\(bV X.K H p ys\/bH X.K H p ys)/\∀ l,H l=none->Q (.ref l) (upd H l (.lst ys))):=by
 intro pins s σ H xs us Q I r h;obtain⟨p,ys,rfl,hq,q⟩:=h;obtain⟨u,rfl,rx⟩:=qP r;cases rx;have fin:∀ (its:List Value),bL ys its->ys.length<=sizeLine->∀ (h':Heap) (c':Nat),(∀ b o',s.heap.get? b=some o'->h'.get? b=some o')->
   h'.get? s.heap.objs.size=some { cls:=.type "list",dict:=none,data:=.seq its.toArray c',slots:=#[] }->EP X pins σ Q (.ref s.heap.objs.size) { s with heap:=h' }:=λ its r' hz h' c' kp e=>
  ⟨.ref s.heap.objs.size,_,I.laid (t':=s.toks) kp (aak _) (show dG X.prog X.w _ h' _ (.lst ys) from ⟨hz,its,c',r',e⟩),rfl,q _ (I.hok.fresh (aak _))⟩
 rcases hq with hq | hq
 ·obtain⟨its,r',pl,hz⟩:=I.list hq;have hlen:=r'.length;obtain⟨o,ho,hc,n,hd⟩:=pl.isList;exact call_list_seq p (.inl rfl) ho hc hd (λ h' c' kp e=>fin its r' hz h' c' kp e) (by simp only [aaf] <;> omega)
 ·obtain⟨its,r',pl,hz⟩:=I.tuple hq;have hlen:=r'.length;obtain⟨o,ho,hc,n,hd⟩:=pl;exact call_list_seq p (.inr rfl) ho hc hd (λ h' c' kp e=>fin its r' hz h' c' kp e) (by simp only [aaf] <;> omega)
theorem qM:fW X (.type "tuple") (λ xs H Q=>∃ p ys,xs=[.ref p]/\((bV X.K H p ys/\∀ l,H l=none->Q (.ref l) (upd H l (.tup ys)))\/(bH X.K H p ys/\Q (.ref p) H))):=by
 intro pins s σ H xs us Q I r h;obtain⟨p,ys,rfl,h⟩:=h;obtain⟨u,rfl,rx⟩:=qP r;cases rx;rcases h with ⟨hq,q⟩ | ⟨hq,q⟩
 ·obtain⟨its,r',pl,hz⟩:=I.list hq;have hlen:=r'.length;refine call_tuple_list pl.isList (λ h' kp=>?_) (by simp only [aaf] <;> omega);have I1:Inv X pins σ H { s with heap:=h' }:=I.kept (t':=s.toks) kp;have I2:Inv X pins σ (upd H h'.objs.size (.tup ys)) { s with heap:=h'.push { cls:=.type "tuple",data:=.seq its.toArray } }:=
   I1.laid (t':=s.toks) (λ b o e=>aac _ e) (aak _) (show dG X.prog X.w _ _ _ (.tup ys) from ⟨hz,its,r',IsTup.new _ _⟩)
  exact⟨.ref h'.objs.size,_,I2,rfl,q _ (I1.hok.fresh (aak _))⟩
 ·obtain⟨its,r',pl,hz⟩:=I.tuple hq;exact call_tuple_same pl ⟨.ref p,H,I,rfl,q⟩
def tyV (K:aaa) (T:String) (x:V) (H:Hp):Prop:=match x with
 | .str _=>T = "str"
 | .int _=>T = "int"
 | .ref p=>(T = "list" /\ ∃ xs,bV K H p xs)\/(T = "tuple" /\ ∃ o,K.lookup p=some o/\o.cls=.type "tuple" /\ o.dict=none)\/
   (T = "dict" /\ ((∃ kvs,H p=some (.dK kvs))\/∃ kvs,H p=some (.dT kvs)))\/(T = "set" /\ ∃ S n,H p=some (.set S n))
 | _=>False
theorem E8 {pins:List (Addr×Obj)}{σ:St}{H:Hp}{s:Shared}{T:String}{x:V}{v:Value} (I:Inv X pins σ H s) (r:bM x v) (ty:tyV X.K T x H) :
  s.TypeIs v T/\∀ a,v=.ref a->∃ ob,s.heap.get? a=some ob/\ob.dict=none:=by
 cases x with
 | str z=>
  obtain⟨t,rfl⟩:=r;cases (show T = "str" from ty);exact⟨typeIs_str s z t,λ _ e=>nomatch e⟩
 | int i=>
  obtain⟨t,rfl⟩:=r;cases (show T = "int" from ty);exact⟨typeIs_int s i t,λ _ e=>nomatch e⟩
 | ref p=>
  cases r;rcases ty with ⟨rfl,xs,hq⟩ | ⟨rfl,o,hk,hc,hd⟩ | ⟨rfl,hk⟩ | ⟨rfl,S,n,hk⟩
  ·obtain⟨its,_,pl,_⟩:=I.list hq;refine⟨pl.isList.typeIs,λ a e=>?_⟩;cases e;obtain⟨o,n,e,c,hd,_⟩:=pl;exact⟨o,e,hd⟩
  ·refine⟨⟨o,I.kIn p o hk,hc⟩,λ a e=>?_⟩;cases e;exact⟨o,I.kIn _ o hk,hd⟩
  ·have z:∃ o,s.heap.get? p=some o/\o.ExactDict:=by
    rcases hk with ⟨kvs,hk⟩ | ⟨kvs,hk⟩
    ·obtain⟨_,_,_,_,o,_,_,e,ex,_⟩:=I.hok p _ hk;exact⟨o,e,ex⟩
    ·obtain⟨_,_,_,_,o,_,_,e,ex,_⟩:=I.hok p _ hk;exact⟨o,e,ex⟩
   obtain⟨o,e,ex⟩:=z;refine⟨⟨o,e,ex.1⟩,λ a e2=>?_⟩;cases e2;exact⟨o,e,ex.2.1⟩
  ·obtain⟨o,_,_,_,e,ex,_⟩:=I.hok p _ hk;refine⟨⟨o,e,ex.1⟩,λ a e2=>?_⟩;cases e2;exact⟨o,e,ex.2.1⟩
 | _=>exact False.elim ty
def tBM (K:aaa) (T:String) (r:V->List V->Hp->VK->Prop) (to:TE) (t:TA):TE:=λ σ H Q=>to σ H λ x H1=>tyV K T x H1/\t σ H1 λ xs H2=>r x xs H2 Q
variable {o e:Expr}{es:List Expr}{to:TE}{t:TA}{name:Str}{apos cpos:Pos}{T id:String}{r:V->List V->Hp->VK->Prop}
theorem GR (pa:PlainAttrs T) (slot:Slot T name id) (hty:typeOf (.builtin id)=pure (.type "method_descriptor")) (hm:MtR X id r) (ho:PE X o to) (ha:PA X (e::es) t)
  (hbase:attributeBase o name X.env (eval o X.env)=eval o X.env:=by rfl)
  (hfew:((backTo cpos (starEach (e::es) X.env)).all (λ x=>!x.1) && (backToKw cpos (keywordEach [] X.env)).all (λ x=>x.1.isSome)
   && decide ((e::es).length+([]:List Keyword).length+(if ([]:List Keyword).isEmpty then 0 else 1) < 30))=true:=by rfl)
  (hline:(apos.endLine == cpos.line)=true:=by rfl) (hs:starEach (e::es) X.env=(false,eval e X.env)::starEach es X.env:=by rfl) (hplain:(backTo cpos (starEach es X.env)).any (·.1)=false:=by rfl) :
  PE X (.Call (.Attribute o name apos) (e::es) [] cpos) (tBM X.K T r to t):=by
 intro pins s σ H Q I h;refine wpAny_Call_method_late hbase hfew hline rfl (d5 (ho pins s σ H _ I h) λ v s1 ⟨x,H1,I1,r1,ty,q1⟩=>?_);obtain⟨h1,h2⟩:=E8 I1 r1 ty;refine⟨T,id,pa,slot,hty,h1,h2,?_⟩;have hA:=ha cpos pins s1 σ H1 _ I1 q1;rw[hs] at hA ⊢;refine Calls.callWith_builtin (by show (false || (backTo cpos (starEach es X.env)).any (·.1))=false;rw[hplain] <;> rfl) (Calls.evalArgs_plain ?_);exact d5 hA λ us s2 ⟨vs,H2,I2,r2,q2⟩=>hm pins s2 σ H2 x vs v us Q I2 r1 r2 q2
end
def MtM (X:Cx) (id:String) (r:V->List V->Hp->VK->Prop):Prop:=
 ∀ (pins:List (Addr×Obj)) (s:Shared) (σ:St) (H:Hp) (x:V) (xs:List V) (v:Value) (us:List Value) (Q:VK),Inv X pins σ H s->bM x v->bL xs us->r x xs H Q->
  wpAny (model X.prog X.w) X.A (call (.builtin id) (v::us)) (EP X pins σ Q) X.xe s
theorem bL.one {x:V}{us:List Value} (h:bL [x] us):∃ u,us=[u]/\bM x u:=qP h
theorem bL.two {x y:V}{us:List Value} (h:bL [x,y] us):∃ u v,us=[u,v]/\bM x u/\bM y v:=zM h
theorem bL.rep {xs:List V}{us:List Value} (h:bL xs us):∀ k:Nat,bL (List.replicate k xs).flatten (List.replicate k us).flatten
 | 0=>.nil
 | k+1=>by
  rw[List.replicate_succ,List.replicate_succ,List.flatten_cons,List.flatten_cons];exact bL.append h (bL.rep h k)
theorem rD (its:List Value):∀ (k:Nat) (acc:List Value),
  List.foldl (λ x1 x2=>x1++x2) acc.toArray (List.replicate k its.toArray)=(acc++(List.replicate k its).flatten).toArray
 | 0,acc=>by simp
 | k+1,acc=>by
  have e:acc.toArray++its.toArray=(acc++its).toArray:=by simp
  have e2:(acc++its)++(List.replicate k its).flatten=acc++(List.replicate (k+1) its).flatten:=by
   rw[List.replicate_succ,List.flatten_cons,acd]
  rw[<- e2,<- rD its k (acc++its),<- e,List.replicate_succ,List.foldl_cons]
section
variable {X:Cx}{pins:List (Addr×Obj)}{σ:St}{H:Hp}{s:Shared}{l b:Addr}{xs ys zs:List V}
theorem Inv.lset {its its':List Value}{n:Nat}{f:Array Value->Array Value}{t':Nat} (I:Inv X pins σ H s) (hH:H l=some (.lst xs))
  (e:s.heap.get? l=some { cls:=.type "list",data:=.seq its.toArray n }) (hf:f its.toArray=its'.toArray) (hv:bL ys its') (hz:ys.length<=sizeLine) :
  Inv X pins σ (upd H l (.lst ys)) { s with heap:=s.heap.update l (Obj.mapSeq f),toks:=t' }:=by
 have q:=PySem.IsL.update e f;rw[hf] at q;refine I.write (x:=l) (e:=l) (by rw[hH];exact trivial) (.inl rfl) (λ b' u hb hu=>(Heap.get?_update_other s.heap (Obj.mapSeq f) (Ne.symm hb)).trans hu) ⟨_,q⟩ ?_;exact⟨hz,its',_,hv,q⟩
theorem Inv.lnew {its:List Value}{t':Nat} (I:Inv X pins σ H s) (hv:bL ys its) (hz:ys.length<=sizeLine) :
  Inv X pins σ (upd H s.heap.objs.size (.lst ys)) { s with heap:=s.heap.push { cls:=.type "list",data:=.seq its.toArray },toks:=t' }:=
 I.laid (λ _ _ q=>aac _ q) (aak _) ⟨hz,its,0,hv,aai _ rfl⟩
theorem Inv.fresh (I:Inv X pins σ H s):H s.heap.objs.size=none:=I.hok.fresh (aak _)
theorem Inv.lstM (I:Inv X pins σ H s) (hH:H l=some (.lst xs)):xs.length<=sizeLine/\∃ (its:List Value) (n:Nat),bL xs its/\xs.length=its.length/\s.heap.get? l=some { cls:=.type "list",data:=.seq its.toArray n }:=by
 obtain⟨z,its,n,r,e⟩:=I.hok l _ hH;exact⟨z,its,n,r,r.length,e⟩
theorem AG {n:Nat} (h:n<=sizeLine):Builtin.List.listTooLong n=false:=by
 unfold Builtin.List.listTooLong;exact abw (by omega)
end
section
variable {X:Cx}
def rZ:V->List V->Hp->VK->Prop:=λ x vs H Q=>∃ l xs y,x=.ref l/\vs=[y]/\H l=some (.lst xs)/\xs.length < sizeLine/\Q .non (upd H l (.lst (xs++[y])))
theorem cD:MtM X "list.append" rZ:=by
 intro pins s σ H x vs v us Q I rx rv h;obtain⟨l,xs,y,rfl,rfl,hH,hz,q⟩:=h;cases rx;obtain⟨u,rfl,ru⟩:=rv.one;obtain⟨z,its,n,r,hl,e⟩:=I.lstM hH;refine call_meets F.slot_list_append ⟨_,e,rfl⟩ F.entry_list_append (F.args_list_append_2 _ _) (PySem.list_append l its.toArray n u (by rw[aaf];omega)) ⟨e,?_⟩;refine⟨.non,_,I.lset (its':=its++[u]) hH e (by simp) (r.append (.cons ru .nil)) ?_,rfl,q⟩;rw[aap,abh];omega
def CH:V->List V->Hp->VK->Prop:=λ x vs H Q=>∃ l b xs zs,x=.ref l/\vs=[.ref b]/\H l=some (.lst xs)/\H b=some (.lst zs)/\xs.length+zs.length<=sizeLine/\Q .non (upd H l (.lst (xs++zs)))
theorem yG:MtM X "list.extend" CH:=by
 intro pins s σ H x vs v us Q I rx rv h;obtain⟨l,b,xs,zs,rfl,rfl,hH,hB,hz,q⟩:=h;cases rx;obtain⟨u,rfl,ru⟩:=rv.one;cases ru;obtain⟨z,its,n,r,hl,e⟩:=I.lstM hH;obtain⟨z2,its2,n2,r2,hl2,e2⟩:=I.lstM hB;have hsz:its.toArray.size+its2.toArray.size<=sizeLine:=by rw[aaf,aaf];omega
 have hlong:¬ (!its.toArray.isEmpty && Builtin.List.listTooLong (its.toArray.size+its2.toArray.size))=true:=by
  rw[AG hsz,Bool.and_false];exact aaj
 refine call_meets F.slot_list_extend ⟨_,e,rfl⟩ F.entry_list_extend (F.args_list_extend_2 _ _)
  (AutoSeq1.list_extend_list_list_0 l its.toArray n b its2.toArray n2 hlong (by rw[aaf];omega) (by omega)) ⟨e,e2,?_⟩
 refine⟨.non,_,I.lset (its':=its++its2) hH e (by simp) (r.append r2) ?_,rfl,q⟩;rw[aap];omega
def pD:R2:=λ x y H Q=>∃ l b xs zs,x=.ref l/\y=.ref b/\H l=some (.lst xs)/\H b=some (.lst zs)/\xs.length+zs.length<=sizeLine/\∀ p,H p=none->Q (.ref p) (upd H p (.lst (xs++zs)))
theorem dP:j5 X (binaryOp .Add) pD:=by
 intro pins s σ H x y v u Q I rx ry h;obtain⟨l,b,xs,zs,rfl,rfl,hH,hB,hz,q⟩:=h;cases rx;cases ry;obtain⟨z,its,n,r,hl,e⟩:=I.lstM hH;obtain⟨z2,its2,n2,r2,hl2,e2⟩:=I.lstM hB;refine PySem.P.add_list e e2 ?_ (by rw[aaf,aaf];omega);have ea:its.toArray++its2.toArray=(its++its2).toArray:=by simp
 rw[ea];exact⟨.ref _,_,I.lnew (t':=s.toks) (r.append r2) (by rw[aap];omega),rfl,q _ I.fresh⟩
theorem wZ {au:Type} (xs:List au) (k:Nat):(List.replicate k xs).flatten.length=k * xs.length:=by
 induction k with
 | zero=>simp
 | succ k ih=>rw[List.replicate_succ,List.flatten_cons,aap,ih,Nat.succ_mul,Nat.add_comm]
end
section
variable {prog:Program}{A:Around}{E:Value->Shared->Prop}{s:Shared}
end
section
variable {X:Cx}
end
section
variable {az:Type}[DecidableEq az]
def fX (kvs:List (az×V)) (k:az):Option V:=(kvs.find? λ kv=>decide (kv.1=k)).map (·.2)
def mZ (kvs:List (az×V)) (k:az) (v:V):List (az×V):=
 if (kvs.any λ kv=>decide (kv.1=k))=true then kvs.map (λ kv=>if kv.1=k then (kv.1,v) else kv) else kvs++[(k,v)]
theorem eB {p:az×V}{r:List (az×V)}{k:az} (e:p.1=k):fX (p::r) k=some p.2:=by simp [fX,List.find?_cons,e]
theorem eC {p:az×V}{r:List (az×V)}{k:az} (e:¬ p.1=k):fX (p::r) k=fX r k:=by simp [fX,List.find?_cons,e]
theorem lO (k:az):∀ kvs:List (az×V),(kvs.any λ kv=>decide (kv.1=k))=(fX kvs k).isSome
 | []=>rfl
 | p::r=>by
  rw[List.any_cons]
  by_cases e:p.1=k
  ·simp only [eB e,abz e,Bool.true_or,Option.isSome_some]
  ·rw[eC e,abw e,Bool.false_or];exact lO k r
theorem tH (k j:az) (y:V):∀ kvs:List (az×V),fX (kvs.map λ kv=>if kv.1=k then (kv.1,y) else kv) j=(fX kvs j).map λ x=>if j=k then y else x
 | []=>rfl
 | p::r=>by
  have ih:=tH k j y r;rw[abk]
  by_cases h:p.1=k
  ·rw[if_pos h]
   by_cases e:p.1=j
   ·rw[eB (p:=(p.1,y)) e,eB e,Option.map_some,if_pos (e.symm.trans h)]
   ·rw[eC (p:=(p.1,y)) e,eC e,ih]
  ·rw[if_neg h]
   by_cases e:p.1=j
   ·rw[eB (p:=p) e,eB e,Option.map_some,if_neg (λ z=>h (e.trans z))]
   ·rw[eC (p:=p) e,eC e,ih]
theorem qQ (k j:az) (y:V):∀ kvs:List (az×V),fX kvs k=none->fX (kvs++[(k,y)]) j=if j=k then some y else fX kvs j
 | [],_=>by
  by_cases e:k=j
  ·rw[if_pos e.symm];exact eB (p:=(k,y)) e
  ·rw[if_neg (λ z=>e z.symm)];exact eC (p:=(k,y)) e
 | p::r,hn=>by
  rw[List.cons_append];have hk:¬ p.1=k:=λ z=>by rw[eB z] at hn;cases hn
  rw[eC hk] at hn;have ih:=qQ k j y r hn
  by_cases e:p.1=j
  ·rw[eB e,eB e,if_neg (λ z=>hk (e.trans z))]
  ·rw[eC e,eC e,ih]
theorem zN (kvs:List (az×V)) (k j:az) (y:V):fX (mZ kvs k y) j=if j=k then some y else fX kvs j:=by
 unfold mZ
 by_cases a:(kvs.any λ kv=>decide (kv.1=k))=true
 ·rw[if_pos a,tH];rw[lO] at a
  by_cases e:j=k
  ·obtain⟨x,hx⟩:=Option.isSome_iff_exists.mp a;rw[if_pos e,e,hx,Option.map_some,if_pos rfl]
  ·rw[if_neg e];cases fX kvs j with
   | none=>rfl
   | some x=>rw[Option.map_some,if_neg e]
 ·rw[if_neg a];refine qQ k j y kvs ?_;rw[lO] at a;cases q:fX kvs k with
  | none=>rfl
  | some x=>rw[q] at a;exact (a rfl).elim
theorem jM (kvs:List (az×V)) (k:az) (v:V):(mZ kvs k v).length<=kvs.length+1:=by
 unfold mZ
 split
 ·rw[aad];omega
 ·rw[aap,abf,List.length_nil];omega
theorem t8.isSome_eq {o:Option V}{u:Option Value} (r:t8 o u):o.isSome=u.isSome:=by
 cases o with
 | none=>cases u with
  | none=>rfl
  | some _=>exact (show False from r).elim
 | some _=>cases u with
  | none=>exact (show False from r).elim
  | some _=>rfl
theorem t8.getD {o:Option V}{u:Option Value}{d:V}{d':Value} (r:t8 o u) (rd:bM d d'):bM (o.getD d) (u.getD d'):=by
 cases o with
 | none=>cases u with
  | none=>exact rd
  | some _=>exact (show False from r).elim
 | some _=>cases u with
  | none=>exact (show False from r).elim
  | some _=>exact r
theorem KV.val {kvs:List (az×V)}{vs:List (az×Value)} (r:KV kvs vs) (k:az):t8 (fX kvs k) (valueAt vs k):=by
 unfold KV at r
 induction r with
 | nil=>exact True.intro
 | @cons p q ps qs h t ih=>
  obtain⟨h1,h2⟩:=h
  by_cases e:p.1=k
  ·have e':q.1=k:=h1.symm.trans e;have b:valueAt (q::qs) k=some q.2:=by simp [valueAt,List.find?_cons,e']
   rw[eB e,b];exact h2
  ·have e':¬ q.1=k:=λ z=>e (h1.trans z);have b:valueAt (q::qs) k=valueAt qs k:=by simp [valueAt,List.find?_cons,e']
   rw[eC e,b];exact ih
theorem KV.any {kvs:List (az×V)}{vs:List (az×Value)} (r:KV kvs vs) (k:az):(kvs.any λ kv=>decide (kv.1=k))=vs.any λ kv=>decide (kv.1=k):=by
 unfold KV at r
 induction r with
 | nil=>rfl
 | cons h t ih=>rw[List.any_cons,List.any_cons,ih,h.1]
theorem KV.repl {kvs:List (az×V)}{vs:List (az×Value)} (r:KV kvs vs) (k:az) {y:V}{u:Value} (ry:bM y u) :
  KV (kvs.map λ kv=>if kv.1=k then (kv.1,y) else kv) (vs.map λ kv=>if kv.1=k then (kv.1,u) else kv):=by
 unfold KV at r ⊢
 induction r with
 | nil=>exact .nil
 | @cons p q ps qs h t ih=>
  rw[abk,abk];refine .cons ?_ ih;obtain⟨h1,h2⟩:=h
  by_cases e:p.1=k
  ·rw[if_pos e,if_pos (h1.symm.trans e)];exact⟨h1,ry⟩
  ·rw[if_neg e,if_neg (λ z=>e (h1.trans z))];exact⟨h1,h2⟩
theorem KV.put {kvs:List (az×V)}{vs:List (az×Value)} (r:KV kvs vs) (k:az) {y:V}{u:Value} (ry:bM y u):KV (mZ kvs k y) (stored vs k u):=by
 unfold mZ stored;rw[r.any k]
 by_cases e:(vs.any λ kv=>decide (kv.1=k))=true
 ·rw[if_pos e,if_pos e];exact r.repl k ry
 ·rw[if_neg e,if_neg e];exact Paired.snoc r ⟨rfl,ry⟩
theorem KV.length {kvs:List (az×V)}{vs:List (az×Value)} (r:KV kvs vs):kvs.length=vs.length:=Paired.length r
end
theorem AR {P:Program}{w:World}{k:fT}{u:Value} (r:bM (kV k) u):(dQ P w).is k u=true:=by
 cases k with
 | inl i=>obtain⟨t,e⟩:=(show ∃ t,u=Value.int i t from r);subst e;exact tY P w i t
 | inr z=>cases z with
  | some x=>obtain⟨t,e⟩:=(show ∃ t,u=Value.str x t from r);subst e;exact tX P w x t
  | none=>obtain rfl:=(show u=Value.none from r);rfl
theorem r9 {P:Program}{w:World}:∀ {ks:List fT}{us:List Value},bL (ks.map kV) us->ItemsAre (dQ P w) ks us
 | [],_,r=>by rw[acb] at r;cases r;exact .nil
 | k::ks,_,r=>by
  rw[abk] at r;cases r with
  | cons h t=>exact .cons (AR h) (r9 t)
abbrev KT (H:Hp):List (List fT×V)->List (List fT×Addr×Value)->Prop:=Paired λ p q=>p.1=q.1/\H q.2.1=some (.tup (p.1.map kV))/\bM p.2 q.2.2
theorem KT.val {H:Hp}{kvs:List (List fT×V)}{xs:List (List fT×Addr×Value)} (r:KT H kvs xs) (k:List fT):t8 (fX kvs k) ((atKey xs k).map (·.2)):=by
 induction r with
 | nil=>exact True.intro
 | @cons p q ps qs h t ih=>
  obtain⟨h1,_,h2⟩:=h
  by_cases e:p.1=k
  ·have e':q.1=k:=h1.symm.trans e;have b:atKey (q::qs) k=some q.2:=by simp [atKey,List.find?_cons,e']
   rw[eB e,b];exact h2
  ·have e':¬ q.1=k:=λ z=>e (h1.trans z);have b:atKey (q::qs) k=atKey qs k:=by simp [atKey,List.find?_cons,e']
   rw[eC e,b];exact ih
theorem KT.repl {H:Hp}{kvs:List (List fT×V)}{xs:List (List fT×Addr×Value)} (r:KT H kvs xs) (k:List fT) {y:V}{u:Value} (ry:bM y u) :
  KT H (kvs.map λ kv=>if kv.1=k then (kv.1,y) else kv) (xs.map (putAt k u)):=by
 induction r with
 | nil=>exact .nil
 | @cons p q ps qs h t ih=>
  rw[abk,abk];refine .cons ?_ ih;obtain⟨h1,h2,h3⟩:=h;unfold putAt
  by_cases e:p.1=k
  ·rw[if_pos e,if_pos (h1.symm.trans e)];exact⟨h1,h2,ry⟩
  ·rw[if_neg e,if_neg (λ z=>e (h1.trans z))];exact⟨h1,h2,h3⟩
theorem KT.put {H:Hp}{kvs:List (List fT×V)}{xs:List (List fT×Addr×Value)} (r:KT H kvs xs) (k:List fT) {b:Addr}{y:V}{u:Value} (hb:H b=some (.tup (k.map kV))) (ry:bM y u) :
  KT H (mZ kvs k y) (storedH xs k b u):=by
 have e:(kvs.any λ kv=>decide (kv.1=k))=(atKey xs k).isSome:=by
  rw[lO,(r.val k).isSome_eq,Option.isSome_map]
 unfold mZ storedH;rw[e]
 by_cases q:(atKey xs k).isSome=true
 ·rw[if_pos q,if_pos q];exact r.repl k ry
 ·rw[if_neg q,if_neg q];exact Paired.snoc r ⟨rfl,hb,ry⟩
theorem KT.keeps {H H':Hp}{kvs:List (List fT×V)}{xs:List (List fT×Addr×Value)} (r:KT H kvs xs) (ht:∀ b ys,H b=some (.tup ys)->H' b=some (.tup ys)):KT H' kvs xs:=
 Paired.mapP r λ _ _ z=>⟨z.1,ht _ _ z.2.1,z.2.2⟩
section
variable {H:Hp}{h:Heap}{a:Addr}
theorem DI {u:HO} (ok:lN P w H h) (e:Rd H a u):dG P w H h a u:=e.ok ok
theorem BH {kvs:List (fT×V)} (ok:lN P w H h) (e:Rd H a (.dK kvs)):kvs.length<=sizeLine/\(a == sysModules)=false/\∃ vs,KV kvs vs/\h.DictOf (dQ P w) a vs:=
 show dG P w H h a (.dK kvs) from DI ok e
theorem HN {kvs:List (fT×V)} (ok:lN P w H h) (e:H a=some (.dK kvs)):kvs.length<=sizeLine/\(a == sysModules)=false/\∃ vs,KV kvs vs/\h.DictOf (dQ P w) a vs:=BH ok (.inl e)
theorem vU {ks:List fT} (ok:lN P w H h) (e:H a=some (.tup (ks.map kV))):(tupleKind (dQ P w)).is h ks a:=by
 obtain⟨_,its,r,o,h1,h2,n,h3⟩:=(show dG P w H h a (.tup (ks.map kV)) from ok a _ e);exact⟨o,its.toArray,n,h1,h2,h3,by simpa using r9 r⟩
theorem BG {kvs:List (List fT×V)} (ok:lN P w H h) (e:Rd H a (.dT kvs)):kvs.length<=sizeLine/\(a == sysModules)=false/\
  ∃ xs,KT H kvs xs/\h.DictOfH (tupleKind (dQ P w)) a xs:=by
 obtain⟨z,y,xs,r,o,es,ep,h1,h2,h3,h4,h5⟩:=(show dG P w H h a (.dT kvs) from DI ok e);refine⟨z,y,xs,r,o,es,ep,h1,h2,h3,h4,λ x hx=>?_,h5⟩;have all:∀ {l:List (List fT×V)}{m:List (List fT×Addr×Value)},KT H l m->∀ x∈m,(tupleKind (dQ P w)).is h x.1 x.2.1:=by
  intro l m q
  induction q with
  | nil=>intro x hx;exact nomatch hx
  | @cons p q ps qs hq t ih=>
   intro x hx;rcases abl.mp hx with e | hx
   ·subst e;exact vU ok (by rw[<- hq.1];exact hq.2.1)
   ·exact ih x hx
 exact all r x hx
theorem HM {kvs:List (List fT×V)} (ok:lN P w H h) (e:H a=some (.dT kvs)):kvs.length<=sizeLine/\(a == sysModules)=false/\
  ∃ xs,KT H kvs xs/\h.DictOfH (tupleKind (dQ P w)) a xs:=BG ok (.inl e)
end
def wC (H:Hp) (a:Addr) (y:V) (r:Option V):Prop:=
 (∃ kvs k,Rd H a (.dK kvs)/\y=kV k/\r=fX kvs k)\/∃ kvs k b,Rd H a (.dT kvs)/\y=.ref b/\H b=some (.tup (k.map kV))/\r=fX kvs k
def BS (H:Hp) (a:Addr) (y v:V) (H':Hp):Prop:=
 (∃ kvs k,H a=some (.dK kvs)/\y=kV k/\kvs.length < sizeLine/\H'=upd H a (.dK (mZ kvs k v)))\/
 ∃ kvs k b,H a=some (.dT kvs)/\y=.ref b/\H b=some (.tup (k.map kV))/\kvs.length < sizeLine/\H'=upd H a (.dT (mZ kvs k v))
theorem wC.k {H:Hp}{a:Addr}{kvs:List (fT×V)}{k:fT} (e:H a=some (.dK kvs)):wC H a (kV k) (fX kvs k):=.inl ⟨kvs,k,.inl e,rfl,rfl⟩
theorem BS.k {H:Hp}{a:Addr}{kvs:List (fT×V)}{k:fT}{v:V} (e:H a=some (.dK kvs)) (hl:kvs.length < sizeLine):BS H a (kV k) v (upd H a (.dK (mZ kvs k v))):=.inl ⟨kvs,k,e,rfl,hl,rfl⟩
section
variable {X:Cx}{pins:List (Addr×Obj)}{σ:St}{H:Hp}{s:Shared}{a:Addr}{y v:V}{u r:Value}{o:Option V}{A:Around}{E:Value->Shared->Prop}
theorem Inv.big (I:Inv X pins σ H s):sysModules < s.heap.objs.size:=by
 have h:mainGlobals < s.heap.objs.size:=(I.mod.glob.keeps I.bk).lt;exact Nat.lt_trans (by decide) h
theorem xN {h':Heap}{t':Nat}{ob:HO} (I:Inv X pins σ H s) (mu:t9 (H a)) (hs:Heap.SameBut a s.heap h') (he:∃ q,h'.get? a=some q) (new:dG X.prog X.w (upd H a ob) h' a ob) :
  Inv X pins σ (upd H a ob) { s with heap:=h',toks:=t' }:=
 I.write (x:=a) (e:=a) mu (.inl rfl) (λ b q hb z=>(hs.2 b hb).trans z) he new
theorem FQ {P:Program}{w:World}{H':Hp}{h':Heap}{kvs:List (fT×V)}{vs:List (fT×Value)} (z:kvs.length<=sizeLine) (hd:(a == sysModules)=false) (rel:KV kvs vs) (dd:h'.DictOf (dQ P w) a vs) :
  dG P w H' h' a (.dK kvs):=⟨z,hd,vs,rel,dd⟩
theorem yQ {H':Hp}{Q:Unit->Shared->Prop} (hu:A.units+1 < cLine) (I:Inv X pins σ H s) (g:BS H a y v H') (ry:bM y u) (rv:bM v r) (h:∀ s',Inv X pins σ H' s'->Q () s') :
  wpAny (model X.prog X.w) A (setItem (.ref a) u r) Q E s:=by
 rcases g with ⟨kvs,k,e,ey,l,eH⟩ | ⟨kvs,k,b,e,ey,eb,l,eH⟩
 ·subst ey eH;obtain⟨z,hd,vs,rel,dd⟩:=HN I.hok e;have hz:vs.length<=sizeLine:=by rw[<- rel.length];exact z
  have hl:(mZ kvs k v).length<=sizeLine:=by have:=jM kvs k v;omega
  refine wpAny_setItem_pairs (hsz:=hz) (AR ry) dd λ h' dd' hs=>h _ ?_;have he:∃ q,h'.get? a=some q:=let ⟨q,_,_,hq,_⟩:=dd';⟨q,hq⟩;exact xN I (by rw[e];exact True.intro) hs he (FQ hl hd (rel.put k rv) dd')
 ·subst ey eH;cases (show u=Value.ref b from ry);obtain⟨z,hd,xs,rel,dd⟩:=HM I.hok e;have hz:xs.length<=sizeLine:=by rw[<- Paired.length rel];exact z
  have hl:(mZ kvs k v).length<=sizeLine:=by have:=jM kvs k v;omega
  refine wpAny_setItem_heap (hsz:=hz) (tupleKind_room_in1 hu) (vU I.hok eb) dd λ h' dd' hs=>h _ ?_;obtain⟨q,es,ep,hq,h2,h3,h4,_,h5⟩:=dd';refine xN I (by rw[e];exact True.intro) hs ⟨q,hq⟩ ⟨hl,hd,_,(rel.put k eb rv).keeps λ c ys ec=>?_,q,es,ep,hq,h2,h3,h4,h5⟩;rw[aM (DP ec e (λ z=>nomatch z))];exact ec
end
section
variable {X:Cx}{pins:List (Addr×Obj)}{σ:St}{H:Hp}{s:Shared}{a:Addr}{kvs:List (fT×V)}{k:fT}{u:Value}{A:Around}{E:Value->Shared->Prop}
end
def GG (td ty tv:TE):TS:=λ D σ H=>tv σ H λ v H1=>td σ H1 λ x H2=>ty σ H2 λ y H3=>∃ a H4,x=.ref a/\BS H3 a y v H4/\D.nx σ H4
section
variable {X:Cx}{o i e value:Expr}{pos pos' tpos:Pos}{td ty tv:TE}
theorem CI (hu:X.A.units+1 < cLine) (ho:PE X o td) (hi:PE X i ty) (hv:PE X value tv) (hs:swapsWith value (some (.Subscript o i pos')) pos.line X.env=pure false) :
  PS X (.Assign [.Subscript o i pos'] value pos) (GG td ty tv):=by
 intro pins s σ H D I h;refine wpAny_Assign_Subscript (d5 (hv pins s σ H _ I h) λ r s1 ⟨v,H1,I1,rv,q1⟩=>d5 (ho pins s1 σ H1 _ I1 q1) λ u s2 ⟨x,H2,I2,rx,q2⟩=>d5 (hi pins s2 σ H2 _ I2 q2) λ iv s3 ⟨y,H3,I3,ry,a,H4,ex,g,q3⟩=>?_) hs;subst ex;obtain rfl:u=Value.ref a:=rx;exact yQ hu I3 g ry rv λ s4 I4=>⟨σ,H4,I4,q3⟩
end
theorem BI {P:Program}{w:World}{H:Hp} (h:Heap) (hb:sysModules < h.objs.size):dG P w H (h.push { cls:=.type "dict",data:=.dict #[] }) h.objs.size (.dK []):=
 ⟨aar _,beq_eq_false_iff_ne.mpr (Ne.symm (abc hb)),[],.nil,Heap.DictOf.new h⟩
def EB:TE:=λ _ H Q=>∀ p,H p=none->Q (.ref p) (upd H p (.dK []))
section
variable {X:Cx}{pos:Pos}
theorem A8:PE X (.Dict [] [] pos) EB:=λ pins s σ H Q I h=>
 wpAny_Dict_empty ⟨.ref s.heap.objs.size,_,I.laid (a:=s.heap.objs.size) (o:=.dK []) (t':=s.toks) (λ _ _ q=>aac _ q) (aak _) (BI s.heap I.big),rfl,h _ (I.hok.fresh (aak _))⟩
end
structure M2 (X:Cx) (o:Expr) (m:Str) (apos:Pos) (e f:Expr) (cpos:Pos):Prop where
 base:attributeBase o m X.env (eval o X.env)=eval o X.env
 few:((backTo cpos (starEach [e,f] X.env)).all (λ x=>!x.1) && (backToKw cpos (keywordEach [] X.env)).all (λ x=>x.1.isSome)
  && decide (([e,f]:List Expr).length+([]:List Keyword).length+(if ([]:List Keyword).isEmpty then 0 else 1) < 30))=true
 line:(apos.endLine == cpos.line)=true
 trees:backTo cpos (starEach [e,f] X.env)=[(false,eval e X.env),(false,eval f X.env)]
def IsD (H:Hp) (a:Addr):Prop:=(∃ kvs,Rd H a (.dK kvs))\/∃ kvs,Rd H a (.dT kvs)
theorem FJ {X:Cx}{pins:List (Addr×Obj)}{σ:St}{H:Hp}{s:Shared}{a:Addr} (I:Inv X pins σ H s) (d:IsD H a) :
  s.TypeIs (.ref a) "dict" /\ (∀ b,Value.ref a=.ref b->∃ ob,s.heap.get? b=some ob/\ob.dict=none)/\(a == sysModules)=false:=by
 rcases d with ⟨kvs,e⟩ | ⟨kvs,e⟩
 ·obtain⟨_,hd,vs,_,dd⟩:=BH I.hok e;refine⟨dd.typeIs,λ b q=>?_,hd⟩;cases q;obtain⟨ob,_,_,h1,h2,_⟩:=dd;exact⟨ob,h1,h2.2.1⟩
 ·obtain⟨_,hd,xs,_,dd⟩:=BG I.hok e;refine⟨dd.typeIs,λ b q=>?_,hd⟩;cases q;obtain⟨ob,_,_,h1,h2,_⟩:=dd;exact⟨ob,h1,h2.2.1⟩
section
variable {X:Cx}{pins:List (Addr×Obj)}{σ:St}{H:Hp}{s:Shared}{a:Addr}{y d:V}{u r:Value}{o:Option V}{A:Around}{E:Value->Shared->Prop}
theorem FR {Q:Value->Shared->Prop} (hu:A.units+1 < cLine) (I:Inv X pins σ H s) (g:wC H a y o) (ry:bM y u) (rd:bM d r) (h:∀ w' s',Inv X pins σ H s'->bM (o.getD d) w'->Q w' s') :
  wpAny (model X.prog X.w) A (call (.builtin "dict.get") [.ref a,u,r]) Q E s:=by
 rcases g with ⟨kvs,k,e,ey,l⟩ | ⟨kvs,k,b,e,ey,eb,l⟩
 ·subst ey;obtain⟨z,hd,vs,rel,dd⟩:=BH I.hok e;refine call_meetsIn PySem.F.slot_dict_get dd.typeIs PySem.F.entry_dict_get (PySem.F.args_dict_get_3 _ _ _) (meets_dict_get_default (dQ X.prog X.w) a (AR ry) hd r) ⟨_,dd.mapOf,h _ _ (I.tok _) ?_⟩;rw[l];exact (rel.val k).getD rd
 ·subst ey;cases (show u=Value.ref b from ry);obtain⟨z,hd,xs,rel,dd⟩:=BG I.hok e;refine call_meetsIn PySem.F.slot_dict_get dd.typeIs PySem.F.entry_dict_get (PySem.F.args_dict_get_3 _ _ _) (meetsH_dict_get_default (tupleKind (dQ X.prog X.w)) a b hd r) ⟨tupleKind_room_in1 hu,k,xs,vU I.hok eb,dd,h _ _ (I.tok _) ?_⟩;rw[l];exact (rel.val k).getD rd
end
def EC (td ty tx:TE):TE:=λ σ H Q=>td σ H λ x H1=>∃ a,x=.ref a/\IsD H1 a/\ty σ H1 λ y H2=>tx σ H2 λ z H3=>∃ o,wC H3 a y o/\Q (o.getD z) H3
section
variable {X:Cx}{o e f:Expr}{apos cpos:Pos}{td ty tx:TE}
theorem pH (hu:X.A.units+1 < cLine) (ho:PE X o td) (he:PE X e ty) (hf:PE X f tx) (m:M2 X o "get" apos e f cpos):PE X (.Call (.Attribute o "get" apos) [e,f] [] cpos) (EC td ty tx):=by
 intro pins s σ H Q I h;refine wpAny_Call_method m.base m.few m.line PySem.F.plainAttrs_dict PySem.F.slot_dict_get PySem.F.type_dict_get (d5 (ho pins s σ H _ I h) λ u s1 ⟨x,H1,I1,rx,a,ex,d,q1⟩=>?_);subst ex;obtain rfl:u=Value.ref a:=rx;obtain⟨t1,t2,_⟩:=FJ I1 d;refine⟨t1,t2,?_⟩;rw[m.trees];refine Calls.callWith_builtin rfl (Calls.evalArgs_plain (Calls.spliced_cons (d5 (he pins s1 σ H1 _ I1 q1) λ iv s2 ⟨y,H2,I2,ry,q2⟩=>
  Calls.spliced_cons (d5 (hf pins s2 σ H2 _ I2 q2) λ fv s3 ⟨z,H3,I3,rz,ov,g,q3⟩=>Calls.spliced_nil ?_))))
 exact FR hu I3 g ry rz λ w' s4 I4 rw'=>⟨_,H3,I4,rw',q3⟩
end
section
variable {X:Cx}{pins:List (Addr×Obj)}{σ:St}{H:Hp}{s:Shared}{a:Addr}{kvs:List (fT×V)}{A:Around}{E:Value->Shared->Prop}
end
section
variable {X:Cx}{pins:List (Addr×Obj)}{σ:St}{H:Hp}{s:Shared}{a:Addr}{y:V}{u:Value}{A:Around}{E:Value->Shared->Prop}
end
end L2
namespace Att
open PySem PySem.W PySem.Calls PyProof.Rows
theorem oB {P:Params}{h:Heap}:∀ (ns:List Int) (vs:List Value),WellAll P h vs (ns.map WData.int)->IntsAre vs ns:=by
 intro ns
 induction ns with
 | nil=>
  intro vs w;rw[acb] at w;cases w;exact .nil
 | cons n ns ih=>
  intro vs w;rw[abk] at w;cases w with
  | cons a b=>
   cases a;exact .cons _ _ (ih _ b)
theorem y9 {l:OpenLaw}{n:Nat} (hn:l.most=some n) {P:Params}{h:Heap}{args:List WData}{vals:List Value}
  (hpre:l.row.toRowW.claim.pre args=true) (hwl:WellAll P h vals args) :
  ∃ a vs ns,vals=[Value.ref a]/\args=[WData.list (ns.map WData.int)]/\h.get? a=some { cls:=.type "list",data:=.seq vs.toArray }/\IntsAre vs ns/\ns.length<=n:=by
 have hsh:WShape.hasAll [] args [.list .int]=true:=(pre_splitW hpre).1;have hc:l.pre.holds [] { args:=args }=true:=(pre_splitW hpre).2;obtain⟨d,r,rfl,h1,h2⟩:=hasAllW_cons hsh;obtain rfl:=hasAllW_nil h2;obtain⟨xs,rfl,h3⟩:=hasW_list h1;obtain⟨ns,rfl⟩:=items_int h3;have hlen:ns.length<=n:=by
  unfold OpenLaw.pre at hc;have h4:(WTm.not (.lt (.lit (.int (n:Int))) (.len (.arg 0)))).holds [] { args:=[.list (ns.map .int)] }=true:=by
   have h4:=(holds_andW hc).1;rw[hn] at h4;exact h4
  have h5:=condW_of h4 (w_not (w_lt w_lit (w_len_list (w_arg rfl))));rw[aad] at h5;refine Nat.le_of_not_lt λ q=>?_;have q':(n:Int) < ((ns.length:Nat):Int):=by omega
  first
   | (rw[abz q'] at h5;exact absurd h5 (by decide))
   | (simp at h5;omega)
 cases hwl with
 | cons w1 w2=>
  cases w2;cases w1 with
  | list ho hall=>exact⟨_,_,ns,rfl,rfl,ho,oB ns _ hall,hlen⟩
theorem yC (l:OpenLaw) (args:List WData):l.row.toRowW.claim.post args (.bool true) args=true:=
 postW_of (r:=l.row.toRowW) (X:=(true == true))
  (show WShape.has [] (.bool true) .bool=true by first | rfl | decide | simp [WShape.has,WShape.arms,WShape.armsAll])
  (show (WTm.eq .res (.lit (.bool true))).value [] { args:=args,res:=some (.bool true),after:=args }=some (.bool (true == true)) from w_eq_bool (w_res rfl) w_lit) rfl
theorem attach_call {l:OpenLaw}{n:Nat}{q:Program}{loose:List Str}{XP:(Str->Option Value)->Heap->Prop}{YP:World->Heap->Prop}{d:DefRec}
  (hn:l.most=some n) (hdf:d.params.defaults=[])
  (call:∀ (w:World) (s₀ ag:Shared) (mg mb:Str->Option Value) (fa:Addr) (o:Obj) (pm cd doc:Value) (a:Addr) (vs:List Value) (ns:List Int),
   Ground q loose [] XP w s₀ mg mb ag.heap->YP w ag.heap->
   ag.heap.get? fa=some o->o.data=.func (docDef d.name d.params d.body d.scope pm cd doc)->ag.heap.CodeRec cd d.name->mg d.name=some (.ref fa)->
   ag.heap.get? a=some { cls:=.type "list",data:=.seq vs.toArray }->IntsAre vs ns->ns.length<=n->ag.gens = #[]->
   codeAny (model l.prog w) callerA (.call (.ref fa) ⟨[.ref a],[]⟩) (λ r s'=>r=.ok (.ret (.bool true))/\OldK ag.heap s'.heap/\s'.os=ag.os/\AllBare s'.gens) ag) :
  WalkO q loose XP YP l.row.toRowW d [] (λ f vs=>PySem.call f vs):=by
 intro w s₀ ag mg mb G Y fa o pm cd doc dV kV ho hd hcd hD hmg hg args vals as hpre hlay hrd hwl hlo;obtain rfl:dV=.none:=Dflts.none hD hdf;obtain rfl:kV=.none:=Dflts.noKw hD;obtain⟨a,vs,ns,rfl,rfl,hobj,hints,hlen⟩:=y9 hn hpre hwl;refine enter_call (codeAny_mono (call w s₀ ag mg mb fa o pm cd doc a vs ns G Y ho (fd_plain hd) hcd hmg hobj hints hlen hg) λ r s' hq=>?_);obtain⟨rfl,h2,h3,h4⟩:=hq;exact⟨.inl ⟨.bool true,.bool true,[],rfl,λ _=>rfl,.bool true,yC l _,λ _=>⟨List.Pairwise.nil,λ _ hm=>(nomatch hm)⟩⟩,h2,h3,h4⟩
section
variable {prog:Program}{A:Around}{E:Value->Shared->Prop}{s:Shared}{K:Frag}
end
end Att
namespace L2
open PySem PySem.Spec PyProof.Rows
theorem qO:∀ {vs:List Value}{ns:List Int},IntsAre vs ns->bL (ns.map V.int) vs
 | _,_,.nil=>.nil
 | _,_,.cons n t h=>.cons ⟨t,rfl⟩ (qO h)
def FX (H:Hp):Prop:=∀ b,H b=none\/∃ o xs,H b=some (.frz o (.lst xs))
theorem AK {P:Program}{w:World}{K:aaa}{mg mb:Str->Option Value}{CX:zG}{k:Nat}{fa a:Addr}{fd:FuncData}{x:Str}{sp:Sp}{ag:Shared}{vs:List Value}{ns:List Int}
  (KX:K.In ag.heap) (hns:ag.heap.Ns mainGlobals mg) (hb:ag.heap.Ns builtinsNs mb) (hbb:∀ x:Str,x ≠ "__name__" -> mb x=bootBuiltins x) (hlim:ag.heap.NoLimit) (hg:ag.gens = #[])
  (ha:ag.heap.get? a=some { cls:=.type "list",data:=.seq vs.toArray }) (hi:IntsAre vs ns) (hl:ns.length<=sizeLine) (hr:Room k callerA)
  (F:∀ base:Heap,K.In base->base.Ns mainGlobals mg->FnOk P w K mg base CX k fa fd [x] sp) (hbind:∀ (s:Shared) (u:Value),BindsTo s fd ⟨[u],[]⟩ [(x,u)])
  (hsp:∀ H:Hp,FX H->bV K H a (ns.map V.int)->sp [.ref a] H (λ v _=>v=.bl true) λ _ _ _=>False)
  (hCX:∀ H e s',CX [] H ag (λ _ _ _=>False) e s'->False) :
  codeAny (model P w) callerA (.call (.ref fa) ⟨[.ref a],[]⟩) (λ r s'=>r=.ok (.ret (.bool true))/\OldK ag.heap s'.heap/\s'.os=ag.os/\AllBare s'.gens) ag:=by
 have rv:=qO hi;have lenV:=hi.length;have core:∀ H:Hp,FX H->bV K H a (ns.map V.int)->lN P w H ag.heap->(∀ b,H b≠none->b=a)->(H a≠none->K.lookup a=none)->
   codeAny (model P w) callerA (.call (.ref fa) ⟨[.ref a],[]⟩) (λ r s'=>r=.ok (.ret (.bool true))/\OldK ag.heap s'.heap/\s'.os=ag.os/\AllBare s'.gens) ag:=by
  intro H hO hS hok hA hK;have base_of:∀ {b:Addr}{o:Obj},ag.heap.get? b=some o->H b=none->(sR ag.heap H).get? b=some o:=λ e n=>AW e n;have noA:∀ {b:Addr}{o:Obj}{es:Array DictEntry}{ep:Nat},ag.heap.get? b=some o->o.data=.dict es ep->H b=none:=λ {b o es ep} e d=>by
   cases q:H b with
   | none=>rfl
   | some u=>
    have e':b=a:=hA b (by rw[q];simp);subst e';rw[ha] at e;cases e;have d':Data.seq vs.toArray _=Data.dict es ep:=d;cases d'
  have nsK:∀ {b:Addr}{m:Str->Option Value},ag.heap.Ns b m->(sR ag.heap H).Ns b m:=λ {b m} ⟨o,es,ep,e,d,r⟩=>⟨o,es,ep,base_of e (noA e d),d,r⟩;have hKb:K.In (sR ag.heap H):=λ b o e=>base_of (KX b o e) (by
   cases q:H b with
   | none=>rfl
   | some u=>
    have e':b=a:=hA b (by rw[q];simp);subst e';rw[hK (by rw[q];simp)] at e;cases e)
  have hM:Mod K mg (sR ag.heap H):=⟨hKb,nsK hns,⟨mb,nsK hb,hbb⟩,let ⟨mc,h1,h2⟩:=hlim;⟨mc,nsK h1,h2⟩⟩;have e0:Env0 P w K mg (sR ag.heap H) callerA [] ag H:=⟨rfl,hM,λ b o e=>CZ e,Nat.le_of_eq (yL _ _),trivial,λ b hb=>absurd (show b∈([]:List Addr) from hb) (by simp),hok,.of_eq hg⟩;refine codeAny_mono ((F _ hKb (nsK hns)).run callerA [] ag H ⟨[.ref a],[]⟩ [.ref a] [.ref a] _ _ hr e0 (hbind ag (.ref a)) (.cons rfl .nil) (hsp H hO hS)) λ r s' h=>?_;cases r with
  | error e=>exact (hCX H e s' h).elim
  | ok fl=>
   cases fl with
   | next=>exact False.elim h
   | brk=>exact False.elim h
   | cont=>exact False.elim h
   | ret u=>
    obtain⟨v,H',os,bare,un,hok',r',q⟩:=h;have q':v=.bl true:=q;subst q';obtain rfl:u=Value.bool true:=r';refine⟨rfl,OldK.of_keep λ b o e=>?_,os,bare⟩;cases q:H b with
    | none=>exact un.keep b o e q (by intro z;exact absurd (show b∈([]:List Addr) from z) (by simp)) (by simp)
    | some u=>
     rcases hO b with z | ⟨ob,xs,z⟩
     ·rw[q] at z;cases z
     ·have z2:=un.frzs b ob _ z;obtain⟨e1,_⟩:=hok b _ z;obtain⟨e2,_⟩:=hok' b _ z2;rw[e] at e1;cases e1;exact e2
 cases hk:K.lookup a with
 | some o=>
  have e:=KX a o hk;rw[ha] at e;cases e;refine core (λ _=>none) (λ _=>.inl rfl) (.inr ⟨_,vs.toArray,_,hk,rfl,rfl,rfl,by rw[aaf,lenV];exact hl,by simpa using rv⟩) (λ b u z=>by have z':(none:Option HO)=some u:=z;cases z') (λ b z=>absurd rfl z) λ z=>absurd rfl z
 | none=>
  refine core (λ b=>if b=a then some (.frz { cls:=.type "list",data:=.seq vs.toArray } (.lst (ns.map V.int))) else none) (λ b=>?_) (.inl (.inr ⟨{ cls:=.type "list",data:=.seq vs.toArray },if_pos rfl⟩)) (λ b u z=>?_) (λ b z=>?_) λ _=>hk
  ·by_cases hb:b=a
   ·exact .inr ⟨_,_,if_pos hb⟩
   ·exact .inl (if_neg hb)
  ·by_cases hb:b=a
   ·have z':=(if_pos hb).symm.trans z;cases z';subst hb;exact⟨ha,by rw[aad];exact hl,vs,_,rv,ha⟩
   ·have z':=(if_neg hb).symm.trans z;cases z'
  ·by_cases hb:b=a
   ·exact hb
   ·exact absurd (if_neg hb) z
theorem walk_of {l:PySem.W.OpenLaw}{n k:Nat}{q:Program}{loose:List Str}{XP:(Str->Option Value)->Heap->Prop}{YP:World->Heap->Prop}{d:DefRec}{K:Params->aaa}{CX:World->zG}{sp:World->Sp}{x:Str}
  (hn:l.most=some n) (hn2:n<=sizeLine) (hdf:d.params.defaults=[]) (hr:Room k callerA)
  (hY:∀ (w:World) (h:Heap),YP w h->(K w.params).In h)
  (F:∀ (w:World) (mg:Str->Option Value) (fa:Addr) (h:Heap),(K w.params).In h->h.Ns mainGlobals mg->mg d.name=some (.ref fa)->
   ∃ fd:FuncData,(∀ (s:Shared) (u:Value),BindsTo s fd ⟨[u],[]⟩ [(x,u)])/\
    ∀ base:Heap,(K w.params).In base->base.Ns mainGlobals mg->FnOk l.prog w (K w.params) mg base (CX w) k fa fd [x] (sp w))
  (hsp:∀ (w:World) (H:Hp) (a:Addr) (ns:List Int),ns.length<=n->FX H->bV (K w.params) H a (ns.map V.int)->sp w [.ref a] H (λ v _=>v=.bl true) λ _ _ _=>False)
  (hCX:∀ (w:World) (H:Hp) (s:Shared) (e:Value) (s':Shared),CX w [] H s (λ _ _ _=>False) e s'->False) :
  PySem.W.WalkO q loose XP YP l.row.toRowW d [] (λ f vs=>PySem.call f vs):=by
 refine Att.attach_call hn hdf λ w s₀ ag mg mb fa o pm cd doc a vs ns G Y ho hd hcd hmg hobj hints hlen hg=>?_;have KX:=hY w _ Y;obtain⟨fd,hb,hF⟩:=F w mg fa _ KX G.T.g hmg;exact AK KX G.T.g G.T.b G.T.builtins G.T.nolimit hg hobj hints (abo hlen hn2) hr hF hb (λ H hO hS=>hsp w H a ns hlen hO hS) λ H e s'=>hCX w H ag e s'
def kE (s:Stmt):Arguments:=match s with
 | .FunctionDef _ a _ _ _ _ _ _ _ _=>a
 | _=>{ posonlyargs:=[],args:=[],vararg:=none,kwonlyargs:=[],kw_defaults:=[],kwarg:=none,defaults:=[] }
def iQ (s:Stmt):List Stmt:=match s with
 | .FunctionDef _ _ b _ _ _ _ _ _ _=>b
 | _=>[]
def aR (s:Stmt):Scope:=match s with
 | .FunctionDef _ _ _ _ _ _ sc _ _ _=>sc
 | _=>{ kind:=.function,names:=[],isGenerator:=false,isCoroutine:=false }
abbrev gQ:zG:=λ _ _ _ _ _ _=>False
abbrev E0:XK:=λ _ _ _=>False
theorem GS {X:Cx}:wB gQ X E0:=λ _ _ _ _ _ _ _ h=>h.elim
structure Fun (K:aaa) (x qual:Str) (st:Stmt) (f:Addr) (fd:FuncData):Prop where
 ex:∃ (oc:Value) (od:Option Addr) (kV doc pm:Value) (an:Option Addr) (cdv ct:Value) (osl:Array (Option Value)),
  fd=PySem.W.fnOf x qual (kE st) (iQ st) (aR st) .none kV doc pm an cdv ct/\K.lookup f=some ⟨oc,od,.func fd,osl⟩/\PySem.W.codeIn K cdv qual=true
 kp:PySem.W.keepIn K (.ref f)=true
theorem Fun.ok {x qual:Str}{st:Stmt}{f:Addr}{fd:FuncData}{N ps:List Str}{k:Nat}{sp:Sp} (F:Fun K x qual st f fd) (S:FnScope N ps (aR st)) (len:∀ vs H Q E,sp vs H Q E->vs.length=ps.length)
  (hbody:∀ (cdv:Value) (A:Around) (outer:List Env) (s:Shared) (H:Hp) (vs:List V) (Q:VK) (E:XK),Room k (A.deeper (envOfC qual (aR st) s.heap.objs.size f cdv))->sp vs H Q E->
   ∃ t,zF (yR gQ P w K mg base N qual (aR st) f cdv A outer s H E).nox (iQ st) t/\t { nx:=λ _ H'=>Q .non H',rt:=Q } (nR N vs) H):FnOk P w K mg base gQ (k+1) f fd ps sp:=by
 obtain⟨oc,od,kV,doc,pm,an,cdv,ct,osl,rfl,lk,hcd⟩:=F.ex;refine HF lk hcd S len λ A outer s H vs Q E hr hsp=>?_;obtain⟨t,h,q⟩:=hbody cdv A outer s H vs Q E hr hsp;exact⟨t,h.nox,q⟩
theorem Fun.binds {x qual:Str}{st:Stmt}{f:Addr}{fd:FuncData}{ps:List Str} (F:Fun K x qual st f fd)
  (h:∀ (kV doc pm:Value) (an:Option Addr) (cdv ct:Value) (us:List Value),us.length=ps.length->bindArgs (PySem.W.fnOf x qual (kE st) (iQ st) (aR st) .none kV doc pm an cdv ct) ⟨us,[]⟩=pure (ps.zip us)):rL K fd ps []:=by
 obtain⟨oc,od,kV,doc,pm,an,cdv,ct,osl,rfl,lk,hcd⟩:=F.ex;exact .all (h kV doc pm an cdv ct)
theorem bP {x qual:Str}{st:Stmt}{f:Addr}{oc:Value}{od an:Option Addr}{osl:Array (Option Value)}{kV doc pm cdv ct:Value} (l:K.lookup f=some ⟨oc,od,.func (PySem.W.fnOf x qual (kE st) (iQ st) (aR st) .none kV doc pm an cdv ct),osl⟩)
  (c:PySem.W.codeIn K cdv qual=true) (k:PySem.W.keepIn K (.ref f)=true):Fun K x qual st f (PySem.W.fnOf x qual (kE st) (iQ st) (aR st) .none kV doc pm an cdv ct):=⟨⟨oc,od,kV,doc,pm,an,cdv,ct,osl,rfl,l,c⟩,k⟩
theorem DX {A:Around}{k:Nat} (hr:Room k A):A.units+1 < cLine:=Nat.lt_of_le_of_lt (Nat.add_le_add_left (by decide:1<=64) _) hr.units
theorem aW {n:Nat} (h:n<=1000):n < sizeLine:=Nat.lt_of_le_of_lt h (by decide)
section
variable {X:Cx}
theorem pv (i:Nat) {x:Str}{pos:Pos} (hN:X.N[i]? = some x:=by rfl) (hv:Vis X.env.scope x:=by first | exact Or.inl rfl | exact Or.inr (Or.inl rfl) | exact Or.inr (Or.inr rfl)) (hd:(x == ("__debug__" : Str))=false:=by decide)
  (hcd:(x == ("__classdict__" : Str))=false:=by decide):PE X (.Name x pos) (aZ i):=ER hN hv hd hcd
end
theorem cT {A B:Prop} (h:B):if false=true then A else B:=by
 rw[if_neg aaj];exact h
theorem cR {A B:Prop} (h:A):if true=true then A else B:=by
 rw[if_pos rfl];exact h
theorem gP {c A B:Prop} [Decidable c] (h1:c->A) (h2:¬ c->B):if c then A else B:=by
 by_cases h:c
 ·rw[if_pos h];exact h1 h
 ·rw[if_neg h];exact h2 h
def aG (H H':Hp):Prop:=∀ b o,H b=some o->H' b=some o
theorem aG.refl (H:Hp):aG H H:=λ _ _ h=>h
theorem aG.trans {H H1 H2:Hp} (a:aG H H1) (b:aG H1 H2):aG H H2:=λ c o h=>b c o (a c o h)
theorem aG.free {H H':Hp} (e:aG H H') {l:Addr} (h:H' l=Option.none):H l=Option.none:=by
 cases q:H l with
 | none=>rfl
 | some o=>
  rw[e l o q] at h;cases h
theorem aG.seq {K:aaa}{H H':Hp}{a:Addr}{xs:List V} (e:aG H H') (h:bV K H a xs):bV K H' a xs:=by
 rcases h with (h | ⟨o,h⟩) | h
 ·exact .inl (.inl (e _ _ h))
 ·exact .inl (.inr ⟨o,e _ _ h⟩)
 ·exact .inr h
end L2
set_option maxHeartbeats 4000000
namespace L2
open PySem PySem.Spec PyProof.Rows
theorem eT {env:Env} (hk:env.scope.kind=.function):∀ {names:List (Str×NameKind)}{x:Str},names.lookup x=some .free->env.kindOf x=some .cell->
  (names.map λ (n,k)=>if (k == NameKind.free && env.scope.kind == .function && env.kindOf n == some .cell) then (n,NameKind.cell) else (n,k)).lookup x=some .cell
 | [],_,h,_=>by simp at h
 | (n,k)::r,x,h,hc=>by
  have ih:=@eT env hk r x;show List.lookup x ((if (k == NameKind.free && env.scope.kind == .function && env.kindOf n == some .cell)=true then (n,NameKind.cell) else (n,k))::_)=_;cases hx:x == n with
  | true=>
   simp only [List.lookup_cons,hx] at h;cases h;have e:x=n:=by simpa using hx
   subst e;rw[if_pos (by rw[hk,hc];decide)];simp [List.lookup_cons]
  | false=>
   simp only [List.lookup_cons,hx] at h
   by_cases hq:(k == NameKind.free && env.scope.kind == .function && env.kindOf n == some .cell)=true
   ·rw[if_pos hq];simp only [List.lookup_cons,hx];exact ih h hc
   ·rw[if_neg hq];simp only [List.lookup_cons,hx];exact ih h hc
def zD (env:Env):List (Str×Addr)->Prop
 | []=>True
 | p::r=>env.cells.lookup p.1=some p.2/\zD env r
theorem zD.get {env:Env}:∀ {cl:List (Str×Addr)},zD env cl->∀ x c,cl.lookup x=some c->env.cells.lookup x=some c
 | [],_,_,_,e=>by simp at e
 | (n,a)::r,h,x,c,e=>by
  cases hx:x == n with
  | true=>
   simp only [List.lookup_cons,hx] at e;cases e;have e':x=n:=by simpa using hx
   subst e';exact h.1
  | false=>
   simp only [List.lookup_cons,hx] at e;exact zD.get h.2 x c e
def tD (X:Cx) (scope:Scope) (N':List Str):List (Option Nat)->Nat->Prop
 | [],_=>True
 | none::r,i=>tD X scope N' r (i+1)
 | some j::r,i=>(∃ x,N'[i]? = some x/\X.N[j]? = some x/\scope.names.lookup x=some .free/\X.env.kindOf x=some .cell)/\tD X scope N' r (i+1)
theorem tD.get {X:Cx}{scope:Scope}{N':List Str}:∀ {fr:List (Option Nat)}{k:Nat},tD X scope N' fr k->∀ i j,fr[i]? = some (some j)->
  ∃ x,N'[k+i]? = some x/\X.N[j]? = some x/\scope.names.lookup x=some .free/\X.env.kindOf x=some .cell
 | [],_,_,i,j,e=>by simp at e
 | none::r,k,h,0,j,e=>by simp at e
 | some _::r,k,h,0,j,e=>by simp at e;subst e;exact h.1
 | none::r,k,h,i+1,j,e=>by
  have:=tD.get (k:=k+1) (show tD X scope N' r (k+1) from h) i j (by simpa using e)
  rwa [Nat.add_right_comm] at this
 | some _::r,k,h,i+1,j,e=>by
  have:=tD.get (k:=k+1) h.2 i j (by simpa using e)
  rwa [Nat.add_right_comm] at this
structure LcOk (X:Cx) (scope:Scope) (cl:List (Str×Addr)) (N':List Str) (fr:List (Option Nat)):Prop where
 clos:closureFor scope X.env=pure cl
 cls:zD X.env cl
 kind:scope.kind=.function
 nocell:(scope.names.all λ p=>p.2 != NameKind.cell)=true
 locs:(scope.names.all λ p=>p.2 != NameKind.local || scope.names.lookup p.1 == some NameKind.local)=true
 frees:(scope.names.all λ p=>p.2 != NameKind.free || (cl.lookup p.1).isSome)=true
 len:fr.length=N'.length
 fr:tD X scope N' fr 0
def uE (fr:List (Option Nat)) (σ:St):St:=fr.map λ o=>o.bind λ j=>(σ[j]?).join
def tF (X:Cx) (N':List Str) (scope:Scope) (cl:List (Str×Addr)) (fp:List Addr) (s:Shared) (H:Hp):Cx:=
 { X with N:=N',s₀:=s,H₀:=H,env:=compEnvC scope cl s.heap.objs.size X.env,outer:=X.stack,ex:=fp,fn:=λ _=>false,pn:=[] }
def E4 (X:Cx) (ifs:List Expr) (t:TT):Prop:=
 ∀ (pins:List (Addr×Obj)) (s:Shared) (σ:St) (H:Hp) (Q:Bool->Hp->Prop),Inv X pins σ H s->t σ H Q->
  wpAny (model X.prog X.w) X.A (forIn ifs true λ c r=>if r=true then do let ok <- isTrue c X.env (eval c X.env);pure (ForInStep.yield ok) else pure (ForInStep.yield r)) (TP X pins σ Q) X.xe s
def E9:TT:=λ _ H Q=>Q true H
theorem dN {X:Cx}:E4 X [] E9:=λ _ _ _ H _ I h=>wpAny_tests_nil ⟨H,I,h⟩
theorem oG {X:Cx}{c:Expr}{t:TT} (h:PT X c t):E4 X [c] t:=λ pins s σ H Q I hw=>wpAny_tests_one (h pins s σ H Q I hw)
def iM (J:It) (g:TG) (tc:TT) (te:TE) (fr:List (Option Nat)) (σ:St) (H1:Hp) (Q:Addr->Hp->Prop):Prop:=
 ∀ D,H1 D=none->∃ W:Nat->Nat->List V->St->Hp->Prop,(∃ m,W 0 m [] (uE fr σ) (upd H1 D (.lst [])))/\
  ∀ i m ys Z H',W i m ys Z H'->(J.stop i H'/\Q D H')\/
   (J.go i H'/\∃ N:List V->St->Hp->Prop,(∀ ys' dj H'',N ys' dj H''->∃ m',m' < m/\W (i+1) m' ys' dj H'')/\
    ∀ x H2,J.yld i H' x H2->g x Z H2 λ ak H3=>tc ak H3 λ b H4=>
    if b=true then te ak H4 λ y H5=>H5 D=some (.lst ys)/\ys.length < sizeLine/\N (ys++[y]) ak (upd H5 D (.lst (ys++[y])))
    else N ys ak H4)
theorem pQ {J:It}{n:Nat}{g:TG}{tc:TT}{te:TE}{fr:List (Option Nat)}{σ:St}{H1:Hp}{Q:Addr->Hp->Prop} (Pv:Addr->Nat->List V->St->Hp->Prop)
  (h0:∀ D,H1 D=none->Pv D 0 [] (uE fr σ) (upd H1 D (.lst [])))
  (hstop:∀ D ys Z H',Pv D n ys Z H'->J.stop n H'/\Q D H')
  (hgo:∀ D i ys Z H',i < n->Pv D i ys Z H'->J.go i H'/\∀ x H2,J.yld i H' x H2->g x Z H2 λ ak H3=>tc ak H3 λ b H4=>
    if b=true then te ak H4 λ y H5=>H5 D=some (.lst ys)/\ys.length < sizeLine/\Pv D (i+1) (ys++[y]) ak (upd H5 D (.lst (ys++[y])))
    else Pv D (i+1) ys ak H4):iM J g tc te fr σ H1 Q:=by
 intro D hD;refine⟨λ i m ys σ H=>m=n - i/\i<=n/\Pv D i ys σ H,⟨n,by simp,aar _,h0 D hD⟩,?_⟩;rintro i m ys Z H' ⟨rfl,hi,p⟩
 by_cases hlt:i < n
 ·obtain⟨go,step⟩:=hgo D i ys Z H' hlt p;exact .inr ⟨go,Pv D (i+1),λ ys' dj H'' p'=>⟨n - (i+1),by omega,rfl,hlt,p'⟩,step⟩
 ·have e:i=n:=by omega
  subst e;exact .inl (hstop D ys Z H' p)
theorem xG {J:It}{n:Nat}{g:TG}{tb:TS}{D:Ends}{σ:St}{H:Hp} (Pv:Nat->St->Hp->Prop) (h0:Pv 0 σ H) (hstop:∀ σ H,Pv n σ H->J.stop n H/\D.nx σ H)
  (hgo:∀ i σ H,i < n->Pv i σ H->J.go i H/\∀ x H',J.yld i H x H'->g x σ H' λ bf H2=>tb { D with nx:=Pv (i+1),ct:=Pv (i+1),bk:=D.nx } bf H2) :
  ∃ W:Nat->Nat->St->Hp->Prop,(∃ m,W 0 m σ H)/\∀ i m σ H,W i m σ H->
   (J.stop i H/\D.nx σ H)\/(J.go i H/\∃ N:St->Hp->Prop,(∀ Z H',N Z H'->∃ m',m' < m/\W (i+1) m' Z H')/\∀ x H',J.yld i H x H'->g x σ H' λ bf H2=>tb { D with nx:=N,ct:=N,bk:=D.nx } bf H2):=by
 refine⟨λ i m σ H=>m=n - i/\i<=n/\Pv i σ H,⟨n,by simp,aar _,h0⟩,?_⟩;rintro i m σ H ⟨rfl,hi,p⟩
 by_cases hlt:i < n
 ·obtain⟨go,step⟩:=hgo i σ H hlt p;exact .inr ⟨go,Pv (i+1),λ Z H' p'=>⟨n - (i+1),by omega,rfl,hlt,p'⟩,step⟩
 ·have e:i=n:=by omega
  subst e;exact .inl (hstop σ H p)
def tLC (wi:TI) (fr:List (Option Nat)) (g:TG) (tc:TT) (te:TE):TE:=λ σ H Q=>wi σ H λ J H1=>iM J g tc te fr σ H1 λ D H'=>Q (.ref D) H'
section
variable {prog:Program}{A:Around}{R:Result->Shared->Prop}{s:Shared}
theorem mQ {elt target iter:Expr}{ifs:List Expr}{scope:Scope}{pos:Pos}{it acc:Value}{env:Env} (I:Nat->Shared->Prop)
  (turn:∀ n s,I n s->wpAny (model prog w) A (pyNext it) (λ r ag=>match r with
   | none=>R (.ok .next) ag
   | some v=>wpAny (model prog w) A (letOwnedTupleGo target it v) (λ _ dn=>wpAny (model prog w) A (assign target env v) (λ _ cj=>
     wpAny (model prog w) A (forIn ifs true λ c r=>if r=true then do let ok <- isTrue c env (eval c env);pure (ForInStep.yield ok) else pure (ForInStep.yield r)) (λ ok bq=>
      if ok=true then wpAny (model prog w) A (eval elt env) (λ x ck=>
       wpAny (model prog w) A (call (.builtin "list.append") [acc,x]) (λ _ ee=>∃ m,m < n/\I m ee) (notedBy (model prog w) A env λ e s'=>R (.error e) s') ck) (notedBy (model prog w) A env λ e s'=>R (.error e) s') bq
      else ∃ m,m < n/\I m bq) (notedBy (model prog w) A env λ e s'=>R (.error e) s') cj) (notedBy (model prog w) A env λ e s'=>R (.error e) s') dn) (notedBy (model prog w) A env λ e s'=>R (.error e) s') ag)
    (notedBy (model prog w) A env λ e s'=>R (.error e) s') s)
  (n:Nat) (h:I n s) :
  codeAny (model prog w) A (.compLoop (.ListComp elt [⟨target,iter,ifs,0⟩] scope pos) 0 it acc env) R s:=by
 refine codeAny_loop rfl I (λ n s hI=>?_) n h;show wpAny _ A ((compTurn (.ListComp elt [⟨target,iter,ifs,0⟩] scope pos) 0 it acc env).onRaise (λ x=>do noteFrame x env;theTreesLotGoes x)) _ _ s;refine wpAny_noted ?_;rw[compTurn_list];refine aab (wpAny_standAt (aab (abv (turn n s hI) (λ r ag aj=>?_) λ _ _ h'=>h')));cases r with
 | none=>exact aae aj
 | some v=>
  refine aab (abv aj (λ _ dn h₁'=>?_) λ _ _ h'=>h');refine aab (abv h₁' (λ _ cj ai=>aab (abv ai (λ ok bq af=>?_) λ _ _ h'=>h')) λ _ _ h'=>h');cases ok with
  | false=>exact aae ⟨rfl,af⟩
  | true=>
   exact aab (aab (abv af (λ x ck ap=>aab (abv ap (λ _ ee bo=>aae (aae ⟨rfl,bo⟩)) λ _ _ h'=>h')) λ _ _ h'=>h'))
end
section
variable {X:Cx}
theorem LcOk.invC {scope:Scope}{cl:List (Str×Addr)}{N':List Str}{fr:List (Option Nat)}{pins:List (Addr×Obj)}{σ:St}{H:Hp}{s:Shared}{h1:Heap}{fp:List Addr}{m1:Str->Option Value}{tk:Nat}
  (S:LcOk X scope cl N' fr) (I:Inv X pins σ H s) (hf:∀ b∈fp,hJ X pins H b) (hfo:∀ b∈fp,b < s.heap.objs.size)
  (k:∀ b o,s.heap.get? b=some o->h1.get? b=some o) (hn:h1.Ns s.heap.objs.size m1):Inv (tF X N' scope cl fp s H) [] (uE fr σ) H { s with heap:=h1,toks:=tk }:=by
 have hfree:=S.frees;have hcell:=S.nocell;rw[abu] at hfree hcell;have fresh:H s.heap.objs.size=none:=I.hok.fresh (aak _);have clg:=S.cls.get;refine⟨⟨I.ok.mod,S.kind,I.ok.glob,I.ok.blt,aak _,λ x y c e1 e2=>I.ok.inj x y c (clg x c e1) (clg y c e2),λ x hx=>?_,(λ x c e=>nomatch e),I.ok.hd,I.ok.frames,.inl rfl,λ b hb=>⟨abc (hfo b hb),λ x c e=>(hf b hb).2.2.2.2.1 x c (clg x c e)⟩,
  I.bs,abo I.ok.bsz I.sz,λ b o e hb=>?_,λ b hb hz=>?_,I.stack,I.stkFree⟩,rfl,I.bare,Un.kept k,⟨m1,hn,λ i x v e1 e2 e3=>?_⟩,λ x c e=>?_,fresh,λ x c e=>I.freeC x c (clg x c e),λ p hp=>absurd (show p∈([]:List (Addr×Obj)) from hp) (by simp),I.hok.kept k,?_⟩
 ·
  have hm:∃ k',(x,k')∈scope.names/\k'=NameKind.free:=by
   have hx':(relabel scope X.env).names.lookup x=some .cell\/(relabel scope X.env).names.lookup x=some .free:=hx;obtain⟨k',e,hk'⟩:∃ k',(relabel scope X.env).names.lookup x=some k'/\(k'=.cell\/k'=.free):=by
    rcases hx' with e | e
    ·exact⟨_,e,.inl rfl⟩
    ·exact⟨_,e,.inr rfl⟩
   have hmem:=abt e;obtain⟨⟨n,kn⟩,hp,he⟩:=acm.mp hmem;dsimp only at he
   split at he
   ·rename_i hc
    cases he;have:kn=.free:=by
     simp only [Bool.and_eq_true,beq_iff_eq] at hc;exact hc.1.1
    exact⟨kn,hp,this⟩
   ·cases he;rcases hk' with e' | e'
    ·subst e';have:=hcell _ hp;simp at this
    ·exact⟨_,hp,e'⟩
  obtain⟨k',hp,rfl⟩:=hm;have:=hfree _ hp;simp only [bne_self_eq_false,Bool.false_or] at this;exact Option.isSome_iff_exists.mp this
 ·rcases (hf b hb).2.2.2.1 with z | z
  ·exact I.ok.noex b o e z
  ·have:=aam e;exact absurd (aat this (abo I.ok.bsz z)) (aby _)
 ·obtain⟨_,f1,f2,_⟩:=hf b hb;rcases abl.mp (I.stkSub b hz) with e | e
  ·exact f1 e
  ·exact f2 e
 ·
  unfold uE at e2;rw[aah] at e2;cases ef:fr[i]? with
  | none=>rw[ef] at e2;cases e2
  | some o=>
   rw[ef] at e2;cases o with
   | none=>simp at e2
   | some j=>
    have e2':(σ[j]?).join=some v:=by simpa using e2
    obtain⟨x',h1',h2',h3',h4'⟩:=S.fr.get i j ef;rw[Nat.zero_add] at h1';have ex:x'=x:=by
     have:N'[i]? = some x:=e1;rw[h1'] at this;exact abn this
    subst ex;have e2'':σ[j]? = some (some v):=by
     cases q:σ[j]? with
     | none=>rw[q] at e2';cases e2'
     | some z=>rw[q] at e2';simp at e2';rw[e2']
    obtain⟨m,hm,hl⟩:=I.loc;obtain⟨u,r,lk⟩:=hl j x' v h2' e2'' (.inr (.inl h4'));refine⟨u,r,?_⟩;rcases lk with ⟨q,_⟩ | ⟨_,c,hc,z⟩
    ·rw[h4'] at q;cases q
    ·have hcl:∃ c',cl.lookup x'=some c':=by
      have:=hfree _ (abt h3');simp only [bne_self_eq_false,Bool.false_or] at this;exact Option.isSome_iff_exists.mp this
     obtain⟨c',hc'⟩:=hcl;have e':=clg x' c' hc';rw[hc] at e';cases e';obtain⟨oc,hoc,hd⟩:=z;refine .inr ⟨.inl ?_,c,hc',oc,k c oc hoc,hd⟩;exact eT I.ok.kind h3' h4'
 ·obtain⟨v,oc,hoc,hd⟩:=I.cell x c (clg x c e);exact⟨v,oc,k c oc hoc,hd⟩
 ·show (uE fr σ).length=N'.length;unfold uE;rw[aad,S.len]
theorem Inv.outC {scope:Scope}{cl:List (Str×Addr)}{N':List Str}{pins pins':List (Addr×Obj)}{σ Z:St}{H H':Hp}{s s':Shared}{fp:List Addr} (I:Inv X pins σ H s) (J:Inv (tF X N' scope cl fp s H) pins' Z H' s')
  (hf:∀ b∈fp,hJ X pins H b):Inv X pins σ H' s':=
 I.call' (ch:=fp) J.os J.base J.hok J.bare λ b hb=>by
  obtain⟨_,f1,_,f3,f4,f5⟩:=hf b hb;exact⟨f3,f1,f4,f5⟩
theorem Inv.letgo {pins:List (Addr×Obj)}{σ:St}{H:Hp}{s:Shared}{C:Addr}{h':Heap} (I:Inv X pins σ H s) (f:hJ X pins H C) (hsb:Heap.SameBut C s.heap h'):Inv X pins σ H { s with heap:=h' }:=by
 obtain⟨f0,f1,f2,f3,f4,f5⟩:=f;exact I.turned (t':=s.toks) (it:=C) (h':=h') (λ b o hb e=>(hsb.2 b hb).trans e) f0 f1 f3 f4 f5
theorem u6 {elt tg iter:Expr}{ifs:List Expr}{scope:Scope}{pos:Pos}{N':List Str}{fr:List (Option Nat)}{cl:List (Str×Addr)}{g:TG}{tc:TT}{te:TE}
  {pins:List (Addr×Obj)}{σ:St}{H:Hp}{s:Shared}{J:It}{fp:List Addr}{it:Addr}{tn:Nat->Heap->Prop}{Q:Addr->Hp->Prop}{RR:Value->Addr->Result->Shared->Prop}{E:Value->Shared->Prop}
  (hx:∀ e s,¬ X.xe e s) (hc:X.calm=true) (S:LcOk X scope cl N' fr)
  (hg:∀ fp s H,PG (tF X N' scope cl fp s H) tg g) (ht:∀ fp s H,E4 (tF X N' scope cl fp s H) ifs tc) (he:∀ fp s H,PE (tF X N' scope cl fp s H) elt te)
  (I:Inv X pins σ H s) (T:Turn X.prog X.w X.K tg J fp it tn) (st:tn 0 s.heap) (hf:∀ b∈fp,hJ X pins H b) (h:iM J g tc te fr σ H Q)
  (hRR:∀ D C H' s' m',Inv X pins σ H' s'->Q D H'->s'.heap.Ns C m'->hJ X pins H' C->RR (.ref D) C (.ok .next) s') :
  wpAny (model X.prog X.w) X.A (newList []) (λ acc bq=>wpAny (model X.prog X.w) X.A (newFunctionEnv scope X.env.globals cl [] X.env.qual none .none (some X.env)) (λ cenv ck=>
   codeAny (model X.prog X.w) X.A (.compStart (.ListComp elt [⟨tg,iter,ifs,0⟩] scope pos) 0 (.ref it) acc { cenv with scope:=relabel scope X.env }) (RR acc cenv.locals) ck) E bq) E s:=by
 have hcell:=S.nocell;rw[abu] at hcell;refine wpAny_newObj_type (wpAny_newFunctionEnv (λ x hx'=>by simpa using hcell x hx') (by intro y hy;simp at hy) (λ aj bx cn=>?_) S.kind);dsimp only at bx cn ⊢;have fresh:H s.heap.objs.size=none:=I.hok.fresh (aak _);have I3:Inv X pins σ (upd H s.heap.objs.size (.lst [])) { s with heap:=s.heap.push { cls:=.type "list",data:=.seq ([]:List Value).toArray },toks:=s.toks }:=I.lnew (ys:=[]) (its:=[]) .nil (aar _);have hf3:∀ b∈fp,hJ X pins (upd H s.heap.objs.size (.lst [])) b:=λ b hb=>by
  obtain⟨o,ho,_⟩:=T.obj _ _ st b hb;exact⟨by rw[aM (abc (aam ho))];exact (hf b hb).1,(hf b hb).2⟩
 generalize hs3:({ s with heap:=s.heap.push { cls:=.type "list",data:=.seq ([]:List Value).toArray },toks:=s.toks }:Shared)=s3 at I3;have e3:s3.heap=s.heap.push { cls:=.type "list",dict:=none,data:=.seq ([]:List Value).toArray }:=by rw[<- hs3]
 have e3s:({ s with heap:=s.heap.push { cls:=.type "list",dict:=none,data:=.seq ([]:List Value).toArray } }:Shared)=s3:=hs3;have hsz3:s3.heap.objs.size=s.heap.objs.size+1:=by rw[e3,abm]
 have hfo:∀ b∈fp,b < s3.heap.objs.size:=λ b hb=>by
  obtain⟨o,ho,_⟩:=T.obj _ _ st b hb;rw[hsz3];exact Nat.lt_succ_of_lt (aam ho)
 rw[<- e3] at bx cn ⊢;have old3:∀ b o,s3.heap.get? b=some o->aj.get? b=some o:=λ b o e=>cn.extBut b o (abc (aam e)) (aac _ e);have old:∀ b o,s.heap.get? b=some o->s3.heap.get? b=some o:=λ b o e=>by rw[e3];exact aac _ e
 have I4:=S.invC (tk:=s3.toks) I3 hf3 hfo old3 bx;obtain⟨W,⟨m0,w0⟩,turn⟩:=h s.heap.objs.size fresh;have stat:∀ {H':Hp},(∀ b∈fp,H' b=none)->∀ b∈fp,hJ (tF X N' scope cl fp s3 (upd H s.heap.objs.size (.lst []))) [] H' b:=λ hn b hb=>by
  refine⟨hn b hb,abc (hfo b hb),?_,.inl hb,λ x c e=>(hf b hb).2.2.2.2.1 x c (S.cls.get x c e),λ p hp=>absurd (show p∈([]:List (Addr×Obj)) from hp) (by simp)⟩;intro hz;obtain⟨_,f1,f2,_⟩:=hf b hb;rcases abl.mp (I.stkSub b hz) with e | e
  ·exact f1 e
  ·exact f2 e
 have loop:∀ s4:Shared,s4={ s3 with heap:=aj,toks:=s3.toks }->
   codeAny (model X.prog X.w) X.A (.compLoop (.ListComp elt [⟨tg,iter,ifs,0⟩] scope pos) 0 (.ref it) (.ref s.heap.objs.size) (compEnvC scope cl s3.heap.objs.size X.env)) (RR (.ref s.heap.objs.size) s3.heap.objs.size) s4:=by
  intro s4 hs4;refine mQ (λ n s'=>∃ i ys Z H',Inv (tF X N' scope cl fp s3 (upd H s.heap.objs.size (.lst []))) [] Z H' s'/\tn i s'.heap/\(∀ b∈fp,H' b=none)/\W i n ys Z H') ?_ m0
   ⟨0,[],uE fr σ,_,by rw[hs4];exact I4,by rw[hs4];exact T.keep _ _ _ st λ b _ o e=>old3 b o (old b o e),λ b hb=>(hf3 b hb).1,w0⟩
  rintro n s5 ⟨i,ys,cb,H5,I5,st5,fr5,w5⟩;rcases turn i n ys cb H5 w5 with ⟨stop,qn⟩ | ⟨go,N,hN,step⟩
  ·refine d5 (T.done (tF X N' scope cl fp s3 (upd H s.heap.objs.size (.lst []))) rfl rfl rfl hc i [] s5 cb H5 _ I5 (stat fr5) st5 stop) λ r s6 ⟨hr,I6⟩=>?_;subst hr;obtain⟨m',hm',_⟩:=I6.loc;exact hRR _ _ H5 s6 m' (I3.outC I6 hf3) qn hm' (I3.fpOk (aak _) I6.free)
  ·refine d5 (T.item (tF X N' scope cl fp s3 (upd H s.heap.objs.size (.lst []))) rfl rfl rfl hc i [] s5 cb H5 _ I5 (stat fr5) st5 go) λ r s6 ⟨u,hr,h6⟩=>?_;subst hr;refine d5 h6 λ _ s7 ⟨x,H7,I7,r7,y7,st7,fr7⟩=>?_;have I7':=I7.pinned (stat fr7) (T.obj _ _ st7);refine abv (hg fp s3 _ _ s7 cb H7 x u _ I7' r7 (step x H7 y7)) (λ _ s8 ⟨bp,H8,I8,q8⟩=>?_) λ e s' z=>(hx e s' z).elim;refine abv (ht fp s3 _ _ s8 bp H8 _ I8 q8) (λ ok s9 ⟨H9,I9,q9⟩=>?_) λ e s' z=>(hx e s' z).elim;have again:∀ {s10:Shared}{H10:Hp}{ys':List V},Inv (tF X N' scope cl fp s3 (upd H s.heap.objs.size (.lst []))) ([]++n6 fp s7.heap) bp H10 s10->N ys' bp H10->
     ∃ m,m < n/\∃ i ys Z H',Inv (tF X N' scope cl fp s3 (upd H s.heap.objs.size (.lst []))) [] Z H' s10/\tn i s10.heap/\(∀ b∈fp,H' b=none)/\W i m ys Z H':=λ {s10 H10 ys'} I10 n10=>by
    obtain⟨m',hm,w10⟩:=hN ys' bp H10 n10;refine⟨m',hm,i+1,ys',bp,H10,I10.unpinned,T.keep _ _ _ st7 λ b hb o e=>(I10.pin (b,o) (aaz _ (aaz _ (fK hb e)))).1,λ b hb=>?_,w10⟩;obtain⟨o,e,d⟩:=T.obj _ _ st7 b hb;exact (I10.pin (b,o) (aaz _ (aaz _ (fK hb e)))).2.1
   cases ok with
   | false=>
    rw[if_neg aaj] at q9 ⊢;exact again I9 q9
   | true=>
    rw[if_pos rfl] at q9 ⊢;refine abv (he fp s3 _ _ s9 bp H9 _ I9 q9) (λ y s10 ⟨yv,H10,I10,r10,hD,hlen,q10⟩=>?_) λ e s' z=>(hx e s' z).elim;refine abv (cD (X:=tF X N' scope cl fp s3 (upd H s.heap.objs.size (.lst []))) _ s10 bp H10 (.ref s.heap.objs.size) [yv] (.ref s.heap.objs.size) [y] (λ _ H11=>H11=upd H10 s.heap.objs.size (.lst (ys++[yv]))) I10 rfl (.cons r10 .nil)
     ⟨_,ys,yv,rfl,rfl,hD,hlen,rfl⟩) (λ _ s11 ⟨_,H11,I11,_,e11⟩=>?_) λ e s' z=>(hx e s' z).elim
    subst e11;exact again I11 q10
 exact codeAny_compStart_list (loop _ (by rw[<- e3s];rfl)) (T.self X.A 0 _ _ _ (T.keep _ _ _ st λ b _ o e=>old3 b o (old b o e)) (loop _ (by rw[<- e3s];rfl)))
theorem i6 {elt tg iter:Expr}{ifs:List Expr}{scope:Scope}{pos:Pos}{N':List Str}{fr:List (Option Nat)}{cl:List (Str×Addr)}{wi:TI}{g:TG}{tc:TT}{te:TE}
  (hx:∀ e s,¬ X.xe e s) (hc:X.calm=true) (S:LcOk X scope cl N' fr) (hi:PI X tg iter wi)
  (hg:∀ fp s H,PG (tF X N' scope cl fp s H) tg g) (ht:∀ fp s H,E4 (tF X N' scope cl fp s H) ifs tc) (he:∀ fp s H,PE (tF X N' scope cl fp s H) elt te)
  (hs:∀ x,foldedSetIterable iter X.env x=pure x:=by intro _;rfl):PE X (.ListComp elt [⟨tg,iter,ifs,0⟩] scope pos) (tLC wi fr g tc te):=by
 intro pins s σ H Q I h;have hloc:=S.locs;rw[abu] at hloc;rw[eval_ListComp];refine wpAny_comprehension_free (use:=none) rfl hs S.clos S.kind (λ x hx' hl=>by have:=hloc x hx';rw[hl] at this;simpa using this) (d5 (hi pins s σ H _ I h) λ v s1 h1=>d5 h1 λ itv s2 h2=>?_);obtain⟨it,fp,tn,J,H2,e,I2,T,st2,f2,rest⟩:=h2;subst e;refine u6 (RR:=λ acc C=>compPost (model X.prog X.w) X.A X.xe none (EP X pins σ Q) acc C) hx hc S hg ht he I2 T st2 f2 rest ?_;intro D C H' s' m' I' q hn f;exact⟨m',hn,λ h' hsb=>⟨.ref D,H',I'.letgo f hsb,rfl,q⟩⟩
theorem jZ {i:Nat}{y:Str}{py:Pos}{spos:Pos}{elt tg iter:Expr}{ifs:List Expr}{scope:Scope}{pos:Pos}{N':List Str}{fr:List (Option Nat)}{cl:List (Str×Addr)}{wi:TI}{g:TG}{tc:TT}{te:TE}
  (hN:X.N.Nodup) (hy:X.N[i]? = some y) (hk:X.env.scope.names.lookup y=some .local)
  (hx:∀ e s,¬ X.xe e s) (hc:X.calm=true) (S:LcOk X scope cl N' fr) (hi:PI X tg iter wi)
  (hg:∀ fp s H,PG (tF X N' scope cl fp s H) tg g) (ht:∀ fp s H,E4 (tF X N' scope cl fp s H) ifs tc) (he:∀ fp s H,PE (tF X N' scope cl fp s H) elt te)
  (hsw:swapsWith (.ListComp elt [⟨tg,iter,ifs,0⟩] scope pos) (some (.Name y py)) spos.line X.env=pure true:=by rfl)
  (hs:∀ x,foldedSetIterable iter X.env x=pure x:=by intro _;rfl):PS X (.Assign [.Name y py] (.ListComp elt [⟨tg,iter,ifs,0⟩] scope pos) spos) (fI (tLC wi fr g tc te) (cB i)):=by
 intro pins s σ H D I h;have hloc:=S.locs;rw[abu] at hloc;rw[exec_Assign_Name_used _ _ _ _ hsw];refine aab (wpAny_standAt (aab ?_));show wpAny _ X.A (do let _ <- comprehension (.ListComp elt [⟨tg,iter,ifs,0⟩] scope pos) scope X.env _ (newList []) false (eval iter X.env) (some (assign (.Name y py) X.env))) _ _ s;refine aab (abv (wpAny_comprehension_free (use:=some (assign (.Name y py) X.env)) (Q:=λ _ s'=>SP X pins D .next s') rfl hs S.clos S.kind (λ x hx' hl=>by have:=hloc x hx';rw[hl] at this;simpa using this)
  (d5 (hi pins s σ H _ I h) λ v s1 h1=>d5 h1 λ itv s2 h2=>?_)) (λ _ s' hq=>aae (aae hq)) λ _ _ e=>e)
 obtain⟨it,fp,tn,J,H2,e,I2,T,st2,f2,rest⟩:=h2;subst e;refine u6 (RR:=λ acc C=>compPost (model X.prog X.w) X.A X.xe (some (assign (.Name y py) X.env)) (λ _ s'=>SP X pins D .next s') acc C) hx hc S hg ht he I2 T st2 f2 rest ?_;intro Da C H' s' m' I' q hn f;show wpAny _ X.A (assign (.Name y py) X.env (.ref Da)) _ _ _;refine wpAny_assign_Name (mV I' hN hy (.inl hk) (v:=.ref Da) rfl (λ s'' I'' hch=>?_) (.inr hk));obtain⟨a,hsb,ha⟩:=hch;have haC:a≠C:=by
  rcases ha with e | e
  ·rw[e];exact Ne.symm f.2.1
  ·exact f.2.2.2.2.1 _ _ e
 exact⟨m',hn.sameBut hsb (Ne.symm haC),λ h' hs'=>⟨_,H',I''.letgo f hs',q⟩⟩
end
end L2
namespace TwZ
open PySem
open Sem (wp)
def d9 (h:Heap) (t:Bool) (it a:Addr) (i:Nat):Prop:=if t=true then h.IsTupleIter it a i else h.IsListIter it a i
def bU (h:Heap) (t:Bool) (a:Addr) (items:Array Value):Prop:=if t=true then h.IsTuple a items else h.IsList a items
theorem d9.at {h h':Heap}{t:Bool}{it a:Addr}{i:Nat} (x:d9 h t it a i) (k:∀ o,h.get? it=some o->h'.get? it=some o):d9 h' t it a i:=by
 cases t <;> (obtain⟨o,ho,r⟩:=x;exact⟨o,k o ho,r⟩)
theorem ex {h h':Heap}{b c:Addr}{o:Obj} (hs:Heap.SameBut b h h') (hc:@Ne Nat c b) (e:h.get? c=some o):h'.get? c=some o:=hs.extBut _ _ hc e
theorem d9.ext {h h':Heap}{t:Bool}{it a b:Addr}{i:Nat} (x:d9 h t it a i) (hs:Heap.SameBut b h h') (hab:@Ne Nat it b):d9 h' t it a i:=x.at λ o e=>hs.extBut _ _ hab e
theorem bU.at {h h':Heap}{t:Bool}{a:Addr}{xs:Array Value} (x:bU h t a xs) (k:∀ o,h.get? a=some o->h'.get? a=some o):bU h' t a xs:=by
 cases t <;> (obtain⟨o,ho,r⟩:=x;exact⟨o,k o ho,r⟩)
theorem bU.ext {h h':Heap}{t:Bool}{a b:Addr}{xs:Array Value} (x:bU h t a xs) (hs:Heap.SameBut b h h') (hab:@Ne Nat a b):bU h' t a xs:=x.at λ o e=>hs.extBut _ _ hab e
theorem bU.lt {h:Heap}{t:Bool}{a:Addr}{xs:Array Value} (x:bU h t a xs):a < h.objs.size:=by
 cases t <;> (obtain⟨o,ho,r⟩:=x;exact aam ho)
theorem d9.obj {h:Heap}{t:Bool}{it a:Addr}{i:Nat} (x:d9 h t it a i):∃ o,h.get? it=some o/\∀ v,o.data≠.cell v:=by
 cases t <;> (obtain⟨o,ho,_,d⟩:=x;exact⟨o,ho,λ v z=>by rw[d] at z;cases z⟩)
section
variable {prog:Program}{M:Model}{A:Around}{E:Value->Shared->Prop}{s:Shared}
theorem nQ {a:Addr}{Q:Option Obj->Shared->Prop} (h:Q (s.heap.get? a) s):wpAny M A (loadIfAlive a) Q E s:=λ Γ p _=>by
 unfold loadIfAlive;rw[Sem.wp_loadIfAlive];exact h
theorem mE {it l:Addr}{i:Nat}{items}{x:Value}{Q:Value->Shared->Prop} (hit:s.heap.IsTupleIter it l i)
  (hl:s.heap.IsTuple l items) (hx:items[i]? = some x)
  (hQ:∀ h',h'.IsTupleIter it l (i+1)->Heap.SameBut it s.heap h'->Q x { s with heap:=h' }) :
  wpAny (model prog w) A (Builtin.SmallTypes.nextOf (.ref it)) Q E s:=by
 obtain⟨o,ho,hc,hd⟩:=id hit;obtain⟨ol,hol,_,nl,hdl⟩:=hl;unfold Builtin.SmallTypes.nextOf;refine aab (wpAny_callSpecial?_slot (name:=Str.ofString "__next__") hit.typeIs F.slot_tuple_iterator_next
  (wpAny_call_entry F.slot_tuple_iterator_next hit.typeIs F.entry_tuple_iterator_next ?_ (F.args_tuple_iterator_next_1 _)))
 show wpAny _ _ (field (.ref it) 0 >>= _) _ _ s;refine aab (abe ho hd (x:=.ref l) rfl ?_);show wpAny _ _ (if (Value.ref l == Value.none)=true then _ else _) _ _ s;rw[if_neg (show ¬ ((Value.ref l == Value.none)=true) from aaj)];show wpAny _ _ (field (.ref it) 1 >>= _) _ _ s;refine aab (abe ho hd (x:=.int i 0) rfl ?_);show wpAny _ _ (seqItems? (.ref l) >>= _) _ _ s;refine aab (wpAny_seqItems hol hdl ?_);simp only [ace,hx];refine aab (wpAny_setField ho hd (by simp) (aae ⟨x,rfl,aae (hQ _ ?_ (Heap.SameBut.update ..))⟩));exact⟨_,Heap.get?_update_self _ ho (Obj.isFreed_of_fields (Obj.data_mapFields hd _)),(Obj.cls_mapFields ..).trans hc,by
  rw[Obj.data_mapFields hd];simp [rawInt]⟩
theorem nH {it l:Addr}{i:Nat}{items}{Q:Value->Shared->Prop} (hh:A.handled=none)
  (hit:s.heap.IsTupleIter it l i) (hl:s.heap.IsTuple l items) (hx:items[i]? = none)
  (hE:∀ h' e,Heap.ExtBut it s.heap h'->(∃ o,h'.get? e=some o/\o.cls=.type "StopIteration")->E (.ref e) { s with heap:=h' }) :
  wpAny (model prog w) A (Builtin.SmallTypes.nextOf (.ref it)) Q E s:=by
 obtain⟨o,ho,hc,hd⟩:=id hit;obtain⟨ol,hol,_,nl,hdl⟩:=hl;unfold Builtin.SmallTypes.nextOf;refine aab (wpAny_callSpecial?_slot (name:=Str.ofString "__next__") hit.typeIs F.slot_tuple_iterator_next
  (wpAny_call_entry F.slot_tuple_iterator_next hit.typeIs F.entry_tuple_iterator_next ?_ (F.args_tuple_iterator_next_1 _)))
 show wpAny _ _ (field (.ref it) 0 >>= _) _ _ s;refine aab (abe ho hd (x:=.ref l) rfl ?_);show wpAny _ _ (if (Value.ref l == Value.none)=true then _ else _) _ _ s;rw[if_neg (show ¬ ((Value.ref l == Value.none)=true) from aaj)];show wpAny _ _ (field (.ref it) 1 >>= _) _ _ s;refine aab (abe ho hd (x:=.int i 0) rfl ?_);show wpAny _ _ (seqItems? (.ref l) >>= _) _ _ s;refine aab (wpAny_seqItems hol hdl ?_);simp only [ace,hx];refine aab (ack (aab (wpAny_setField ho hd (by simp) ?_)));show wpAny _ _ (newExc (.type "StopIteration") [] >>= _) _ _ _;refine aab ?_;simp only [newExc,newTuple];refine aab (wpAny_newObj_type ?_ (by size_fits));refine aab (m:=firstArgMember _ _) (wpAny_of_eq (a:=Value.none) (by first | rfl | (simp only [firstArgMember];rfl)) ?_);refine wpAny_newObj_type ?_ (by size_fits);simp only [raiseNew];refine aab (wpAny_handled ?_)
 first | rw[show A.in1.handled=none from hh] | rw[hh]
 refine aab (aae (wpAny_throw ?_));exact hE _ _ (((Heap.SameBut.update ..).extBut.push _).push _) ⟨_,aai _ rfl,rfl⟩
theorem bJ {t:Bool}{it l:Addr}{i:Nat}{items}{x:Value}{Q:Value->Shared->Prop} (hit:d9 s.heap t it l i)
  (hl:bU s.heap t l items) (hx:items[i]? = some x)
  (hQ:∀ h',d9 h' t it l (i+1)->Heap.SameBut it s.heap h'->Q x { s with heap:=h' }) :
  wpAny (model prog w) A (Builtin.SmallTypes.nextOf (.ref it)) Q E s:=by
 cases t with
 | true=>exact mE hit hl hx hQ
 | false=>exact wpAny_nextOf_list_item hit hl hx hQ
theorem cS {t:Bool}{it l:Addr}{i:Nat}{items}{Q:Value->Shared->Prop} (hh:A.handled=none)
  (hit:d9 s.heap t it l i) (hl:bU s.heap t l items) (hx:items[i]? = none)
  (hE:∀ h' e,Heap.ExtBut it s.heap h'->(∃ o,h'.get? e=some o/\o.cls=.type "StopIteration")->E (.ref e) { s with heap:=h' }) :
  wpAny (model prog w) A (Builtin.SmallTypes.nextOf (.ref it)) Q E s:=by
 cases t with
 | true=>exact nH hh hit hl hx hE
 | false=>exact wpAny_nextOf_list_end hh hit hl hx hE
abbrev lL (h:Heap) (z TI TO:Addr) (f0:Value) (f1:Bool):Prop:=
 h.get? z=some { cls:=.type "zip",dict:=none,data:=.fields #[f0,.bool f1,.bool false,.ref TI,.ref TO],slots:=#[] }
abbrev cX (h:Heap) (T:Addr) (vs:Array Value):Prop:=h.get? T=some { cls:=.type "tuple",data:=.seq vs }
def fU (f0:Value):Prop:=f0=.none\/∃ a:Int,f0=.int a 0
theorem iL {z TI TO:Addr}{f0:Value}{f1:Bool}{Q:Bool->Shared->Prop} (hz:lL s.heap z TI TO f0 f1) (hf:fU f0) (yes:Q true s)
  (no:∀ h',lL h' z TI TO f0 true->Heap.SameBut z s.heap h'->Q false { s with heap:=h' }):wpAny (model prog w) A (Builtin.SmallTypes.ownedTupleIsFree (.ref z)) Q E s:=by
 unfold Builtin.SmallTypes.ownedTupleIsFree;refine aab (abe hz rfl (x:=f0) rfl ?_);rcases hf with rfl | ⟨a,rfl⟩
 ·exact aae yes
 ·refine aab (nQ ?_);cases h:s.heap.get? a.toNat with
  | none=>exact aae yes
  | some o=>
   show wpAny _ _ (field (.ref z) 1 >>= _) _ _ _;refine aab (abe hz rfl (x:=.bool f1) rfl ?_);cases f1 with
   | true=>exact aae (no s.heap hz (Heap.SameBut.refl ..))
   | false=>
    show wpAny _ _ (setField (.ref z) 1 (.bool true) >>= _) _ _ _;refine aab (wpAny_setField_rec hz (by simp) λ aj ah ab=>aae (no aj ah ab))
theorem xD {z TI TO:Addr}{f0:Value}{f1:Bool}{T:Addr}{Q:Unit->Shared->Prop} (hz:lL s.heap z TI TO f0 f1)
  (h:∀ h',lL h' z TI TO (rawInt T) false->Heap.SameBut z s.heap h'->Q () { s with heap:=h' }):wpAny (model prog w) A (Builtin.SmallTypes.ownedTupleHandOut (.ref z) (.ref T)) Q E s:=by
 unfold Builtin.SmallTypes.ownedTupleHandOut;refine aab (wpAny_setField_rec hz (by simp) λ aj ah ab=>?_);replace ah:lL aj z TI TO (rawInt T) f1:=ah;refine wpAny_setField_rec ah (by simp) λ ai bu ac=>?_;exact h ai bu (Heap.SameBut.trans ab ac)
theorem gT {T:Addr}{vs:Array Value}{x:Value}{k:Nat}{Q:Unit->Shared->Prop} (hT:cX s.heap T vs) (h3:vs.size<=3)
  (h:∀ h',cX h' T (vs.setIfInBounds k x)->Heap.SameBut T s.heap h'->Q () { s with heap:=h' }):wpAny (model prog w) A (updateSeq T (·.setIfInBounds k x)) Q E s:=by
 have hl:vs.size<=sizeLine:=abo h3 (by decide);refine wpAny_updateSeq (hz:=hl) (_hz':=by rw[Array.size_setIfInBounds];omega) hT rfl (h _ ?_ (Heap.SameBut.update ..));show Heap.get? _ _=_;rw[Heap.get?_update_self _ hT rfl];simp [Obj.mapSeq]
theorem nn {n i j:Nat} (h:i≠j):n+i≠n+j:=λ e=>h (Nat.add_left_cancel e)
theorem n0 {n j:Nat} (h:0 < j):n≠n+j:=λ e=>absurd e (abc (Nat.lt_add_of_pos_right h))
theorem n0' {n j:Nat} (h:0 < j):n+j≠n:=Ne.symm (n0 h)
theorem al {a n:Nat} (h:a < n) (j:Nat):a≠n+j:=abc (aat h (Nat.le_add_right n j))
theorem al0 {a n:Nat} (h:a < n):a≠n:=abc h
theorem co {c n m k:Nat} (h:c < n\/n+m < c) (hk:k<=m):c≠n+k:=λ e=>h.elim (λ h=>absurd e (al h k)) λ h=>absurd (Nat.lt_of_le_of_lt (Nat.add_le_add_left hk n) h) (by rw[e];exact aby _)
theorem co0 {c n m:Nat} (h:c < n\/n+m < c):c≠n:=co (k:=0) h (aar m)
theorem aU {a b:Nat} (h:@Ne Nat a b:=by first | exact nn (by decide) | exact n0 (by decide) | exact n0' (by decide) | exact al l1 _ | exact al l2 _ | exact al l3 _ | exact al0 l1 | exact al0 l2 | exact al0 l3 | exact co hc (by decide) | exact co0 hc | omega):@Ne Nat a b:=h
theorem xS {n a1 a2 a3:Nat}{t1 t2 t3:Bool}{k:Nat}{xs ys zs:Array Value}{x y z c1 c2 c3 f0:Value}{f1:Bool}{Q:Value->Shared->Prop} (hf:fU f0)
  (hz:lL s.heap (n+5) (n+3) (n+4) f0 f1) (hTI:cX s.heap (n+3) #[.ref n,.ref (n+1),.ref (n+2)]) (hTO:cX s.heap (n+4) #[c1,c2,c3])
  (i1:d9 s.heap t1 n a1 k) (i2:d9 s.heap t2 (n+1) a2 k) (i3:d9 s.heap t3 (n+2) a3 k) (s1:bU s.heap t1 a1 xs) (s2:bU s.heap t2 a2 ys) (s3:bU s.heap t3 a3 zs)
  (l1:a1 < n) (l2:a2 < n) (l3:a3 < n) (hx:xs[k]? = some x) (hy:ys[k]? = some y) (hw:zs[k]? = some z)
  (hQ:∀ (T:Nat) h' f0' f1' d1 d2 d3,s.heap.objs.size<=T->fU f0'->lL h' (n+5) (n+3) (n+4) f0' f1'->cX h' (n+3) #[.ref n,.ref (n+1),.ref (n+2)]->cX h' (n+4) #[d1,d2,d3]->
   d9 h' t1 n a1 (k+1)->d9 h' t2 (n+1) a2 (k+1)->d9 h' t3 (n+2) a3 (k+1)->cX h' T #[x,y,z]->
   (∀ (c:Nat) o,(c < n\/n+5 < c)->s.heap.get? c=some o->h'.get? c=some o)->Q (.ref T) { s with heap:=h' }) :
  wpAny (model prog w) A (Builtin.«zip.__next__» ⟨[.ref (n+5)],[]⟩) (λ fin s'=>∃ v,fin=.done (.ret v)/\Q v s') E s:=by
 have hzlt:n+5 < s.heap.objs.size:=aam hz;show wpAny _ _ (field (.ref (n+5)) 2 >>= _) _ _ _;refine aab (abe hz rfl (x:=.bool false) rfl ?_);show wpAny _ _ (field (.ref (n+5)) 3 >>= _) _ _ _;refine aab (abe hz rfl (x:=.ref (n+3)) rfl ?_);refine aab (wpAny_seqItems hTI rfl ?_);show wpAny _ _ (Builtin.SmallTypes.ownedTupleIsFree (.ref (n+5)) >>= _) _ _ _;refine aab (iL hz hf ?_ ?_)
 ·simp only [if_true];refine aab (ack ?_);refine aab (abe hz rfl (x:=.ref (n+4)) rfl ?_);refine aab (wpAny_setField_rec hz (by simp) λ aj ah ab=>?_);replace ah:lL aj (n+5) (n+3) (n+4) .ellipsis f1:=ah;refine aab ?_;simp only [List.zipIdx_cons,List.zipIdx_nil,List.forIn_cons,List.forIn_nil];refine aab (aab (wpAny_onRaise ?_));show wpAny _ _ (Builtin.SmallTypes.nextOf (.ref n) >>= _) _ _ _;refine aab (bJ (i1.ext ab aU) (s1.ext ab aU) hx λ ai bi ac=>aae ?_);have bg:cX ai (n+4) #[c1,c2,c3]:=ex ac aU (ex ab aU hTO);refine aab (wpAny_seqItems bg rfl ?_);refine aab (gT bg (by simp) λ af bc ad=>?_);replace bc:cX af (n+4) #[x,c2,c3]:=bc;refine aab (wpAny_letGo (aae ?_));refine aab (aab (wpAny_onRaise ?_));show wpAny _ _ (Builtin.SmallTypes.nextOf (.ref (n+1)) >>= _) _ _ _;refine aab (bJ (((i2.ext ab aU).ext ac aU).ext ad aU) (((s2.ext ab aU).ext ac aU).ext ad aU) hy λ ap bz ae=>aae ?_);have bn:cX ap (n+4) #[x,c2,c3]:=ex ae aU bc;refine aab (wpAny_seqItems bn rfl ?_);refine aab (gT bn (by simp) λ bo ce aq=>?_);replace ce:cX bo (n+4) #[x,y,c3]:=ce;refine aab (wpAny_letGo (aae ?_));refine aab (aab (wpAny_onRaise ?_));show wpAny _ _ (Builtin.SmallTypes.nextOf (.ref (n+2)) >>= _) _ _ _;refine aab (bJ (((((i3.ext ab aU).ext ac aU).ext ad aU).ext ae aU).ext aq aU)
   (((((s3.ext ab aU).ext ac aU).ext ad aU).ext ae aU).ext aq aU) hw λ cp i3₆ ba=>aae ?_)
  have di:cX cp (n+4) #[x,y,c3]:=ex ba aU ce;refine aab (wpAny_seqItems di rfl ?_);refine aab (gT di (by simp) λ ar bj be=>?_);replace bj:cX ar (n+4) #[x,y,z]:=bj;refine aab (wpAny_letGo (aae (aae ?_)));refine aab (wpAny_seqItems bj rfl ?_);refine aab (wpAny_newTuple ?_);have hsz:ar.objs.size=s.heap.objs.size:=by rw[be.1,ba.1,aq.1,ae.1,ad.1,ac.1,ab.1]
  have keep:∀ (c:Nat) o,(c < n\/n+5 < c)->s.heap.get? c=some o->ar.get? c=some o:=λ c o hc e=>
   ex be aU (ex ba aU (ex aq aU (ex ae aU (ex ad aU (ex ac aU (ex ab aU e))))))
  have cu:lL ar (n+5) (n+3) (n+4) .ellipsis f1:=ex be aU (ex ba aU (ex aq aU (ex ae aU (ex ad aU (ex ac aU ah)))));have cq:cX ar (n+3) #[.ref n,.ref (n+1),.ref (n+2)]:=ex be aU (ex ba aU (ex aq aU (ex ae aU (ex ad aU (ex ac aU (ex ab aU hTI))))));have cv:=((((bi.ext ad aU).ext ae aU).ext aq aU).ext ba aU).ext be aU;have cw:=((bz.ext aq aU).ext ba aU).ext be aU;have i3₇:=i3₆.ext be aU;have du:n+5 < ar.objs.size:=by rw[hsz];exact hzlt
  have up:∀ {c o},ar.get? c=some o->(ar.push { cls:=.type "tuple",data:=.seq #[x,y,z] }).get? c=some o:=λ e=>aac _ e;refine aab (xD (z:=n+5) (TI:=n+3) (TO:=n+4) (f0:=.ellipsis) (f1:=f1) (up cu) λ cr cx cf=>?_);have up8:∀ {c:Nat}{o},c≠n+5->ar.get? c=some o->cr.get? c=some o:=λ hc e=>ex cf hc (up e);refine aae ⟨_,rfl,hQ ar.objs.size cr (rawInt ar.objs.size) false x y z (by rw[hsz];exact aak _) (.inr ⟨_,rfl⟩) cx (up8 aU cq) (up8 aU bj) (cv.at λ o e=>up8 aU e) (cw.at λ o e=>up8 aU e) (i3₇.at λ o e=>up8 aU e)
   (ex cf aU (aai _ rfl)) λ c o hc e=>up8 aU (keep c o hc e)⟩
 ·intro aj ah ab;simp only [Bool.false_eq_true,if_false];refine aab ?_;rw[<- Array.forIn_toList];simp only [List.forIn_cons,List.forIn_nil];refine aab (aab (abr ?_));show wpAny _ _ (Builtin.SmallTypes.nextOf (.ref n) >>= _) _ _ _;refine aab (bJ (i1.ext ab aU) (s1.ext ab aU) hx λ ai bi ac=>aae (aae ?_));refine aab (aab (abr ?_));show wpAny _ _ (Builtin.SmallTypes.nextOf (.ref (n+1)) >>= _) _ _ _;refine aab (bJ ((i2.ext ab aU).ext ac aU) ((s2.ext ab aU).ext ac aU) hy λ af dq ad=>aae (aae ?_));refine aab (aab (abr ?_));show wpAny _ _ (Builtin.SmallTypes.nextOf (.ref (n+2)) >>= _) _ _ _;refine aab (bJ (((i3.ext ab aU).ext ac aU).ext ad aU) (((s3.ext ab aU).ext ac aU).ext ad aU) hw λ ap i3₄ ae=>aae (aae (aae ?_)));refine aab (wpAny_newTuple (hsz:=by show 3<=sizeLine;decide) (aae ⟨_,rfl,?_⟩));have hsz:ap.objs.size=s.heap.objs.size:=by rw[ae.1,ad.1,ac.1,ab.1]
  have up:∀ {c o},ap.get? c=some o->(ap.push { cls:=.type "tuple",data:=.seq #[x,y,z] }).get? c=some o:=λ e=>aac _ e;have keep:∀ (c:Nat) o,(c < n\/n+5 < c)->s.heap.get? c=some o->ap.get? c=some o:=λ c o hc e=>ex ae aU (ex ad aU (ex ac aU (ex ab aU e)));refine hQ ap.objs.size (ap.push { cls:=.type "tuple",data:=.seq #[x,y,z] }) f0 true c1 c2 c3 (by rw[hsz];exact aak _) hf (up (ex ae aU (ex ad aU (ex ac aU ah))))
   (up (ex ae aU (ex ad aU (ex ac aU (ex ab aU hTI))))) (up (ex ae aU (ex ad aU (ex ac aU (ex ab aU hTO)))))
   (((bi.ext ad aU).ext ae aU).at λ o e=>up e) ((dq.ext ae aU).at λ o e=>up e) (i3₄.at λ o e=>up e) (aai _ rfl) λ c o hc e=>up (keep c o hc e)
theorem zH {n a1 a2 a3:Nat}{t1 t2 t3:Bool}{k:Nat}{xs ys zs:Array Value}{c1 c2 c3 f0:Value}{f1:Bool}{Q:Fin->Shared->Prop} (hh:A.handled=none) (hf:fU f0)
  (hz:lL s.heap (n+5) (n+3) (n+4) f0 f1) (hTI:cX s.heap (n+3) #[.ref n,.ref (n+1),.ref (n+2)]) (hTO:cX s.heap (n+4) #[c1,c2,c3])
  (i1:d9 s.heap t1 n a1 k) (i2:d9 s.heap t2 (n+1) a2 k) (i3:d9 s.heap t3 (n+2) a3 k) (s1:bU s.heap t1 a1 xs) (s2:bU s.heap t2 a2 ys) (s3:bU s.heap t3 a3 zs)
  (l1:a1 < n) (l2:a2 < n) (l3:a3 < n) (hend:xs[k]? = none\/ys[k]? = none\/zs[k]? = none)
  (hE:∀ h' e,(∀ (c:Nat) o,(c < n\/n+5 < c)->s.heap.get? c=some o->h'.get? c=some o)->(∃ o,h'.get? e=some o/\o.cls=.type "StopIteration")->E (.ref e) { s with heap:=h' }) :
  wpAny (model prog w) A (Builtin.«zip.__next__» ⟨[.ref (n+5)],[]⟩) Q E s:=by
 show wpAny _ _ (field (.ref (n+5)) 2 >>= _) _ _ _;refine aab (abe hz rfl (x:=.bool false) rfl ?_);show wpAny _ _ (field (.ref (n+5)) 3 >>= _) _ _ _;refine aab (abe hz rfl (x:=.ref (n+3)) rfl ?_);refine aab (wpAny_seqItems hTI rfl ?_);show wpAny _ _ (Builtin.SmallTypes.ownedTupleIsFree (.ref (n+5)) >>= _) _ _ _;refine aab (iL hz hf ?_ ?_)
 ·simp only [if_true];refine aab (ack ?_);refine aab (abe hz rfl (x:=.ref (n+4)) rfl ?_);refine aab (wpAny_setField_rec hz (by simp) λ aj ah ab=>?_);replace ah:lL aj (n+5) (n+3) (n+4) .ellipsis f1:=ah;refine aab ?_;simp only [List.zipIdx_cons,List.zipIdx_nil,List.forIn_cons,List.forIn_nil];have fin:∀ {ai af:Heap}{e j:Nat}{oe:Obj},lL ai (n+5) (n+3) (n+4) .ellipsis f1->Heap.ExtBut j ai af->@Ne Nat (n+5) j->(n<=j/\j<=n+5)->(∀ (c:Nat) o,(c < n\/n+5 < c)->s.heap.get? c=some o->ai.get? c=some o)->af.get? e=some oe->oe.cls=.type "StopIteration" ->
    wpAny (model prog w) A (setField (.ref (n+5)) 0 .none) (λ _ s'=>E (.ref e) s') E { s with heap:=af }:=λ {ai af e j oe} bu hx hj hr hk hoe hce=>by
   have bm:lL af (n+5) (n+3) (n+4) .ellipsis f1:=hx _ _ hj bu;have hez:e≠n+5:=λ q=>by subst q;rw[bm] at hoe;cases hoe;simp at hce
   refine wpAny_setField_rec bm (by simp) λ ap _ ae=>hE ap e (λ c o hc q=>ex ae aU (hx c o (show @Ne Nat c j by omega) (hk c o hc q))) ⟨oe,ae.extBut _ _ hez hoe,hce⟩
  refine aab (aab (wpAny_onRaise ?_));show wpAny _ _ (Builtin.SmallTypes.nextOf (.ref n) >>= _) _ _ _;cases hx:xs[k]? with
  | none=>
   refine aab (cS hh (i1.ext ab aU) (s1.ext ab aU) hx λ ai e ac he=>?_);obtain⟨oe,hoe,hce⟩:=he;exact fin ah ac aU (by omega) (λ c o hc q=>ex ab aU q) hoe hce
  | some x=>
   refine aab (bJ (i1.ext ab aU) (s1.ext ab aU) hx λ ai bi ac=>aae ?_);have bg:cX ai (n+4) #[c1,c2,c3]:=ex ac aU (ex ab aU hTO);refine aab (wpAny_seqItems bg rfl ?_);refine aab (gT bg (by simp) λ af bc ad=>?_);replace bc:cX af (n+4) #[x,c2,c3]:=bc;refine aab (wpAny_letGo (aae ?_));have bm:lL af (n+5) (n+3) (n+4) .ellipsis f1:=ex ad aU (ex ac aU ah);have cy:∀ (c:Nat) o,(c < n\/n+5 < c)->s.heap.get? c=some o->af.get? c=some o:=λ c o hc e=>ex ad aU (ex ac aU (ex ab aU e));refine aab (aab (wpAny_onRaise ?_));show wpAny _ _ (Builtin.SmallTypes.nextOf (.ref (n+1)) >>= _) _ _ _;cases hy:ys[k]? with
   | none=>
    refine aab (cS hh (((i2.ext ab aU).ext ac aU).ext ad aU) (((s2.ext ab aU).ext ac aU).ext ad aU) hy λ ap e ae he=>?_);obtain⟨oe,hoe,hce⟩:=he;exact fin bm ae aU (by omega) cy hoe hce
   | some y=>
    have hw:zs[k]? = none:=by rcases hend with h | h | h;rw[hx] at h;cases h;rw[hy] at h;cases h;exact h
    refine aab (bJ (((i2.ext ab aU).ext ac aU).ext ad aU) (((s2.ext ab aU).ext ac aU).ext ad aU) hy λ ap bz ae=>aae ?_);have bn:cX ap (n+4) #[x,c2,c3]:=ex ae aU bc;refine aab (wpAny_seqItems bn rfl ?_);refine aab (gT bn (by simp) λ bo ce aq=>?_);refine aab (wpAny_letGo (aae ?_));refine aab (aab (wpAny_onRaise ?_));show wpAny _ _ (Builtin.SmallTypes.nextOf (.ref (n+2)) >>= _) _ _ _;refine aab (cS hh (((((i3.ext ab aU).ext ac aU).ext ad aU).ext ae aU).ext aq aU)
     (((((s3.ext ab aU).ext ac aU).ext ad aU).ext ae aU).ext aq aU) hw λ cp e ba he=>?_)
    obtain⟨oe,hoe,hce⟩:=he;exact fin (ex aq aU (ex ae aU bm)) ba aU (by omega) (λ c o hc q=>ex aq aU (ex ae aU (cy c o hc q))) hoe hce
 ·intro aj ah ab;simp only [Bool.false_eq_true,if_false];refine aab ?_;rw[<- Array.forIn_toList];simp only [List.forIn_cons,List.forIn_nil];refine aab (aab (abr ?_));show wpAny _ _ (Builtin.SmallTypes.nextOf (.ref n) >>= _) _ _ _;cases hx:xs[k]? with
  | none=>
   refine aab (cS hh (i1.ext ab aU) (s1.ext ab aU) hx λ ai e ac he=>?_);exact hE ai e (λ c o hc q=>ac c o (show @Ne Nat c n by omega) (ex ab aU q)) he
  | some x=>
   refine aab (bJ (i1.ext ab aU) (s1.ext ab aU) hx λ ai bi ac=>aae (aae ?_));refine aab (aab (abr ?_));show wpAny _ _ (Builtin.SmallTypes.nextOf (.ref (n+1)) >>= _) _ _ _;cases hy:ys[k]? with
   | none=>
    refine aab (cS hh ((i2.ext ab aU).ext ac aU) ((s2.ext ab aU).ext ac aU) hy λ af e ad he=>?_);exact hE af e (λ c o hc q=>ad c o (show @Ne Nat c (n+1) by omega) (ex ac aU (ex ab aU q))) he
   | some y=>
    have hw:zs[k]? = none:=by rcases hend with h | h | h;rw[hx] at h;cases h;rw[hy] at h;cases h;exact h
    refine aab (bJ ((i2.ext ab aU).ext ac aU) ((s2.ext ab aU).ext ac aU) hy λ af dq ad=>aae (aae ?_));refine aab (aab (abr ?_));show wpAny _ _ (Builtin.SmallTypes.nextOf (.ref (n+2)) >>= _) _ _ _;refine aab (cS hh (((i3.ext ab aU).ext ac aU).ext ad aU) (((s3.ext ab aU).ext ac aU).ext ad aU) hw λ ap e ae he=>?_);exact hE ap e (λ c o hc q=>ae c o (show @Ne Nat c (n+2) by omega) (ex ad aU (ex ac aU (ex ab aU q)))) he
theorem xT {n a1 a2:Nat}{t1 t2:Bool}{k:Nat}{xs ys:Array Value}{x y c1 c2 f0:Value}{f1:Bool}{Q:Value->Shared->Prop} (hf:fU f0)
  (hz:lL s.heap (n+4) (n+2) (n+3) f0 f1) (hTI:cX s.heap (n+2) #[.ref n,.ref (n+1)]) (hTO:cX s.heap (n+3) #[c1,c2])
  (i1:d9 s.heap t1 n a1 k) (i2:d9 s.heap t2 (n+1) a2 k) (s1:bU s.heap t1 a1 xs) (s2:bU s.heap t2 a2 ys)
  (l1:a1 < n) (l2:a2 < n) (hx:xs[k]? = some x) (hy:ys[k]? = some y)
  (hQ:∀ (T:Nat) h' f0' f1' d1 d2,s.heap.objs.size<=T->fU f0'->lL h' (n+4) (n+2) (n+3) f0' f1'->cX h' (n+2) #[.ref n,.ref (n+1)]->cX h' (n+3) #[d1,d2]->
   d9 h' t1 n a1 (k+1)->d9 h' t2 (n+1) a2 (k+1)->cX h' T #[x,y]->
   (∀ (c:Nat) o,(c < n\/n+4 < c)->s.heap.get? c=some o->h'.get? c=some o)->Q (.ref T) { s with heap:=h' }) :
  wpAny (model prog w) A (Builtin.«zip.__next__» ⟨[.ref (n+4)],[]⟩) (λ fin s'=>∃ v,fin=.done (.ret v)/\Q v s') E s:=by
 have hzlt:n+4 < s.heap.objs.size:=aam hz;show wpAny _ _ (field (.ref (n+4)) 2 >>= _) _ _ _;refine aab (abe hz rfl (x:=.bool false) rfl ?_);show wpAny _ _ (field (.ref (n+4)) 3 >>= _) _ _ _;refine aab (abe hz rfl (x:=.ref (n+2)) rfl ?_);refine aab (wpAny_seqItems hTI rfl ?_);show wpAny _ _ (Builtin.SmallTypes.ownedTupleIsFree (.ref (n+4)) >>= _) _ _ _;refine aab (iL hz hf ?_ ?_)
 ·simp only [if_true];refine aab (ack ?_);refine aab (abe hz rfl (x:=.ref (n+3)) rfl ?_);refine aab (wpAny_setField_rec hz (by simp) λ aj ah ab=>?_);replace ah:lL aj (n+4) (n+2) (n+3) .ellipsis f1:=ah;refine aab ?_;simp only [List.zipIdx_cons,List.zipIdx_nil,List.forIn_cons,List.forIn_nil];refine aab (aab (wpAny_onRaise ?_));show wpAny _ _ (Builtin.SmallTypes.nextOf (.ref n) >>= _) _ _ _;refine aab (bJ (i1.ext ab aU) (s1.ext ab aU) hx λ ai bi ac=>aae ?_);have bg:cX ai (n+3) #[c1,c2]:=ex ac aU (ex ab aU hTO);refine aab (wpAny_seqItems bg rfl ?_);refine aab (gT bg (by simp) λ af bc ad=>?_);replace bc:cX af (n+3) #[x,c2]:=bc;refine aab (wpAny_letGo (aae ?_));refine aab (aab (wpAny_onRaise ?_));show wpAny _ _ (Builtin.SmallTypes.nextOf (.ref (n+1)) >>= _) _ _ _;refine aab (bJ (((i2.ext ab aU).ext ac aU).ext ad aU) (((s2.ext ab aU).ext ac aU).ext ad aU) hy λ ap bz ae=>aae ?_);have bn:cX ap (n+3) #[x,c2]:=ex ae aU bc;refine aab (wpAny_seqItems bn rfl ?_);refine aab (gT bn (by simp) λ ar bj be=>?_);replace bj:cX ar (n+3) #[x,y]:=bj;refine aab (wpAny_letGo (aae (aae ?_)));refine aab (wpAny_seqItems bj rfl ?_);refine aab (wpAny_newTuple ?_);have hsz:ar.objs.size=s.heap.objs.size:=by rw[be.1,ae.1,ad.1,ac.1,ab.1]
  have keep:∀ (c:Nat) o,(c < n\/n+4 < c)->s.heap.get? c=some o->ar.get? c=some o:=λ c o hc e=>
   ex be aU (ex ae aU (ex ad aU (ex ac aU (ex ab aU e))))
  have cu:lL ar (n+4) (n+2) (n+3) .ellipsis f1:=ex be aU (ex ae aU (ex ad aU (ex ac aU ah)));have cq:cX ar (n+2) #[.ref n,.ref (n+1)]:=ex be aU (ex ae aU (ex ad aU (ex ac aU (ex ab aU hTI))));have cv:=((bi.ext ad aU).ext ae aU).ext be aU;have cw:=bz.ext be aU;have du:n+4 < ar.objs.size:=by rw[hsz];exact hzlt
  have up:∀ {c o},ar.get? c=some o->(ar.push { cls:=.type "tuple",data:=.seq #[x,y] }).get? c=some o:=λ e=>aac _ e;refine aab (xD (z:=n+4) (TI:=n+2) (TO:=n+3) (f0:=.ellipsis) (f1:=f1) (up cu) λ cr cx cf=>?_);have up8:∀ {c:Nat}{o},c≠n+4->ar.get? c=some o->cr.get? c=some o:=λ hc e=>ex cf hc (up e);refine aae ⟨_,rfl,hQ ar.objs.size cr (rawInt ar.objs.size) false x y (by rw[hsz];exact aak _) (.inr ⟨_,rfl⟩) cx (up8 aU cq) (up8 aU bj) (cv.at λ o e=>up8 aU e) (cw.at λ o e=>up8 aU e)
   (ex cf aU (aai _ rfl)) λ c o hc e=>up8 aU (keep c o hc e)⟩
 ·intro aj ah ab;simp only [Bool.false_eq_true,if_false];refine aab ?_;rw[<- Array.forIn_toList];simp only [List.forIn_cons,List.forIn_nil];refine aab (aab (abr ?_));show wpAny _ _ (Builtin.SmallTypes.nextOf (.ref n) >>= _) _ _ _;refine aab (bJ (i1.ext ab aU) (s1.ext ab aU) hx λ ai bi ac=>aae (aae ?_));refine aab (aab (abr ?_));show wpAny _ _ (Builtin.SmallTypes.nextOf (.ref (n+1)) >>= _) _ _ _;refine aab (bJ ((i2.ext ab aU).ext ac aU) ((s2.ext ab aU).ext ac aU) hy λ ap bz ae=>aae (aae (aae ?_)));refine aab (wpAny_newTuple (hsz:=by show 2<=sizeLine;decide) (aae ⟨_,rfl,?_⟩));have hsz:ap.objs.size=s.heap.objs.size:=by rw[ae.1,ac.1,ab.1]
  have up:∀ {c o},ap.get? c=some o->(ap.push { cls:=.type "tuple",data:=.seq #[x,y] }).get? c=some o:=λ e=>aac _ e;have keep:∀ (c:Nat) o,(c < n\/n+4 < c)->s.heap.get? c=some o->ap.get? c=some o:=λ c o hc e=>ex ae aU (ex ac aU (ex ab aU e));refine hQ ap.objs.size (ap.push { cls:=.type "tuple",data:=.seq #[x,y] }) f0 true c1 c2 (by rw[hsz];exact aak _) hf (up (ex ae aU (ex ac aU ah)))
   (up (ex ae aU (ex ac aU (ex ab aU hTI)))) (up (ex ae aU (ex ac aU (ex ab aU hTO))))
   ((bi.ext ae aU).at λ o e=>up e) (bz.at λ o e=>up e) (aai _ rfl) λ c o hc e=>up (keep c o hc e)
theorem zI {n a1 a2:Nat}{t1 t2:Bool}{k:Nat}{xs ys:Array Value}{c1 c2 f0:Value}{f1:Bool}{Q:Fin->Shared->Prop} (hh:A.handled=none) (hf:fU f0)
  (hz:lL s.heap (n+4) (n+2) (n+3) f0 f1) (hTI:cX s.heap (n+2) #[.ref n,.ref (n+1)]) (hTO:cX s.heap (n+3) #[c1,c2])
  (i1:d9 s.heap t1 n a1 k) (i2:d9 s.heap t2 (n+1) a2 k) (s1:bU s.heap t1 a1 xs) (s2:bU s.heap t2 a2 ys)
  (l1:a1 < n) (l2:a2 < n) (hend:xs[k]? = none\/ys[k]? = none)
  (hE:∀ h' e,(∀ (c:Nat) o,(c < n\/n+4 < c)->s.heap.get? c=some o->h'.get? c=some o)->(∃ o,h'.get? e=some o/\o.cls=.type "StopIteration")->E (.ref e) { s with heap:=h' }) :
  wpAny (model prog w) A (Builtin.«zip.__next__» ⟨[.ref (n+4)],[]⟩) Q E s:=by
 show wpAny _ _ (field (.ref (n+4)) 2 >>= _) _ _ _;refine aab (abe hz rfl (x:=.bool false) rfl ?_);show wpAny _ _ (field (.ref (n+4)) 3 >>= _) _ _ _;refine aab (abe hz rfl (x:=.ref (n+2)) rfl ?_);refine aab (wpAny_seqItems hTI rfl ?_);show wpAny _ _ (Builtin.SmallTypes.ownedTupleIsFree (.ref (n+4)) >>= _) _ _ _;refine aab (iL hz hf ?_ ?_)
 ·simp only [if_true];refine aab (ack ?_);refine aab (abe hz rfl (x:=.ref (n+3)) rfl ?_);refine aab (wpAny_setField_rec hz (by simp) λ aj ah ab=>?_);replace ah:lL aj (n+4) (n+2) (n+3) .ellipsis f1:=ah;refine aab ?_;simp only [List.zipIdx_cons,List.zipIdx_nil,List.forIn_cons,List.forIn_nil];have fin:∀ {ai af:Heap}{e j:Nat}{oe:Obj},lL ai (n+4) (n+2) (n+3) .ellipsis f1->Heap.ExtBut j ai af->@Ne Nat (n+4) j->(n<=j/\j<=n+4)->(∀ (c:Nat) o,(c < n\/n+4 < c)->s.heap.get? c=some o->ai.get? c=some o)->af.get? e=some oe->oe.cls=.type "StopIteration" ->
    wpAny (model prog w) A (setField (.ref (n+4)) 0 .none) (λ _ s'=>E (.ref e) s') E { s with heap:=af }:=λ {ai af e j oe} bu hx hj hr hk hoe hce=>by
   have bm:lL af (n+4) (n+2) (n+3) .ellipsis f1:=hx _ _ hj bu;have hez:e≠n+4:=λ q=>by subst q;rw[bm] at hoe;cases hoe;simp at hce
   refine wpAny_setField_rec bm (by simp) λ ap _ ae=>hE ap e (λ c o hc q=>ex ae aU (hx c o (show @Ne Nat c j by omega) (hk c o hc q))) ⟨oe,ae.extBut _ _ hez hoe,hce⟩
  refine aab (aab (wpAny_onRaise ?_));show wpAny _ _ (Builtin.SmallTypes.nextOf (.ref n) >>= _) _ _ _;cases hx:xs[k]? with
  | none=>
   refine aab (cS hh (i1.ext ab aU) (s1.ext ab aU) hx λ ai e ac he=>?_);obtain⟨oe,hoe,hce⟩:=he;exact fin ah ac aU (by omega) (λ c o hc q=>ex ab aU q) hoe hce
  | some x=>
   have hy:ys[k]? = none:=by rcases hend with h | h;rw[hx] at h;cases h;exact h
   refine aab (bJ (i1.ext ab aU) (s1.ext ab aU) hx λ ai bi ac=>aae ?_);have bg:cX ai (n+3) #[c1,c2]:=ex ac aU (ex ab aU hTO);refine aab (wpAny_seqItems bg rfl ?_);refine aab (gT bg (by simp) λ af bc ad=>?_);refine aab (wpAny_letGo (aae ?_));have bm:lL af (n+4) (n+2) (n+3) .ellipsis f1:=ex ad aU (ex ac aU ah);have cy:∀ (c:Nat) o,(c < n\/n+4 < c)->s.heap.get? c=some o->af.get? c=some o:=λ c o hc e=>ex ad aU (ex ac aU (ex ab aU e));refine aab (aab (wpAny_onRaise ?_));show wpAny _ _ (Builtin.SmallTypes.nextOf (.ref (n+1)) >>= _) _ _ _;refine aab (cS hh (((i2.ext ab aU).ext ac aU).ext ad aU) (((s2.ext ab aU).ext ac aU).ext ad aU) hy λ ap e ae he=>?_);obtain⟨oe,hoe,hce⟩:=he;exact fin bm ae aU (by omega) cy hoe hce
 ·intro aj ah ab;simp only [Bool.false_eq_true,if_false];refine aab ?_;rw[<- Array.forIn_toList];simp only [List.forIn_cons,List.forIn_nil];refine aab (aab (abr ?_));show wpAny _ _ (Builtin.SmallTypes.nextOf (.ref n) >>= _) _ _ _;cases hx:xs[k]? with
  | none=>
   refine aab (cS hh (i1.ext ab aU) (s1.ext ab aU) hx λ ai e ac he=>?_);exact hE ai e (λ c o hc q=>ac c o (show @Ne Nat c n by omega) (ex ab aU q)) he
  | some x=>
   have hy:ys[k]? = none:=by rcases hend with h | h;rw[hx] at h;cases h;exact h
   refine aab (bJ (i1.ext ab aU) (s1.ext ab aU) hx λ ai bi ac=>aae (aae ?_));refine aab (aab (abr ?_));show wpAny _ _ (Builtin.SmallTypes.nextOf (.ref (n+1)) >>= _) _ _ _;refine aab (cS hh ((i2.ext ab aU).ext ac aU) ((s2.ext ab aU).ext ac aU) hy λ af e ad he=>?_);exact hE af e (λ c o hc q=>ad c o (show @Ne Nat c (n+1) by omega) (ex ac aU (ex ab aU q))) he
theorem iH {z TI TO:Addr}{f0:Value}{f1:Bool}{Q:Option Value->Shared->Prop} (hz:lL s.heap z TI TO f0 f1)
  (h:wpAny (model prog w) A.in1 (Builtin.«zip.__next__» ⟨[.ref z],[]⟩) (λ fin s'=>∃ v,fin=.done (.ret v)/\Q (some v) s') (λ e s'=>(∃ a o,e=.ref a/\s'.heap.get? a=some o/\o.cls=.type "StopIteration")/\Q none s') s) :
  wpAny (model prog w) A (pyNext (.ref z)) Q E s:=by
 have hT:s.TypeIs (.ref z) "zip" := ⟨_,hz,rfl⟩;unfold pyNext;refine aab (wpAny_attempt (wpAny_callSpecial?_slot (name:=Str.ofString "__next__") hT F.slot_zip_next
  (wpAny_call_entry F.slot_zip_next hT F.entry_zip_next (abv h (λ fin s' h'=>?_) λ e s' h'=>?_) (F.args_zip_next_1 _))))
 ·obtain⟨v,rfl,q⟩:=h';exact⟨v,rfl,aae q⟩
 ·obtain⟨⟨a,o,rfl,ho,hc⟩,q⟩:=h';exact aab (wpAny_isInstance (T := "StopIteration") (b:=true) ⟨o,ho,hc⟩ isSubtype_stop (aae q))
theorem qY {tg:Expr}{z TI TO T:Addr}{f0:Value}{f1:Bool}{Q:Unit->Shared->Prop} (hf:fU f0) (hz:lL s.heap z TI TO f0 f1)
  (hQ:∀ h' f0',fU f0'->lL h' z TI TO f0' f1->Heap.SameBut z s.heap h'->Q () { s with heap:=h' }):wpAny (model prog w) A (letOwnedTupleGo tg (.ref z) (.ref T)) Q E s:=by
 have same:Q () s:=hQ s.heap f0 hf hz (Heap.SameBut.refl ..);have core:wpAny (model prog w) A (do
   let o <- load z
   match o.cls,o.data with
   | .type n,.fields vs=>
    if ["enumerate","zip","dict_itemiterator","dict_reverseitemiterator","odict_iterator","itertools.zip_longest","itertools.pairwise"].contains n && vs[0]? == some (rawInt T) then
     rule "for.unpacks-the-owned-tuple"
     updateField z 0 .none
   | _,_=>pure ()) Q E s:=by
  refine aab (wpAny_load hz ?_);show wpAny _ _ (if (["enumerate","zip","dict_itemiterator","dict_reverseitemiterator","odict_iterator","itertools.zip_longest","itertools.pairwise"].contains "zip" &&
   (#[f0,.bool f1,.bool false,.ref TI,.ref TO]:Array Value)[0]? == some (rawInt T))=true then _ else _) Q E s
  split
  ·refine aab (ack ?_);show wpAny _ _ (setField (.ref z) 0 .none) Q E s;exact wpAny_setField_rec hz (by simp) λ h' hz' hs'=>hQ h' .none (.inl rfl) hz' hs'
  ·exact aae same
 unfold letOwnedTupleGo;cases tg <;> first
  | exact aae same
  | exact core
theorem iI {z TI TO:Addr}{f0:Value}{f1:Bool}{Q:Value->Shared->Prop} (hz:lL s.heap z TI TO f0 f1) (h:Q (.ref z) s):wpAny (model prog w) A (pyIter (.ref z)) Q E s:=by
 have hT:s.TypeIs (.ref z) "zip" := ⟨_,hz,rfl⟩;refine wpAny_pyIter_slot hT F.slot_zip_iter (wpAny_call_entry F.slot_zip_iter hT F.entry_zip_iter ?_ (F.args_zip_iter_1 _));show wpAny _ _ (ret (.ref z)) _ _ s;exact aae ⟨_,rfl,"zip",_,hT,F.slot_zip_next.lookup,h⟩
def pR (t:Bool) (a:Addr):Obj:={ cls:=.type (if t=true then "tuple_iterator" else "list_iterator"),data:=.fields #[.ref a,.int 0 0] }
theorem eF {t:Bool}{a:Addr}{items:Array Value}{Q:Value->Shared->Prop} (hs:bU s.heap t a items) (hQ:Q (.ref s.heap.objs.size) { s with heap:=s.heap.push (pR t a) }) :
  wpAny (model prog w) A (pyIter (.ref a)) Q E s:=by
 cases t with
 | true=>exact wpAny_pyIter_tuple hs hQ
 | false=>exact wpAny_pyIter_list hs hQ
theorem iA {h:Heap}{t:Bool}{a it:Addr} (e:h.get? it=some (pR t a)):d9 h t it a 0:=by
 cases t <;> exact⟨_,e,rfl,rfl⟩
abbrev zA (h:Heap) (t:Bool) (a:Addr):Heap:=h.push (pR t a)
abbrev BV (h:Heap) (vs:List Value):Heap:=h.push { cls:=.type "tuple",data:=.seq vs.toArray }
abbrev z2B (h:Heap) (t1 t2:Bool) (l1 l2:Addr):Heap:=BV (zA (zA h t1 l1) t2 l2) [.ref h.objs.size,.ref (zA h t1 l1).objs.size]
abbrev z2H (h:Heap) (t1 t2:Bool) (l1 l2:Addr):Heap:=BV (z2B h t1 t2 l1 l2) [.none,.none]
abbrev G1 (h:Heap) (t1 t2:Bool) (l1 l2:Addr):Heap:=(z2H h t1 t2 l1 l2).push { cls:=.type "zip",data:=.fields #[.none,.bool false,.bool false,.ref (zA (zA h t1 l1) t2 l2).objs.size,.ref (z2B h t1 t2 l1 l2).objs.size] }
abbrev z3B (h:Heap) (t1 t2 t3:Bool) (l1 l2 l3:Addr):Heap:=BV (zA (zA (zA h t1 l1) t2 l2) t3 l3) [.ref h.objs.size,.ref (zA h t1 l1).objs.size,.ref (zA (zA h t1 l1) t2 l2).objs.size]
abbrev z3H (h:Heap) (t1 t2 t3:Bool) (l1 l2 l3:Addr):Heap:=BV (z3B h t1 t2 t3 l1 l2 l3) [.none,.none,.none]
abbrev E7 (h:Heap) (t1 t2 t3:Bool) (l1 l2 l3:Addr):Heap:=(z3H h t1 t2 t3 l1 l2 l3).push { cls:=.type "zip",data:=.fields #[.none,.bool false,.bool false,.ref (zA (zA (zA h t1 l1) t2 l2) t3 l3).objs.size,.ref (z3B h t1 t2 t3 l1 l2 l3).objs.size] }
theorem vQ (t1 t2:Bool) (l1 l2:Addr) (xs ys:Array Value) :
  Meets (Builtin.«zip.__new__» ⟨[.type "zip",.ref l1,.ref l2],[]⟩) (λ _ R s=>bU s.heap t1 l1 xs/\bU s.heap t2 l2 ys/\
   R (.ok (.ret (.ref (z2H s.heap t1 t2 l1 l2).objs.size))) { s with heap:=G1 s.heap t1 t2 l1 l2 }):=
 .of_wp λ prog w A R s h=>by
  obtain⟨hp,g,d,tk,os⟩:=s;obtain⟨hl1,hl2,h⟩:=h;have hsub:=sub_zip;have hL1:bU (Shared.heap ⟨hp,g,d,tk,os⟩) t1 l1 xs:=hl1;have hL2:bU (Shared.heap ⟨hp.push (pR t1 l1),g,d,tk,os⟩) t2 l2 ys:=hl2.at λ o e=>aac _ e
  wp_walk using eF hL1,eF hL2
  exact⟨_,rfl,h⟩
theorem vP (t1 t2 t3:Bool) (l1 l2 l3:Addr) (xs ys zs:Array Value) :
  Meets (Builtin.«zip.__new__» ⟨[.type "zip",.ref l1,.ref l2,.ref l3],[]⟩) (λ _ R s=>bU s.heap t1 l1 xs/\bU s.heap t2 l2 ys/\bU s.heap t3 l3 zs/\
   R (.ok (.ret (.ref (z3H s.heap t1 t2 t3 l1 l2 l3).objs.size))) { s with heap:=E7 s.heap t1 t2 t3 l1 l2 l3 }):=
 .of_wp λ prog w A R s h=>by
  obtain⟨hp,g,d,tk,os⟩:=s;obtain⟨hl1,hl2,hl3,h⟩:=h;have hsub:=sub_zip;have hL1:bU (Shared.heap ⟨hp,g,d,tk,os⟩) t1 l1 xs:=hl1;have hL2:bU (Shared.heap ⟨hp.push (pR t1 l1),g,d,tk,os⟩) t2 l2 ys:=hl2.at λ o e=>aac _ e;have hL3:bU (Shared.heap ⟨(hp.push (pR t1 l1)).push (pR t2 l2),g,d,tk,os⟩) t3 l3 zs:=hl3.at λ o e=>aac _ (aac _ e)
  wp_walk using eF hL1,eF hL2,eF hL3
  exact⟨_,rfl,h⟩
theorem oN (a b c:Value):checkTypeCall "zip" ⟨[a,b,c],[]⟩=pure ():=by kernel_rfl
theorem qL (a b c:Value):checkBuiltinCall "zip.__new__" ⟨[.type "zip",a,b,c],[]⟩=pure ():=by kernel_rfl
theorem lK (a b c d:Value):argsOk "object.__init__" ⟨[a,b,c,d],[]⟩:=by
 unfold argsOk;rw[signature?_of (id := "object.__init__") (n:=['_','_','t','i','n','i','_','_']) (o:=['t','c','e','j','b','o']) (by kernel_rfl) F.owner_object];kernel_rfl
theorem yT {t1 t2:Bool}{l1 l2:Addr}{xs ys:Array Value}{Q:Value->Shared->Prop} (hl1:bU s.heap t1 l1 xs) (hl2:bU s.heap t2 l2 ys)
  (h:∀ h',lL h' (s.heap.objs.size+4) (s.heap.objs.size+2) (s.heap.objs.size+3) .none false->cX h' (s.heap.objs.size+2) #[.ref s.heap.objs.size,.ref (s.heap.objs.size+1)]->
   cX h' (s.heap.objs.size+3) #[.none,.none]->d9 h' t1 s.heap.objs.size l1 0->d9 h' t2 (s.heap.objs.size+1) l2 0->
   (∀ c o,s.heap.get? c=some o->h'.get? c=some o)->Q (.ref (s.heap.objs.size+4)) { s with heap:=h' }):wpAny (model prog w) A (call (.type "zip") [.ref l1,.ref l2]) Q E s:=by
 refine callType_new F.called_zip (by decide) (F.typeCall_zip_2 _ _) (F.newCall_zip_2 _ _) (λ obj=>F.args_object_init_3 obj _ _) F.entry_zip_new (vQ t1 t2 l1 l2 xs ys) ⟨hl1,hl2,?_⟩;generalize s.heap=h0 at *;have z1:(zA h0 t1 l1).objs.size=h0.objs.size+1:=abm ..;have z2:(zA (zA h0 t1 l1) t2 l2).objs.size=h0.objs.size+2:=by rw[abm,z1]
 have z3:(z2B h0 t1 t2 l1 l2).objs.size=h0.objs.size+3:=by rw[abm,z2]
 have z4:(z2H h0 t1 t2 l1 l2).objs.size=h0.objs.size+4:=by rw[abm,z3]
 have g5:(G1 h0 t1 t2 l1 l2).get? (z2H h0 t1 t2 l1 l2).objs.size=some _:=aai _ rfl;have g4:(G1 h0 t1 t2 l1 l2).get? (z2B h0 t1 t2 l1 l2).objs.size=some _:=aac _ (aai _ rfl);have g3:(G1 h0 t1 t2 l1 l2).get? (zA (zA h0 t1 l1) t2 l2).objs.size=some _:=aac _ (aac _ (aai _ rfl));have g2:(G1 h0 t1 t2 l1 l2).get? (zA h0 t1 l1).objs.size=some _:=aac _ (aac _ (aac _ (aai _ rfl)));have g1:(G1 h0 t1 t2 l1 l2).get? h0.objs.size=some _:=aac _ (aac _ (aac _ (aac _ (aai _ rfl))));show _/\_;rw[z2,z3,z4] at g5;rw[z1,z2] at g3;rw[z3] at g4;rw[z1] at g2;rw[z4];exact⟨⟨_,g5,rfl⟩,h _ g5 g3 g4 (iA g1) (iA g2) λ c o x=>aac _ (aac _ (aac _ (aac _ (aac _ x))))⟩
theorem yS {t1 t2 t3:Bool}{l1 l2 l3:Addr}{xs ys zs:Array Value}{Q:Value->Shared->Prop} (hl1:bU s.heap t1 l1 xs) (hl2:bU s.heap t2 l2 ys) (hl3:bU s.heap t3 l3 zs)
  (h:∀ h',lL h' (s.heap.objs.size+5) (s.heap.objs.size+3) (s.heap.objs.size+4) .none false->cX h' (s.heap.objs.size+3) #[.ref s.heap.objs.size,.ref (s.heap.objs.size+1),.ref (s.heap.objs.size+2)]->
   cX h' (s.heap.objs.size+4) #[.none,.none,.none]->d9 h' t1 s.heap.objs.size l1 0->d9 h' t2 (s.heap.objs.size+1) l2 0->d9 h' t3 (s.heap.objs.size+2) l3 0->
   (∀ c o,s.heap.get? c=some o->h'.get? c=some o)->Q (.ref (s.heap.objs.size+5)) { s with heap:=h' }):wpAny (model prog w) A (call (.type "zip") [.ref l1,.ref l2,.ref l3]) Q E s:=by
 refine callType_new F.called_zip (by decide) (oN _ _ _) (qL _ _ _) (λ obj=>lK obj _ _ _) F.entry_zip_new (vP t1 t2 t3 l1 l2 l3 xs ys zs) ⟨hl1,hl2,hl3,?_⟩;generalize s.heap=h0 at *;have z1:(zA h0 t1 l1).objs.size=h0.objs.size+1:=abm ..;have z2:(zA (zA h0 t1 l1) t2 l2).objs.size=h0.objs.size+2:=by rw[abm,z1]
 have z2':(zA (zA (zA h0 t1 l1) t2 l2) t3 l3).objs.size=h0.objs.size+3:=by rw[abm,z2]
 have z3:(z3B h0 t1 t2 t3 l1 l2 l3).objs.size=h0.objs.size+4:=by rw[abm,z2']
 have z4:(z3H h0 t1 t2 t3 l1 l2 l3).objs.size=h0.objs.size+5:=by rw[abm,z3]
 have g5:(E7 h0 t1 t2 t3 l1 l2 l3).get? (z3H h0 t1 t2 t3 l1 l2 l3).objs.size=some _:=aai _ rfl;have g4:(E7 h0 t1 t2 t3 l1 l2 l3).get? (z3B h0 t1 t2 t3 l1 l2 l3).objs.size=some _:=aac _ (aai _ rfl);have g3:(E7 h0 t1 t2 t3 l1 l2 l3).get? (zA (zA (zA h0 t1 l1) t2 l2) t3 l3).objs.size=some _:=aac _ (aac _ (aai _ rfl));have g2':(E7 h0 t1 t2 t3 l1 l2 l3).get? (zA (zA h0 t1 l1) t2 l2).objs.size=some _:=aac _ (aac _ (aac _ (aai _ rfl)));have g2:(E7 h0 t1 t2 t3 l1 l2 l3).get? (zA h0 t1 l1).objs.size=some _:=aac _ (aac _ (aac _ (aac _ (aai _ rfl))));have g1:(E7 h0 t1 t2 t3 l1 l2 l3).get? h0.objs.size=some _:=aac _ (aac _ (aac _ (aac _ (aac _ (aai _ rfl)))));show _/\_;rw[z2',z3,z4] at g5;rw[z1,z2,z2'] at g3;rw[z3] at g4;rw[z2] at g2';rw[z1] at g2;rw[z4];exact⟨⟨_,g5,rfl⟩,h _ g5 g3 g4 (iA g1) (iA g2) (iA g2') λ c o x=>aac _ (aac _ (aac _ (aac _ (aac _ (aac _ x)))))⟩
end
end TwZ
namespace TwZ
open PySem
open Sem (wp)
open AutoSeq1 (wpAny_loadPart')
section
variable {prog:Program}{M:Model}{A:Around}{E:Value->Shared->Prop}{s:Shared}
abbrev hG (h:Heap) (e it:Addr) (f0:Value) (f1:Bool) (i:Int) (old:Value):Prop:=
 h.get? e=some { cls:=.type "enumerate",dict:=none,data:=.fields #[f0,.bool f1,.ref it,rawInt i,.none,old],slots:=#[] }
theorem tU {e it:Addr}{f0:Value}{f1:Bool}{i:Int}{old:Value}{Q:Bool->Shared->Prop} (hz:hG s.heap e it f0 f1 i old) (hf:fU f0) (yes:Q true s)
  (no:∀ h',hG h' e it f0 true i old->Heap.SameBut e s.heap h'->Q false { s with heap:=h' }):wpAny (model prog w) A (Builtin.SmallTypes.ownedTupleIsFree (.ref e)) Q E s:=by
 unfold Builtin.SmallTypes.ownedTupleIsFree;refine aab (abe hz rfl (x:=f0) rfl ?_);rcases hf with rfl | ⟨a,rfl⟩
 ·exact aae yes
 ·refine aab (nQ ?_);cases h:s.heap.get? a.toNat with
  | none=>exact aae yes
  | some o=>
   show wpAny _ _ (field (.ref e) 1 >>= _) _ _ _;refine aab (abe hz rfl (x:=.bool f1) rfl ?_);cases f1 with
   | true=>exact aae (no s.heap hz (Heap.SameBut.refl ..))
   | false=>
    show wpAny _ _ (setField (.ref e) 1 (.bool true) >>= _) _ _ _;refine aab (wpAny_setField_rec hz (by simp) λ aj ah ab=>aae (no aj ah ab))
theorem AY {e it:Addr}{f0:Value}{f1:Bool}{i:Int}{old:Value}{T:Addr}{Q:Unit->Shared->Prop} (hz:hG s.heap e it f0 f1 i old)
  (h:∀ h',hG h' e it (rawInt T) false i old->Heap.SameBut e s.heap h'->Q () { s with heap:=h' }):wpAny (model prog w) A (Builtin.SmallTypes.ownedTupleHandOut (.ref e) (.ref T)) Q E s:=by
 unfold Builtin.SmallTypes.ownedTupleHandOut;refine aab (wpAny_setField_rec hz (by simp) λ aj ah ab=>?_);replace ah:hG aj e it (rawInt T) f1 i old:=ah;refine wpAny_setField_rec ah (by simp) λ ai bu ac=>?_;exact h ai bu (Heap.SameBut.trans ab ac)
theorem yO {n a:Nat}{t:Bool}{k:Nat}{xs:Array Value}{x old f0:Value}{f1:Bool}{Q:Value->Shared->Prop} (hf:fU f0)
  (he:hG s.heap (n+1) n f0 f1 k old) (i1:d9 s.heap t n a k) (s1:bU s.heap t a xs) (l1:a < n) (hx:xs[k]? = some x)
  (hQ:∀ (T:Nat) h' f0' f1' old',s.heap.objs.size<=T->fU f0'->hG h' (n+1) n f0' f1' ((k:Int)+1) old'->d9 h' t n a (k+1)->cX h' T #[.int k s.toks,x]->
   (∀ (c:Nat) o,(c < n\/n+1 < c)->s.heap.get? c=some o->h'.get? c=some o)->Q (.ref T) { s with heap:=h',toks:=s.toks+1 }) :
  wpAny (model prog w) A (Builtin.«enumerate.__next__» ⟨[.ref (n+1)],[]⟩) (λ fin s'=>∃ v,fin=.done (.ret v)/\Q v s') E s:=by
 obtain⟨hp,g,d,tk,os⟩:=s;have helt:n+1 < hp.objs.size:=aam he;show wpAny _ _ (field (.ref (n+1)) 2 >>= _) _ _ _;refine aab (abe he rfl (x:=.ref n) rfl ?_);refine aab (bJ i1 s1 hx λ aj i1₁ ab=>?_);replace ab:Heap.SameBut n hp aj:=ab;have cz:hG aj (n+1) n f0 f1 k old:=ex ab (by omega) he;show wpAny _ _ (field (.ref (n+1)) 3 >>= _) _ _ ⟨aj,g,d,tk,os⟩;refine aab (abe cz rfl (x:=rawInt k) rfl ?_);show wpAny _ _ (field (.ref (n+1)) 4 >>= _) _ _ ⟨aj,g,d,tk,os⟩;refine aab (abe cz rfl (x:=.none) rfl ?_);show wpAny _ _ (mkInt k >>= _) _ _ ⟨aj,g,d,tk,os⟩;refine aab (wpAny_mkInt ?_);show wpAny _ _ (setField (.ref (n+1)) 3 (rawInt ((k:Int)+1)) >>= _) _ _ ⟨aj,g,d,tk+1,os⟩;refine aab (wpAny_setField_rec cz (by simp) λ ai db ac=>?_);replace ac:Heap.SameBut (n+1) aj ai:=ac;replace db:hG ai (n+1) n f0 f1 ((k:Int)+1) old:=db;show wpAny _ _ (setField (.ref (n+1)) 4 .none >>= _) _ _ ⟨ai,g,d,tk+1,os⟩;refine aab (wpAny_setField_rec db (by simp) λ af de ad=>?_);replace ad:Heap.SameBut (n+1) ai af:=ad;replace de:hG af (n+1) n f0 f1 ((k:Int)+1) old:=de;show wpAny _ _ (newTuple [.int k tk,x] >>= _) _ _ ⟨af,g,d,tk+1,os⟩;refine aab (wpAny_newTuple ?_);have cm:hG (af.push { cls:=.type "tuple",data:=.seq #[.int k tk,x] }) (n+1) n f0 f1 ((k:Int)+1) old:=aac _ de;have hsz:af.objs.size=hp.objs.size:=by rw[ad.1,ac.1,ab.1]
 have df:cX (af.push { cls:=.type "tuple",data:=.seq #[.int k tk,x] }) af.objs.size #[.int k tk,x]:=aai _ rfl;have dm:∀ (c:Nat) o,(c < n\/n+1 < c)->hp.get? c=some o->(af.push { cls:=.type "tuple",data:=.seq #[.int k tk,x] }).get? c=some o:=λ c o hc e=>
  aac _ (ex ad (by omega) (ex ac (by omega) (ex ab (by omega) e)))
 have dh:d9 (af.push { cls:=.type "tuple",data:=.seq #[.int k tk,x] }) t n a (k+1):=((i1₁.ext ac (by omega)).ext ad (by omega)).at λ o e=>aac _ e;have hlt₃:n+1 < af.objs.size:=by rw[hsz];exact helt
 generalize hh₄:af.push { cls:=.type "tuple",data:=.seq #[.int k tk,x] }=ap at cm df dm dh;have hTle:hp.objs.size<=af.objs.size:=Nat.le_of_eq hsz.symm;show wpAny _ _ (Builtin.SmallTypes.ownedTupleIsFree (.ref (n+1)) >>= _) _ _ ⟨ap,g,d,tk+1,os⟩;refine aab (tU cm hf ?_ ?_)
 ·simp only [if_true];refine aab (ack ?_);refine aab (abe cm rfl (x:=old) rfl ?_);refine aab (wpAny_setField_rec cm (by simp) λ bo ci aq=>?_);replace aq:Heap.SameBut (n+1) ap bo:=aq;replace ci:hG bo (n+1) n f0 f1 ((k:Int)+1) x:=ci;refine aab (AY (s:=⟨bo,g,d,tk+1,os⟩) ci λ cp he₆ ba=>?_);replace ba:Heap.SameBut (n+1) bo cp:=ba;refine aab (wpAny_letGo (aae ⟨_,rfl,?_⟩));exact hQ af.objs.size cp _ _ _ hTle (.inr ⟨_,rfl⟩) he₆ ((dh.ext aq (by omega)).ext ba (by omega)) (ex ba (by omega) (ex aq (by omega) df)) λ c o hc e=>ex ba (by omega) (ex aq (by omega) (dm c o hc e))
 ·intro bo ci aq;replace aq:Heap.SameBut (n+1) ap bo:=aq;simp only [Bool.false_eq_true,if_false];refine aae ⟨_,rfl,?_⟩;exact hQ af.objs.size bo _ _ _ hTle hf ci (dh.ext aq (by omega)) (ex aq (by omega) df) λ c o hc e=>ex aq (by omega) (dm c o hc e)
theorem BE {n a:Nat}{t:Bool}{k:Nat}{xs:Array Value}{old f0:Value}{f1:Bool}{Q:Fin->Shared->Prop} (hh:A.handled=none)
  (he:hG s.heap (n+1) n f0 f1 k old) (i1:d9 s.heap t n a k) (s1:bU s.heap t a xs) (hx:xs[k]? = none)
  (hE:∀ h' e,(∀ (c:Nat) o,(c < n\/n+1 < c)->s.heap.get? c=some o->h'.get? c=some o)->(∃ o,h'.get? e=some o/\o.cls=.type "StopIteration")->E (.ref e) { s with heap:=h' }) :
  wpAny (model prog w) A (Builtin.«enumerate.__next__» ⟨[.ref (n+1)],[]⟩) Q E s:=by
 show wpAny _ _ (field (.ref (n+1)) 2 >>= _) _ _ _;refine aab (abe he rfl (x:=.ref n) rfl ?_);refine aab (cS hh i1 s1 hx λ h' e hk he'=>hE h' e (λ c o hc q=>hk c o (show @Ne Nat c n by omega) q) he')
theorem nY {e it:Addr}{f0:Value}{f1:Bool}{i:Int}{old:Value}{Q:Option Value->Shared->Prop} (he:hG s.heap e it f0 f1 i old)
  (h:wpAny (model prog w) A.in1 (Builtin.«enumerate.__next__» ⟨[.ref e],[]⟩) (λ fin s'=>∃ v,fin=.done (.ret v)/\Q (some v) s') (λ e s'=>(∃ a o,e=.ref a/\s'.heap.get? a=some o/\o.cls=.type "StopIteration")/\Q none s') s) :
  wpAny (model prog w) A (pyNext (.ref e)) Q E s:=by
 have hT:s.TypeIs (.ref e) "enumerate" := ⟨_,he,rfl⟩;unfold pyNext;refine aab (wpAny_attempt (wpAny_callSpecial?_slot (name:=Str.ofString "__next__") hT F.slot_enumerate_next
  (wpAny_call_entry F.slot_enumerate_next hT F.entry_enumerate_next (abv h (λ fin s' h'=>?_) λ e s' h'=>?_) (F.args_enumerate_next_1 _))))
 ·obtain⟨v,rfl,q⟩:=h';exact⟨v,rfl,aae q⟩
 ·obtain⟨⟨a,o,rfl,ho,hc⟩,q⟩:=h';exact aab (wpAny_isInstance (T := "StopIteration") (b:=true) ⟨o,ho,hc⟩ isSubtype_stop (aae q))
theorem vT {tg:Expr}{e it T:Addr}{f0:Value}{f1:Bool}{i:Int}{old:Value}{Q:Unit->Shared->Prop} (hf:fU f0) (hz:hG s.heap e it f0 f1 i old)
  (hQ:∀ h' f0',fU f0'->hG h' e it f0' f1 i old->Heap.SameBut e s.heap h'->Q () { s with heap:=h' }):wpAny (model prog w) A (letOwnedTupleGo tg (.ref e) (.ref T)) Q E s:=by
 have same:Q () s:=hQ s.heap f0 hf hz (Heap.SameBut.refl ..);have core:wpAny (model prog w) A (do
   let o <- load e
   match o.cls,o.data with
   | .type n,.fields vs=>
    if ["enumerate","zip","dict_itemiterator","dict_reverseitemiterator","odict_iterator","itertools.zip_longest","itertools.pairwise"].contains n && vs[0]? == some (rawInt T) then
     rule "for.unpacks-the-owned-tuple"
     updateField e 0 .none
   | _,_=>pure ()) Q E s:=by
  refine aab (wpAny_load hz ?_);show wpAny _ _ (if (["enumerate","zip","dict_itemiterator","dict_reverseitemiterator","odict_iterator","itertools.zip_longest","itertools.pairwise"].contains "enumerate" &&
   (#[f0,.bool f1,.ref it,rawInt i,.none,old]:Array Value)[0]? == some (rawInt T))=true then _ else _) Q E s
  split
  ·refine aab (ack ?_);show wpAny _ _ (setField (.ref e) 0 .none) Q E s;exact wpAny_setField_rec hz (by simp) λ h' hz' hs'=>hQ h' .none (.inl rfl) hz' hs'
  ·exact aae same
 unfold letOwnedTupleGo;cases tg <;> first
  | exact aae same
  | exact core
theorem nZ {e it:Addr}{f0:Value}{f1:Bool}{i:Int}{old:Value}{Q:Value->Shared->Prop} (he:hG s.heap e it f0 f1 i old) (h:Q (.ref e) s):wpAny (model prog w) A (pyIter (.ref e)) Q E s:=by
 have hT:s.TypeIs (.ref e) "enumerate" := ⟨_,he,rfl⟩;refine wpAny_pyIter_slot hT F.slot_enumerate_iter (wpAny_call_entry F.slot_enumerate_iter hT F.entry_enumerate_iter ?_ (F.args_enumerate_iter_1 _));show wpAny _ _ (ret (.ref e)) _ _ s;exact aae ⟨_,rfl,"enumerate",_,hT,F.slot_enumerate_next.lookup,h⟩
theorem vR (t:Bool) (l:Addr) (xs:Array Value) :
  Meets (Builtin.«enumerate.__new__» ⟨[.type "enumerate",.ref l],[]⟩) (λ _ R s=>bU s.heap t l xs/\
   R (.ok (.ret (.ref (zA s.heap t l).objs.size))) { s with heap:=(zA s.heap t l).push { cls:=.type "enumerate",data:=.fields #[.none,.bool false,.ref s.heap.objs.size,rawInt 0,.none,.none] } }):=
 .of_wp λ prog w A R s h=>by
  obtain⟨hp,g,d,tk,os⟩:=s;obtain⟨hl,h⟩:=h;have hsub:=sub_enumerate;have hL:bU (Shared.heap ⟨hp,g,d,tk,os⟩) t l xs:=hl
  wp_walk
  refine wpAny_stack_any λ st=>aae ?_
  split
  ·rename_i c _ _ _ _ _
   cases (c == Value.type "enumerate")
   ·wp_walk using eF hL
    exact⟨_,rfl,h⟩
   ·wp_walk using eF hL
    exact⟨_,rfl,h⟩
  ·wp_walk using eF hL
   exact⟨_,rfl,h⟩
theorem yX {t:Bool}{l:Addr}{xs:Array Value}{Q:Value->Shared->Prop} (hL:bU s.heap t l xs)
  (h:∀ h',hG h' (s.heap.objs.size+1) s.heap.objs.size .none false 0 .none->d9 h' t s.heap.objs.size l 0->(∀ b o,s.heap.get? b=some o->h'.get? b=some o)->Q (.ref (s.heap.objs.size+1)) { s with heap:=h' }) :
  wpAny (model prog w) A (call (.type "enumerate") [.ref l]) Q E s:=by
 refine callType_new F.called_enumerate (by decide) (F.typeCall_enumerate_1 _) (F.newCall_enumerate_1 _) (λ obj=>F.args_object_init_2 obj _) F.entry_enumerate_new (vR t l xs) ⟨hL,?_⟩;have hz:(zA s.heap t l).objs.size=s.heap.objs.size+1:=abm ..;show _/\_;rw[hz];have he:hG ((zA s.heap t l).push { cls:=.type "enumerate",data:=.fields #[.none,.bool false,.ref s.heap.objs.size,rawInt 0,.none,.none] }) (s.heap.objs.size+1) s.heap.objs.size .none false 0 .none:=by
  have:=aai (zA s.heap t l) (o:={ cls:=.type "enumerate",data:=.fields #[.none,.bool false,.ref s.heap.objs.size,rawInt 0,.none,.none] }) rfl;rw[hz] at this;exact this
 exact⟨⟨_,he,rfl⟩,h _ he (iA (aac _ (aai _ rfl))) λ b o x=>aac _ (aac _ x)⟩
end
end TwZ
namespace L2
open PySem PySem.Spec PyProof.Rows TwZ
def j4 (K:aaa) (H:Hp) (t:Bool) (a:Addr) (xs:List V):Prop:=if t=true then bH K H a xs else bV K H a xs
section
variable {X:Cx}{pins:List (Addr×Obj)}{σ:St}{H:Hp}{s:Shared}
theorem Inv.src {t:Bool}{a:Addr}{xs:List V} (I:Inv X pins σ H s) (h:j4 X.K H t a xs):∃ its:List Value,bL xs its/\bU s.heap t a its.toArray/\xs.length<=sizeLine:=by
 cases t with
 | true=>
  obtain⟨its,r,p,z⟩:=I.tuple h;exact⟨its,r,(show s.heap.IsTuple a its.toArray from p),z⟩
 | false=>
  obtain⟨its,r,p,z⟩:=I.list h;exact⟨its,r,p.isList,z⟩
theorem Inv.src_inj {t:Bool}{a:Addr}{xs ys:List V} (I:Inv X pins σ H s) (h:j4 X.K H t a xs) (h':j4 X.K H t a ys):xs=ys:=by
 cases t with
 | true=>exact I.tuple_inj h h'
 | false=>exact I.list_inj h h'
theorem Inv.turnedT {fp:List Addr}{h':Heap}{t':Nat}{T:Addr}{xs:List V}{its:List Value} (I:Inv X pins σ H s) (hf:∀ b∈fp,hJ X pins H b) (k:∀ b o,b∉fp->s.heap.get? b=some o->h'.get? b=some o)
  (hT:s.heap.objs.size<=T) (hv:bL xs its) (hz:xs.length<=sizeLine) (ht:IsTup h' T its.toArray):Inv X pins σ (upd H T (.tup xs)) { s with heap:=h',toks:=t' }:=by
 have hn:H T=none:=I.hok.fresh hT;have nT:∀ b u,H b=some u->b≠T:=λ b u e=>aN e hn;have nfp:∀ b u,H b=some u->b∉fp:=λ b u e hb=>by rw[(hf b hb).1] at e;cases e
 have nTh:∀ b o,s.heap.get? b=some o->b≠T:=λ b o e z=>by rw[z] at e;exact absurd (aat (aam e) hT) (aby _)
 refine I.step (g':=s.gens) (d':=s.drawn) (ch:=fp) (λ b hb=>?_) (λ b o _ _ hc e _=>k b o hc e) (λ b o _ _ hc e _=>⟨o.slots,k b o hc e⟩) (λ b o hc e n=>by rw[aM (nTh b o e)];exact n)
  (λ b o hc e=>⟨o,k b o hc e⟩) (λ b ys e=>by rw[aM (nT b _ e)];exact e) (λ b o u e=>by rw[aM (nT b _ e)];exact e) (λ b ps e=>⟨#[],by rw[aM (nT b _ e),e];simp⟩) (λ m hm=>?_) (λ b u e=>?_) I.bare
 ·obtain⟨_,f1,_,f3,f4,f5⟩:=hf b hb;exact⟨f3,f1,f4,f5⟩
 ·obtain⟨o,es,ep,ho,r⟩:=hm;exact⟨o,es,ep,k _ o (λ hb=>(hf _ hb).2.1 rfl) ho,r⟩
 ·by_cases hb:b=T
  ·subst hb;rw[aD] at e;cases e;exact⟨hz,its,hv,ht⟩
  ·rw[aM hb] at e;refine (I.hok b u e).stay (λ c v hc q=>k c v ?_ q) (λ c q=>by rw[aM (nT c _ q)];exact q) λ c ys q=>by rw[aM (nT c _ q)];exact q
   rcases hc with z | z
   ·rw[z];exact nfp b u e
   ·exact nfp c _ z
theorem Inv.turnedL {fp:List Addr}{h':Heap}{t':Nat} (I:Inv X pins σ H s) (hf:∀ b∈fp,hJ X pins H b) (k:∀ b o,b∉fp->s.heap.get? b=some o->h'.get? b=some o):Inv X pins σ H { s with heap:=h',toks:=t' }:=by
 have nfp:∀ b u,H b=some u->b∉fp:=λ b u e hb=>by rw[(hf b hb).1] at e;cases e
 refine I.step (g':=s.gens) (d':=s.drawn) (ch:=fp) (λ b hb=>?_) (λ b o _ _ hc e _=>k b o hc e) (λ b o _ _ hc e _=>⟨o.slots,k b o hc e⟩) (λ b o hc e n=>n)
  (λ b o hc e=>⟨o,k b o hc e⟩) (λ b ys e=>e) (λ b o u e=>e) (λ b ps e=>⟨#[],by rw[e];simp⟩) (λ m hm=>?_) (λ b u e=>?_) I.bare
 ·obtain⟨_,f1,_,f3,f4,f5⟩:=hf b hb;exact⟨f3,f1,f4,f5⟩
 ·obtain⟨o,es,ep,ho,r⟩:=hm;exact⟨o,es,ep,k _ o (λ hb=>(hf _ hb).2.1 rfl) ho,r⟩
 ·refine (I.hok b u e).stay (λ c v hc q=>k c v ?_ q) (λ c q=>q) λ c ys q=>q;rcases hc with z | z
  ·rw[z];exact nfp b u e
  ·exact nfp c _ z
end
def FY (K:aaa) (t1 t2 t3:Bool) (a1 a2 a3:Addr):It:=
 ⟨λ i H=>∃ xs ys zs x y z,j4 K H t1 a1 xs/\j4 K H t2 a2 ys/\j4 K H t3 a3 zs/\xs[i]? = some x/\ys[i]? = some y/\zs[i]? = some z,
  λ i H v H'=>∃ T x y z,H T=none/\v=.ref T/\(∀ xs,j4 K H t1 a1 xs->xs[i]? = some x)/\(∀ xs,j4 K H t2 a2 xs->xs[i]? = some y)/\(∀ xs,j4 K H t3 a3 xs->xs[i]? = some z)/\H'=upd H T (.tup [x,y,z]),
  λ i H=>∃ xs ys zs,j4 K H t1 a1 xs/\j4 K H t2 a2 ys/\j4 K H t3 a3 zs/\(xs.length<=i\/ys.length<=i\/zs.length<=i)⟩
def G9 (n a1 a2 a3:Nat) (t1 t2 t3:Bool) (i:Nat) (h:Heap):Prop:=
 ∃ f0 f1 c1 c2 c3,fU f0/\lL h (n+5) (n+3) (n+4) f0 f1/\cX h (n+3) #[.ref n,.ref (n+1),.ref (n+2)]/\cX h (n+4) #[c1,c2,c3]/\
  d9 h t1 n a1 i/\d9 h t2 (n+1) a2 i/\d9 h t3 (n+2) a3 i/\a1 < n/\a2 < n/\a3 < n
def vY (n:Nat) (m:Nat):List Addr:=(List.range m).map λ k=>(n+k:Nat)
theorem dB {n m:Nat}{b:Addr}:b∈vY n m↔∃ k,k < m/\b=n+k:=by
 unfold vY;rw[acm];constructor
 ·rintro⟨k,hk,e⟩;exact⟨k,acj.mp hk,e.symm⟩
 ·rintro⟨k,hk,e⟩;exact⟨k,acj.mpr hk,e.symm⟩
theorem g9 {n m:Nat}{b:Nat} (h:(b:Addr)∉vY n m) (hm:0 < m):b < n\/n+(m - 1) < b:=by
 by_cases h1:b < n
 ·exact .inl h1
 ·by_cases h2:n+(m - 1) < b
  ·exact .inr h2
  ·exact absurd (dB.mpr ⟨b - n,by omega,by show (b:Nat)=n+(b - n);omega⟩) h
theorem xW {P:Program}{w:World}{K:aaa}{tg:Expr} (n a1 a2 a3:Nat) (t1 t2 t3:Bool):Turn P w K tg (FY K t1 t2 t3 a1 a2 a3) (vY n 6) (n+5) (G9 n a1 a2 a3 t1 t2 t3) where
 mem:=dB.mpr ⟨5,by decide,rfl⟩
 obj:=λ i h st b hb=>by
  obtain⟨f0,f1,c1,c2,c3,hf,hz,hTI,hTO,i1,i2,i3,_⟩:=st;obtain⟨k,hk,rfl⟩:=dB.mp hb;have hk':k=0\/k=1\/k=2\/k=3\/k=4\/k=5:=by omega
  rcases hk' with rfl | rfl | rfl | rfl | rfl | rfl
  ·exact i1.obj
  ·exact i2.obj
  ·exact i3.obj
  ·exact⟨_,hTI,λ v z=>by cases z⟩
  ·exact⟨_,hTO,λ v z=>by cases z⟩
  ·exact⟨_,hz,λ v z=>by cases z⟩
 keep:=λ i h h' st k=>by
  obtain⟨f0,f1,c1,c2,c3,hf,hz,hTI,hTO,i1,i2,i3,l⟩:=st;have m:∀ j,j < 6->((n+j:Nat):Addr)∈vY n 6:=λ j hj=>dB.mpr ⟨j,hj,rfl⟩;exact⟨f0,f1,c1,c2,c3,hf,k _ (m 5 (by decide)) _ hz,k _ (m 3 (by decide)) _ hTI,k _ (m 4 (by decide)) _ hTO,i1.at λ o e=>k _ (m 0 (by decide)) _ e,i2.at λ o e=>k _ (m 1 (by decide)) _ e,i3.at λ o e=>k _ (m 2 (by decide)) _ e,l⟩
 item:=by
  intro X hP hw hK hc i pins s σ H E I hf st hg;subst hP hw hK;obtain⟨f0,f1,c1,c2,c3,f,hz,hTI,hTO,i1,i2,i3,l1,l2,l3⟩:=st;obtain⟨xs,ys,zs,x,y,z,q1,q2,q3,hx,hy,hw⟩:=hg;obtain⟨us,r1,p1,_⟩:=I.src q1;obtain⟨vs,r2,p2,_⟩:=I.src q2;obtain⟨ws,r3,p3,_⟩:=I.src q3;obtain⟨u,hu,ru⟩:=r1.get hx;obtain⟨v,hv,rv⟩:=r2.get hy;obtain⟨w',hw',rw'⟩:=r3.get hw;refine iH hz (xS f hz hTI hTO i1 i2 i3 p1 p2 p3 l1 l2 l3 (by simpa using hu) (by simpa using hv) (by simpa using hw') λ T h' f0' f1' d1 d2 d3 hT f' hz' hTI' hTO' i1' i2' i3' hTp hk=>?_);refine⟨_,rfl,qY (s:={ s with heap:=h' }) f' hz' λ h'' f0'' f'' hz'' hs=>?_⟩;replace hs:Heap.SameBut (n+5) h' h'':=hs;have hTn:n+5 < T:=aat (aam hz) hT;have hTp':cX h'' T #[u,v,w']:=ex hs (by omega) hTp;have IT:Inv X pins σ (upd H T (.tup [x,y,z])) { s with heap:=h'',toks:=s.toks }:=I.turnedT (fp:=vY n 6) hf (λ b o hb e=>ex (c:=b) hs (by have:=g9 (b:=b) hb (by decide);have:n+(6 - 1)=n+5:=rfl;omega) (hk b o (g9 (b:=b) hb (by decide)) e)) hT (its:=[u,v,w']) (.cons ru (.cons rv (.cons rw' .nil))) (by show 3<=sizeLine;decide) ⟨_,hTp',rfl,_,rfl⟩;refine⟨.ref T,upd H T (.tup [x,y,z]),IT,rfl,
   ⟨T,x,y,z,I.hok.fresh hT,rfl,λ as q=>by rw[I.src_inj q q1];exact hx,λ as q=>by rw[I.src_inj q q2];exact hy,λ as q=>by rw[I.src_inj q q3];exact hw,rfl⟩,
   ⟨f0'',f1',d1,d2,d3,f'',hz'',ex hs (by omega) hTI',ex hs (by omega) hTO',i1'.ext hs (by omega),i2'.ext hs (by omega),i3'.ext hs (by omega),l1,l2,l3⟩,λ b hb=>?_⟩
  ·obtain⟨j,hj,rfl⟩:=dB.mp hb;rw[aM (show ((n+j:Nat):Addr)≠T from (show @Ne Nat (n+j) T by omega))];exact (hf _ hb).1
 done:=by
  intro X hP hw hK hc i pins s σ H E I hf st hg;subst hP hw hK;obtain⟨f0,f1,c1,c2,c3,f,hz,hTI,hTO,i1,i2,i3,l1,l2,l3⟩:=st;obtain⟨xs,ys,zs,q1,q2,q3,hend⟩:=hg;obtain⟨us,r1,p1,_⟩:=I.src q1;obtain⟨vs,r2,p2,_⟩:=I.src q2;obtain⟨ws,r3,p3,_⟩:=I.src q3;have e1:=r1.length;have e2:=r2.length;have e3:=r3.length;refine iH hz (zH (I.ok.hd hc) f hz hTI hTO i1 i2 i3 p1 p2 p3 l1 l2 l3 (by
   rcases hend with h | h | h
   ·exact .inl (by simp;omega)
   ·exact .inr (.inl (by simp;omega))
   ·exact .inr (.inr (by simp;omega))) λ h' e hk he=>?_)
  obtain⟨o,ho,hcl⟩:=he;exact⟨⟨e,o,rfl,ho,hcl⟩,rfl,I.turnedL (t':=s.toks) hf λ b o hb q=>hk b o (g9 (b:=b) hb (by decide)) q⟩
 self:=λ _ _ _ _ _ st h=>by
  obtain⟨f0,f1,c1,c2,c3,f,hz,_⟩:=st;exact iI hz h
def DE (K:aaa) (t1 t2:Bool) (a1 a2:Addr):It:=
 ⟨λ i H=>∃ xs ys x y,j4 K H t1 a1 xs/\j4 K H t2 a2 ys/\xs[i]? = some x/\ys[i]? = some y,
  λ i H v H'=>∃ T x y,H T=none/\v=.ref T/\(∀ xs,j4 K H t1 a1 xs->xs[i]? = some x)/\(∀ xs,j4 K H t2 a2 xs->xs[i]? = some y)/\H'=upd H T (.tup [x,y]),
  λ i H=>∃ xs ys,j4 K H t1 a1 xs/\j4 K H t2 a2 ys/\(xs.length<=i\/ys.length<=i)⟩
def GA (n a1 a2:Nat) (t1 t2:Bool) (i:Nat) (h:Heap):Prop:=
 ∃ f0 f1 c1 c2,fU f0/\lL h (n+4) (n+2) (n+3) f0 f1/\cX h (n+2) #[.ref n,.ref (n+1)]/\cX h (n+3) #[c1,c2]/\d9 h t1 n a1 i/\d9 h t2 (n+1) a2 i/\a1 < n/\a2 < n
theorem xX {P:Program}{w:World}{K:aaa}{tg:Expr} (n a1 a2:Nat) (t1 t2:Bool):Turn P w K tg (DE K t1 t2 a1 a2) (vY n 5) (n+4) (GA n a1 a2 t1 t2) where
 mem:=dB.mpr ⟨4,by decide,rfl⟩
 obj:=λ i h st b hb=>by
  obtain⟨f0,f1,c1,c2,hf,hz,hTI,hTO,i1,i2,_⟩:=st;obtain⟨k,hk,rfl⟩:=dB.mp hb;have hk':k=0\/k=1\/k=2\/k=3\/k=4:=by omega
  rcases hk' with rfl | rfl | rfl | rfl | rfl
  ·exact i1.obj
  ·exact i2.obj
  ·exact⟨_,hTI,λ v z=>by cases z⟩
  ·exact⟨_,hTO,λ v z=>by cases z⟩
  ·exact⟨_,hz,λ v z=>by cases z⟩
 keep:=λ i h h' st k=>by
  obtain⟨f0,f1,c1,c2,hf,hz,hTI,hTO,i1,i2,l⟩:=st;have m:∀ j,j < 5->((n+j:Nat):Addr)∈vY n 5:=λ j hj=>dB.mpr ⟨j,hj,rfl⟩;exact⟨f0,f1,c1,c2,hf,k _ (m 4 (by decide)) _ hz,k _ (m 2 (by decide)) _ hTI,k _ (m 3 (by decide)) _ hTO,i1.at λ o e=>k _ (m 0 (by decide)) _ e,i2.at λ o e=>k _ (m 1 (by decide)) _ e,l⟩
 item:=by
  intro X hP hw hK hc i pins s σ H E I hf st hg;subst hP hw hK;obtain⟨f0,f1,c1,c2,f,hz,hTI,hTO,i1,i2,l1,l2⟩:=st;obtain⟨xs,ys,x,y,q1,q2,hx,hy⟩:=hg;obtain⟨us,r1,p1,_⟩:=I.src q1;obtain⟨vs,r2,p2,_⟩:=I.src q2;obtain⟨u,hu,ru⟩:=r1.get hx;obtain⟨v,hv,rv⟩:=r2.get hy;refine iH hz (xT f hz hTI hTO i1 i2 p1 p2 l1 l2 (by simpa using hu) (by simpa using hv) λ T h' f0' f1' d1 d2 hT f' hz' hTI' hTO' i1' i2' hTp hk=>?_);refine⟨_,rfl,qY (s:={ s with heap:=h' }) f' hz' λ h'' f0'' f'' hz'' hs=>?_⟩;replace hs:Heap.SameBut (n+4) h' h'':=hs;have hTn:n+4 < T:=aat (aam hz) hT;have hTp':cX h'' T #[u,v]:=ex hs (by omega) hTp;have IT:Inv X pins σ (upd H T (.tup [x,y])) { s with heap:=h'',toks:=s.toks }:=I.turnedT (fp:=vY n 5) hf (λ b o hb e=>ex (c:=b) hs (by have:=g9 (b:=b) hb (by decide);have:n+(5 - 1)=n+4:=rfl;omega) (hk b o (g9 (b:=b) hb (by decide)) e)) hT (its:=[u,v]) (.cons ru (.cons rv .nil)) (by show 2<=sizeLine;decide) ⟨_,hTp',rfl,_,rfl⟩;refine⟨.ref T,upd H T (.tup [x,y]),IT,rfl,
   ⟨T,x,y,I.hok.fresh hT,rfl,λ as q=>by rw[I.src_inj q q1];exact hx,λ as q=>by rw[I.src_inj q q2];exact hy,rfl⟩,
   ⟨f0'',f1',d1,d2,f'',hz'',ex hs (by omega) hTI',ex hs (by omega) hTO',i1'.ext hs (by omega),i2'.ext hs (by omega),l1,l2⟩,λ b hb=>?_⟩
  ·obtain⟨j,hj,rfl⟩:=dB.mp hb;rw[aM (show ((n+j:Nat):Addr)≠T from (show @Ne Nat (n+j) T by omega))];exact (hf _ hb).1
 done:=by
  intro X hP hw hK hc i pins s σ H E I hf st hg;subst hP hw hK;obtain⟨f0,f1,c1,c2,f,hz,hTI,hTO,i1,i2,l1,l2⟩:=st;obtain⟨xs,ys,q1,q2,hend⟩:=hg;obtain⟨us,r1,p1,_⟩:=I.src q1;obtain⟨vs,r2,p2,_⟩:=I.src q2;have e1:=r1.length;have e2:=r2.length;refine iH hz (zI (I.ok.hd hc) f hz hTI hTO i1 i2 p1 p2 l1 l2 (by
   rcases hend with h | h
   ·exact .inl (by simp;omega)
   ·exact .inr (by simp;omega)) λ h' e hk he=>?_)
  obtain⟨o,ho,hcl⟩:=he;exact⟨⟨e,o,rfl,ho,hcl⟩,rfl,I.turnedL (t':=s.toks) hf λ b o hb q=>hk b o (g9 (b:=b) hb (by decide)) q⟩
 self:=λ _ _ _ _ _ st h=>by
  obtain⟨f0,f1,c1,c2,f,hz,_⟩:=st;exact iI hz h
def Ite (K:aaa) (t:Bool) (a:Addr):It:=
 ⟨λ i H=>∃ xs x,j4 K H t a xs/\xs[i]? = some x,
  λ i H v H'=>∃ T x,H T=none/\v=.ref T/\(∀ xs,j4 K H t a xs->xs[i]? = some x)/\H'=upd H T (.tup [.int i,x]),
  λ i H=>∃ xs,j4 K H t a xs/\xs.length<=i⟩
def tne (n a:Nat) (t:Bool) (i:Nat) (h:Heap):Prop:=∃ f0 f1 old,fU f0/\hG h (n+1) n f0 f1 i old/\d9 h t n a i/\a < n
theorem xZ {P:Program}{w:World}{K:aaa}{tg:Expr} (n a:Nat) (t:Bool):Turn P w K tg (Ite K t a) (vY n 2) (n+1) (tne n a t) where
 mem:=dB.mpr ⟨1,by decide,rfl⟩
 obj:=λ i h st b hb=>by
  obtain⟨f0,f1,old,hf,he,i1,_⟩:=st;obtain⟨k,hk,rfl⟩:=dB.mp hb;have hk':k=0\/k=1:=by omega
  rcases hk' with rfl | rfl
  ·exact i1.obj
  ·exact⟨_,he,λ v z=>by cases z⟩
 keep:=λ i h h' st k=>by
  obtain⟨f0,f1,old,hf,he,i1,l⟩:=st;have m:∀ j,j < 2->((n+j:Nat):Addr)∈vY n 2:=λ j hj=>dB.mpr ⟨j,hj,rfl⟩;exact⟨f0,f1,old,hf,k _ (m 1 (by decide)) _ he,i1.at λ o e=>k _ (m 0 (by decide)) _ e,l⟩
 item:=by
  intro X hP hw hK hc i pins s σ H E I hf st hg;subst hP hw hK;obtain⟨f0,f1,old,f,he,i1,l1⟩:=st;obtain⟨xs,x,q1,hx⟩:=hg;obtain⟨us,r1,p1,_⟩:=I.src q1;obtain⟨u,hu,ru⟩:=r1.get hx;refine nY he (yO f he i1 p1 l1 (by simpa using hu) λ T h' f0' f1' old' hT f' he' i1' hTp hk=>?_);refine⟨_,rfl,vT (s:={ s with heap:=h',toks:=s.toks+1 }) f' he' λ h'' f0'' f'' he'' hs=>?_⟩;replace hs:Heap.SameBut (n+1) h' h'':=hs;have hTn:n+1 < T:=aat (aam he) hT;have hTp':cX h'' T #[.int i s.toks,u]:=ex hs (by omega) hTp;have IT:Inv X pins σ (upd H T (.tup [.int i,x])) { s with heap:=h'',toks:=s.toks+1 }:=I.turnedT (fp:=vY n 2) hf (λ b o hb e=>ex (c:=b) hs (by have:=g9 (b:=b) hb (by decide);have:n+(2 - 1)=n+1:=rfl;omega) (hk b o (g9 (b:=b) hb (by decide)) e)) hT (its:=[.int i s.toks,u]) (.cons ⟨_,rfl⟩ (.cons ru .nil)) (by show 2<=sizeLine;decide) ⟨_,hTp',rfl,_,rfl⟩;have he2:hG h'' (n+1) n f0'' f1' ((i+1:Nat):Int) old':=by
   have:((i+1:Nat):Int)=(i:Int)+1:=by push_cast;rfl
   rw[this];exact he''
  refine⟨.ref T,upd H T (.tup [.int i,x]),IT,rfl,⟨T,x,I.hok.fresh hT,rfl,λ as q=>by rw[I.src_inj q q1];exact hx,rfl⟩,⟨f0'',f1',old',f'',he2,i1'.ext hs (by omega),l1⟩,λ b hb=>?_⟩
  ·obtain⟨j,hj,rfl⟩:=dB.mp hb;rw[aM (show ((n+j:Nat):Addr)≠T from (show @Ne Nat (n+j) T by omega))];exact (hf _ hb).1
 done:=by
  intro X hP hw hK hc i pins s σ H E I hf st hg;subst hP hw hK;obtain⟨f0,f1,old,f,he,i1,l1⟩:=st;obtain⟨xs,q1,hend⟩:=hg;obtain⟨us,r1,p1,_⟩:=I.src q1;have e1:=r1.length;refine nY he (BE (I.ok.hd hc) he i1 p1 (by simp;omega) λ h' e hk he=>?_);obtain⟨o,ho,hcl⟩:=he;exact⟨⟨e,o,rfl,ho,hcl⟩,rfl,I.turnedL (t':=s.toks) hf λ b o hb q=>hk b o (g9 (b:=b) hb (by decide)) q⟩
 self:=λ _ _ _ _ _ st h=>by
  obtain⟨f0,f1,old,f,he,_⟩:=st;exact nZ he h
section
variable {X:Cx}{tg:Expr}
theorem uN:bootBuiltins "zip" = some (.type "zip"):=by decide +kernel
theorem zB:bootBuiltins "enumerate" = some (.type "enumerate"):=by decide +kernel
def DU (K:aaa) (ta:TA):TI:=λ σ H R=>ta σ H λ vs H1=>∃ t1 t2 a1 a2,vs=[.ref a1,.ref a2]/\(∃ xs,j4 K H1 t1 a1 xs)/\(∃ xs,j4 K H1 t2 a2 xs)/\R (DE K t1 t2 a1 a2) H1
def DT (K:aaa) (ta:TA):TI:=λ σ H R=>ta σ H λ vs H1=>∃ t1 t2 t3 a1 a2 a3,vs=[.ref a1,.ref a2,.ref a3]/\(∃ xs,j4 K H1 t1 a1 xs)/\(∃ xs,j4 K H1 t2 a2 xs)/\(∃ xs,j4 K H1 t3 a3 xs)/\R (FY K t1 t2 t3 a1 a2 a3) H1
def DW (K:aaa) (ta:TA):TI:=λ σ H R=>ta σ H λ vs H1=>∃ t a,vs=[.ref a]/\(∃ xs,j4 K H1 t a xs)/\R (Ite K t a) H1
theorem CN {a:Expr}{ta:TA}{p pos:Pos} (hg:Gl X "enumerate") (hm:X.mg "enumerate" = none) (ha:PA X [a] ta) (hs:starEach [a] X.env=[(false,eval a X.env)]:=by rfl):PI X tg (.Call (.Name "enumerate" p) [a] [] pos) (DW X.K ta):=by
 intro pins s σ H R I h;refine Call_ (lF I hg hm zB (PyProof.Rows.callWith_type1 (d5 (ha pos pins s σ H _ I h) λ us s1 ⟨vs,H1,I1,r1,q1⟩=>?_) hs rfl));obtain⟨t,a1,e,⟨xs,hq⟩,q⟩:=q1;subst e;cases r1 with
 | cons r rr=>
  cases rr;cases r;obtain⟨its,rv,p,hz⟩:=I1.src hq;refine yX p λ h' he i1 hk=>?_;refine nZ (s:={ s1 with heap:=h' }) he ?_;refine⟨_,vY s1.heap.objs.size 2,tne s1.heap.objs.size a1 t,_,H1,rfl,I1.kept (t':=s1.toks) hk,xZ _ _ _,⟨.none,false,.none,.inl rfl,he,i1,p.lt⟩,λ b hb=>?_,q⟩;obtain⟨k,_,rfl⟩:=dB.mp hb;exact I1.fpOk (Nat.le_add_right _ _) (I1.hok.fresh (Nat.le_add_right _ _))
theorem CL {a b:Expr}{ta:TA}{p pos:Pos} (hg:Gl X "zip") (hm:X.mg "zip" = none) (ha:PA X [a,b] ta) (hs:starEach [a,b] X.env=[(false,eval a X.env),(false,eval b X.env)]:=by rfl) (hs2:starEach [b] X.env=[(false,eval b X.env)]:=by rfl) :
  PI X tg (.Call (.Name "zip" p) [a,b] [] pos) (DU X.K ta):=by
 intro pins s σ H R I h;refine Call_ (lF I hg hm uN (PyProof.Rows.callWith_type1 (d5 (ha pos pins s σ H _ I h) λ us s1 ⟨vs,H1,I1,r1,q1⟩=>?_) (by rw[hs,hs2]) (by rw[hs2];rfl)));obtain⟨t1,t2,a1,a2,e,⟨xs,hq1⟩,⟨ys,hq2⟩,q⟩:=q1;subst e;cases r1 with
 | cons r rr=>
  cases rr with
  | cons r' rr=>
   cases rr;cases r;cases r';obtain⟨its,rv,p1,hz⟩:=I1.src hq1;obtain⟨its2,rv2,p2,hz2⟩:=I1.src hq2;refine yT p1 p2 λ h' hz' hTI hTO i1 i2 hk=>?_;refine iI (s:={ s1 with heap:=h' }) hz' ?_;refine⟨_,vY s1.heap.objs.size 5,GA s1.heap.objs.size a1 a2 t1 t2,_,H1,rfl,I1.kept (t':=s1.toks) hk,xX _ _ _ _ _,⟨.none,false,_,_,.inl rfl,hz',hTI,hTO,i1,i2,p1.lt,p2.lt⟩,λ b hb=>?_,q⟩;obtain⟨k,_,rfl⟩:=dB.mp hb;exact I1.fpOk (Nat.le_add_right _ _) (I1.hok.fresh (Nat.le_add_right _ _))
theorem CK {a b c:Expr}{ta:TA}{p pos:Pos} (hg:Gl X "zip") (hm:X.mg "zip" = none) (ha:PA X [a,b,c] ta) (hs:starEach [a,b,c] X.env=[(false,eval a X.env),(false,eval b X.env),(false,eval c X.env)]:=by rfl)
  (hs2:starEach [b,c] X.env=[(false,eval b X.env),(false,eval c X.env)]:=by rfl) :
  PI X tg (.Call (.Name "zip" p) [a,b,c] [] pos) (DT X.K ta):=by
 intro pins s σ H R I h;refine Call_ (lF I hg hm uN (PyProof.Rows.callWith_type1 (d5 (ha pos pins s σ H _ I h) λ us s1 ⟨vs,H1,I1,r1,q1⟩=>?_) (by rw[hs,hs2]) (by rw[hs2];rfl)));obtain⟨t1,t2,t3,a1,a2,a3,e,⟨xs,hq1⟩,⟨ys,hq2⟩,⟨zs,hq3⟩,q⟩:=q1;subst e;cases r1 with
 | cons r rr=>
  cases rr with
  | cons r' rr=>
   cases rr with
   | cons r'' rr=>
    cases rr;cases r;cases r';cases r'';obtain⟨its,rv,p1,hz⟩:=I1.src hq1;obtain⟨its2,rv2,p2,hz2⟩:=I1.src hq2;obtain⟨its3,rv3,p3,hz3⟩:=I1.src hq3;refine yS p1 p2 p3 λ h' hz' hTI hTO i1 i2 i3 hk=>?_;refine iI (s:={ s1 with heap:=h' }) hz' ?_;refine⟨_,vY s1.heap.objs.size 6,G9 s1.heap.objs.size a1 a2 a3 t1 t2 t3,_,H1,rfl,I1.kept (t':=s1.toks) hk,xW _ _ _ _ _ _ _,⟨.none,false,_,_,_,.inl rfl,hz',hTI,hTO,i1,i2,i3,p1.lt,p2.lt,p3.lt⟩,λ b hb=>?_,q⟩;obtain⟨k,_,rfl⟩:=dB.mp hb;exact I1.fpOk (Nat.le_add_right _ _) (I1.hok.fresh (Nat.le_add_right _ _))
end
section
variable {prog:Program}{A:Around}{E:Value->Shared->Prop}{s:Shared}{l:Addr}{xs:Array (Int×Tok)}
theorem uV {Q:Value->Shared->Prop} (hh:A.handled=none) (hl:s.heap.IsTuple l (intItems xs))
  (h:∀ h' tk t',(∀ b o,s.heap.get? b=some o->h'.get? b=some o)->Q (.int (preSum (numAt xs) xs.size) t') { s with heap:=h',toks:=tk }) :
  wpAny (model prog w) A (call (.builtin "sum") [.ref l]) Q E s:=by
 have hlt:l < s.heap.objs.size:=by obtain⟨_,e,_⟩:=hl;exact aam e
 refine call_sum_walkG (wpAny_pyIter_tuple hl ?_);refine⟨_,_,_,_,_,_,numAt xs,rfl,Walks.tuple (A:=A.in1) hh _ l (abc hlt) (intItems xs),⟨⟨_,aai _ rfl,rfl,rfl⟩,hl.push _⟩,λ b hb=>?_,(λ _ _=>intItems_at),λ h' tk t' hk=>?_⟩
 ·show b < (s.heap.push _).objs.size;rw[abm];rcases abl.mp hb with rfl | hb
  ·exact Nat.lt_succ_self _
  ·rcases abl.mp hb with rfl | hb
   ·exact Nat.lt_succ_of_lt hlt
   ·cases hb
 ·have:=h h' tk t' (λ b o e=>hk b o (λ hm=>by rw[abq.mp hm] at e;exact aby _ (aam e)) (aac _ e));simpa [intItems] using this
theorem uW {t:Bool}{vs:List Value}{ns:List Int}{Q:Value->Shared->Prop} (hh:A.handled=none) (hl:bU s.heap t l vs.toArray) (hi:IntsAre vs ns)
  (h:∀ h' tk t',(∀ b o,s.heap.get? b=some o->h'.get? b=some o)->Q (.int ns.sum t') { s with heap:=h',toks:=tk }) :
  wpAny (model prog w) A (call (.builtin "sum") [.ref l]) Q E s:=by
 obtain⟨xs,hx⟩:=hi.allInts.items;have hn:numsOf vs.toArray.toList=ns:=by rw[show vs.toArray.toList=vs from rfl,hi.numsOf]
 rw[hx] at hl hn;rw[nums_intItems] at hn;have e:preSum (numAt xs) xs.size=ns.sum:=by rw[preSum_eq,abj (by simp),hn]
 cases t with
 | true=>exact uV hh hl λ h' tk t' hk=>by rw[e];exact h h' tk t' hk
 | false=>exact sum_intListG hh hl λ h' tk t' hk=>by rw[e];exact h h' tk t' hk
theorem DD {t:Bool}{vs:List Value}{bs:List Bool}{Q:Value->Shared->Prop} (hh:A.handled=none) (hl:bU s.heap t l vs.toArray) (hb:bL (bs.map V.bl) vs)
  (h:∀ h' tk,(∀ b o,s.heap.get? b=some o->h'.get? b=some o)->Q (.bool (bs.all id)) { s with heap:=h',toks:=tk }):wpAny (model prog w) A (call (.builtin "all") [.ref l]) Q E s:=by
 have hlt:l < s.heap.objs.size:=hl.lt;have hlen:=hb.length;rw[aad] at hlen;have key:∀ (P:Nat->Value->Prop),(∀ i v,P i v->vs[i]? = some v)->TruthOf prog w A.in1 P (λ i=>(bs[i]?).getD true):=λ P hP i v s' Q' E' hp hQ=>by
  have hv:=hP i v hp;have hi:i < vs.length:=(aag.mp hv).1;have hb':(bs.map V.bl)[i]? = some (V.bl bs[i]):=by simp [show i < bs.length by omega]
  obtain⟨u,hu,ru⟩:=hb.get hb';rw[hv] at hu;cases hu;cases ru;have e:(bs[i]?).getD true=bs[i]:=by simp [show i < bs.length by omega]
  have hQ2:Q' ((bs[i]?).getD true) s':=hQ;rw[e] at hQ2;exact wpAny_truthy_bool hQ2
 have rng:((List.range vs.toArray.size).all λ i=>(bs[i]?).getD true)=bs.all id:=by
  rw[aaf,<- hlen,Bool.eq_iff_iff,abu,abu];constructor
  ·intro hq b hb';obtain⟨i,hi,rfl⟩:=List.getElem_of_mem hb';have:=hq i (acj.mpr hi);simpa [hi] using this
  ·intro hq i hi;have hi':=acj.mp hi;have:=hq bs[i] (abx hi');simpa [hi'] using this
 have kept:∀ {h':Heap}{o:Obj},(∀ b x,b∉[s.heap.objs.size]->(s.heap.push o).get? b=some x->h'.get? b=some x)->∀ b x,s.heap.get? b=some x->h'.get? b=some x:=λ hk b x e=>
  hk b x (λ hm=>by rw[abq.mp hm] at e;exact aby _ (aam e)) (aac _ e)
 cases t with
 | true=>
  refine call_all_walk (wpAny_pyIter_tuple hl ?_);refine⟨s.heap.objs.size,[s.heap.objs.size,l],[s.heap.objs.size],vs.toArray.size,_,_,λ i=>(bs[i]?).getD true,rfl,Walks.tuple (A:=A.in1) hh _ l (abc hlt) vs.toArray,
   ⟨⟨_,aai _ rfl,rfl,rfl⟩,Heap.IsTuple.push hl _⟩,key _ (λ i v hp=>by simpa using hp),λ h' tk hk=>?_⟩
  rw[rng];exact h h' tk (kept hk)
 | false=>
  refine call_all_walk (wpAny_pyIter_list hl ?_);refine⟨s.heap.objs.size,[s.heap.objs.size,l],[s.heap.objs.size],vs.toArray.size,_,_,λ i=>(bs[i]?).getD true,rfl,Walks.list (A:=A.in1) hh _ l (abc hlt) vs.toArray,
   ⟨⟨_,aai _ rfl,rfl,rfl⟩,Heap.IsList.push hl _⟩,key _ (λ i v hp=>by simpa using hp),λ h' tk hk=>?_⟩
  rw[rng];exact h h' tk (kept hk)
end
section
variable {X:Cx}
def GH (K:aaa):List V->Hp->VK->Prop:=λ xs H Q=>∃ (t:Bool) (p:Addr) (ns:List Int),xs=[.ref p]/\j4 K H t p (ns.map V.int)/\Q (.int ns.sum) H
theorem yU (hc:X.calm=true):fW X (.builtin "sum") (GH X.K):=by
 intro pins s σ H xs us Q I r h;obtain⟨t,p,ns,rfl,hq,q⟩:=h;obtain⟨u,rfl,ru⟩:=r.one;cases ru;obtain⟨its,rv,p1,hz⟩:=I.src hq;refine uW (I.ok.hd hc) p1 (vX rv) λ h' tk t' hk=>⟨.int ns.sum,H,I.kept hk,⟨t',rfl⟩,q⟩
def GO (K:aaa):List V->Hp->VK->Prop:=λ xs H Q=>∃ (t:Bool) (p:Addr) (bs:List Bool),xs=[.ref p]/\j4 K H t p (bs.map V.bl)/\Q (.bl (bs.all id)) H
theorem yZ (hc:X.calm=true):fW X (.builtin "all") (GO X.K):=by
 intro pins s σ H xs us Q I r h;obtain⟨t,p,bs,rfl,hq,q⟩:=h;obtain⟨u,rfl,ru⟩:=r.one;cases ru;obtain⟨its,rv,p1,hz⟩:=I.src hq;refine DD (I.ok.hd hc) p1 rv λ h' tk hk=>⟨.bl (bs.all id),H,I.kept hk,rfl,q⟩
end
theorem i8:fillsNumberSlot (.type "tuple") "mul" = pure false:=
 PySem.fillsNumberSlot_seq (id := "tuple.__mul__") (r:=some (.builtin "tuple.__rmul__")) F.slot_tuple_mul.lookup (by decide +kernel) F.slot_tuple_rmul.lookup (by decide +kernel)
theorem lZ:seqRepeat? (.type "tuple")=pure (some (.builtin "tuple.__mul__")):=by
 unfold seqRepeat?;rw[PySem.seqSlot_of (T := "tuple") (name := "__mul__") (id := "tuple.__mul__") F.slot_tuple_mul.lookup (by decide +kernel),PySem.seqSlot_of (T := "tuple") (name := "__rmul__") (id := "tuple.__rmul__") F.slot_tuple_rmul.lookup (by decide +kernel)];rfl
theorem jP (a:Int) (t:Tok) (l:Addr) (items:Array Value) (n:Nat) (dd:Option Addr) (sl:Array (Option Value)) :
  Meets (Builtin.«int.__rmul__» ⟨[.int a t,.ref l],[]⟩) (λ _ R s=>s.heap.get? l=some { cls:=.type "tuple",dict:=dd,data:=.seq items n,slots:=sl }/\R (.ok (.ret Value.notImplemented)) s):=
 .of_wp λ prog w A R s h=>by obtain⟨hp,g,d,tk,os⟩:=s;obtain⟨hl,h⟩:=h;wp_walk;exact⟨_,rfl,h⟩
theorem qD (l:Addr) (items:Array Value) (n:Nat) (u:Tok) (dd:Option Addr) (sl:Array (Option Value)) :
  Meets (Builtin.«tuple.__mul__» ⟨[.ref l,.int 1 u],[]⟩) (λ _ R s=>s.heap.get? l=some { cls:=.type "tuple",dict:=dd,data:=.seq items n,slots:=sl }/\R (.ok (.ret (.ref l))) s):=
 .of_wp λ prog w A R s h=>by
  obtain⟨hp,g,d,tk,os⟩:=s;obtain⟨hl,h⟩:=h;have c1:(items.isEmpty || (1:Int) == 1)=true:=by simp
  wp_walk
  exact⟨_,rfl,h⟩
theorem oP (l:Addr) (items:Array Value) (n:Nat) (x:Int) (u:Tok) (dd:Option Addr) (sl:Array (Option Value)) (c0:¬ (decide (x < -(2 ^ 63)) || decide (x ≥ 2 ^ 63))=true) (c1:¬ (items.isEmpty || x == 1)=true)
  (c2:¬ (decide (x<=0) || items.isEmpty)=true) (c3:¬ (items.size:Int) * x > (2 ^ 63 - 1) / 8) (c4:¬ Builtin.Tuple.tupleTooMany ((items.size:Int) * x)=true) (hsz:(List.foldl (λ x1 x2=>x1++x2) #[] (List.replicate x.toNat items)).size<=sizeLine) :
  Meets (Builtin.«tuple.__mul__» ⟨[.ref l,.int x u],[]⟩) (λ _ R s=>s.heap.get? l=some { cls:=.type "tuple",dict:=dd,data:=.seq items n,slots:=sl }/\
   R (.ok (.ret (.ref s.heap.objs.size))) { s with heap:=s.heap.push { cls:=.type "tuple",data:=.seq (List.foldl (λ x1 x2=>x1++x2) #[] (List.replicate x.toNat items)) } }):=
 .of_wp λ prog w A R s h=>by
  obtain⟨hp,g,d,tk,os⟩:=s;obtain⟨hl,h⟩:=h
  wp_walk
  rw[if_neg c0]
  wp_walk
  all_goals (try rw[if_neg c1])
  wp_walk
  all_goals (try rw[if_neg c2])
  wp_walk
  all_goals (try rw[if_neg c3])
  wp_walk
  all_goals (try rw[if_neg c4])
  wp_walk
  exact⟨_,rfl,h⟩
theorem aG.tup {K:aaa}{H H':Hp}{a:Addr}{xs:List V} (e:aG H H') (h:bH K H a xs):bH K H' a xs:=by
 rcases h with (h | ⟨o,h⟩) | h
 ·exact .inl (.inl (e _ _ h))
 ·exact .inl (.inr ⟨o,e _ _ h⟩)
 ·exact .inr h
theorem aG.new {H:Hp}{p:Addr}{o:HO} (h:H p=none):aG H (upd H p o):=λ b u e=>by rw[aM (aN e h)];exact e
section
variable {X:Cx}
def DK (K:aaa):R2:=λ x y H Q=>∃ (l:Addr) (k:Int) (xs:List V),x=.ref l/\y=.int k/\bH K H l xs/\1<=k/\k < 1000000/\xs≠[]/\xs.length<=10/\
 ∀ p H',aG H H'->bH K H' p (List.replicate k.toNat xs).flatten->Q (.ref p) H'
theorem wT:j5 X (binaryOp .Mult) (DK X.K):=by
 intro pins s σ H x y v u Q I rx ry h;obtain⟨l,k,xs,rfl,rfl,hq,h1,h2,hne,hl10,q⟩:=h;cases rx;obtain⟨t,rfl⟩:=ry;obtain⟨its,r,ht,z⟩:=I.tuple hq;have hlen:=r.length;obtain⟨⟨cls,dd,data,sl⟩,e,hc,n,hd⟩:=id ht;simp only at hc hd;subst hc hd;refine wpAny_binaryOp_repeat_ref (T := "tuple") (U := "int") (by decide) ⟨_,e,rfl⟩ (λ s'=>typeIs_int s' k t) i8 F.fills_int_mul F.slot_int_rmul lZ F.slot_int_index.lookup
  (call_meets F.slot_int_rmul (typeIs_int s k t) F.entry_int_rmul (F.args_int_rmul_2 _ _) (jP k t l its.toArray n dd sl) ⟨e,rfl,⟨_,e,rfl⟩,?_⟩)
 by_cases hk:k=1
 ·subst hk;refine call_meets F.slot_tuple_mul ⟨_,e,rfl⟩ F.entry_tuple_mul (F.args_tuple_mul_2 _ _) (qD l its.toArray n t dd sl) ⟨e,?_⟩;refine⟨.ref l,H,I,rfl,q l H (aG.refl H) ?_⟩;have e1:(List.replicate (1:Int).toNat xs).flatten=xs:=by simp
  rw[e1];exact hq
 ·have hne':its≠[]:=λ z=>by rw[z] at hlen;exact hne (List.eq_nil_of_length_eq_zero hlen)
  have f0:List.foldl (λ x1 x2=>x1++x2) #[] (List.replicate k.toNat its.toArray)=(List.replicate k.toNat its).flatten.toArray:=by
   have:=rD its k.toNat [];rw[List.nil_append] at this;exact this
  have hemp:its.toArray.isEmpty=false:=by cases its with
   | nil=>exact absurd rfl hne'
   | cons a r=>rfl
  have hszN:k.toNat * its.length<=sizeLine:=by
   have a1:its.length<=10:=by omega
   have a2:k.toNat<=1000000:=by omega
   have:=Nat.mul_le_mul a2 a1;rw[sizeLine_eq];omega
  have hprod:((its.toArray.size:Nat):Int) * k<=16777216:=by
   have a1:((its.toArray.size:Nat):Int)<=10:=by rw[aaf];omega
   have:=Int.mul_le_mul a1 (show k<=1000000 by omega) (by omega) (by omega);omega
  refine call_meets F.slot_tuple_mul ⟨_,e,rfl⟩ F.entry_tuple_mul (F.args_tuple_mul_2 _ _) (oP l its.toArray n k t dd sl (by simp;omega) (by rw[hemp];simp;exact hk) (by rw[hemp];simp;omega) (by omega) (by
    unfold Builtin.Tuple.tupleTooMany;rw[decide_eq_true_iff];rw[sizeLine_eq];omega) (by rw[f0,aaf,wZ];exact hszN)) ⟨e,?_⟩
  have I1:=I.laid (a:=s.heap.objs.size) (o:=.tup (List.replicate k.toNat xs).flatten) (h':=s.heap.push { cls:=.type "tuple",data:=.seq (List.foldl (λ x1 x2=>x1++x2) #[] (List.replicate k.toNat its.toArray)) }) (t':=s.toks)
   (λ _ _ q=>aac _ q) (aak _) ⟨by rw[wZ,hlen];exact hszN,(List.replicate k.toNat its).flatten,r.rep k.toNat,⟨_,aai _ rfl,rfl,0,by simp only [f0]⟩⟩
  exact⟨.ref _,_,I1,rfl,q _ _ (aG.new I.fresh) (bH.of aD)⟩
end
inductive D where
 | non | bl (b:Bool) | int (i:Int) | str (x:Str) | tup (ds:List D)
mutual
def Is (K:aaa) (H:Hp):D->V->Prop
 | .non,v=>v=.non
 | .bl b,v=>v=.bl b
 | .int i,v=>v=.int i
 | .str x,v=>v=.str x
 | .tup ds,v=>∃ a xs,v=.ref a/\bH K H a xs/\IsL K H ds xs
def IsL (K:aaa) (H:Hp):List D->List V->Prop
 | [],xs=>xs=[]
 | d::ds,xs=>∃ x r,xs=x::r/\Is K H d x/\IsL K H ds r
end
def bT (K:aaa) (H H':Hp):Prop:=∀ a xs,bH K H a xs->bH K H' a xs
theorem bT.refl {K:aaa} (H:Hp):bT K H H:=λ _ _ h=>h
theorem bT.trans {K:aaa}{H H1 H2:Hp} (a:bT K H H1) (b:bT K H1 H2):bT K H H2:=λ c xs h=>b c xs (a c xs h)
theorem aG.ts {K:aaa}{H H':Hp} (e:aG H H'):bT K H H':=λ _ _ h=>e.tup h
mutual
theorem Is.mono {K:aaa}{H H':Hp} (t:bT K H H'):∀ (d:D) (v:V),Is K H d v->Is K H' d v
 | .non,_,h=>h
 | .bl _,_,h=>h
 | .int _,_,h=>h
 | .str _,_,h=>h
 | .tup ds,v,h=>by
  rw[Is] at h ⊢;obtain⟨a,xs,e,q,l⟩:=h;exact⟨a,xs,e,t a xs q,IsL.mono t ds xs l⟩
theorem IsL.mono {K:aaa}{H H':Hp} (t:bT K H H'):∀ (ds:List D) (xs:List V),IsL K H ds xs->IsL K H' ds xs
 | [],xs,h=>h
 | d::ds,xs,h=>by
  rw[IsL] at h ⊢;obtain⟨x,r,e,hx,hr⟩:=h;exact⟨x,r,e,Is.mono t d x hx,IsL.mono t ds r hr⟩
end
theorem IsL.length {K:aaa}{H:Hp}:∀ {ds:List D}{xs:List V},IsL K H ds xs->xs.length=ds.length
 | [],xs,h=>by rw[IsL] at h;subst h;rfl
 | d::ds,xs,h=>by
  rw[IsL] at h;obtain⟨x,r,rfl,_,hr⟩:=h;rw[abf,abf,IsL.length hr]
theorem IsL.get {K:aaa}{H:Hp}:∀ {ds:List D}{xs:List V}{i:Nat}{d:D},IsL K H ds xs->ds[i]? = some d->∃ x,xs[i]? = some x/\Is K H d x
 | [],_,_,_,_,e=>by simp at e
 | d::ds,xs,0,d',h,e=>by
  rw[IsL] at h;obtain⟨x,r,rfl,hx,hr⟩:=h;simp at e;subst e;exact⟨x,rfl,hx⟩
 | d::ds,xs,i+1,d',h,e=>by
  rw[IsL] at h;obtain⟨x,r,rfl,hx,hr⟩:=h;obtain⟨y,h1,h2⟩:=IsL.get hr (i:=i) (by simpa using e);exact⟨y,by simpa using h1,h2⟩
theorem IsL.get' {K:aaa}{H:Hp}{ds:List D}{xs:List V}{i:Nat}{x:V} (h:IsL K H ds xs) (e:xs[i]? = some x):∃ d,ds[i]? = some d/\Is K H d x:=by
 have hl:=h.length;have hi:i < ds.length:=by rw[<- hl];exact (aag.mp e).1
 obtain⟨y,h1,h2⟩:=h.get (i:=i) (d:=ds[i]) (by simp [hi]);rw[e] at h1;cases h1;exact⟨ds[i],by simp [hi],h2⟩
theorem IsL.snoc {K:aaa}{H:Hp}{d:D}{x:V} (hd:Is K H d x):∀ {ds:List D}{xs:List V},IsL K H ds xs->IsL K H (ds++[d]) (xs++[x])
 | [],xs,h=>by
  rw[IsL] at h;subst h;show IsL K H [d] [x];rw[IsL];exact⟨x,[],rfl,hd,by rw[IsL]⟩
 | d'::ds,xs,h=>by
  rw[IsL] at h;obtain⟨y,r,rfl,hy,hr⟩:=h;show IsL K H (d'::(ds++[d])) (y::(r++[x]));rw[IsL];exact⟨y,r++[x],rfl,hy,IsL.snoc hd hr⟩
theorem IsL.ints {K:aaa}{H:Hp}:∀ {ns:List Int}{xs:List V},IsL K H (ns.map D.int) xs->xs=ns.map V.int
 | [],xs,h=>by rw[acb,IsL] at h;exact h
 | n::ns,xs,h=>by
  rw[abk,IsL] at h;obtain⟨x,r,rfl,hx,hr⟩:=h;rw[Is] at hx;rw[hx,IsL.ints hr,abk]
theorem IsL.of_ints {K:aaa}{H:Hp}:∀ (ns:List Int),IsL K H (ns.map D.int) (ns.map V.int)
 | []=>by rw[acb,acb,IsL]
 | n::ns=>by
  rw[abk,abk,IsL];exact⟨_,_,rfl,by rw[Is],IsL.of_ints ns⟩
theorem IsL.bools {K:aaa}{H:Hp}:∀ {ns:List Bool}{xs:List V},IsL K H (ns.map D.bl) xs->xs=ns.map V.bl
 | [],xs,h=>by rw[acb,IsL] at h;exact h
 | n::ns,xs,h=>by
  rw[abk,IsL] at h;obtain⟨x,r,rfl,hx,hr⟩:=h;rw[Is] at hx;rw[hx,IsL.bools hr,abk]
theorem IsL.of_bools {K:aaa}{H:Hp}:∀ (ns:List Bool),IsL K H (ns.map D.bl) (ns.map V.bl)
 | []=>by rw[acb,acb,IsL]
 | n::ns=>by
  rw[abk,abk,IsL];exact⟨_,_,rfl,by rw[Is],IsL.of_bools ns⟩
section
variable {X:Cx}{pins:List (Addr×Obj)}{σ:St}{H:Hp}{s:Shared}
end
section
variable {X:Cx}
def EL:V->List V->Hp->VK->Prop:=λ x vs H Q=>∃ (l:Addr) (xs:List V) (y:V) (j:Nat),x=.ref l/\vs=[y]/\H l=some (.lst xs)/\o0 y=true/\xs.all o0=true/\j < xs.length/\(∀ z,xs[j]? = some z->BT z y=true)/\(∀ i z,i < j->xs[i]? = some z->BT z y=false)/\Q (.int j) H
theorem AH:MtM X "list.index" EL:=by
 intro pins s σ H x vs v us Q I rx rv h;obtain⟨l,xs,y,j,rfl,rfl,hH,fy,fx,hj,h1,h2,q⟩:=h;cases rx;obtain⟨u,rfl,ru⟩:=rv.one;obtain⟨z,its,n,r,hl,e⟩:=I.lstM hH;have key:∀ i (hi:i < its.length),∃ x,xs[i]? = some x/\bM x its[i]/\o0 x=true:=λ i hi=>by
  have hx:xs[i]? = some xs[i]:=by simp [show i < xs.length by omega]
  obtain⟨w',h1,h2⟩:=r.get hx;have:its[i]? = some its[i]:=by simp [hi]
  rw[this] at h1;cases h1;exact⟨_,hx,h2,(abu.mp fx) _ (abx _)⟩
 refine call_meets F.slot_list_index ⟨_,e,rfl⟩ F.entry_list_index (F.args_list_index_2 _ _)
  (SeqAt.list_indexAt l its.toArray n none #[] u (HG y) j (by rw[aaf];omega) (by rw[sizeLine_eq] at z;omega) ?_ ?_) ⟨e,λ w' hw=>?_,⟨.int j,H,I.tok _,⟨_,rfl⟩,q⟩⟩
 ·obtain⟨x,hx,rx,fx'⟩:=key j (by omega);have:=vZ (x:=y) rx fx';show HG y its[j]=true;rw[this];exact h1 x hx
 ·intro i hi hlt;have hi':i < its.length:=by simpa using hi
  obtain⟨x,hx,rx,fx'⟩:=key i hi';have:=vZ (x:=y) rx fx';show HG y its[i]=false;rw[this];exact h2 i x hlt hx
 ·exact tZ ru fy r fx w' (by simpa using hw)
end
structure Callee (P:Program) (w:World) (K:aaa) (mg:Str->Option Value) (base:Heap) (x:Str) (ps:List Str) (k:Nat) (sp:Sp) (f:Addr) (fd:FuncData):Prop where
 ok:FnOk P w K mg base gQ k f fd ps sp
 mg:mg x=some (.ref f)
 kp:PySem.W.keepIn K (.ref f)=true
 bd:rL K fd ps []
theorem cN {X:Cx}{x:Str}{ps:List Str}{k n:Nat}{sp:Sp}{f:Addr}{fd:FuncData}{e:Expr}{es:List Expr}{t:TA}{p pos:Pos} (G:Callee X.prog X.w X.K X.mg X.base x ps k sp f fd) (hr:Room n X.A) (ha:PA X (e::es) t) (hg:Gl X x:=by rfl) (hle:k<=n:=by decide)
  (hdb:(x == ("__debug__" : Str))=false:=by decide) (he:starEach (e::es) X.env=(false,eval e X.env)::starEach es X.env:=by rfl) (hpl:(backTo pos (starEach es X.env)).any (·.1)=false:=by rfl) :
  PE X (.Call (.Name x p) (e::es) [] pos) (iS sp [] E0 t):=CS G.ok (hr.mono hle) hg G.mg G.kp G.bd .nil GS ha hdb he hpl
theorem fE:bootBuiltins "isinstance" = some (.builtin "isinstance"):=by decide +kernel
def dU (t:Addr) (H H':Hp):Prop:=∀ b o,b≠t->H b=some o->H' b=some o
theorem dU.refl {t:Addr} (H:Hp):dU t H H:=λ _ _ _ h=>h
theorem dU.trans {t:Addr}{H H1 H2:Hp} (a:dU t H H1) (b:dU t H1 H2):dU t H H2:=λ c o hc h=>b c o hc (a c o hc h)
theorem aG.but {t:Addr}{H H':Hp} (a:aG H H'):dU t H H':=λ b o _ h=>a b o h
theorem dU.upd {t:Addr}{H:Hp}{o:HO}:dU t H (upd H t o):=λ b u hb h=>by rw[aM hb];exact h
theorem dU.ts {K:aaa}{t:Addr}{H H':Hp} (a:dU t H H') (hm:t9 (H t)):bT K H H':=by
 intro b xs h;have ne:∀ {o:HO},H b=some o->¬ t9 (some o)->b≠t:=λ e n z=>by rw[<- z,e] at hm;exact n hm
 rcases h with (h | ⟨o,h⟩) | h
 ·exact .inl (.inl (a _ _ (ne h (λ z=>z)) h))
 ·exact .inl (.inr ⟨o,a _ _ (ne h (λ z=>z)) h⟩)
 ·exact .inr h
theorem dU.free {t l:Addr}{H H':Hp} (a:dU t H H') (hl:l≠t) (h:H' l=none):H l=none:=by
 cases q:H l with
 | none=>rfl
 | some o=>rw[a l o hl q] at h;cases h
def DM (K:aaa):V->V->Hp->VK->Prop:=λ o i H Q=>∃ (p:Addr) (xs:List V) (k:Int) (v:V),o=.ref p/\i=.int k/\bV K H p xs/\0<=k/\k < 2 ^ 63/\xs[k.toNat]? = some v/\Q v H
theorem B7 {X:Cx}:FW X (DM X.K):=by
 intro pins s σ H o i ov iv Q I ro ri h;obtain⟨p,xs,k,v,rfl,rfl,hq,h0,h1,hx,q⟩:=h;cases ro;obtain⟨t,rfl⟩:=ri;obtain⟨its,r,pl,hz⟩:=I.list hq;obtain⟨w',ew,rw'⟩:=r.get hx;exact wpAny_getItem_list pl.isList h0 h1 (by simpa using ew) ⟨v,H,I,rw',q⟩
theorem mH {n:Nat}{k:Int} (h0:0<=k) (h1:k < n):AS n k=some k.toNat:=by
 unfold AS;rw[if_pos h0,if_pos h1]
theorem gY {au:Type}{xs:List au}{k:Int}{v:au} (h0:0<=k) (h:xs[k.toNat]? = some v):BM xs k=some v:=by
 obtain⟨j,rfl⟩:=Int.eq_ofNat_of_zero_le h0;exact cE (by simpa using h)
theorem Is.tupOf {K:aaa}{H:Hp}{ds:List D}{a:Addr}{xs:List V} (q:bH K H a xs) (l:IsL K H ds xs):Is K H (.tup ds) (.ref a):=by
 rw[Is];exact⟨a,xs,rfl,q,l⟩
theorem Is.un {K:aaa}{H:Hp}{ds:List D}{v:V} (h:Is K H (.tup ds) v):∃ a xs,v=.ref a/\bH K H a xs/\IsL K H ds xs:=by
 rw[Is] at h;exact h
theorem IsL.un {K:aaa}{H:Hp}{d:D}{ds:List D}{xs:List V} (h:IsL K H (d::ds) xs):∃ x r,xs=x::r/\Is K H d x/\IsL K H ds r:=by
 rw[IsL] at h;exact h
theorem IsL.un0 {K:aaa}{H:Hp}{xs:List V} (h:IsL K H [] xs):xs=[]:=by
 rw[IsL] at h;exact h
theorem IsL.cons {K:aaa}{H:Hp}{d:D}{ds:List D}{x:V}{xs:List V} (hd:Is K H d x) (h:IsL K H ds xs):IsL K H (d::ds) (x::xs):=by
 rw[IsL];exact⟨x,xs,rfl,hd,h⟩
theorem IsL.nil {K:aaa}{H:Hp}:IsL K H [] []:=by rw[IsL]
theorem Is.i {K:aaa}{H:Hp} (i:Int):Is K H (.int i) (.int i):=by rw[Is]
theorem Is.b {K:aaa}{H:Hp} (i:Bool):Is K H (.bl i) (.bl i):=by rw[Is]
theorem Is.s {K:aaa}{H:Hp} (i:Str):Is K H (.str i) (.str i):=by rw[Is]
theorem Is.n {K:aaa}{H:Hp}:Is K H .non .non:=by rw[Is]
theorem Is.ui {K:aaa}{H:Hp}{i:Int}{v:V} (h:Is K H (.int i) v):v=.int i:=by rw[Is] at h;exact h
theorem Is.ub {K:aaa}{H:Hp}{i:Bool}{v:V} (h:Is K H (.bl i) v):v=.bl i:=by rw[Is] at h;exact h
theorem Is.us {K:aaa}{H:Hp}{i:Str}{v:V} (h:Is K H (.str i) v):v=.str i:=by rw[Is] at h;exact h
theorem Is.u0 {K:aaa}{H:Hp}{v:V} (h:Is K H .non v):v=.non:=by rw[Is] at h;exact h
end L2
namespace Tw
open PySem L2
structure Vs where
 size:Int
 brim:Int
 outs:List (Option Int×Int)
 holds:Bool
 spill:Option Int
 acts:List (Str×Int)
abbrev wA:=Int×Int×Bool
structure Net where
 vs:List Vs
 sps:List wA
def CA:Option Int->D
 | none=>.non
 | some i=>.int i
def lM:Option Int->V
 | none=>.non
 | some i=>.int i
def outD (o:Option Int×Int):D:=.tup [CA o.1,.int o.2]
def zC (a:Str×Int):D:=.tup [.str a.1,.int a.2]
def xU (v:Vs):D:=.tup [.int v.size,.int v.brim,.tup (v.outs.map outD),.bl v.holds,CA v.spill,.tup (v.acts.map zC)]
def EE (s:wA):D:=.tup [.int s.1,.int s.2.1,.bl s.2.2]
def gZ (n:Net):D:=.tup [.tup (n.vs.map xU),.tup (n.sps.map EE)]
def tK (held coming:List Int) (doors:List Bool):D:=.tup [.tup (held.map D.int),.tup (coming.map D.int),.tup (doors.map D.bl)]
theorem Is.tg {K:aaa}{H:Hp}{t:Option Int}{v:V} (h:Is K H (CA t) v):v=lM t:=by
 cases t with
 | none=>exact h.u0
 | some i=>exact h.ui
theorem Is.tgOf {K:aaa}{H:Hp} (t:Option Int):Is K H (CA t) (lM t):=by
 cases t with
 | none=>exact Is.n
 | some i=>exact Is.i i
structure OutOk (n:Nat) (o:Option Int×Int):Prop where
 tg:∀ t,o.1=some t->0<=t/\t < n
 lo:1<=o.2
 hi:o.2<=60
structure ActOk (m:Nat) (a:Str×Int):Prop where
 word:a.1 = "open" \/ a.1 = "shut" \/ a.1 = "turn"
 lo:0<=a.2
 hi:a.2 < m
structure VOk (n m:Nat) (v:Vs):Prop where
 size:1<=v.size
 ne:v.outs≠[]
 o3:v.outs.length<=3
 outs:∀ o∈v.outs,OutOk n o
 spill:∀ t,v.spill=some t->0<=t/\t < n
 a3:v.acts.length<=3
 acts:∀ a∈v.acts,ActOk m a
structure NetOk (net:Net):Prop where
 lo:1<=net.vs.length
 hi:net.vs.length<=12
 sp:net.sps.length<=12
 vs:∀ v∈net.vs,VOk net.vs.length net.sps.length v
 sps:∀ s∈net.sps,0<=s.1/\s.1 < net.vs.length
def whole (outs:List (Option Int×Int)):Int:=(outs.map (·.2)).sum
theorem qN {n:Nat}:∀ {outs:List (Option Int×Int)},outs≠[]->(∀ o∈outs,OutOk n o)->1<=whole outs
 | [],h,_=>absurd rfl h
 | o::r,_,h=>by
  have h1:=(h o abi).lo;have h2:0<=whole r:=by
   clear h1;have:∀ (r:List (Option Int×Int)),(∀ o∈r,OutOk n o)->0<=whole r:=by
    intro r
    induction r with
    | nil=>intro _;exact Int.le_refl _
    | cons o r ih=>
     intro h;have h1:=(h o abi).lo;have h2:=ih λ o ho=>h o (aay _ ho);show 0<=o.2+whole r;omega
   exact this r λ o ho=>h o (aay _ ho)
  show 1<=o.2+whole r;omega
theorem oM {n:Nat}:∀ {outs:List (Option Int×Int)},(∀ o∈outs,OutOk n o)->whole outs<=60 * outs.length
 | [],_=>Int.le_refl _
 | o::r,h=>by
  have h1:=(h o abi).hi;have h2:=oM λ o ho=>h o (aay _ ho);show o.2+whole r<=_;rw[abf];omega
def d6 (k:Option Int):List (Option Int×Int)->Int
 | []=>0
 | g::r=>(if g.1=k then g.2 else 0)+d6 k r
theorem kL (k:Option Int):∀ (a b:List (Option Int×Int)),d6 k (a++b)=d6 k a+d6 k b
 | [],b=>by simp [d6]
 | g::r,b=>by
  show (if g.1=k then g.2 else 0)+d6 k (r++b)=(if g.1=k then g.2 else 0)+d6 k r+d6 k b;rw[kL k r b];omega
def bR (v:Vs) (has:Int):Int:=min has v.brim
def j6 (v:Vs) (has:Int):Bool:=decide (v.size<=bR v has)
def fJ (v:Vs) (here:Int):List (Option Int×Int):=v.outs.map λ o=>(o.1,here / whole v.outs * o.2)
def fP (v:Vs) (has:Int):List (Option Int×Int):=
 (v.spill,has - bR v has)::(if j6 v has=true then fJ v (bR v has)++(if v.holds=true then [] else [(none,bR v has % whole v.outs)]) else [])
def fN (v:Vs) (has:Int):Int:=if j6 v has=true then (if v.holds=true then bR v has % whole v.outs else 0) else bR v has
theorem xV {n m:Nat}{v:Vs} (ok:VOk n m v) (has:Int):(fP v has).length<=5:=by
 unfold fP fJ;have:=ok.o3
 split
 ·split <;> simp <;> omega
 ·simp
def kR (has:List Int) (s:wA) (d:Bool):List Int:=if d=true then has.set s.1.toNat (has.getD s.1.toNat 0+s.2.1) else has
def dZ:List Int->List wA->List Bool->List Int
 | has,s::ss,d::ds=>dZ (kR has s d) ss ds
 | has,_,_=>has
def gA:List Int->List Int->List Int->List Int
 | a::as,b::bs,c::cs=>(a+b+c)::gA as bs cs
 | _,_,_=>[]
def aP (net:Net) (held coming poured:List Int) (doors:List Bool):List Int:=dZ (gA held coming poured) net.sps doors
def cF:List Vs->List Int->List (Option Int×Int)
 | v::vs,h::hs=>fP v h++cF vs hs
 | _,_=>[]
def dL:List Vs->List Int->List Int
 | v::vs,h::hs=>fN v h::dL vs hs
 | _,_=>[]
def bI:Nat->List Vs->List Int->List Nat
 | i,v::vs,h::hs=>if j6 v h=true then i::bI (i+1) vs hs else bI (i+1) vs hs
 | _,_,_=>[]
def w9 (doors:List Bool) (a:Str×Int):List Bool:=doors.set a.2.toNat (if a.1 = "open" then true else if a.1 = "turn" then !(doors.getD a.2.toNat false) else false)
def eQ (doors:List Bool) (as:List (Str×Int)):List Bool:=as.foldl w9 doors
def cL (vs:List Vs) (doors:List Bool) (tip:List Nat):List Bool:=tip.foldl (λ ds i=>match vs[i]? with | some v=>eQ ds v.acts | none=>ds) doors
def eI (n:Nat) (goes:List (Option Int×Int)):List Int:=(List.range n).map λ (k:Nat)=>d6 (some (k:Int)) goes
structure Tick where
 held:List Int
 coming:List Int
 doors:List Bool
 tip:List Nat
 ground:Int
def kU (net:Net) (held coming poured:List Int) (doors:List Bool):Tick:=
 let hs:=aP net held coming poured doors
 ⟨dL net.vs hs,eI net.vs.length (cF net.vs hs),cL net.vs doors (bI 0 net.vs hs),bI 0 net.vs hs,d6 none (cF net.vs hs)⟩
def GC (t:Tick):D:=.tup [tK t.held t.coming t.doors,.tup (t.tip.map λ (i:Nat)=>D.int (i:Int)),.int t.ground]
end Tw
namespace L2
open PySem PySem.Spec PyProof.Rows TwZ
section
variable {g:TG}{tc:TT}{te:TE}{fr:List (Option Nat)}{σ:St}{H1:Hp}{Q:Addr->Hp->Prop}
theorem jN {a:Addr}{xs:List V} (Pv:Addr->Nat->List V->St->Hp->Prop) (hq:∀ D i ys σ H,Pv D i ys σ H->bH K H a xs)
  (h0:∀ D,H1 D=none->Pv D 0 [] (uE fr σ) (upd H1 D (.lst []))) (hstop:∀ D ys Z H',Pv D xs.length ys Z H'->Q D H')
  (hgo:∀ D i x ys Z H',xs[i]? = some x->Pv D i ys Z H'->g x Z H' λ ak H3=>tc ak H3 λ b H4=>
    if b=true then te ak H4 λ y H5=>H5 D=some (.lst ys)/\ys.length < sizeLine/\Pv D (i+1) (ys++[y]) ak (upd H5 D (.lst (ys++[y])))
    else Pv D (i+1) ys ak H4):iM (G7 K a) g tc te fr σ H1 Q:=by
 refine pQ (n:=xs.length) Pv h0 (λ D ys Z H' p=>⟨⟨xs,hq D _ ys Z H' p,aak _⟩,hstop D ys Z H' p⟩) λ D i ys Z H' hi p=>⟨⟨xs,xs[i],hq D _ ys Z H' p,by simp [hi]⟩,λ x H2 y=>?_⟩;obtain⟨e,y⟩:=y;subst e;exact hgo D i x ys Z _ (y xs (hq D _ ys Z _ p)) p
theorem sN {a:Addr}{xs:List V} (Pv:Addr->Nat->List V->St->Hp->Prop) (hq:∀ D i ys σ H,Pv D i ys σ H->bV K H a xs)
  (h0:∀ D,H1 D=none->Pv D 0 [] (uE fr σ) (upd H1 D (.lst []))) (hstop:∀ D ys Z H',Pv D xs.length ys Z H'->Q D H')
  (hgo:∀ D i x ys Z H',xs[i]? = some x->Pv D i ys Z H'->g x Z H' λ ak H3=>tc ak H3 λ b H4=>
    if b=true then te ak H4 λ y H5=>H5 D=some (.lst ys)/\ys.length < sizeLine/\Pv D (i+1) (ys++[y]) ak (upd H5 D (.lst (ys++[y])))
    else Pv D (i+1) ys ak H4):iM (G8 K a) g tc te fr σ H1 Q:=by
 refine pQ (n:=xs.length) Pv h0 (λ D ys Z H' p=>⟨⟨xs,hq D _ ys Z H' p,aak _⟩,hstop D ys Z H' p⟩) λ D i ys Z H' hi p=>⟨⟨xs,xs[i],hq D _ ys Z H' p,by simp [hi]⟩,λ x H2 y=>?_⟩;obtain⟨e,y⟩:=y;subst e;exact hgo D i x ys Z _ (y xs (hq D _ ys Z _ p)) p
theorem jO {n:Nat} (Pv:Addr->Nat->List V->St->Hp->Prop)
  (h0:∀ D,H1 D=none->Pv D 0 [] (uE fr σ) (upd H1 D (.lst []))) (hstop:∀ D ys Z H',Pv D n ys Z H'->Q D H')
  (hgo:∀ D i ys Z H',i < n->Pv D i ys Z H'->g (.int (i:Int)) Z H' λ ak H3=>tc ak H3 λ b H4=>
    if b=true then te ak H4 λ y H5=>H5 D=some (.lst ys)/\ys.length < sizeLine/\Pv D (i+1) (ys++[y]) ak (upd H5 D (.lst (ys++[y])))
    else Pv D (i+1) ys ak H4):iM (FZ 0 n) g tc te fr σ H1 Q:=by
 refine pQ (n:=n) Pv h0 (λ D ys Z H' p=>⟨aak _,hstop D ys Z H' p⟩) λ D i ys Z H' hi p=>⟨hi,λ x H2 y=>?_⟩;obtain⟨e,y⟩:=y;subst e y;rw[Int.zero_add];exact hgo D i ys Z _ hi p
theorem D0 {t1 t2 t3:Bool}{a1 a2 a3:Addr}{xs ys zs:List V}{n:Nat} (h1:xs.length=n) (h2:ys.length=n) (h3:zs.length=n) (Pv:Addr->Nat->List V->St->Hp->Prop)
  (hq:∀ D i r σ H,Pv D i r σ H->j4 K H t1 a1 xs/\j4 K H t2 a2 ys/\j4 K H t3 a3 zs)
  (h0:∀ D,H1 D=none->Pv D 0 [] (uE fr σ) (upd H1 D (.lst []))) (hstop:∀ D r Z H',Pv D n r Z H'->Q D H')
  (hgo:∀ D i x y z r Z H' T,xs[i]? = some x->ys[i]? = some y->zs[i]? = some z->Pv D i r Z H'->H' T=none->g (.ref T) Z (upd H' T (.tup [x,y,z])) λ ak H3=>tc ak H3 λ b H4=>
    if b=true then te ak H4 λ y H5=>H5 D=some (.lst r)/\r.length < sizeLine/\Pv D (i+1) (r++[y]) ak (upd H5 D (.lst (r++[y])))
    else Pv D (i+1) r ak H4):iM (FY K t1 t2 t3 a1 a2 a3) g tc te fr σ H1 Q:=by
 refine pQ (n:=n) Pv h0 (λ D r Z H' p=>?_) λ D i r Z H' hi p=>?_
 ·obtain⟨q1,q2,q3⟩:=hq D _ r Z H' p;exact⟨⟨xs,ys,zs,q1,q2,q3,.inl (by omega)⟩,hstop D r Z H' p⟩
 ·obtain⟨q1,q2,q3⟩:=hq D _ r Z H' p;refine⟨⟨xs,ys,zs,xs[i]'(by omega),ys[i]'(by omega),zs[i]'(by omega),q1,q2,q3,by simp,by simp,by simp⟩,?_⟩;rintro v H2 ⟨T,x,y,z,hT,rfl,e1,e2,e3,rfl⟩;exact hgo D i x y z r Z H' T (e1 xs q1) (e2 ys q2) (e3 zs q3) p hT
end
section
variable {g:TG}{tb:TS}{D:Ends}{σ:St}{H:Hp}
abbrev xR (J:It) (g:TG) (tb:TS) (D:Ends) (σ:St) (H:Hp):Prop:=
 ∃ W:Nat->Nat->St->Hp->Prop,(∃ m,W 0 m σ H)/\∀ i m σ H,W i m σ H->
   (J.stop i H/\D.nx σ H)\/(J.go i H/\∃ N:St->Hp->Prop,(∀ Z H',N Z H'->∃ m',m' < m/\W (i+1) m' Z H')/\∀ x H',J.yld i H x H'->g x σ H' λ bf H2=>tb { D with nx:=N,ct:=N,bk:=D.nx } bf H2)
theorem BB {t1 t2:Bool}{a1 a2:Addr}{xs ys:List V}{n:Nat} (h1:xs.length=n) (h2:ys.length=n) (Pv:Nat->St->Hp->Prop) (hq:∀ i σ H,Pv i σ H->j4 K H t1 a1 xs/\j4 K H t2 a2 ys)
  (h0:Pv 0 σ H) (hstop:∀ σ H,Pv n σ H->D.nx σ H)
  (hgo:∀ i x y σ H T,xs[i]? = some x->ys[i]? = some y->Pv i σ H->H T=none->g (.ref T) σ (upd H T (.tup [x,y])) λ bf H2=>tb { D with nx:=Pv (i+1),ct:=Pv (i+1),bk:=D.nx } bf H2):xR (DE K t1 t2 a1 a2) g tb D σ H:=by
 refine xG (n:=n) Pv h0 (λ σ H p=>?_) λ i σ H hi p=>?_
 ·obtain⟨q1,q2⟩:=hq _ σ H p;exact⟨⟨xs,ys,q1,q2,.inl (by omega)⟩,hstop σ H p⟩
 ·obtain⟨q1,q2⟩:=hq _ σ H p;refine⟨⟨xs,ys,xs[i]'(by omega),ys[i]'(by omega),q1,q2,by simp,by simp⟩,?_⟩;rintro v H2 ⟨T,x,y,hT,rfl,e1,e2,rfl⟩;exact hgo i x y σ H T (e1 xs q1) (e2 ys q2) p hT
theorem uG {t:Bool}{a:Addr}{xs:List V} (Pv:Nat->St->Hp->Prop) (hq:∀ i σ H,Pv i σ H->j4 K H t a xs)
  (h0:Pv 0 σ H) (hstop:∀ σ H,Pv xs.length σ H->D.nx σ H)
  (hgo:∀ i x σ H T,xs[i]? = some x->Pv i σ H->H T=none->g (.ref T) σ (upd H T (.tup [.int (i:Int),x])) λ bf H2=>tb { D with nx:=Pv (i+1),ct:=Pv (i+1),bk:=D.nx } bf H2):xR (Ite K t a) g tb D σ H:=by
 refine xG (n:=xs.length) Pv h0 (λ σ H p=>?_) λ i σ H hi p=>?_
 ·exact⟨⟨xs,hq _ σ H p,aak _⟩,hstop σ H p⟩
 ·refine⟨⟨xs,xs[i],hq _ σ H p,by simp [hi]⟩,?_⟩;rintro v H2 ⟨T,x,hT,rfl,e1,rfl⟩;exact hgo i x σ H T (e1 xs (hq _ σ H p)) p hT
end
theorem mU {σ:St}{H:Hp}{A B:Hp->Prop} (h:A H):E9 σ H λ b H4=>if b=true then A H4 else B H4:=by
 show if true=true then A H else B H
 rw[if_pos rfl];exact h
theorem eV {i:Nat}{v:V}{σ:St}{H:Hp}{A B:St->Hp->Prop} (h:A (σ.set i (some v)) H):cB i v σ H λ ak H3=>E9 ak H3 λ b H4=>if b=true then A ak H4 else B ak H4:=mU (σ:=σ.set i (some v)) (A:=A (σ.set i (some v))) (B:=B (σ.set i (some v))) h
theorem aG.put {H H':Hp}{p:Addr}{o:HO} (a:aG H H') (h:H p=none):aG H (upd H' p o):=λ b u e=>by rw[aM (aN e h)];exact a b u e
theorem bT.put {K:aaa}{H H':Hp}{p:Addr}{o:HO} (a:bT K H H') (h:H' p=none\/t9 (H' p)):bT K H (upd H' p o):=a.trans (by
 rcases h with h | h
 ·exact (aG.new h).ts
 ·exact dU.ts dU.upd h)
def E6 (i j:Int):Prop:=0 < j/\j < 2 ^ 200
theorem AD {X:Cx}:j5 X (binaryOp .FloorDiv) (rI E6 λ i j=>.int (i / j)):=GU λ i j _ _ _ _ _ hc q=>by
 have h1:(0:Int) < j:=hc.1;have h2:j < 2 ^ 200:=hc.2;refine floordiv_int (by omega) (by rw[Int.fdiv_eq_ediv_of_nonneg i (by omega)];exact q) (.inl (PyProof.noPylong_of_log2 ?_));have h0:j.natAbs≠0:=by omega
 have h3:j.natAbs < 2 ^ 200:=by omega
 have:=(Nat.log2_lt h0).mpr h3;omega
theorem lJ:bootBuiltins "int" = some (.type "int"):=by decide +kernel
theorem bW:bootBuiltins "tuple" = some (.type "tuple"):=by decide +kernel
theorem kG:bootBuiltins "list" = some (.type "list"):=by decide +kernel
theorem sZ:bootBuiltins "bool" = some (.type "bool"):=by decide +kernel
section
variable {X:Cx}{tg:Expr}{pos:Pos}
theorem bC {es:List Expr}{k:Nat}{t:BQ}{n:Nat} (hK:X.K=K) (hc:X.calm=true) (h:FV X es t)
  (hn:(assignEach es X.env).length=n:=by rfl) (hst:(assignEach es X.env).findIdx? (·.1)=none:=by rfl):PG X (.Tuple es k pos) (FM K n t):=by
 subst hK;exact EO hc h hn hst
theorem D4 (hK:X.K=K):BU X (rY K):=by subst hK;exact FH
def A2 (K:aaa):List V->Hp->VK->Prop:=λ xs H Q=>∃ p ys,xs=[.ref p]/\(bV K H p ys\/bH K H p ys)/\Q (.int ys.length) H
theorem yV (hK:X.K=K):fW X (.builtin "len") (A2 K):=by subst hK;exact sX
theorem dX (hK:X.K=K) (hc:X.calm=true):fW X (.builtin "sum") (GH K):=by subst hK;exact yU hc
theorem yY (hK:X.K=K) (hc:X.calm=true):fW X (.builtin "all") (GO K):=by subst hK;exact yZ hc
def EK (K:aaa):List V->Hp->VK->Prop:=λ xs H Q=>∃ p ys,xs=[.ref p]/\((bV K H p ys/\∀ l,H l=none->Q (.ref l) (upd H l (.tup ys)))\/(bH K H p ys/\Q (.ref p) H))
theorem bZ (hK:X.K=K):fW X (.type "tuple") (EK K):=by subst hK;exact qM
def vD (K:aaa):List V->Hp->VK->Prop:=λ xs H Q=>∃ p ys,xs=[.ref p]/\(bV K H p ys\/bH K H p ys)/\∀ l,H l=none->Q (.ref l) (upd H l (.lst ys))
theorem gE (hK:X.K=K):fW X (.type "list") (vD K):=by subst hK;exact sW
theorem jG {l:Expr}{tl:TE} (hK:X.K=K) (hl:PE X l tl):PI X tg l (DV K tl):=by subst hK;exact CM hl
theorem eX {l:Expr}{tl:TE} (hK:X.K=K) (hl:PE X l tl):PI X tg l (GZ K tl):=by subst hK;exact EN hl
theorem tQ {a:Expr}{ta:TA}{p:Pos} (hK:X.K=K) (hg:Gl X "enumerate") (hm:X.mg "enumerate" = none) (ha:PA X [a] ta) (hs:starEach [a] X.env=[(false,eval a X.env)]:=by rfl):PI X tg (.Call (.Name "enumerate" p) [a] [] pos) (DW K ta):=by
 subst hK;exact CN hg hm ha hs
theorem pF {a b:Expr}{ta:TA}{p:Pos} (hK:X.K=K) (hg:Gl X "zip") (hm:X.mg "zip" = none) (ha:PA X [a,b] ta) (hs:starEach [a,b] X.env=[(false,eval a X.env),(false,eval b X.env)]:=by rfl) (hs2:starEach [b] X.env=[(false,eval b X.env)]:=by rfl) :
  PI X tg (.Call (.Name "zip" p) [a,b] [] pos) (DU K ta):=by subst hK;exact CL hg hm ha hs hs2
theorem A6 {a b c:Expr}{ta:TA}{p:Pos} (hK:X.K=K) (hg:Gl X "zip") (hm:X.mg "zip" = none) (ha:PA X [a,b,c] ta) (hs:starEach [a,b,c] X.env=[(false,eval a X.env),(false,eval b X.env),(false,eval c X.env)]:=by rfl)
  (hs2:starEach [b,c] X.env=[(false,eval b X.env),(false,eval c X.env)]:=by rfl):PI X tg (.Call (.Name "zip" p) [a,b,c] [] pos) (DT K ta):=by subst hK;exact CK hg hm ha hs hs2
theorem mB (hK:X.K=K):j5 X (binaryOp .Mult) (DK K):=by subst hK;exact wT
theorem rC (hK:X.K=K):FW X (DM K):=by subst hK;exact B7
theorem eS {o e:Expr}{es:List Expr}{to:TE}{t:TA}{name:Str}{apos cpos:Pos}{T id:String}{r:V->List V->Hp->VK->Prop} (hK:X.K=K)
  (pa:PlainAttrs T) (slot:Slot T name id) (hty:typeOf (.builtin id)=pure (.type "method_descriptor")) (hm:MtR X id r) (ho:PE X o to) (ha:PA X (e::es) t)
  (hbase:attributeBase o name X.env (eval o X.env)=eval o X.env:=by rfl)
  (hfew:((backTo cpos (starEach (e::es) X.env)).all (λ x=>!x.1) && (backToKw cpos (keywordEach [] X.env)).all (λ x=>x.1.isSome)
   && decide ((e::es).length+([]:List Keyword).length+(if ([]:List Keyword).isEmpty then 0 else 1) < 30))=true:=by rfl)
  (hline:(apos.endLine == cpos.line)=true:=by rfl) (hs:starEach (e::es) X.env=(false,eval e X.env)::starEach es X.env:=by rfl) (hplain:(backTo cpos (starEach es X.env)).any (·.1)=false:=by rfl) :
  PE X (.Call (.Attribute o name apos) (e::es) [] cpos) (tBM K T r to t):=by subst hK;exact GR pa slot hty hm ho ha hbase hfew hline hs hplain
end
section
variable {X:Cx}{pos p:Pos}
theorem pL (i:Nat) {x:Str}{e:Expr}{te:TE}{pos':Pos} (hN:X.N.Nodup) (he:PE X e te) (hi:X.N[i]? = some x:=by rfl) (hx:E5 X.env.scope x:=by exact Or.inl rfl) (hs:swapsWith e (some (.Name x pos')) pos.line X.env=pure false:=by rfl) (hf:X.fn x=true\/X.env.scope.names.lookup x=some .local:=by first | exact .inl rfl | exact .inr rfl | assumption) :
  PS X (.Assign [.Name x pos'] e pos) (fI te (cB i)):=fB hN hi hx he hs hf
theorem gL (i:Nat) {x:Str} (hN:X.N.Nodup) (hi:X.N[i]? = some x:=by rfl) (hx:E5 X.env.scope x:=by exact Or.inl rfl) (hf:X.fn x=true\/X.env.scope.names.lookup x=some .local:=by first | exact .inl rfl | exact .inr rfl | assumption):PG X (.Name x pos) (cB i):=iJ hN hi hx hf
theorem gC (i:Nat) (N:List Str) {x:Str} (hN:N.Nodup:=by decide +kernel) (e:X.N=N:=by rfl) (hi:N[i]? = some x:=by rfl) (hx:E5 X.env.scope x:=by exact Or.inl rfl) (hf:X.fn x=true\/X.env.scope.names.lookup x=some .local:=by exact Or.inr rfl):PG X (.Name x pos) (cB i):=iJ (by rw[e];exact hN) (by rw[e];exact hi) hx hf
theorem px (K:aaa) {a b:Expr}{ta tb:TE} (ha:PE X a ta) (hb:PE X b tb) (hK:X.K=K:=by rfl) (hs:xQ b:=by exact λ _ _=>rfl):PE X (.Subscript a b pos) (eZ (rY K) ta tb):=GQ (D4 hK) ha hb hs
theorem mS (K:aaa) {a:Expr}{ta:TE} (hm:X.mg "len" = none) (ha:PE X a ta) (hK:X.K=K:=by rfl) (hg:Gl X "len" := by rfl) (hs:starEach [a] X.env=[(false,eval a X.env)]:=by rfl):PE X (.Call (.Name "len" p) [a] [] pos) (zE (A2 K) (bE ta eD)):=
 bF (yV hK) hg hm PySem.boot_len (aA ha aC hs) (by decide) (by decide) hs rfl
end
def HE (K:aaa) (n:Nat) (t:BQ):TG:=λ v σ H Q=>∃ a xs,v=.ref a/\bV K H a xs/\xs.length=n/\t xs σ H Q
theorem EQ {X:Cx}{pos:Pos}{es:List Expr}{k:Nat}{t:BQ}{n:Nat} (hc:X.calm=true) (h:FV X es t)
  (hn:(assignEach es X.env).length=n:=by rfl) (hst:(assignEach es X.env).findIdx? (·.1)=none:=by rfl):PG X (.Tuple es k pos) (HE X.K n t):=by
 intro pins s σ H v u Q I r hw;obtain⟨a,xs,e1,hq,hl,hw⟩:=hw;subst e1;cases r;obtain⟨its,rv,ht,hz⟩:=I.list hq;rw[assign_Tuple];refine aab (wpAny_standAt ?_);unfold unpack;have e:(assignEach es X.env).length=its.toArray.size:=by simp [hn,<- hl,rv.length]
 rw[e,hst];refine aab (abr (PySem.W.kun_itemsOf (I.ok.hd hc) ht.isList λ h' hx=>?_));have I1:Inv X pins σ H { s with heap:=h' }:=I.kept (t':=s.toks) λ b o e=>hx b o (abc (aam e)) e;exact h pins _ σ H xs _ Q I1 (by simpa using rv) hw
theorem CO {X:Cx}{K:aaa}{pos:Pos}{es:List Expr}{k:Nat}{t:BQ}{n:Nat} (hK:X.K=K) (hc:X.calm=true) (h:FV X es t)
  (hn:(assignEach es X.env).length=n:=by rfl) (hst:(assignEach es X.env).findIdx? (·.1)=none:=by rfl):PG X (.Tuple es k pos) (HE K n t):=by
 subst hK;exact EQ hc h hn hst
section
variable {X:Cx}
theorem AF (hK:X.K=K):j5 X (binaryOp .Add) (DN K):=by subst hK;exact wW
theorem oO (l:Addr) (items:Array Value) (n:Nat) (x:Int) (u:Tok) (dd:Option Addr) (sl:Array (Option Value)) (c0:¬ (decide (x < -(2 ^ 63)) || decide (x ≥ 2 ^ 63))=true) (c1:¬ (items.isEmpty || x == 1)=true)
  (c2:(decide (x<=0) || items.isEmpty)=true) :
  Meets (Builtin.«tuple.__mul__» ⟨[.ref l,.int x u],[]⟩) (λ _ R s=>s.heap.get? l=some { cls:=.type "tuple",dict:=dd,data:=.seq items n,slots:=sl }/\
   R (.ok (.ret (.ref s.heap.objs.size))) { s with heap:=s.heap.push { cls:=.type "tuple",data:=.seq #[] } }):=
 .of_wp λ prog w A R s h=>by
  obtain⟨hp,g,d,tk,os⟩:=s;obtain⟨hl,h⟩:=h
  wp_walk
  rw[if_neg c0]
  wp_walk
  all_goals (try rw[if_neg c1])
  wp_walk
  all_goals (try rw[if_pos c2])
  wp_walk
  exact⟨_,rfl,h⟩
def DJ (K:aaa):R2:=λ x y H Q=>∃ (l:Addr) (k:Int) (xs:List V),x=.ref l/\y=.int k/\bH K H l xs/\0<=k/\k < 1000000/\xs≠[]/\xs.length<=10/\
 ∀ p H',aG H H'->bH K H' p (List.replicate k.toNat xs).flatten->Q (.ref p) H'
theorem CU:j5 X (binaryOp .Mult) (DJ X.K):=by
 intro pins s σ H x y v u Q I rx ry h;obtain⟨l,k,xs,rfl,rfl,hq,h1,h2,hne,hl10,q⟩:=h
 by_cases hk:1<=k
 ·exact wT pins s σ H _ _ v u Q I rx ry ⟨l,k,xs,rfl,rfl,hq,hk,h2,hne,hl10,q⟩
 ·have hk0:k=0:=by omega
  subst hk0;cases rx;obtain⟨t,rfl⟩:=ry;obtain⟨its,r,ht,z⟩:=I.tuple hq;have hlen:=r.length;obtain⟨⟨cls,dd,data,sl⟩,e,hc,n,hd⟩:=id ht;simp only at hc hd;subst hc hd;refine wpAny_binaryOp_repeat_ref (T := "tuple") (U := "int") (by decide) ⟨_,e,rfl⟩ (λ s'=>typeIs_int s' 0 t) i8 F.fills_int_mul F.slot_int_rmul lZ F.slot_int_index.lookup
   (call_meets F.slot_int_rmul (typeIs_int s 0 t) F.entry_int_rmul (F.args_int_rmul_2 _ _) (jP 0 t l its.toArray n dd sl) ⟨e,rfl,⟨_,e,rfl⟩,?_⟩)
  have hne':its≠[]:=λ z=>by rw[z] at hlen;exact hne (List.eq_nil_of_length_eq_zero hlen)
  have hemp:its.toArray.isEmpty=false:=by cases its with
   | nil=>exact absurd rfl hne'
   | cons a r=>rfl
  refine call_meets F.slot_tuple_mul ⟨_,e,rfl⟩ F.entry_tuple_mul (F.args_tuple_mul_2 _ _) (oO l its.toArray n 0 t dd sl (by decide) (by rw[hemp];decide) (by simp)) ⟨e,?_⟩;have I1:=I.laid (a:=s.heap.objs.size) (o:=.tup []) (h':=s.heap.push { cls:=.type "tuple",data:=.seq #[] }) (t':=s.toks)
   (λ _ _ q=>aac _ q) (aak _) ⟨aar _,[],.nil,⟨_,aai _ rfl,rfl,0,rfl⟩⟩
  exact⟨.ref _,_,I1,rfl,q _ _ (aG.new I.fresh) (bH.of aD)⟩
theorem A9 (hK:X.K=K):j5 X (binaryOp .Mult) (DJ K):=by subst hK;exact CU
end
section
variable {X:Cx}{pins:List (Addr×Obj)}{σ:St}{H:Hp}{s:Shared}
end
section
variable {H:Hp}
end
inductive G where
 | non
 | bl (b:Bool)
 | int (i:Int)
 | str (z:Str)
 | tup (gs:List G)
 | lst (gs:List G)
mutual
def aL (K:aaa) (H:Hp):G->V->Prop
 | .non,v=>v=.non
 | .bl b,v=>v=.bl b
 | .int i,v=>v=.int i
 | .str z,v=>v=.str z
 | .tup gs,v=>∃ a xs,v=.ref a/\bH K H a xs/\aQ K H gs xs
 | .lst gs,v=>∃ a xs,v=.ref a/\bV K H a xs/\aQ K H gs xs
def aQ (K:aaa) (H:Hp):List G->List V->Prop
 | [],vs=>vs=[]
 | g::gs,vs=>∃ v r,vs=v::r/\aL K H g v/\aQ K H gs r
end
mutual
def aS:G->G->Bool
 | .non,.non=>true
 | .bl a,.bl b=>a == b
 | .bl a,.int b=>(if a then 1 else 0) == b
 | .int a,.bl b=>a == (if b then 1 else 0)
 | .int a,.int b=>a == b
 | .str a,.str b=>a == b
 | .tup a,.tup b=>eK a b
 | .lst a,.lst b=>eK a b
 | _,_=>false
def eK:List G->List G->Bool
 | [],[]=>true
 | a::as,b::bs=>aS a b && eK as bs
 | _,_=>false
end
mutual
def cP:G->Nat
 | .tup gs=>cC gs+1
 | .lst gs=>cC gs+1
 | _=>0
def cC:List G->Nat
 | []=>0
 | g::gs=>max (cP g) (cC gs)
end
mutual
theorem mN:∀ g:G,aS g g=true
 | .non=>by rw[aS]
 | .bl b=>by rw[aS];simp
 | .int i=>by rw[aS];simp
 | .str z=>by rw[aS];simp
 | .tup gs=>by rw[aS];exact nM gs
 | .lst gs=>by rw[aS];exact nM gs
theorem nM:∀ gs:List G,eK gs gs=true
 | []=>by rw[eK]
 | g::gs=>by rw[eK,mN g,nM gs];rfl
end
theorem aQ.length {K:aaa}{H:Hp}:∀ {gs:List G}{xs:List V},aQ K H gs xs->xs.length=gs.length
 | [],_,h=>by rw[aQ] at h;subst h;rfl
 | g::gs,_,h=>by rw[aQ] at h;obtain⟨v,r,rfl,_,h⟩:=h;rw[abf,abf,aQ.length h]
theorem aQ.get {K:aaa}{H:Hp}:∀ {gs:List G}{xs:List V}{i:Nat}{g:G},aQ K H gs xs->gs[i]? = some g->∃ x,xs[i]? = some x/\aL K H g x
 | [],_,_,_,_,e=>by simp at e
 | g::gs,_,0,g',h,e=>by rw[aQ] at h;obtain⟨v,r,rfl,h1,_⟩:=h;simp at e;subst e;exact⟨v,by simp,h1⟩
 | g::gs,_,i+1,g',h,e=>by
  rw[aQ] at h;obtain⟨v,r,rfl,_,h⟩:=h;obtain⟨x,h1,h2⟩:=aQ.get h (i:=i) (by simpa using e);exact⟨x,by simpa using h1,h2⟩
theorem aQ.get' {K:aaa}{H:Hp}{gs:List G}{xs:List V}{i:Nat}{x:V} (h:aQ K H gs xs) (e:xs[i]? = some x):∃ g,gs[i]? = some g/\aL K H g x:=by
 have hi:=(aag.mp e).1;rw[h.length] at hi;obtain⟨x',h1,h2⟩:=h.get (i:=i) (g:=gs[i]) (by simp [hi]);rw[e] at h1;cases h1;exact⟨gs[i],by simp [hi],h2⟩
theorem aV {g:G}:∀ {gs:List G},g∈gs->cP g<=cC gs
 | [],h=>by cases h
 | a::gs,h=>by
  rw[cC];rcases abl.1 h with rfl | h
  ·omega
  ·have:=aV h;omega
def HL (gs hs:List G) (j:Nat):Bool:=match gs[j]?,hs[j]? with
 | some g,some h=>aS g h
 | _,_=>true
theorem jF (n:Nat) (e:Nat->Bool):(List.range (n+1)).all e=(e 0 && (List.range n).all λ j=>e (j+1)):=by
 rw[List.range_succ_eq_map,List.all_cons,List.all_map];rfl
theorem oJ:∀ (gs hs:List G),gs.length=hs.length->(List.range gs.length).all (HL gs hs)=eK gs hs
 | [],[],_=>by rw[eK];rfl
 | [],_::_,h=>by simp at h
 | _::_,[],h=>by simp at h
 | g::gs,h::hs,hl=>by
  rw[abf,jF,eK,<- oJ gs hs (by simpa using hl)];congr 1
theorem mR:∀ (gs hs:List G),((List.range (min gs.length hs.length)).all (HL gs hs) && gs.length == hs.length)=eK gs hs
 | [],[]=>by rw[eK];rfl
 | [],_::_=>by simp [eK]
 | _::_,[]=>by simp [eK]
 | g::gs,h::hs=>by
  have e1:min (g::gs).length (h::hs).length=min gs.length hs.length+1:=by rw[abf,abf];omega
  have e2:((g::gs).length == (h::hs).length)=(gs.length == hs.length):=by simp
  rw[e1,e2,jF,eK,<- mR gs hs,Bool.and_assoc];congr 1
theorem mO:∀ (gs hs:List G),gs.length≠hs.length->eK gs hs=false
 | [],[],h=>absurd rfl h
 | [],_::_,_=>by simp [eK]
 | _::_,[],_=>by simp [eK]
 | g::gs,h::hs,hl=>by rw[eK,mO gs hs (by simpa using hl),Bool.and_false]
theorem sQ {h:Heap}{a:Addr}{xs ys:Array Value} (h1:h.IsTuple a xs) (h2:h.IsTuple a ys):xs=ys:=by
 obtain⟨o,e,_,n,d⟩:=h1;obtain⟨o',e',_,n',d'⟩:=h2;rw[e] at e';cases e';rw[d] at d';injection d'
theorem u9 {h:Heap}{a:Addr}{xs ys:Array Value} (h1:h.IsList a xs) (h2:h.IsList a ys):xs=ys:=by
 obtain⟨o,e,_,n,d⟩:=h1;obtain⟨o',e',_,n',d'⟩:=h2;rw[e] at e';cases e';rw[d] at d';injection d'
section
variable {X:Cx}{pins:List (Addr×Obj)}{σ:St}{H:Hp}{s:Shared}
mutual
theorem wF (I:Inv X pins σ H s):∀ (g h:G) (x y:V) (u:Value),aL X.K H g x->aL X.K H h y->bM x u->bM y u->g=h
 | .non,h,x,y,u,hx,hy,rx,ry=>by
  rw[aL] at hx;subst hx;cases rx;cases h <;> rw[aL] at hy
  ·subst hy;cases ry
  ·subst hy;obtain⟨_,e⟩:=ry;cases e
  ·subst hy;obtain⟨_,e⟩:=ry;cases e
  ·obtain⟨_,_,rfl,_⟩:=hy;cases ry
  ·obtain⟨_,_,rfl,_⟩:=hy;cases ry
 | .bl b,h,x,y,u,hx,hy,rx,ry=>by
  rw[aL] at hx;subst hx;cases rx;cases h <;> rw[aL] at hy
  ·subst hy;cases ry
  ·subst hy;injection ry with e;rw[e]
  ·subst hy;obtain⟨_,e⟩:=ry;cases e
  ·subst hy;obtain⟨_,e⟩:=ry;cases e
  ·obtain⟨_,_,rfl,_⟩:=hy;cases ry
  ·obtain⟨_,_,rfl,_⟩:=hy;cases ry
 | .int b,h,x,y,u,hx,hy,rx,ry=>by
  rw[aL] at hx;subst hx;obtain⟨t,rfl⟩:=rx;cases h <;> rw[aL] at hy
  ·subst hy;cases ry
  ·subst hy;cases ry
  ·subst hy;obtain⟨_,e⟩:=ry;injection e with e;rw[e]
  ·subst hy;obtain⟨_,e⟩:=ry;cases e
  ·obtain⟨_,_,rfl,_⟩:=hy;cases ry
  ·obtain⟨_,_,rfl,_⟩:=hy;cases ry
 | .str b,h,x,y,u,hx,hy,rx,ry=>by
  rw[aL] at hx;subst hx;obtain⟨t,rfl⟩:=rx;cases h <;> rw[aL] at hy
  ·subst hy;cases ry
  ·subst hy;cases ry
  ·subst hy;obtain⟨_,e⟩:=ry;cases e
  ·subst hy;obtain⟨_,e⟩:=ry;injection e with e;rw[e]
  ·obtain⟨_,_,rfl,_⟩:=hy;cases ry
  ·obtain⟨_,_,rfl,_⟩:=hy;cases ry
 | .tup gs,h,x,y,u,hx,hy,rx,ry=>by
  rw[aL] at hx;obtain⟨a,xs,rfl,q1,l1⟩:=hx;cases rx;cases h <;> rw[aL] at hy
  ·subst hy;cases ry
  ·subst hy;cases ry
  ·subst hy;obtain⟨_,e⟩:=ry;cases e
  ·subst hy;obtain⟨_,e⟩:=ry;cases e
  ·obtain⟨b,ys,rfl,q2,l2⟩:=hy;cases ry;obtain⟨us,r1,p1,_⟩:=I.tuple q1;obtain⟨vs,r2,p2,_⟩:=I.tuple q2;have e:=sQ p1 p2;have e':us=vs:=by simpa using e
   subst e';rw[uR I gs _ xs ys us l1 l2 r1 r2]
  ·obtain⟨b,ys,rfl,q2,l2⟩:=hy;cases ry;obtain⟨us,r1,p1,_⟩:=I.tuple q1;obtain⟨vs,r2,p2,_⟩:=I.list q2;exact absurd rfl (SeqAt.ne_of_list_tuple p2.isList p1)
 | .lst gs,h,x,y,u,hx,hy,rx,ry=>by
  rw[aL] at hx;obtain⟨a,xs,rfl,q1,l1⟩:=hx;cases rx;cases h <;> rw[aL] at hy
  ·subst hy;cases ry
  ·subst hy;cases ry
  ·subst hy;obtain⟨_,e⟩:=ry;cases e
  ·subst hy;obtain⟨_,e⟩:=ry;cases e
  ·obtain⟨b,ys,rfl,q2,l2⟩:=hy;cases ry;obtain⟨us,r1,p1,_⟩:=I.list q1;obtain⟨vs,r2,p2,_⟩:=I.tuple q2;exact absurd rfl (SeqAt.ne_of_list_tuple p1.isList p2)
  ·obtain⟨b,ys,rfl,q2,l2⟩:=hy;cases ry;obtain⟨us,r1,p1,_⟩:=I.list q1;obtain⟨vs,r2,p2,_⟩:=I.list q2;have e:=u9 p1.isList p2.isList;have e':us=vs:=by simpa using e
   subst e';rw[uR I gs _ xs ys us l1 l2 r1 r2]
theorem uR (I:Inv X pins σ H s):∀ (gs hs:List G) (xs ys:List V) (us:List Value),aQ X.K H gs xs->aQ X.K H hs ys->bL xs us->bL ys us->gs=hs
 | [],hs,xs,ys,us,h1,h2,r1,r2=>by
  rw[aQ] at h1;subst h1;cases r1;cases r2;cases hs with
  | nil=>rfl
  | cons h hs=>rw[aQ] at h2;obtain⟨_,_,e,_⟩:=h2;cases e
 | g::gs,hs,xs,ys,us,h1,h2,r1,r2=>by
  rw[aQ] at h1;obtain⟨x,r,rfl,i1,l1⟩:=h1;cases r1 with
  | cons ra rb=>
   cases hs with
   | nil=>rw[aQ] at h2;subst h2;cases r2
   | cons h hs=>
    rw[aQ] at h2;obtain⟨y,r',rfl,i2,l2⟩:=h2;cases r2 with
    | cons ra' rb'=>rw[wF I g h _ _ _ i1 i2 ra ra',uR I gs hs _ _ _ l1 l2 rb rb']
end
theorem xF {us:List Value}{j:Nat}{w:Value} (h1:j < us.toArray.size) (h:us[j]? = some w):us.toArray[j]=w:=by
 have:us[j]? = some us.toArray[j]:=by simp
 rw[this] at h;exact abn h
theorem kD {n:Nat}{gs hs:List G}{xs ys:List V}{us vs:List Value}{A:Around}
  (ih:∀ (g h:G) (x y:V) (u v:Value),g∈gs->aL X.K H g x->aL X.K H h y->bM x u->bM y v->SeqAt.EqAt A s u v (aS g h))
  (l1:aQ X.K H gs xs) (l2:aQ X.K H hs ys) (r1:bL xs us) (r2:bL ys vs) (j:Nat) (h1:j < us.toArray.size) (h2:j < vs.toArray.size):SeqAt.EqAt A s us.toArray[j] vs.toArray[j] (HL gs hs j):=by
 have e1:=r1.length;have e2:=r2.length;have e3:=l1.length;have e4:=l2.length;have j1:j < gs.length:=by rw[<- e3,e1];simpa using h1
 have j2:j < hs.length:=by rw[<- e4,e2];simpa using h2
 obtain⟨x,gx,ix⟩:=l1.get (i:=j) (g:=gs[j]) (by simp);obtain⟨y,gy,iy⟩:=l2.get (i:=j) (g:=hs[j]) (by simp);obtain⟨w1,g1,t1⟩:=r1.get gx;obtain⟨w2,g2,t2⟩:=r2.get gy;rw[xF h1 g1,xF h2 g2];have:HL gs hs j=aS gs[j] hs[j]:=by unfold HL;simp [j1,j2]
 rw[this];exact ih _ _ x y w1 w2 (abx j1) ix iy t1 t2
theorem pT (I:Inv X pins σ H s):∀ (n:Nat) (g h:G) (A:Around) (x y:V) (u v:Value),cP g<=n->A.units+n < cLine->aL X.K H g x->aL X.K H h y->bM x u->bM y v->SeqAt.EqAt A s u v (aS g h)
 | n,.non,.non,A,x,y,u,v,hd,hu,hx,hy,rx,ry=>by
  rw[aL] at hx;subst hx;cases rx;rw[aL] at hy;subst hy;cases ry;rw[aS];exact SeqAt.EqAt.same _
 | n,.non,.bl gy,A,x,y,u,v,hd,hu,hx,hy,rx,ry=>by
  rw[aL] at hx;subst hx;cases rx;rw[aL] at hy;subst hy;cases ry;rw[show aS (.non) (.bl gy)=false from by simp [aS]];exact SeqAt.EqAt.none_bool gy
 | n,.non,.int gy,A,x,y,u,v,hd,hu,hx,hy,rx,ry=>by
  rw[aL] at hx;subst hx;cases rx;rw[aL] at hy;subst hy;obtain⟨ty,rfl⟩:=ry;rw[show aS (.non) (.int gy)=false from by simp [aS]];exact SeqAt.EqAt.none_int gy ty
 | n,.non,.str gy,A,x,y,u,v,hd,hu,hx,hy,rx,ry=>by
  rw[aL] at hx;subst hx;cases rx;rw[aL] at hy;subst hy;obtain⟨ty,rfl⟩:=ry;rw[show aS (.non) (.str gy)=false from by simp [aS]];exact SeqAt.EqAt.none_str gy ty
 | n,.non,.tup gy,A,x,y,u,v,hd,hu,hx,hy,rx,ry=>by
  rw[aL] at hx;subst hx;cases rx;rw[aL] at hy;obtain⟨ay,xsy,rfl,qy,ly⟩:=hy;cases ry;obtain⟨usy,vy,py,_⟩:=I.tuple qy;rw[show aS (.non) (.tup gy)=false from by simp [aS]];exact SeqAt.EqAt.none_tuple py (by omega)
 | n,.non,.lst gy,A,x,y,u,v,hd,hu,hx,hy,rx,ry=>by
  rw[aL] at hx;subst hx;cases rx;rw[aL] at hy;obtain⟨ay,xsy,rfl,qy,ly⟩:=hy;cases ry;obtain⟨usy,vy,py,_⟩:=I.list qy;rw[show aS (.non) (.lst gy)=false from by simp [aS]];exact SeqAt.EqAt.none_list py.isList (by omega)
 | n,.bl gx,.non,A,x,y,u,v,hd,hu,hx,hy,rx,ry=>by
  rw[aL] at hx;subst hx;cases rx;rw[aL] at hy;subst hy;cases ry;rw[show aS (.bl gx) (.non)=false from by simp [aS]];exact SeqAt.EqAt.bool_none gx
 | n,.bl gx,.bl gy,A,x,y,u,v,hd,hu,hx,hy,rx,ry=>by
  rw[aL] at hx;subst hx;cases rx;rw[aL] at hy;subst hy;cases ry;rw[aS];exact SeqAt.EqAt.bool_bool gx gy
 | n,.bl gx,.int gy,A,x,y,u,v,hd,hu,hx,hy,rx,ry=>by
  rw[aL] at hx;subst hx;cases rx;rw[aL] at hy;subst hy;obtain⟨ty,rfl⟩:=ry;rw[aS];exact SeqAt.EqAt.bool_int gx gy ty
 | n,.bl gx,.str gy,A,x,y,u,v,hd,hu,hx,hy,rx,ry=>by
  rw[aL] at hx;subst hx;cases rx;rw[aL] at hy;subst hy;obtain⟨ty,rfl⟩:=ry;rw[show aS (.bl gx) (.str gy)=false from by simp [aS]];exact SeqAt.EqAt.bool_str gx gy ty
 | n,.bl gx,.tup gy,A,x,y,u,v,hd,hu,hx,hy,rx,ry=>by
  rw[aL] at hx;subst hx;cases rx;rw[aL] at hy;obtain⟨ay,xsy,rfl,qy,ly⟩:=hy;cases ry;obtain⟨usy,vy,py,_⟩:=I.tuple qy;rw[show aS (.bl gx) (.tup gy)=false from by simp [aS]];exact SeqAt.EqAt.bool_tuple gx py (by omega)
 | n,.bl gx,.lst gy,A,x,y,u,v,hd,hu,hx,hy,rx,ry=>by
  rw[aL] at hx;subst hx;cases rx;rw[aL] at hy;obtain⟨ay,xsy,rfl,qy,ly⟩:=hy;cases ry;obtain⟨usy,vy,py,_⟩:=I.list qy;rw[show aS (.bl gx) (.lst gy)=false from by simp [aS]];exact SeqAt.EqAt.bool_list gx py.isList (by omega)
 | n,.int gx,.non,A,x,y,u,v,hd,hu,hx,hy,rx,ry=>by
  rw[aL] at hx;subst hx;obtain⟨tx,rfl⟩:=rx;rw[aL] at hy;subst hy;cases ry;rw[show aS (.int gx) (.non)=false from by simp [aS]];exact SeqAt.EqAt.int_none gx tx
 | n,.int gx,.bl gy,A,x,y,u,v,hd,hu,hx,hy,rx,ry=>by
  rw[aL] at hx;subst hx;obtain⟨tx,rfl⟩:=rx;rw[aL] at hy;subst hy;cases ry;rw[aS];exact SeqAt.EqAt.int_bool gx tx gy
 | n,.int gx,.int gy,A,x,y,u,v,hd,hu,hx,hy,rx,ry=>by
  rw[aL] at hx;subst hx;obtain⟨tx,rfl⟩:=rx;rw[aL] at hy;subst hy;obtain⟨ty,rfl⟩:=ry;rw[aS];exact SeqAt.EqAt.int_int gx tx gy ty
 | n,.int gx,.str gy,A,x,y,u,v,hd,hu,hx,hy,rx,ry=>by
  rw[aL] at hx;subst hx;obtain⟨tx,rfl⟩:=rx;rw[aL] at hy;subst hy;obtain⟨ty,rfl⟩:=ry;rw[show aS (.int gx) (.str gy)=false from by simp [aS]];exact SeqAt.EqAt.int_str gx tx gy ty
 | n,.int gx,.tup gy,A,x,y,u,v,hd,hu,hx,hy,rx,ry=>by
  rw[aL] at hx;subst hx;obtain⟨tx,rfl⟩:=rx;rw[aL] at hy;obtain⟨ay,xsy,rfl,qy,ly⟩:=hy;cases ry;obtain⟨usy,vy,py,_⟩:=I.tuple qy;rw[show aS (.int gx) (.tup gy)=false from by simp [aS]];exact SeqAt.EqAt.int_tuple gx tx py (by omega)
 | n,.int gx,.lst gy,A,x,y,u,v,hd,hu,hx,hy,rx,ry=>by
  rw[aL] at hx;subst hx;obtain⟨tx,rfl⟩:=rx;rw[aL] at hy;obtain⟨ay,xsy,rfl,qy,ly⟩:=hy;cases ry;obtain⟨usy,vy,py,_⟩:=I.list qy;rw[show aS (.int gx) (.lst gy)=false from by simp [aS]];exact SeqAt.EqAt.int_list gx tx py.isList (by omega)
 | n,.str gx,.non,A,x,y,u,v,hd,hu,hx,hy,rx,ry=>by
  rw[aL] at hx;subst hx;obtain⟨tx,rfl⟩:=rx;rw[aL] at hy;subst hy;cases ry;rw[show aS (.str gx) (.non)=false from by simp [aS]];exact SeqAt.EqAt.str_none gx tx
 | n,.str gx,.bl gy,A,x,y,u,v,hd,hu,hx,hy,rx,ry=>by
  rw[aL] at hx;subst hx;obtain⟨tx,rfl⟩:=rx;rw[aL] at hy;subst hy;cases ry;rw[show aS (.str gx) (.bl gy)=false from by simp [aS]];exact SeqAt.EqAt.str_bool gx tx gy
 | n,.str gx,.int gy,A,x,y,u,v,hd,hu,hx,hy,rx,ry=>by
  rw[aL] at hx;subst hx;obtain⟨tx,rfl⟩:=rx;rw[aL] at hy;subst hy;obtain⟨ty,rfl⟩:=ry;rw[show aS (.str gx) (.int gy)=false from by simp [aS]];exact SeqAt.EqAt.str_int gx tx gy ty
 | n,.str gx,.str gy,A,x,y,u,v,hd,hu,hx,hy,rx,ry=>by
  rw[aL] at hx;subst hx;obtain⟨tx,rfl⟩:=rx;rw[aL] at hy;subst hy;obtain⟨ty,rfl⟩:=ry;rw[aS];exact SeqAt.EqAt.str_str gx tx gy ty
 | n,.str gx,.tup gy,A,x,y,u,v,hd,hu,hx,hy,rx,ry=>by
  rw[aL] at hx;subst hx;obtain⟨tx,rfl⟩:=rx;rw[aL] at hy;obtain⟨ay,xsy,rfl,qy,ly⟩:=hy;cases ry;obtain⟨usy,vy,py,_⟩:=I.tuple qy;rw[show aS (.str gx) (.tup gy)=false from by simp [aS]];exact SeqAt.EqAt.str_tuple gx tx py (by omega)
 | n,.str gx,.lst gy,A,x,y,u,v,hd,hu,hx,hy,rx,ry=>by
  rw[aL] at hx;subst hx;obtain⟨tx,rfl⟩:=rx;rw[aL] at hy;obtain⟨ay,xsy,rfl,qy,ly⟩:=hy;cases ry;obtain⟨usy,vy,py,_⟩:=I.list qy;rw[show aS (.str gx) (.lst gy)=false from by simp [aS]];exact SeqAt.EqAt.str_list gx tx py.isList (by omega)
 | n,.tup gx,.non,A,x,y,u,v,hd,hu,hx,hy,rx,ry=>by
  rw[aL] at hx;obtain⟨ax,xsx,rfl,qx,lx⟩:=hx;cases rx;obtain⟨usx,vx,px,_⟩:=I.tuple qx;rw[aL] at hy;subst hy;cases ry;rw[show aS (.tup gx) (.non)=false from by simp [aS]];exact SeqAt.EqAt.tuple_none px (by omega)
 | n,.tup gx,.bl gy,A,x,y,u,v,hd,hu,hx,hy,rx,ry=>by
  rw[aL] at hx;obtain⟨ax,xsx,rfl,qx,lx⟩:=hx;cases rx;obtain⟨usx,vx,px,_⟩:=I.tuple qx;rw[aL] at hy;subst hy;cases ry;rw[show aS (.tup gx) (.bl gy)=false from by simp [aS]];exact SeqAt.EqAt.tuple_bool gy px (by omega)
 | n,.tup gx,.int gy,A,x,y,u,v,hd,hu,hx,hy,rx,ry=>by
  rw[aL] at hx;obtain⟨ax,xsx,rfl,qx,lx⟩:=hx;cases rx;obtain⟨usx,vx,px,_⟩:=I.tuple qx;rw[aL] at hy;subst hy;obtain⟨ty,rfl⟩:=ry;rw[show aS (.tup gx) (.int gy)=false from by simp [aS]];exact SeqAt.EqAt.tuple_int gy ty px (by omega)
 | n,.tup gx,.str gy,A,x,y,u,v,hd,hu,hx,hy,rx,ry=>by
  rw[aL] at hx;obtain⟨ax,xsx,rfl,qx,lx⟩:=hx;cases rx;obtain⟨usx,vx,px,_⟩:=I.tuple qx;rw[aL] at hy;subst hy;obtain⟨ty,rfl⟩:=ry;rw[show aS (.tup gx) (.str gy)=false from by simp [aS]];exact SeqAt.EqAt.tuple_str gy ty px (by omega)
 | 0,.tup gx,.tup gy,A,x,y,u,v,hd,_,_,_,_,_=>by rw[cP] at hd;omega
 | n+1,.tup gx,.tup gy,A,x,y,u,v,hd,hu,hx,hy,rx,ry=>by
  rw[aL] at hx;obtain⟨ax,xsx,rfl,qx,lx⟩:=hx;cases rx;obtain⟨usx,vx,px,_⟩:=I.tuple qx;rw[aL] at hy;obtain⟨ay,xsy,rfl,qy,ly⟩:=hy;cases ry;obtain⟨usy,vy,py,_⟩:=I.tuple qy
  by_cases hab:ax=ay
  ·subst hab;have e:=wF I (.tup gx) (.tup gy) (.ref ax) (.ref ax) _ (by rw[aL];exact⟨_,_,rfl,qx,lx⟩) (by rw[aL];exact⟨_,_,rfl,qy,ly⟩) rfl rfl;rw[e,mN];exact SeqAt.EqAt.same _
  have e1:=vx.length;have e2:=vy.length;have e3:=lx.length;have e4:=ly.length;rw[show aS (.tup gx) (.tup gy)=eK gx gy from by rw[aS],<- mR gx gy];have ex:gx.length=usx.toArray.size:=by rw[<- e3,e1,aaf]
  have ey:gy.length=usy.toArray.size:=by rw[<- e4,e2,aaf]
  rw[ex,ey];refine SeqAt.EqAt.of_refs hab ?_;exact SeqAt.RcAt.tuples px py (by omega) (λ j h1 h2=>kD (n:=0) (λ g h x y u v hm ix iy tx ty=>pT I n g h A.in1 x y u v (by have:=aV hm;rw[cP] at hd;omega) (by show A.units+1+n < cLine;omega) ix iy tx ty) lx ly vx vy j h1 h2)
 | n,.tup gx,.lst gy,A,x,y,u,v,hd,hu,hx,hy,rx,ry=>by
  rw[aL] at hx;obtain⟨ax,xsx,rfl,qx,lx⟩:=hx;cases rx;obtain⟨usx,vx,px,_⟩:=I.tuple qx;rw[aL] at hy;obtain⟨ay,xsy,rfl,qy,ly⟩:=hy;cases ry;obtain⟨usy,vy,py,_⟩:=I.list qy;rw[show aS (.tup gx) (.lst gy)=false from by simp [aS]];exact SeqAt.EqAt.tuple_list px py.isList (by omega)
 | n,.lst gx,.non,A,x,y,u,v,hd,hu,hx,hy,rx,ry=>by
  rw[aL] at hx;obtain⟨ax,xsx,rfl,qx,lx⟩:=hx;cases rx;obtain⟨usx,vx,px,_⟩:=I.list qx;rw[aL] at hy;subst hy;cases ry;rw[show aS (.lst gx) (.non)=false from by simp [aS]];exact SeqAt.EqAt.list_none px.isList (by omega)
 | n,.lst gx,.bl gy,A,x,y,u,v,hd,hu,hx,hy,rx,ry=>by
  rw[aL] at hx;obtain⟨ax,xsx,rfl,qx,lx⟩:=hx;cases rx;obtain⟨usx,vx,px,_⟩:=I.list qx;rw[aL] at hy;subst hy;cases ry;rw[show aS (.lst gx) (.bl gy)=false from by simp [aS]];exact SeqAt.EqAt.list_bool gy px.isList (by omega)
 | n,.lst gx,.int gy,A,x,y,u,v,hd,hu,hx,hy,rx,ry=>by
  rw[aL] at hx;obtain⟨ax,xsx,rfl,qx,lx⟩:=hx;cases rx;obtain⟨usx,vx,px,_⟩:=I.list qx;rw[aL] at hy;subst hy;obtain⟨ty,rfl⟩:=ry;rw[show aS (.lst gx) (.int gy)=false from by simp [aS]];exact SeqAt.EqAt.list_int gy ty px.isList (by omega)
 | n,.lst gx,.str gy,A,x,y,u,v,hd,hu,hx,hy,rx,ry=>by
  rw[aL] at hx;obtain⟨ax,xsx,rfl,qx,lx⟩:=hx;cases rx;obtain⟨usx,vx,px,_⟩:=I.list qx;rw[aL] at hy;subst hy;obtain⟨ty,rfl⟩:=ry;rw[show aS (.lst gx) (.str gy)=false from by simp [aS]];exact SeqAt.EqAt.list_str gy ty px.isList (by omega)
 | n,.lst gx,.tup gy,A,x,y,u,v,hd,hu,hx,hy,rx,ry=>by
  rw[aL] at hx;obtain⟨ax,xsx,rfl,qx,lx⟩:=hx;cases rx;obtain⟨usx,vx,px,_⟩:=I.list qx;rw[aL] at hy;obtain⟨ay,xsy,rfl,qy,ly⟩:=hy;cases ry;obtain⟨usy,vy,py,_⟩:=I.tuple qy;rw[show aS (.lst gx) (.tup gy)=false from by simp [aS]];exact SeqAt.EqAt.list_tuple px.isList py (by omega)
 | 0,.lst gx,.lst gy,A,x,y,u,v,hd,_,_,_,_,_=>by rw[cP] at hd;omega
 | n+1,.lst gx,.lst gy,A,x,y,u,v,hd,hu,hx,hy,rx,ry=>by
  rw[aL] at hx;obtain⟨ax,xsx,rfl,qx,lx⟩:=hx;cases rx;obtain⟨usx,vx,px,_⟩:=I.list qx;rw[aL] at hy;obtain⟨ay,xsy,rfl,qy,ly⟩:=hy;cases ry;obtain⟨usy,vy,py,_⟩:=I.list qy
  by_cases hab:ax=ay
  ·subst hab;have e:=wF I (.lst gx) (.lst gy) (.ref ax) (.ref ax) _ (by rw[aL];exact⟨_,_,rfl,qx,lx⟩) (by rw[aL];exact⟨_,_,rfl,qy,ly⟩) rfl rfl;rw[e,mN];exact SeqAt.EqAt.same _
  have e1:=vx.length;have e2:=vy.length;have e3:=lx.length;have e4:=ly.length;rw[show aS (.lst gx) (.lst gy)=eK gx gy from by rw[aS]];have ex:gx.length=usx.toArray.size:=by rw[<- e3,e1,aaf]
  have ey:gy.length=usy.toArray.size:=by rw[<- e4,e2,aaf]
  by_cases hl:gx.length=gy.length
  ·rw[<- oJ gx gy hl,ex];refine SeqAt.EqAt.of_refs hab ?_;exact SeqAt.RcAt.lists px.isList py.isList (by omega) (by omega) (λ j h1 h2=>kD (n:=0) (λ g h x y u v hm ix iy tx ty=>pT I n g h A.in1 x y u v (by have:=aV hm;rw[cP] at hd;omega) (by show A.units+1+n < cLine;omega) ix iy tx ty) lx ly vx vy j h1 h2)
  ·rw[mO gx gy hl];refine SeqAt.EqAt.of_refs hab ?_;exact SeqAt.RcAt.lists_lengths px.isList py.isList (by rw[<- ex,<- ey];simpa using hl) (by omega)
theorem rcG (I:Inv X pins σ H s) {A:Around} (hu:A.units+40 < cLine):∀ (g h:G) (x y:V) (u v:Value),cP g<=30->aL X.K H g x->aL X.K H h y->bM x u->bM y v->SeqAt.RcAt A s u v (aS g h)
 | .non,.non,x,y,u,v,hd,hx,hy,rx,ry=>by
  rw[aL] at hx;subst hx;cases rx;rw[aL] at hy;subst hy;cases ry;rw[aS];exact SeqAt.RcAt.none_none
 | .non,.bl gy,x,y,u,v,hd,hx,hy,rx,ry=>by
  rw[aL] at hx;subst hx;cases rx;rw[aL] at hy;subst hy;cases ry;rw[show aS (.non) (.bl gy)=false from by simp [aS]];exact SeqAt.RcAt.none_bool gy
 | .non,.int gy,x,y,u,v,hd,hx,hy,rx,ry=>by
  rw[aL] at hx;subst hx;cases rx;rw[aL] at hy;subst hy;obtain⟨ty,rfl⟩:=ry;rw[show aS (.non) (.int gy)=false from by simp [aS]];exact SeqAt.RcAt.none_int gy ty
 | .non,.str gy,x,y,u,v,hd,hx,hy,rx,ry=>by
  rw[aL] at hx;subst hx;cases rx;rw[aL] at hy;subst hy;obtain⟨ty,rfl⟩:=ry;rw[show aS (.non) (.str gy)=false from by simp [aS]];exact SeqAt.RcAt.none_str gy ty
 | .non,.tup gy,x,y,u,v,hd,hx,hy,rx,ry=>by
  rw[aL] at hx;subst hx;cases rx;rw[aL] at hy;obtain⟨ay,xsy,rfl,qy,ly⟩:=hy;cases ry;obtain⟨usy,vy,py,_⟩:=I.tuple qy;rw[show aS (.non) (.tup gy)=false from by simp [aS]];exact SeqAt.RcAt.none_tuple py (by omega)
 | .non,.lst gy,x,y,u,v,hd,hx,hy,rx,ry=>by
  rw[aL] at hx;subst hx;cases rx;rw[aL] at hy;obtain⟨ay,xsy,rfl,qy,ly⟩:=hy;cases ry;obtain⟨usy,vy,py,_⟩:=I.list qy;rw[show aS (.non) (.lst gy)=false from by simp [aS]];exact SeqAt.RcAt.none_list py.isList (by omega)
 | .bl gx,.non,x,y,u,v,hd,hx,hy,rx,ry=>by
  rw[aL] at hx;subst hx;cases rx;rw[aL] at hy;subst hy;cases ry;rw[show aS (.bl gx) (.non)=false from by simp [aS]];exact SeqAt.RcAt.bool_none gx
 | .bl gx,.bl gy,x,y,u,v,hd,hx,hy,rx,ry=>by
  rw[aL] at hx;subst hx;cases rx;rw[aL] at hy;subst hy;cases ry;rw[aS];exact SeqAt.RcAt.bool_bool gx gy
 | .bl gx,.int gy,x,y,u,v,hd,hx,hy,rx,ry=>by
  rw[aL] at hx;subst hx;cases rx;rw[aL] at hy;subst hy;obtain⟨ty,rfl⟩:=ry;rw[aS];exact SeqAt.RcAt.bool_int gx gy ty
 | .bl gx,.str gy,x,y,u,v,hd,hx,hy,rx,ry=>by
  rw[aL] at hx;subst hx;cases rx;rw[aL] at hy;subst hy;obtain⟨ty,rfl⟩:=ry;rw[show aS (.bl gx) (.str gy)=false from by simp [aS]];exact SeqAt.RcAt.bool_str gx gy ty
 | .bl gx,.tup gy,x,y,u,v,hd,hx,hy,rx,ry=>by
  rw[aL] at hx;subst hx;cases rx;rw[aL] at hy;obtain⟨ay,xsy,rfl,qy,ly⟩:=hy;cases ry;obtain⟨usy,vy,py,_⟩:=I.tuple qy;rw[show aS (.bl gx) (.tup gy)=false from by simp [aS]];exact SeqAt.RcAt.bool_tuple gx py (by omega)
 | .bl gx,.lst gy,x,y,u,v,hd,hx,hy,rx,ry=>by
  rw[aL] at hx;subst hx;cases rx;rw[aL] at hy;obtain⟨ay,xsy,rfl,qy,ly⟩:=hy;cases ry;obtain⟨usy,vy,py,_⟩:=I.list qy;rw[show aS (.bl gx) (.lst gy)=false from by simp [aS]];exact SeqAt.RcAt.bool_list gx py.isList (by omega)
 | .int gx,.non,x,y,u,v,hd,hx,hy,rx,ry=>by
  rw[aL] at hx;subst hx;obtain⟨tx,rfl⟩:=rx;rw[aL] at hy;subst hy;cases ry;rw[show aS (.int gx) (.non)=false from by simp [aS]];exact SeqAt.RcAt.int_none gx tx
 | .int gx,.bl gy,x,y,u,v,hd,hx,hy,rx,ry=>by
  rw[aL] at hx;subst hx;obtain⟨tx,rfl⟩:=rx;rw[aL] at hy;subst hy;cases ry;rw[aS];exact SeqAt.RcAt.int_bool gx tx gy
 | .int gx,.int gy,x,y,u,v,hd,hx,hy,rx,ry=>by
  rw[aL] at hx;subst hx;obtain⟨tx,rfl⟩:=rx;rw[aL] at hy;subst hy;obtain⟨ty,rfl⟩:=ry;rw[aS];exact SeqAt.RcAt.int_int gx tx gy ty
 | .int gx,.str gy,x,y,u,v,hd,hx,hy,rx,ry=>by
  rw[aL] at hx;subst hx;obtain⟨tx,rfl⟩:=rx;rw[aL] at hy;subst hy;obtain⟨ty,rfl⟩:=ry;rw[show aS (.int gx) (.str gy)=false from by simp [aS]];exact SeqAt.RcAt.int_str gx tx gy ty
 | .int gx,.tup gy,x,y,u,v,hd,hx,hy,rx,ry=>by
  rw[aL] at hx;subst hx;obtain⟨tx,rfl⟩:=rx;rw[aL] at hy;obtain⟨ay,xsy,rfl,qy,ly⟩:=hy;cases ry;obtain⟨usy,vy,py,_⟩:=I.tuple qy;rw[show aS (.int gx) (.tup gy)=false from by simp [aS]];exact SeqAt.RcAt.int_tuple gx tx py (by omega)
 | .int gx,.lst gy,x,y,u,v,hd,hx,hy,rx,ry=>by
  rw[aL] at hx;subst hx;obtain⟨tx,rfl⟩:=rx;rw[aL] at hy;obtain⟨ay,xsy,rfl,qy,ly⟩:=hy;cases ry;obtain⟨usy,vy,py,_⟩:=I.list qy;rw[show aS (.int gx) (.lst gy)=false from by simp [aS]];exact SeqAt.RcAt.int_list gx tx py.isList (by omega)
 | .str gx,.non,x,y,u,v,hd,hx,hy,rx,ry=>by
  rw[aL] at hx;subst hx;obtain⟨tx,rfl⟩:=rx;rw[aL] at hy;subst hy;cases ry;rw[show aS (.str gx) (.non)=false from by simp [aS]];exact SeqAt.RcAt.str_none gx tx
 | .str gx,.bl gy,x,y,u,v,hd,hx,hy,rx,ry=>by
  rw[aL] at hx;subst hx;obtain⟨tx,rfl⟩:=rx;rw[aL] at hy;subst hy;cases ry;rw[show aS (.str gx) (.bl gy)=false from by simp [aS]];exact SeqAt.RcAt.str_bool gx tx gy
 | .str gx,.int gy,x,y,u,v,hd,hx,hy,rx,ry=>by
  rw[aL] at hx;subst hx;obtain⟨tx,rfl⟩:=rx;rw[aL] at hy;subst hy;obtain⟨ty,rfl⟩:=ry;rw[show aS (.str gx) (.int gy)=false from by simp [aS]];exact SeqAt.RcAt.str_int gx tx gy ty
 | .str gx,.str gy,x,y,u,v,hd,hx,hy,rx,ry=>by
  rw[aL] at hx;subst hx;obtain⟨tx,rfl⟩:=rx;rw[aL] at hy;subst hy;obtain⟨ty,rfl⟩:=ry;rw[aS];exact SeqAt.RcAt.str_str gx tx gy ty
 | .str gx,.tup gy,x,y,u,v,hd,hx,hy,rx,ry=>by
  rw[aL] at hx;subst hx;obtain⟨tx,rfl⟩:=rx;rw[aL] at hy;obtain⟨ay,xsy,rfl,qy,ly⟩:=hy;cases ry;obtain⟨usy,vy,py,_⟩:=I.tuple qy;rw[show aS (.str gx) (.tup gy)=false from by simp [aS]];exact SeqAt.RcAt.str_tuple gx tx py (by omega)
 | .str gx,.lst gy,x,y,u,v,hd,hx,hy,rx,ry=>by
  rw[aL] at hx;subst hx;obtain⟨tx,rfl⟩:=rx;rw[aL] at hy;obtain⟨ay,xsy,rfl,qy,ly⟩:=hy;cases ry;obtain⟨usy,vy,py,_⟩:=I.list qy;rw[show aS (.str gx) (.lst gy)=false from by simp [aS]];exact SeqAt.RcAt.str_list gx tx py.isList (by omega)
 | .tup gx,.non,x,y,u,v,hd,hx,hy,rx,ry=>by
  rw[aL] at hx;obtain⟨ax,xsx,rfl,qx,lx⟩:=hx;cases rx;obtain⟨usx,vx,px,_⟩:=I.tuple qx;rw[aL] at hy;subst hy;cases ry;rw[show aS (.tup gx) (.non)=false from by simp [aS]];exact SeqAt.RcAt.tuple_none px (by omega)
 | .tup gx,.bl gy,x,y,u,v,hd,hx,hy,rx,ry=>by
  rw[aL] at hx;obtain⟨ax,xsx,rfl,qx,lx⟩:=hx;cases rx;obtain⟨usx,vx,px,_⟩:=I.tuple qx;rw[aL] at hy;subst hy;cases ry;rw[show aS (.tup gx) (.bl gy)=false from by simp [aS]];exact SeqAt.RcAt.tuple_bool gy px (by omega)
 | .tup gx,.int gy,x,y,u,v,hd,hx,hy,rx,ry=>by
  rw[aL] at hx;obtain⟨ax,xsx,rfl,qx,lx⟩:=hx;cases rx;obtain⟨usx,vx,px,_⟩:=I.tuple qx;rw[aL] at hy;subst hy;obtain⟨ty,rfl⟩:=ry;rw[show aS (.tup gx) (.int gy)=false from by simp [aS]];exact SeqAt.RcAt.tuple_int gy ty px (by omega)
 | .tup gx,.str gy,x,y,u,v,hd,hx,hy,rx,ry=>by
  rw[aL] at hx;obtain⟨ax,xsx,rfl,qx,lx⟩:=hx;cases rx;obtain⟨usx,vx,px,_⟩:=I.tuple qx;rw[aL] at hy;subst hy;obtain⟨ty,rfl⟩:=ry;rw[show aS (.tup gx) (.str gy)=false from by simp [aS]];exact SeqAt.RcAt.tuple_str gy ty px (by omega)
 | .tup gx,.tup gy,x,y,u,v,hd,hx,hy,rx,ry=>by
  rw[aL] at hx;obtain⟨ax,xsx,rfl,qx,lx⟩:=hx;cases rx;obtain⟨usx,vx,px,_⟩:=I.tuple qx;rw[aL] at hy;obtain⟨ay,xsy,rfl,qy,ly⟩:=hy;cases ry;obtain⟨usy,vy,py,_⟩:=I.tuple qy;have e1:=vx.length;have e2:=vy.length;have e3:=lx.length;have e4:=ly.length;rw[show aS (.tup gx) (.tup gy)=eK gx gy from by rw[aS],<- mR gx gy];have ex:gx.length=usx.toArray.size:=by rw[<- e3,e1,aaf]
  have ey:gy.length=usy.toArray.size:=by rw[<- e4,e2,aaf]
  rw[ex,ey];exact SeqAt.RcAt.tuples px py (by omega) (λ j h1 h2=>kD (n:=0) (λ g h x y u v hm ix iy tx ty=>pT I 30 g h A.in1 x y u v (by have:=aV hm;rw[cP] at hd;omega) (by show A.units+1+30 < cLine;omega) ix iy tx ty) lx ly vx vy j h1 h2)
 | .tup gx,.lst gy,x,y,u,v,hd,hx,hy,rx,ry=>by
  rw[aL] at hx;obtain⟨ax,xsx,rfl,qx,lx⟩:=hx;cases rx;obtain⟨usx,vx,px,_⟩:=I.tuple qx;rw[aL] at hy;obtain⟨ay,xsy,rfl,qy,ly⟩:=hy;cases ry;obtain⟨usy,vy,py,_⟩:=I.list qy;rw[show aS (.tup gx) (.lst gy)=false from by simp [aS]];exact SeqAt.RcAt.tuple_list px py.isList (by omega)
 | .lst gx,.non,x,y,u,v,hd,hx,hy,rx,ry=>by
  rw[aL] at hx;obtain⟨ax,xsx,rfl,qx,lx⟩:=hx;cases rx;obtain⟨usx,vx,px,_⟩:=I.list qx;rw[aL] at hy;subst hy;cases ry;rw[show aS (.lst gx) (.non)=false from by simp [aS]];exact SeqAt.RcAt.list_none px.isList (by omega)
 | .lst gx,.bl gy,x,y,u,v,hd,hx,hy,rx,ry=>by
  rw[aL] at hx;obtain⟨ax,xsx,rfl,qx,lx⟩:=hx;cases rx;obtain⟨usx,vx,px,_⟩:=I.list qx;rw[aL] at hy;subst hy;cases ry;rw[show aS (.lst gx) (.bl gy)=false from by simp [aS]];exact SeqAt.RcAt.list_bool gy px.isList (by omega)
 | .lst gx,.int gy,x,y,u,v,hd,hx,hy,rx,ry=>by
  rw[aL] at hx;obtain⟨ax,xsx,rfl,qx,lx⟩:=hx;cases rx;obtain⟨usx,vx,px,_⟩:=I.list qx;rw[aL] at hy;subst hy;obtain⟨ty,rfl⟩:=ry;rw[show aS (.lst gx) (.int gy)=false from by simp [aS]];exact SeqAt.RcAt.list_int gy ty px.isList (by omega)
 | .lst gx,.str gy,x,y,u,v,hd,hx,hy,rx,ry=>by
  rw[aL] at hx;obtain⟨ax,xsx,rfl,qx,lx⟩:=hx;cases rx;obtain⟨usx,vx,px,_⟩:=I.list qx;rw[aL] at hy;subst hy;obtain⟨ty,rfl⟩:=ry;rw[show aS (.lst gx) (.str gy)=false from by simp [aS]];exact SeqAt.RcAt.list_str gy ty px.isList (by omega)
 | .lst gx,.tup gy,x,y,u,v,hd,hx,hy,rx,ry=>by
  rw[aL] at hx;obtain⟨ax,xsx,rfl,qx,lx⟩:=hx;cases rx;obtain⟨usx,vx,px,_⟩:=I.list qx;rw[aL] at hy;obtain⟨ay,xsy,rfl,qy,ly⟩:=hy;cases ry;obtain⟨usy,vy,py,_⟩:=I.tuple qy;rw[show aS (.lst gx) (.tup gy)=false from by simp [aS]];exact SeqAt.RcAt.list_tuple px.isList py (by omega)
 | .lst gx,.lst gy,x,y,u,v,hd,hx,hy,rx,ry=>by
  rw[aL] at hx;obtain⟨ax,xsx,rfl,qx,lx⟩:=hx;cases rx;obtain⟨usx,vx,px,_⟩:=I.list qx;rw[aL] at hy;obtain⟨ay,xsy,rfl,qy,ly⟩:=hy;cases ry;obtain⟨usy,vy,py,_⟩:=I.list qy;have e1:=vx.length;have e2:=vy.length;have e3:=lx.length;have e4:=ly.length;rw[show aS (.lst gx) (.lst gy)=eK gx gy from by rw[aS]];have ex:gx.length=usx.toArray.size:=by rw[<- e3,e1,aaf]
  have ey:gy.length=usy.toArray.size:=by rw[<- e4,e2,aaf]
  by_cases hl:gx.length=gy.length
  ·rw[<- oJ gx gy hl,ex];exact SeqAt.RcAt.lists px.isList py.isList (by omega) (by omega) (λ j h1 h2=>kD (n:=0) (λ g h x y u v hm ix iy tx ty=>pT I 30 g h A.in1 x y u v (by have:=aV hm;rw[cP] at hd;omega) (by show A.units+1+30 < cLine;omega) ix iy tx ty) lx ly vx vy j h1 h2)
  ·rw[mO gx gy hl];exact SeqAt.RcAt.lists_lengths px.isList py.isList (by rw[<- ex,<- ey];simpa using hl) (by omega)
theorem rneG (I:Inv X pins σ H s) {A:Around} (hu:A.units+40 < cLine):∀ (g h:G) (x y:V) (u v:Value),cP g<=30->aL X.K H g x->aL X.K H h y->bM x u->bM y v->SeqAt.RcNeAt A s u v (!aS g h)
 | .non,.non,x,y,u,v,hd,hx,hy,rx,ry=>by
  rw[aL] at hx;subst hx;cases rx;rw[aL] at hy;subst hy;cases ry;rw[aS];exact SeqAt.RcNeAt.none_none
 | .non,.bl gy,x,y,u,v,hd,hx,hy,rx,ry=>by
  rw[aL] at hx;subst hx;cases rx;rw[aL] at hy;subst hy;cases ry;rw[show aS (.non) (.bl gy)=false from by simp [aS]];exact SeqAt.RcNeAt.none_bool gy
 | .non,.int gy,x,y,u,v,hd,hx,hy,rx,ry=>by
  rw[aL] at hx;subst hx;cases rx;rw[aL] at hy;subst hy;obtain⟨ty,rfl⟩:=ry;rw[show aS (.non) (.int gy)=false from by simp [aS]];exact SeqAt.RcNeAt.none_int gy ty
 | .non,.str gy,x,y,u,v,hd,hx,hy,rx,ry=>by
  rw[aL] at hx;subst hx;cases rx;rw[aL] at hy;subst hy;obtain⟨ty,rfl⟩:=ry;rw[show aS (.non) (.str gy)=false from by simp [aS]];exact SeqAt.RcNeAt.none_str gy ty
 | .non,.tup gy,x,y,u,v,hd,hx,hy,rx,ry=>by
  rw[aL] at hx;subst hx;cases rx;rw[aL] at hy;obtain⟨ay,xsy,rfl,qy,ly⟩:=hy;cases ry;obtain⟨usy,vy,py,_⟩:=I.tuple qy;rw[show aS (.non) (.tup gy)=false from by simp [aS]];exact SeqAt.RcNeAt.none_tuple py (by omega)
 | .non,.lst gy,x,y,u,v,hd,hx,hy,rx,ry=>by
  rw[aL] at hx;subst hx;cases rx;rw[aL] at hy;obtain⟨ay,xsy,rfl,qy,ly⟩:=hy;cases ry;obtain⟨usy,vy,py,_⟩:=I.list qy;rw[show aS (.non) (.lst gy)=false from by simp [aS]];exact SeqAt.RcNeAt.none_list py.isList (by omega)
 | .bl gx,.non,x,y,u,v,hd,hx,hy,rx,ry=>by
  rw[aL] at hx;subst hx;cases rx;rw[aL] at hy;subst hy;cases ry;rw[show aS (.bl gx) (.non)=false from by simp [aS]];exact SeqAt.RcNeAt.bool_none gx
 | .bl gx,.bl gy,x,y,u,v,hd,hx,hy,rx,ry=>by
  rw[aL] at hx;subst hx;cases rx;rw[aL] at hy;subst hy;cases ry;rw[aS];exact SeqAt.RcNeAt.bool_bool gx gy
 | .bl gx,.int gy,x,y,u,v,hd,hx,hy,rx,ry=>by
  rw[aL] at hx;subst hx;cases rx;rw[aL] at hy;subst hy;obtain⟨ty,rfl⟩:=ry;rw[aS];exact SeqAt.RcNeAt.bool_int gx gy ty
 | .bl gx,.str gy,x,y,u,v,hd,hx,hy,rx,ry=>by
  rw[aL] at hx;subst hx;cases rx;rw[aL] at hy;subst hy;obtain⟨ty,rfl⟩:=ry;rw[show aS (.bl gx) (.str gy)=false from by simp [aS]];exact SeqAt.RcNeAt.bool_str gx gy ty
 | .bl gx,.tup gy,x,y,u,v,hd,hx,hy,rx,ry=>by
  rw[aL] at hx;subst hx;cases rx;rw[aL] at hy;obtain⟨ay,xsy,rfl,qy,ly⟩:=hy;cases ry;obtain⟨usy,vy,py,_⟩:=I.tuple qy;rw[show aS (.bl gx) (.tup gy)=false from by simp [aS]];exact SeqAt.RcNeAt.bool_tuple gx py (by omega)
 | .bl gx,.lst gy,x,y,u,v,hd,hx,hy,rx,ry=>by
  rw[aL] at hx;subst hx;cases rx;rw[aL] at hy;obtain⟨ay,xsy,rfl,qy,ly⟩:=hy;cases ry;obtain⟨usy,vy,py,_⟩:=I.list qy;rw[show aS (.bl gx) (.lst gy)=false from by simp [aS]];exact SeqAt.RcNeAt.bool_list gx py.isList (by omega)
 | .int gx,.non,x,y,u,v,hd,hx,hy,rx,ry=>by
  rw[aL] at hx;subst hx;obtain⟨tx,rfl⟩:=rx;rw[aL] at hy;subst hy;cases ry;rw[show aS (.int gx) (.non)=false from by simp [aS]];exact SeqAt.RcNeAt.int_none gx tx
 | .int gx,.bl gy,x,y,u,v,hd,hx,hy,rx,ry=>by
  rw[aL] at hx;subst hx;obtain⟨tx,rfl⟩:=rx;rw[aL] at hy;subst hy;cases ry;rw[aS];exact SeqAt.RcNeAt.int_bool gx tx gy
 | .int gx,.int gy,x,y,u,v,hd,hx,hy,rx,ry=>by
  rw[aL] at hx;subst hx;obtain⟨tx,rfl⟩:=rx;rw[aL] at hy;subst hy;obtain⟨ty,rfl⟩:=ry;rw[aS];exact SeqAt.RcNeAt.int_int gx tx gy ty
 | .int gx,.str gy,x,y,u,v,hd,hx,hy,rx,ry=>by
  rw[aL] at hx;subst hx;obtain⟨tx,rfl⟩:=rx;rw[aL] at hy;subst hy;obtain⟨ty,rfl⟩:=ry;rw[show aS (.int gx) (.str gy)=false from by simp [aS]];exact SeqAt.RcNeAt.int_str gx tx gy ty
 | .int gx,.tup gy,x,y,u,v,hd,hx,hy,rx,ry=>by
  rw[aL] at hx;subst hx;obtain⟨tx,rfl⟩:=rx;rw[aL] at hy;obtain⟨ay,xsy,rfl,qy,ly⟩:=hy;cases ry;obtain⟨usy,vy,py,_⟩:=I.tuple qy;rw[show aS (.int gx) (.tup gy)=false from by simp [aS]];exact SeqAt.RcNeAt.int_tuple gx tx py (by omega)
 | .int gx,.lst gy,x,y,u,v,hd,hx,hy,rx,ry=>by
  rw[aL] at hx;subst hx;obtain⟨tx,rfl⟩:=rx;rw[aL] at hy;obtain⟨ay,xsy,rfl,qy,ly⟩:=hy;cases ry;obtain⟨usy,vy,py,_⟩:=I.list qy;rw[show aS (.int gx) (.lst gy)=false from by simp [aS]];exact SeqAt.RcNeAt.int_list gx tx py.isList (by omega)
 | .str gx,.non,x,y,u,v,hd,hx,hy,rx,ry=>by
  rw[aL] at hx;subst hx;obtain⟨tx,rfl⟩:=rx;rw[aL] at hy;subst hy;cases ry;rw[show aS (.str gx) (.non)=false from by simp [aS]];exact SeqAt.RcNeAt.str_none gx tx
 | .str gx,.bl gy,x,y,u,v,hd,hx,hy,rx,ry=>by
  rw[aL] at hx;subst hx;obtain⟨tx,rfl⟩:=rx;rw[aL] at hy;subst hy;cases ry;rw[show aS (.str gx) (.bl gy)=false from by simp [aS]];exact SeqAt.RcNeAt.str_bool gx tx gy
 | .str gx,.int gy,x,y,u,v,hd,hx,hy,rx,ry=>by
  rw[aL] at hx;subst hx;obtain⟨tx,rfl⟩:=rx;rw[aL] at hy;subst hy;obtain⟨ty,rfl⟩:=ry;rw[show aS (.str gx) (.int gy)=false from by simp [aS]];exact SeqAt.RcNeAt.str_int gx tx gy ty
 | .str gx,.str gy,x,y,u,v,hd,hx,hy,rx,ry=>by
  rw[aL] at hx;subst hx;obtain⟨tx,rfl⟩:=rx;rw[aL] at hy;subst hy;obtain⟨ty,rfl⟩:=ry;rw[aS];exact SeqAt.RcNeAt.str_str gx tx gy ty
 | .str gx,.tup gy,x,y,u,v,hd,hx,hy,rx,ry=>by
  rw[aL] at hx;subst hx;obtain⟨tx,rfl⟩:=rx;rw[aL] at hy;obtain⟨ay,xsy,rfl,qy,ly⟩:=hy;cases ry;obtain⟨usy,vy,py,_⟩:=I.tuple qy;rw[show aS (.str gx) (.tup gy)=false from by simp [aS]];exact SeqAt.RcNeAt.str_tuple gx tx py (by omega)
 | .str gx,.lst gy,x,y,u,v,hd,hx,hy,rx,ry=>by
  rw[aL] at hx;subst hx;obtain⟨tx,rfl⟩:=rx;rw[aL] at hy;obtain⟨ay,xsy,rfl,qy,ly⟩:=hy;cases ry;obtain⟨usy,vy,py,_⟩:=I.list qy;rw[show aS (.str gx) (.lst gy)=false from by simp [aS]];exact SeqAt.RcNeAt.str_list gx tx py.isList (by omega)
 | .tup gx,.non,x,y,u,v,hd,hx,hy,rx,ry=>by
  rw[aL] at hx;obtain⟨ax,xsx,rfl,qx,lx⟩:=hx;cases rx;obtain⟨usx,vx,px,_⟩:=I.tuple qx;rw[aL] at hy;subst hy;cases ry;rw[show aS (.tup gx) (.non)=false from by simp [aS]];exact SeqAt.RcNeAt.tuple_none px (by omega)
 | .tup gx,.bl gy,x,y,u,v,hd,hx,hy,rx,ry=>by
  rw[aL] at hx;obtain⟨ax,xsx,rfl,qx,lx⟩:=hx;cases rx;obtain⟨usx,vx,px,_⟩:=I.tuple qx;rw[aL] at hy;subst hy;cases ry;rw[show aS (.tup gx) (.bl gy)=false from by simp [aS]];exact SeqAt.RcNeAt.tuple_bool gy px (by omega)
 | .tup gx,.int gy,x,y,u,v,hd,hx,hy,rx,ry=>by
  rw[aL] at hx;obtain⟨ax,xsx,rfl,qx,lx⟩:=hx;cases rx;obtain⟨usx,vx,px,_⟩:=I.tuple qx;rw[aL] at hy;subst hy;obtain⟨ty,rfl⟩:=ry;rw[show aS (.tup gx) (.int gy)=false from by simp [aS]];exact SeqAt.RcNeAt.tuple_int gy ty px (by omega)
 | .tup gx,.str gy,x,y,u,v,hd,hx,hy,rx,ry=>by
  rw[aL] at hx;obtain⟨ax,xsx,rfl,qx,lx⟩:=hx;cases rx;obtain⟨usx,vx,px,_⟩:=I.tuple qx;rw[aL] at hy;subst hy;obtain⟨ty,rfl⟩:=ry;rw[show aS (.tup gx) (.str gy)=false from by simp [aS]];exact SeqAt.RcNeAt.tuple_str gy ty px (by omega)
 | .tup gx,.tup gy,x,y,u,v,hd,hx,hy,rx,ry=>by
  rw[aL] at hx;obtain⟨ax,xsx,rfl,qx,lx⟩:=hx;cases rx;obtain⟨usx,vx,px,_⟩:=I.tuple qx;rw[aL] at hy;obtain⟨ay,xsy,rfl,qy,ly⟩:=hy;cases ry;obtain⟨usy,vy,py,_⟩:=I.tuple qy;have e1:=vx.length;have e2:=vy.length;have e3:=lx.length;have e4:=ly.length;rw[show aS (.tup gx) (.tup gy)=eK gx gy from by rw[aS],<- mR gx gy];have ex:gx.length=usx.toArray.size:=by rw[<- e3,e1,aaf]
  have ey:gy.length=usy.toArray.size:=by rw[<- e4,e2,aaf]
  rw[ex,ey];exact SeqAt.RcNeAt.tuples px py (by omega) (λ j h1 h2=>kD (n:=0) (λ g h x y u v hm ix iy tx ty=>pT I 30 g h A.in1 x y u v (by have:=aV hm;rw[cP] at hd;omega) (by show A.units+1+30 < cLine;omega) ix iy tx ty) lx ly vx vy j h1 h2)
 | .tup gx,.lst gy,x,y,u,v,hd,hx,hy,rx,ry=>by
  rw[aL] at hx;obtain⟨ax,xsx,rfl,qx,lx⟩:=hx;cases rx;obtain⟨usx,vx,px,_⟩:=I.tuple qx;rw[aL] at hy;obtain⟨ay,xsy,rfl,qy,ly⟩:=hy;cases ry;obtain⟨usy,vy,py,_⟩:=I.list qy;rw[show aS (.tup gx) (.lst gy)=false from by simp [aS]];exact SeqAt.RcNeAt.tuple_list px py.isList (by omega)
 | .lst gx,.non,x,y,u,v,hd,hx,hy,rx,ry=>by
  rw[aL] at hx;obtain⟨ax,xsx,rfl,qx,lx⟩:=hx;cases rx;obtain⟨usx,vx,px,_⟩:=I.list qx;rw[aL] at hy;subst hy;cases ry;rw[show aS (.lst gx) (.non)=false from by simp [aS]];exact SeqAt.RcNeAt.list_none px.isList (by omega)
 | .lst gx,.bl gy,x,y,u,v,hd,hx,hy,rx,ry=>by
  rw[aL] at hx;obtain⟨ax,xsx,rfl,qx,lx⟩:=hx;cases rx;obtain⟨usx,vx,px,_⟩:=I.list qx;rw[aL] at hy;subst hy;cases ry;rw[show aS (.lst gx) (.bl gy)=false from by simp [aS]];exact SeqAt.RcNeAt.list_bool gy px.isList (by omega)
 | .lst gx,.int gy,x,y,u,v,hd,hx,hy,rx,ry=>by
  rw[aL] at hx;obtain⟨ax,xsx,rfl,qx,lx⟩:=hx;cases rx;obtain⟨usx,vx,px,_⟩:=I.list qx;rw[aL] at hy;subst hy;obtain⟨ty,rfl⟩:=ry;rw[show aS (.lst gx) (.int gy)=false from by simp [aS]];exact SeqAt.RcNeAt.list_int gy ty px.isList (by omega)
 | .lst gx,.str gy,x,y,u,v,hd,hx,hy,rx,ry=>by
  rw[aL] at hx;obtain⟨ax,xsx,rfl,qx,lx⟩:=hx;cases rx;obtain⟨usx,vx,px,_⟩:=I.list qx;rw[aL] at hy;subst hy;obtain⟨ty,rfl⟩:=ry;rw[show aS (.lst gx) (.str gy)=false from by simp [aS]];exact SeqAt.RcNeAt.list_str gy ty px.isList (by omega)
 | .lst gx,.tup gy,x,y,u,v,hd,hx,hy,rx,ry=>by
  rw[aL] at hx;obtain⟨ax,xsx,rfl,qx,lx⟩:=hx;cases rx;obtain⟨usx,vx,px,_⟩:=I.list qx;rw[aL] at hy;obtain⟨ay,xsy,rfl,qy,ly⟩:=hy;cases ry;obtain⟨usy,vy,py,_⟩:=I.tuple qy;rw[show aS (.lst gx) (.tup gy)=false from by simp [aS]];exact SeqAt.RcNeAt.list_tuple px.isList py (by omega)
 | .lst gx,.lst gy,x,y,u,v,hd,hx,hy,rx,ry=>by
  rw[aL] at hx;obtain⟨ax,xsx,rfl,qx,lx⟩:=hx;cases rx;obtain⟨usx,vx,px,_⟩:=I.list qx;rw[aL] at hy;obtain⟨ay,xsy,rfl,qy,ly⟩:=hy;cases ry;obtain⟨usy,vy,py,_⟩:=I.list qy;have e1:=vx.length;have e2:=vy.length;have e3:=lx.length;have e4:=ly.length;rw[show aS (.lst gx) (.lst gy)=eK gx gy from by rw[aS]];have ex:gx.length=usx.toArray.size:=by rw[<- e3,e1,aaf]
  have ey:gy.length=usy.toArray.size:=by rw[<- e4,e2,aaf]
  by_cases hl:gx.length=gy.length
  ·rw[<- oJ gx gy hl,ex];exact SeqAt.RcNeAt.lists px.isList py.isList (by omega) (by omega) (λ j h1 h2=>kD (n:=0) (λ g h x y u v hm ix iy tx ty=>pT I 30 g h A.in1 x y u v (by have:=aV hm;rw[cP] at hd;omega) (by show A.units+1+30 < cLine;omega) ix iy tx ty) lx ly vx vy j h1 h2)
  ·rw[mO gx gy hl];exact SeqAt.RcNeAt.lists_lengths px.isList py.isList (by rw[<- ex,<- ey];simpa using hl) (by omega)
def EM (K:aaa):R2:=λ x y H Q=>∃ g h,cP g<=30/\aL K H g x/\aL K H h y/\Q (.bl (aS g h)) H
def GJ (K:aaa):R2:=λ x y H Q=>∃ g h,cP g<=30/\aL K H g x/\aL K H h y/\Q (.bl (!aS g h)) H
theorem EU (hu:X.A.units+64 < cLine):j5 X (compareOp .Eq) (EM X.K):=by
 intro pins s σ H x y v u Q I rx ry h;obtain⟨g,h,hd,ix,iy,q⟩:=h;exact rcG I (by omega) g h x y v u hd ix iy rx ry X.prog X.w X.xe _ ⟨.bl _,H,I,rfl,q⟩
theorem ET (hu:X.A.units+64 < cLine):j5 X (compareOp .NotEq) (GJ X.K):=by
 intro pins s σ H x y v u Q I rx ry h;obtain⟨g,h,hd,ix,iy,q⟩:=h;exact rneG I (by omega) g h x y v u hd ix iy rx ry X.prog X.w X.xe _ ⟨.bl _,H,I,rfl,q⟩
theorem sC {K:aaa} (hK:X.K=K) (hu:X.A.units+64 < cLine):j5 X (compareOp .Eq) (EM K):=by subst hK;exact EU hu
theorem wU {K:aaa} (hK:X.K=K) (hu:X.A.units+64 < cLine):j5 X (compareOp .NotEq) (GJ K):=by subst hK;exact ET hu
def DR (h:G) (gs:List G):Bool:=gs.any λ g=>aS g h
open Classical in
theorem AU (I:Inv X pins σ H s) {A:Around} (hu:A.units+40 < cLine) {h:G}{gs:List G}{x:V}{xs:List V}{u:Value}{us:List Value} (hd:cC gs<=30) (ix:aL X.K H h x) (l:aQ X.K H gs xs) (rx:bM x u) (r:bL xs us) :
  ∃ e:Value->Bool,(∀ y∈us,SeqAt.EqAt A s y u (e y))/\us.any e=DR h gs:=by
 have e1:=r.length;have e2:=l.length;refine⟨λ y=>decide (∃ (i:Nat) (g:G),us[i]? = some y/\gs[i]? = some g/\aS g h=true),?_,?_⟩
 ·intro y hy;obtain⟨i,hi,rfl⟩:=List.mem_iff_getElem.1 hy;have hig:i < gs.length:=by omega
  obtain⟨z,gz,iz⟩:=l.get (i:=i) (g:=gs[i]) (by simp [hig]);obtain⟨w,gw,tw⟩:=r.get gz;have ew:us[i]=w:=by
   have:us[i]? = some us[i]:=by simp
   rw[this] at gw;exact abn gw
  have key:decide (∃ (i':Nat) (g:G),us[i']? = some us[i]/\gs[i']? = some g/\aS g h=true)=aS gs[i] h:=by
   rw[Bool.eq_iff_iff,decide_eq_true_iff];constructor
   ·rintro⟨i',g,h1,h2,h3⟩;obtain⟨z',gz',iz'⟩:=l.get h2;obtain⟨w',gw',tw'⟩:=r.get gz';rw[h1,ew] at gw';cases gw';have:=wF I _ _ _ _ _ iz iz' tw tw';rw[this];exact h3
   ·intro h3;exact⟨i,gs[i],by simp,by simp [hig],h3⟩
  show SeqAt.EqAt A s us[i] u (decide _);rw[key,ew];exact pT I 30 _ _ A z x w u (by have:=aV (abx hig);omega) (by omega) iz ix tw rx
 ·rw[Bool.eq_iff_iff,List.any_eq_true];unfold DR;rw[List.any_eq_true];constructor
  ·rintro⟨y,hy,hq⟩;obtain⟨i,g,h1,h2,h3⟩:=abp hq;exact⟨g,aao h2,h3⟩
  ·rintro⟨g,hg,hq⟩;obtain⟨i,hi,rfl⟩:=List.mem_iff_getElem.1 hg;have hiu:i < us.length:=by omega
   exact⟨us[i],abx hiu,abz ⟨i,gs[i],by simp,by simp,hq⟩⟩
def GN (K:aaa) (neg:Bool):R2:=λ x y H Q=>∃ h p gs xs,y=.ref p/\(bV K H p xs\/bH K H p xs)/\cC gs<=30/\aL K H h x/\aQ K H gs xs/\Q (.bl (if neg then !DR h gs else DR h gs)) H
theorem CV (hu:X.A.units+64 < cLine):j5 X (compareOp .NotIn) (GN X.K true):=by
 intro pins s σ H x y v u Q I rx ry hh;obtain⟨h,p,gs,xs,rfl,hq,hd,ix,l,q⟩:=hh;cases ry;have hin:X.A.in1.units=X.A.units+1:=rfl;rcases hq with hq | hq
 ·obtain⟨its,r,pl,hz⟩:=I.list hq;obtain⟨e,he,ea⟩:=AU I (A:=X.A.in1) (by omega) hd ix l rx r;refine SeqAt.notIn_listAt e pl.isList (λ w hw=>he w (by simpa using hw)) ⟨.bl _,H,I,rfl,?_⟩;rw[show its.toArray.any e=its.any e by simp,ea];exact q
 ·obtain⟨its,r,pl,hz⟩:=I.tuple hq;obtain⟨e,he,ea⟩:=AU I (A:=X.A.in1) (by omega) hd ix l rx r;refine SeqAt.notIn_tupleAt e pl (λ w hw=>he w (by simpa using hw)) ⟨.bl _,H,I,rfl,?_⟩;rw[show its.toArray.any e=its.any e by simp,ea];exact q
theorem AA {K:aaa} (hK:X.K=K) (hu:X.A.units+64 < cLine):j5 X (compareOp .NotIn) (GN K true):=by subst hK;exact CV hu
end
section
variable {H:Hp}
mutual
def qE:D->G
 | .non=>.non
 | .bl b=>.bl b
 | .int i=>.int i
 | .str z=>.str z
 | .tup ds=>.tup (eY ds)
def eY:List D->List G
 | []=>[]
 | d::ds=>qE d::eY ds
end
mutual
theorem Is.g:∀ {d:D}{x:V},Is K H d x->aL K H (qE d) x
 | .non,x,h=>by rw[Is] at h;rw[qE,aL];exact h
 | .bl b,x,h=>by rw[Is] at h;rw[qE,aL];exact h
 | .int i,x,h=>by rw[Is] at h;rw[qE,aL];exact h
 | .str z,x,h=>by rw[Is] at h;rw[qE,aL];exact h
 | .tup ds,x,h=>by
  rw[Is] at h;rw[qE,aL];obtain⟨a,xs,e,q,l⟩:=h;exact⟨a,xs,e,q,IsL.g l⟩
theorem IsL.g:∀ {ds:List D}{xs:List V},IsL K H ds xs->aQ K H (eY ds) xs
 | [],xs,h=>by rw[IsL] at h;rw[eY,aQ];exact h
 | d::ds,xs,h=>by
  rw[IsL] at h;rw[eY,aQ];obtain⟨x,r,e,h1,h2⟩:=h;exact⟨x,r,e,Is.g h1,IsL.g h2⟩
end
theorem oQ:∀ ds:List D,eY ds=ds.map qE
 | []=>by rw[eY];rfl
 | d::ds=>by rw[eY,oQ ds];rfl
theorem aQ.nil:aQ K H [] []:=by rw[aQ]
theorem aQ.cons {g:G}{gs:List G}{x:V}{xs:List V} (h1:aL K H g x) (h2:aQ K H gs xs):aQ K H (g::gs) (x::xs):=by rw[aQ];exact⟨x,xs,rfl,h1,h2⟩
theorem aL.i (i:Int):aL K H (.int i) (.int i):=by rw[aL]
theorem aL.s (i:Str):aL K H (.str i) (.str i):=by rw[aL]
theorem aL.b (i:Bool):aL K H (.bl i) (.bl i):=by rw[aL]
theorem aL.n:aL K H .non .non:=by rw[aL]
theorem aL.t {a:Addr}{gs:List G}{xs:List V} (q:bH K H a xs) (l:aQ K H gs xs):aL K H (.tup gs) (.ref a):=by rw[aL];exact⟨a,xs,rfl,q,l⟩
theorem aL.l {a:Addr}{gs:List G}{xs:List V} (q:bV K H a xs) (l:aQ K H gs xs):aL K H (.lst gs) (.ref a):=by rw[aL];exact⟨a,xs,rfl,q,l⟩
end
end L2
namespace L2
open PySem PySem.Spec PyProof.Rows TwZ Tw
def cO (t:Addr) (H:Hp):Hp:=λ b=>if b=t then none else H b
section
variable {H H':Hp}{t:Addr}
theorem rA:aG (cO t H) H:=λ b o e=>by
 unfold cO at e
 split at e
 ·cases e
 ·exact e
theorem d0 (b:dU t H H'):aG (cO t H) (cO t H'):=λ c o e=>by
 unfold cO at e ⊢
 split at e
 ·cases e
 ·rename_i n;rw[if_neg n];exact b c o n e
theorem cY (s:aG H H'):aG (cO t H) (cO t H'):=d0 λ c o _ e=>s c o e
theorem mJ {a:Addr}{o:HO} (h:H a=some o) (n:a≠t):cO t H a=some o:=by unfold cO;rw[if_neg n];exact h
theorem aG.lst {a:Addr}{xs:List V} (s:aG H H') (h:bV K H a xs):bV K H' a xs:=by
 rcases h with (h | ⟨o,h⟩) | h
 ·exact .inl (.inl (s _ _ h))
 ·exact .inl (.inr ⟨o,s _ _ h⟩)
 ·exact .inr h
mutual
theorem aL.same (s:aG H H'):∀ {g:G}{v:V},aL K H g v->aL K H' g v
 | .non,v,h=>by rw[aL] at h ⊢;exact h
 | .bl b,v,h=>by rw[aL] at h ⊢;exact h
 | .int i,v,h=>by rw[aL] at h ⊢;exact h
 | .str z,v,h=>by rw[aL] at h ⊢;exact h
 | .tup gs,v,h=>by
  rw[aL] at h ⊢;obtain⟨a,xs,e,q,l⟩:=h;exact⟨a,xs,e,s.tup q,aQ.same s l⟩
 | .lst gs,v,h=>by
  rw[aL] at h ⊢;obtain⟨a,xs,e,q,l⟩:=h;exact⟨a,xs,e,s.lst q,aQ.same s l⟩
theorem aQ.same (s:aG H H'):∀ {gs:List G}{vs:List V},aQ K H gs vs->aQ K H' gs vs
 | [],vs,h=>by rw[aQ] at h ⊢;exact h
 | g::gs,vs,h=>by
  rw[aQ] at h ⊢;obtain⟨x,r,e,h1,h2⟩:=h;exact⟨x,r,e,aL.same s h1,aQ.same s h2⟩
end
theorem aL.ut {gs:List G}{v:V} (h:aL K H (.tup gs) v):∃ a xs,v=.ref a/\bH K H a xs/\aQ K H gs xs:=by rw[aL] at h;exact h
theorem aL.ul {gs:List G}{v:V} (h:aL K H (.lst gs) v):∃ a xs,v=.ref a/\bV K H a xs/\aQ K H gs xs:=by rw[aL] at h;exact h
theorem aL.ui {i:Int}{v:V} (h:aL K H (.int i) v):v=.int i:=by rw[aL] at h;exact h
theorem aL.us {i:Str}{v:V} (h:aL K H (.str i) v):v=.str i:=by rw[aL] at h;exact h
theorem aQ.un {g:G}{gs:List G}{xs:List V} (h:aQ K H (g::gs) xs):∃ x r,xs=x::r/\aL K H g x/\aQ K H gs r:=by rw[aQ] at h;exact h
theorem aQ.un0 {xs:List V} (h:aQ K H [] xs):xs=[]:=by rw[aQ] at h;exact h
theorem aQ.app:∀ {gs hs:List G}{xs ys:List V},aQ K H gs xs->aQ K H hs ys->aQ K H (gs++hs) (xs++ys)
 | [],hs,xs,ys,h,h'=>by have:=h.un0;subst this;exact h'
 | g::gs,hs,xs,ys,h,h'=>by
  obtain⟨x,r,rfl,h1,h2⟩:=h.un;exact .cons h1 (aQ.app h2 h')
theorem aQ.take:∀ (n:Nat) {gs:List G}{xs:List V},aQ K H gs xs->aQ K H (gs.take n) (xs.take n)
 | 0,gs,xs,h=>by rw[List.take_zero,List.take_zero];exact .nil
 | n+1,[],xs,h=>by have:=h.un0;subst this;rw[List.take_nil,List.take_nil];exact .nil
 | n+1,g::gs,xs,h=>by
  obtain⟨x,r,rfl,h1,h2⟩:=h.un;exact .cons h1 (aQ.take n h2)
theorem aQ.drop:∀ (n:Nat) {gs:List G}{xs:List V},aQ K H gs xs->aQ K H (gs.drop n) (xs.drop n)
 | 0,gs,xs,h=>h
 | n+1,[],xs,h=>by have:=h.un0;subst this;rw[List.drop_nil,List.drop_nil];exact .nil
 | n+1,g::gs,xs,h=>by
  obtain⟨x,r,rfl,h1,h2⟩:=h.un;exact aQ.drop n h2
end
def xA:G->String
 | .non => "NoneType"
 | .bl _ => "bool"
 | .int _ => "int"
 | .str _ => "str"
 | .tup _ => "tuple"
 | .lst _ => "list"
def D7 (g:G) (T:String):Bool:=xA g == T || (xA g == "bool" && T == "int")
def sO:List String:=["tuple","int","bool","str","list"]
theorem AL (K:aaa) {A T:String}{b:Bool} (h:A=T/\b=true\/¬ ((Value.type A == Value.type T)=true)/\PySem.W.kitMeta T=true/\PySem.W.subIn K (.type A) (.type T)=some b):PySem.W.kitOne K (.type A) (.type T)=some b:=by
 unfold PySem.W.kitOne;rcases h with ⟨rfl,rfl⟩ | ⟨h1,h2,h3⟩
 ·rw[if_pos (by simp)]
 ·rw[if_neg h1];show (if PySem.W.kitMeta T=true then PySem.W.subIn K (.type A) (.type T) else none)=some b;rw[if_pos h2,h3]
theorem D1 (K:aaa):∀ A∈["NoneType","bool","int","str","tuple","list"],∀ T∈sO,PySem.W.kitOne K (.type A) (.type T)=some (A == T || (A == "bool" && T == "int")):=by
 intro A hA T hT;simp only [sO,abl,abq,aco,or_false] at hA hT;rcases hA with rfl | rfl | rfl | rfl | rfl | rfl <;> rcases hT with rfl | rfl | rfl | rfl | rfl <;>
  first
   | exact AL K (.inl ⟨rfl,by decide +kernel⟩)
   | exact AL K (.inr ⟨by decide +kernel,by decide +kernel,rfl⟩)
theorem GY (K:aaa) (g:G) {T:String} (h:T∈sO):PySem.W.kitOne K (.type (xA g)) (.type T)=some (D7 g T):=D1 K _ (by cases g <;> simp [xA]) T h
def DL (K:aaa):List V->Hp->VK->Prop:=λ xs H Q=>∃ x T g,xs=[x,.ty T]/\T∈sO/\aL K H g x/\Q (.bl (D7 g T)) H
section
variable {X:Cx}
theorem yW:fW X (.builtin "isinstance") (DL X.K):=by
 intro pins s σ H xs us Q I r h;obtain⟨x,T,g,rfl,hT,hg,q⟩:=h;obtain⟨u,v,rfl,ru,rv⟩:=r.two;cases rv;have e:=GY X.K g hT;cases g with
 | non=>rw[aL] at hg;subst hg;exact kB I ru .non e λ tk=>⟨.bl _,H,I.tok tk,rfl,q⟩
 | bl b=>rw[aL] at hg;subst hg;exact kB I ru (.bl b) e λ tk=>⟨.bl _,H,I.tok tk,rfl,q⟩
 | int b=>rw[aL] at hg;subst hg;exact kB I ru (.int b) e λ tk=>⟨.bl _,H,I.tok tk,rfl,q⟩
 | str b=>rw[aL] at hg;subst hg;exact kB I ru (.str b) e λ tk=>⟨.bl _,H,I.tok tk,rfl,q⟩
 | tup gs=>
  obtain⟨a,ys,rfl,hq,_⟩:=hg.ut;cases (show u=Value.ref a from ru);obtain⟨its,rv',⟨o,h1,h2,_⟩,_⟩:=I.tuple hq;exact PySem.W.kia_one PySem.W.kitx_tuple I.kIn ⟨o,h1,h2⟩ e (λ z=>nomatch z) λ tk=>⟨.bl _,H,I.tok tk,rfl,q⟩
 | lst gs=>
  obtain⟨a,ys,rfl,hq,_⟩:=hg.ul;cases (show u=Value.ref a from ru);obtain⟨its,rv',⟨o,n,h1,h2,_⟩,_⟩:=I.list hq;exact PySem.W.kia_one PySem.W.kitx_list I.kIn ⟨o,h1,h2⟩ e (λ z=>nomatch z) λ tk=>⟨.bl _,H,I.tok tk,rfl,q⟩
theorem dS {K:aaa} (hK:X.K=K):fW X (.builtin "isinstance") (DL K):=by subst hK;exact yW
end
end L2
namespace Tw
open PySem L2
def bO (i:Nat):Stmt:=PySem.Challenge.pw_tipwell_k30_first_lies.main.body.getD i (.Pass ⟨0,0,0,0⟩)
structure Txt (mg:Str->Option Value):Prop where
 b_len:mg "len" = none
 b_sum:mg "sum" = none
 b_all:mg "all" = none
 b_max:mg "max" = none
 b_min:mg "min" = none
 b_int:mg "int" = none
 b_tuple:mg "tuple" = none
 b_list:mg "list" = none
 b_bool:mg "bool" = none
 b_range:mg "range" = none
 b_zip:mg "zip" = none
 b_enumerate:mg "enumerate" = none
 b_isinstance:mg "isinstance" = none
 b_divmod:mg "divmod" = none
 b_set:mg "set" = none
 b_sorted:mg "sorted" = none
def mG:Option Int->fT
 | none=>.inr none
 | some i=>.inl i
theorem AQ (k:Option Int):kV (mG k)=lM k:=by cases k <;> rfl
theorem AO {a b:Option Int} (h:mG a=mG b):a=b:=by
 cases a <;> cases b <;> simp_all [mG]
def iY (H:Hp) (d:Addr) (gs:List (Option Int×Int)):Prop:=
 ∃ kvs:List (fT×V),H d=some (.dK kvs)/\kvs.length<=gs.length/\∀ k:Option Int,(fX kvs (mG k)).getD (.int 0)=.int (d6 k gs)
theorem iY.mut {H:Hp}{d:Addr}{gs:List (Option Int×Int)} (h:iY H d gs):t9 (H d):=by
 obtain⟨kvs,e,_⟩:=h;rw[e];exact trivial
def rQ:Sp:=λ vs H Q _=>∃ (d:Addr) (t:Option Int) (a:Int) (gs:List (Option Int×Int)),vs=[.ref d,lM t,.int a]/\iY H d gs/\gs.length<=1000/\
 ∀ H',dU d H H'->iY H' d (gs++[(t,a)])->Q .non H'
theorem wM:FnScope ["sent","target","amount"] ["sent","target","amount"] (aR (bO 8)):={}
theorem CY {f:Addr}{fd:FuncData} (F:Fun K "send" "send" (bO 8) f fd) (T:Txt mg):FnOk P w K mg base gQ 1 f fd ["sent","target","amount"] rQ:=by
 refine F.ok wM (λ vs H Q E h=>?_) (λ cdv A outer s H vs Q E hr h=>?_)
 ·obtain⟨d,t,a,gs,rfl,_⟩:=h;rfl
 ·obtain⟨d,t,a,gs,rfl,⟨kvs,hd,hl,hv⟩,hg,k⟩:=h;have sc:=wM;have hu:=DX hr;refine⟨_,(aJ (CI hu (pv 0) (pv 1) (aK bG (pH hu (pv 0) (pv 1) aE ⟨rfl,rfl,rfl,rfl⟩) (pv 2)) rfl)),?_⟩;have hget:=wC.k (k:=mG t) hd;rw[AQ] at hget;have hput:=BS.k (k:=mG t) (v:=V.int (d6 t gs+a)) hd (aW (by omega));rw[AQ] at hput;refine⟨_,rfl,d,rfl,.inl ⟨kvs,.inl hd⟩,_,rfl,fX kvs (mG t),hget,_,rfl,_,_,hv t,rfl,_,rfl,_,rfl,d,_,rfl,hput,?_⟩;refine k _ dU.upd ⟨_,aD,?_,λ k'=>?_⟩
  ·have:=jM kvs (mG t) (V.int (d6 t gs+a));rw[aap];simp;omega
  ·rw[zN,kL]
   by_cases e:k'=t
   ·subst e;rw[if_pos rfl];show V.int _=V.int _;simp [d6]
   ·rw[if_neg (λ z=>e (AO z)),hv k'];have:¬ t=k':=λ z=>e z.symm;simp [d6,this]
theorem aX {au:Type}{xs:List au}{i:Nat}{x:au} (h:xs[i]? = some x):xs.take (i+1)=xs.take i++[x]:=by
 rw[List.take_succ,h];rfl
theorem kA {H:Hp}{outs:List (Option Int×Int)}{xs:List V}{i:Nat}{x:V} (l:IsL K H (outs.map outD) xs) (h:xs[i]? = some x) :
  ∃ o,outs[i]? = some o/\∃ a,x=.ref a/\bH K H a [lM o.1,.int o.2]:=by
 obtain⟨d,hd,hx⟩:=l.get' h;rw[aah] at hd;cases e:outs[i]? with
 | none=>rw[e] at hd;cases hd
 | some o=>
  rw[e] at hd;cases hd;refine⟨o,rfl,?_⟩;obtain⟨a,ys,rfl,q,l⟩:=(show Is K H (.tup [CA o.1,.int o.2]) x from hx).un;obtain⟨y,r,rfl,hy,l⟩:=l.un;obtain⟨z,r,rfl,hz,l⟩:=l.un;have:=l.un0;subst this;rw[Is.tg hy,hz.ui] at q;exact⟨a,rfl,q⟩
def rP (K:aaa):Sp:=λ vs H Q _=>∃ (o d:Addr) (has:Int) (outs gs:List (Option Int×Int)) (n:Nat),vs=[.ref o,.int has,.ref d]/\Is K H (.tup (outs.map outD)) (.ref o)/\iY H d gs/\gs.length+3<=1000/\
 outs≠[]/\outs.length<=3/\(∀ x∈outs,OutOk n x)/\∀ H',dU d H H'->iY H' d (gs++outs.map λ x=>(x.1,has / whole outs * x.2))->Q (.int (has % whole outs)) H'
theorem lU:FnScope ["outs","has","sent","whole","times","target","parts"] ["outs","has","sent"] (aR (bO 7)):={}
theorem sD {f fS:Addr}{fd fdS:FuncData} (F:Fun K "share_out" "share_out" (bO 7) f fd) (T:Txt mg) (G_send:Callee P w K mg base "send" ["sent","target","amount"] 1 rQ fS fdS):FnOk P w K mg base gQ 2 f fd ["outs","has","sent"] (rP K):=by
 refine F.ok lU (λ vs H Q E h=>?_) (λ cdv A outer s H vs Q E hr h=>?_)
 ·obtain⟨o,d,has,outs,gs,n,rfl,_⟩:=h;rfl
 ·obtain⟨o,d,has,outs,gs,n,rfl,ho,hd,hg,hne,h3,hok,k⟩:=h;have sc:=lU;refine⟨_,(aF (pL 3 sc.nd (bF (dX (K:=K) rfl rfl) rfl T.b_sum PyProof.Rows.boot_sum (aA (i6 (λ _ _ h=>h) rfl (LcOk.mk (N':=["target","parts"]) (fr:=[none,none]) rfl trivial rfl rfl rfl rfl rfl trivial) (eX (K:=K) rfl (pv 0)) (λ _ _ _=>(bC (K:=K) (n:=2) rfl rfl (aH (gC 0 ["target","parts"]) (aH (gC 1 ["target","parts"]) bA)))) (λ _ _ _=>dN) (λ _ _ _=>(pv 1))) aC)))
   (aF (pL 4 sc.nd (aK fM (pv 1) (bF (nP rfl) rfl T.b_max PyProof.Rows.boot_max (aA aE (aA (pv 3) aC)))))
   (aF (dM PassesOwn.never rfl (eX (K:=K) rfl (pv 0)) (bC (K:=K) (n:=2) rfl rfl (aH (gL 5 sc.nd) (aH (gL 6 sc.nd) bA))) (aJ (cV (cN G_send hr (aA (pv 2) (aA (pv 5) (aA (aK jJ (pv 6) (pv 4)) aC)))))))
   (aJ (aY (aK d8 (pv 1) (aK jJ (pv 3) (pv 4)))))))),?_⟩
  have hw1:=qN hne hok;have hw2:=oM hok;obtain⟨o',xs,e,hq,hl⟩:=ho.un;cases e;have hxl:xs.length=outs.length:=by rw[hl.length,aad]
  refine⟨_,rfl,o,rfl,⟨_,hq⟩,jN (K:=K) (a:=o) (xs:=xs) (λ D i ys Z H'=>H D=none/\aG H H'/\H' D=some (.lst ys)/\ys=(outs.take i).map (λ x=>V.int x.2)/\∃ x y,Z=[x,y])
   (λ D i ys Z H' p=>p.2.1.tup hq) (λ D hD=>⟨hD,aG.new hD,aD,by simp,none,none,rfl⟩) ?_ ?_⟩
  rotate_left
  ·rintro D i x ys Z H' hx ⟨hD,sm,hDl,rfl,v1,v2,rfl⟩;obtain⟨ot,hot,a,rfl,qa⟩:=kA hl hx;have hil:=(aag.mp hot).1;refine⟨a,_,rfl,sm.tup qa,rfl,_,_,rfl,_,_,rfl,rfl,?_⟩;refine mU ⟨_,rfl,hDl,aW (by simp;omega),hD,sm.put hD,aD,?_,_,_,rfl⟩;rw[aX hot];simp
  ·rintro D ys Z H1 ⟨hD,sm,hDl,rfl,_⟩;rw[hxl,aaq] at hDl;refine⟨false,D,outs.map (·.2),rfl,bV.of (by rw[acf];exact hDl),?_⟩;refine⟨_,rfl,_,rfl,_,_,rfl,_,_,rfl,rfl,?_,?_⟩
   ·show 0 < (if whole outs > 1 then whole outs else 1)/\(if whole outs > 1 then whole outs else 1) < 1073741824
    split <;> omega
   have hm:(if whole outs > 1 then whole outs else 1)=whole outs:=by split <;> omega
   show fA _ _ _ [some (V.ref o),some (V.int has),some (V.ref d),some (V.int (whole outs)),some (V.int (has / (if whole outs > 1 then whole outs else 1))),none,none] _;rw[hm];have hd1:iY H1 d gs:=by obtain⟨kvs,e,r⟩:=hd;exact⟨kvs,sm _ _ e,r⟩
   have tsH:bT K H H1:=sm.ts;refine⟨_,rfl,o,rfl,⟨_,sm.tup hq⟩,oI (K:=K) (a:=o) (xs:=xs) (λ i Z H'=>dU d H1 H'/\iY H' d (gs++(outs.take i).map λ x=>(x.1,has / whole outs * x.2))/\
    ∃ x y,Z=[some (V.ref o),some (V.int has),some (V.ref d),some (V.int (whole outs)),some (V.int (has / whole outs)),x,y]) ⟨dU.refl _,by simpa using hd1,none,none,rfl⟩
    (λ i Z H' _ p=>(p.1.ts hd1.mut) _ _ (sm.tup hq)) ?_ ?_⟩
   ·rintro i x Z H2 hx ⟨bt,dg,v1,v2,rfl⟩;obtain⟨ot,hot,a,rfl,qa⟩:=kA hl hx;have hil:=(aag.mp hot).1;have hom:=hok ot (aao hot);refine⟨a,_,rfl,(bt.ts hd1.mut) _ _ (sm.tup qa),rfl,_,_,rfl,_,_,rfl,rfl,?_⟩;refine⟨_,rfl,_,rfl,_,rfl,_,rfl,_,_,rfl,rfl,.inl ⟨by have:=hom.lo;omega,by have:=hom.hi;omega⟩,d,ot.1,ot.2 * (has / whole outs),_,rfl,dg,by simp;omega,λ H' bt' dg'=>?_⟩;refine⟨bt.trans bt',?_,_,_,rfl⟩;rw[aX hot,aal,<- acd];rw[Int.mul_comm] at dg';exact dg'
   ·rintro Z H2 ⟨bt,dg,v1,v2,rfl⟩;rw[hxl,aaq] at dg;refine⟨_,rfl,_,rfl,_,rfl,_,_,rfl,rfl,.inl ⟨by omega,by omega⟩,_,_,rfl,rfl,?_⟩;have e:has - whole outs * (has / whole outs)=has % whole outs:=by
     have:=Int.emod_add_mul_ediv has (whole outs);omega
    show Q (V.int (has - whole outs * (has / whole outs))) H2;rw[e];exact k H2 (sm.but.trans bt) dg
theorem wE {H:Hp}{v:Vs}{x:V} (h:Is K H (xU v) x):∃ (a:Addr) (o c:V),x=.ref a/\bH K H a [.int v.size,.int v.brim,o,.bl v.holds,lM v.spill,c]/\Is K H (.tup (v.outs.map outD)) o/\Is K H (.tup (v.acts.map zC)) c:=by
 obtain⟨a,xs,rfl,q,l⟩:=(show Is K H (.tup [.int v.size,.int v.brim,.tup (v.outs.map outD),.bl v.holds,CA v.spill,.tup (v.acts.map zC)]) x from h).un;obtain⟨x1,r,rfl,h1,l⟩:=l.un;obtain⟨x2,r,rfl,h2,l⟩:=l.un;obtain⟨x3,r,rfl,h3,l⟩:=l.un;obtain⟨x4,r,rfl,h4,l⟩:=l.un;obtain⟨x5,r,rfl,h5,l⟩:=l.un;obtain⟨x6,r,rfl,h6,l⟩:=l.un;have:=l.un0;subst this;rw[h1.ui,h2.ui,h4.ub,Is.tg h5] at q;exact⟨a,x3,x6,rfl,q,h3,h6⟩
def oX (K:aaa):Sp:=λ vs H Q _=>∃ (x:V) (d:Addr) (has:Int) (v:Vs) (gs:List (Option Int×Int)) (n m:Nat),vs=[x,.int has,.ref d]/\Is K H (xU v) x/\iY H d gs/\gs.length+5<=1000/\VOk n m v/\
 ∀ p H',dU d H H'->iY H' d (gs++fP v has)->bH K H' p [.int (fN v has),.bl (j6 v has)]->Q (.ref p) H'
theorem qT:FnScope ["vessel","has","sent","size","brim","outs","holds","spill","acts","over","left"] ["vessel","has","sent"] (aR (bO 6)):={}
theorem yD {f fS fO:Addr}{fd fdS fdO:FuncData} (F:Fun K "settle" "settle" (bO 6) f fd) (T:Txt mg) (G_send:Callee P w K mg base "send" ["sent","target","amount"] 1 rQ fS fdS)
  (G_share_out:Callee P w K mg base "share_out" ["outs","has","sent"] 2 (rP K) fO fdO):FnOk P w K mg base gQ 3 f fd ["vessel","has","sent"] (oX K):=by
 refine F.ok qT (λ vs H Q E h=>?_) (λ cdv A outer s H vs Q E hr h=>?_)
 ·obtain⟨x,d,has,v,gs,n,m,rfl,_⟩:=h;rfl
 ·obtain⟨x,d,has,v,gs,n,m,rfl,hx,hd,hg,ok,k⟩:=h;have sc:=qT;refine⟨_,(aF (cG (pv 0) (bC (K:=K) (n:=6) rfl rfl (aH (gL 3 sc.nd) (aH (gL 4 sc.nd) (aH (gL 5 sc.nd) (aH (gL 6 sc.nd) (aH (gL 7 sc.nd) (aH (gL 8 sc.nd) bA))))))))
   (aF (pL 9 sc.nd (bF (nP rfl) rfl T.b_max PyProof.Rows.boot_max (aA aE (aA (aK d8 (pv 1) (pv 4)) aC))))
   (aF (cV (cN G_send hr (aA (pv 2) (aA (pv 7) (aA (pv 9) aC)))))
   (aF (A4 (i:=1) sc.nd rfl (Or.inl rfl) (pv 9) FK)
   (aF (cQ (bN qW (pv 1) (pv 3) (bQ _)) (aJ (aY (aO (aA (pv 1) (aA fR aC))))) bK)
   (aF (pL 10 sc.nd (cN G_share_out hr (aA (pv 5) (aA (pv 1) (aA (pv 2) aC)))))
   (aF (cQ (dF (pv 6)) (aJ (aY (aO (aA (pv 10) (aA fR aC))))) bK)
   (aF (cV (cN G_send hr (aA (pv 2) (aA dO (aA (pv 10) aC)))))
   (aJ (aY (aO (aA aE (aA fR aC))))))))))))),?_⟩
  obtain⟨a,o,c,rfl,q,ho,hc⟩:=wE hx;refine⟨_,rfl,a,_,rfl,q,rfl,_,_,rfl,_,_,rfl,_,_,rfl,_,_,rfl,_,_,rfl,_,_,rfl,rfl,?_⟩;refine⟨_,rfl,_,rfl,_,_,rfl,rfl,_,_,rfl,?_⟩;have eo:(if has - v.brim > 0 then has - v.brim else 0)=has - bR v has:=by unfold bR;split <;> omega
  show fA _ _ _ [some (V.ref a),some (V.int has),some (V.ref d),some (V.int v.size),some (V.int v.brim),some o,some (V.bl v.holds),some (lM v.spill),some c,some (V.int (if has - v.brim > 0 then has - v.brim else 0)),none] _;rw[eo];refine⟨_,rfl,_,rfl,_,rfl,d,v.spill,has - bR v has,gs,rfl,hd,by omega,λ H1 b1 d1=>?_⟩;have ts1:bT K H H1:=b1.ts hd.mut;refine⟨_,rfl,_,rfl,_,_,rfl,rfl,?_⟩;have eh:has - (has - bR v has)=bR v has:=by omega
  show fA _ _ _ [some (V.ref a),some (V.int (has - (has - bR v has))),some (V.ref d),some (V.int v.size),some (V.int v.brim),some o,some (V.bl v.holds),some (lM v.spill),some c,some (V.int (has - bR v has)),none] _;rw[eh];refine⟨_,rfl,_,rfl,_,_,rfl,rfl,_,rfl,?_⟩;refine gP (λ hlt=>?_) (λ hge=>?_)
  ·have hlt':bR v has < v.size:=abp hlt;have ht:j6 v has=false:=abw (by omega);refine⟨_,rfl,(show 2<=sizeLine by decide),λ p hp=>?_⟩;refine k p _ (b1.trans (aG.new hp).but) ?_ ?_
   ·have:fP v has=[(v.spill,has - bR v has)]:=by unfold fP;rw[ht];rfl
    rw[this];obtain⟨kvs,e,r⟩:=d1;exact⟨kvs,aG.new hp _ _ e,r⟩
   ·have:fN v has=bR v has:=by unfold fN;rw[ht];rfl
    rw[this,ht];exact bH.of aD
  ·have hge':v.size<=bR v has:=by simpa using hge
   have ht:j6 v has=true:=abz hge';obtain⟨oa,os,rfl,_,_⟩:=ho.un;refine⟨_,rfl,_,rfl,_,rfl,oa,d,bR v has,v.outs,_,n,rfl,Is.mono ts1 _ _ ho,d1,by simp;omega,ok.ne,ok.o3,ok.outs,λ H2 b2 d2=>?_⟩;refine⟨_,rfl,_,rfl,?_⟩;cases hh:v.holds with
   | true=>
    refine cR ?_;refine⟨_,rfl,(show 2<=sizeLine by decide),λ p hp=>?_⟩;refine k p _ (b1.trans (b2.trans (aG.new hp).but)) ?_ ?_
    ·have:gs++fP v has=(gs++[(v.spill,has - bR v has)])++v.outs.map λ x=>(x.1,bR v has / whole v.outs * x.2):=by
      unfold fP fJ;rw[ht,hh];simp
     rw[this];obtain⟨kvs,e,r⟩:=d2;exact⟨kvs,aG.new hp _ _ e,r⟩
    ·have:fN v has=bR v has % whole v.outs:=by unfold fN;rw[ht,hh];rfl
     rw[this,ht];exact bH.of aD
   | false=>
    refine cT ?_;refine⟨_,rfl,_,rfl,d,none,bR v has % whole v.outs,_,rfl,d2,by simp;have:=ok.o3;omega,λ H3 b3 d3=>?_⟩;refine⟨(show 2<=sizeLine by decide),λ p hp=>?_⟩;refine k p _ (b1.trans (b2.trans (b3.trans (aG.new hp).but))) ?_ ?_
    ·have:gs++fP v has=((gs++[(v.spill,has - bR v has)])++v.outs.map λ x=>(x.1,bR v has / whole v.outs * x.2))++[(none,bR v has % whole v.outs)]:=by
      unfold fP fJ;rw[ht,hh];simp
     rw[this];obtain⟨kvs,e,r⟩:=d3;exact⟨kvs,aG.new hp _ _ e,r⟩
    ·have:fN v has=0:=by unfold fN;rw[ht,hh];rfl
     rw[this,ht];exact bH.of aD
theorem xP {H:Hp}{acts:List (Str×Int)}{xs:List V}{i:Nat}{x:V} (l:IsL K H (acts.map zC) xs) (h:xs[i]? = some x) :
  ∃ o,acts[i]? = some o/\∃ a,x=.ref a/\bH K H a [.str o.1,.int o.2]:=by
 obtain⟨d,hd,hx⟩:=l.get' h;rw[aah] at hd;cases e:acts[i]? with
 | none=>rw[e] at hd;cases hd
 | some o=>
  rw[e] at hd;cases hd;refine⟨o,rfl,?_⟩;obtain⟨a,ys,rfl,q,l⟩:=(show Is K H (.tup [.str o.1,.int o.2]) x from hx).un;obtain⟨y,r,rfl,hy,l⟩:=l.un;obtain⟨z,r,rfl,hz,l⟩:=l.un;have:=l.un0;subst this;rw[hy.us,hz.ui] at q;exact⟨a,rfl,q⟩
theorem BO (ds:List Bool) (a:Str×Int):(w9 ds a).length=ds.length:=by unfold w9;simp
theorem kI:∀ (as:List (Str×Int)) (ds:List Bool),(eQ ds as).length=ds.length
 | [],ds=>rfl
 | a::as,ds=>by
  show (eQ (w9 ds a) as).length=_;rw[kI as,BO]
theorem iP (vs:List Vs):∀ (tip:List Nat) (ds:List Bool),(cL vs ds tip).length=ds.length
 | [],ds=>rfl
 | i::r,ds=>by
  show (cL vs (match vs[i]? with | some v=>eQ ds v.acts | none=>ds) r).length=_;rw[iP vs r];cases vs[i]? with
  | none=>rfl
  | some v=>exact kI _ _
theorem qB (ds:List Bool) (as:List (Str×Int)) (a:Str×Int):eQ ds (as++[a])=w9 (eQ ds as) a:=by
 unfold eQ;rw[List.foldl_append];rfl
theorem o5 (vs:List Vs) (ds:List Bool) (tip:List Nat) (i:Nat) (v:Vs) (h:vs[i]? = some v):cL vs ds (tip++[i])=eQ (cL vs ds tip) v.acts:=by
 unfold cL;rw[List.foldl_append];show (match vs[i]? with | some v=>_ | none=>_)=_;rw[h]
def rT (K:aaa):Sp:=λ args H Q _=>∃ (x y:V) (t:Addr) (vs:List Vs) (doors:List Bool) (tip:List Nat) (n:Nat),args=[x,y,.ref t]/\Is K H (.tup (vs.map xU)) x/\Is K H (.tup (doors.map D.bl)) y/\
 bV K H t (tip.map λ (i:Nat)=>V.int (i:Int))/\(∀ i∈tip,i < vs.length)/\(∀ v∈vs,VOk n doors.length v)/\doors.length<=12/\
 ∀ p H',aG H H'->Is K H' (.tup ((cL vs doors tip).map D.bl)) p->Q p H'
theorem iV:FnScope ["vessels","doors","tipped","behind","number","size","brim","outs","holds","spill","acts","word","spout"] ["vessels","doors","tipped"] (aR (bO 9)):={}
theorem oA {f:Addr}{fd:FuncData} (F:Fun K "doors_behind" "doors_behind" (bO 9) f fd) (T:Txt mg):FnOk P w K mg base gQ 1 f fd ["vessels","doors","tipped"] (rT K):=by
 refine F.ok iV (λ vs H Q E h=>?_) (λ cdv A outer s H vs Q E hr h=>?_)
 ·obtain⟨x,y,t,vs,doors,tip,n,rfl,_⟩:=h;rfl
 ·obtain⟨x,y,t,vs,doors,tip,n,rfl,hx,hy,ht,htip,hok,hm,k⟩:=h;have sc:=iV;refine⟨_,(aF (pL 3 sc.nd (b0 (gE (K:=K) rfl) rfl T.b_list kG (aA (pv 1) aC)))
   (aF (dM PassesOwn.never rfl (jG (K:=K) rfl (pv 2)) (gL 4 sc.nd) (aF (cG (px K (pv 0) (pv 4)) (bC (K:=K) (n:=6) rfl rfl (aH (gL 5 sc.nd) (aH (gL 6 sc.nd) (aH (gL 7 sc.nd) (aH (gL 8 sc.nd) (aH (gL 9 sc.nd) (aH (gL 10 sc.nd) bA))))))))
   (aJ (dM PassesOwn.never rfl (eX (K:=K) rfl (pv 10)) (bC (K:=K) (n:=2) rfl rfl (aH (gL 11 sc.nd) (aH (gL 12 sc.nd) bA))) (aJ (cG (GP (iK iW (pv 11) cI (bQ _)) (jH (gK (iK iW (pv 11) cI (bQ _)) (jH (pG (px K (pv 3) (pv 12))))))) (nA (pv 3) (pv 12) fQ)))))))
   (aJ (aY (b0 (bZ (K:=K) rfl) rfl T.b_tuple bW (aA (pv 3) aC)))))),?_⟩
  obtain⟨ax,xs,rfl,qx,lx⟩:=hx.un;obtain⟨ay,ys,rfl,qy,ly⟩:=hy.un;have ey:=ly.bools;subst ey;have exl:xs.length=vs.length:=by rw[lx.length,aad]
  refine⟨_,rfl,ay,_,rfl,.inr qy,λ b hb=>?_⟩;have nb:∀ {c:Addr}{o:HO},H c=some o->c≠b:=λ e=>aN e hb;refine⟨_,rfl,t,rfl,⟨_,(aG.new hb).seq ht⟩,uF (K:=K) (a:=t) (xs:=tip.map λ (i:Nat)=>V.int (i:Int))
   (λ i Z H'=>aG H H'/\H' b=some (.lst ((cL vs doors (tip.take i)).map V.bl))/\∃ v4 v5 v6 v7 v8 v9 v10 v11 v12,Z=[some (.ref ax),some (.ref ay),some (.ref t),some (.ref b),v4,v5,v6,v7,v8,v9,v10,v11,v12])
   ⟨aG.new hb,aD,none,none,none,none,none,none,none,none,none,rfl⟩ (λ i Z H' _ p=>p.1.seq ht) ?_ ?_⟩
  ·rintro i x Z H1 hi ⟨sm,hbl,v4,v5,v6,v7,v8,v9,v10,v11,v12,rfl⟩;rw[aah] at hi;obtain⟨j,hj,rfl⟩:=aba.mp hi;have hjv:=htip j (aao hj);have hv:vs[j]? = some vs[j]:=by simp [hjv]
   have hvok:=hok vs[j] (abx hjv);obtain⟨xv,hxv,ixv⟩:=lx.get (i:=j) (d:=xU vs[j]) (by rw[aah,hv];rfl);obtain⟨va,o,c,rfl,qv,ho,hc⟩:=wE ixv;refine⟨_,rfl,_,rfl,.inr (.inl ⟨ax,xs,j,_,rfl,rfl,sm.tup qx,cE hxv,va,_,rfl,sm.tup qv,rfl,_,_,rfl,_,_,rfl,_,_,rfl,_,_,rfl,_,_,rfl,_,_,rfl,rfl,?_⟩)⟩;obtain⟨ca,cs,rfl,qc,lc⟩:=hc.un;have ecs:cs.length=vs[j].acts.length:=by rw[lc.length,aad]
   refine⟨_,rfl,ca,rfl,⟨_,sm.tup qc⟩,oI (K:=K) (a:=ca) (xs:=cs)
    (λ l Z H'=>aG H H'/\H' b=some (.lst ((eQ (cL vs doors (tip.take i)) (vs[j].acts.take l)).map V.bl))/\
     ∃ u11 u12,Z=[some (.ref ax),some (.ref ay),some (.ref t),some (.ref b),some (.int (j:Int)),some (.int vs[j].size),some (.int vs[j].brim),some o,some (.bl vs[j].holds),some (lM vs[j].spill),some (.ref ca),u11,u12])
    ⟨sm,hbl,v11,v12,rfl⟩ (λ l Z H' _ p=>p.1.tup qc) ?_ ?_⟩
   ·rintro l x Z H2 hl ⟨sm2,hb2,u11,u12,rfl⟩;obtain⟨at',hat,aa,rfl,qa⟩:=xP lc hl;have aok:=hvok.acts at' (aao hat);refine⟨aa,_,rfl,sm2.tup qa,rfl,_,_,rfl,_,_,rfl,rfl,?_⟩;have hdl:(eQ (cL vs doors (tip.take i)) (vs[j].acts.take l)).length=doors.length:=by rw[kI,iP]
    have hsp:at'.2.toNat < (eQ (cL vs doors (tip.take i)) (vs[j].acts.take l)).length:=by rw[hdl];have:=aok.lo;have:=aok.hi;omega
    have fin:∀ c:Bool,c=(if at'.1 = "open" then true else if at'.1 = "turn" then !((eQ (cL vs doors (tip.take i)) (vs[j].acts.take l)).getD at'.2.toNat false) else false)->
      aG H (upd H2 b (.lst (((eQ (cL vs doors (tip.take i)) (vs[j].acts.take l)).map V.bl).set at'.2.toNat (.bl c))))/\
      upd H2 b (.lst (((eQ (cL vs doors (tip.take i)) (vs[j].acts.take l)).map V.bl).set at'.2.toNat (.bl c))) b=some (.lst ((eQ (cL vs doors (tip.take i)) (vs[j].acts.take (l+1))).map V.bl)):=λ c hc=>by
     refine⟨sm2.put hb,?_⟩;rw[aD,aX hat,qB,w9,<- hc,List.map_set]
    have set:∀ c:Bool,c=(if at'.1 = "open" then true else if at'.1 = "turn" then !((eQ (cL vs doors (tip.take i)) (vs[j].acts.take l)).getD at'.2.toNat false) else false)->
      B8 (aZ 3) (aZ 12) tP (.bl c) [some (.ref ax),some (.ref ay),some (.ref t),some (.ref b),some (.int (j:Int)),some (.int vs[j].size),some (.int vs[j].brim),some o,some (.bl vs[j].holds),some (lM vs[j].spill),some (.ref ca),some (.str at'.1),some (.int at'.2)] H2
       λ Z H'=>aG H H'/\H' b=some (.lst ((eQ (cL vs doors (tip.take i)) (vs[j].acts.take (l+1))).map V.bl))/\
        ∃ u11 u12,Z=[some (.ref ax),some (.ref ay),some (.ref t),some (.ref b),some (.int (j:Int)),some (.int vs[j].size),some (.int vs[j].brim),some o,some (.bl vs[j].holds),some (lM vs[j].spill),some (.ref ca),u11,u12]:=λ c hc=>by
     obtain⟨f1,f2⟩:=fin c hc;refine⟨_,rfl,_,rfl,b,_,at'.2,at'.2.toNat,rfl,rfl,hb2,mH aok.lo (by rw[aad];omega),f1,f2,_,_,rfl⟩
    refine⟨_,rfl,rfl,_,rfl,?_⟩;refine gP (λ h1=>?_) (λ h1=>?_)
    ·have e1:at'.1 = "open" := by have:=abp h1;injection this
     exact set true (by rw[if_pos e1])
    ·have e1:¬ at'.1 = "open" := λ z=>h1 (abz (by rw[z]));refine⟨_,rfl,rfl,_,rfl,?_⟩;refine gP (λ h2=>?_) (λ h2=>?_)
     ·have e2:at'.1 = "turn" := by have:=abp h2;injection this
      have hg:((eQ (cL vs doors (tip.take i)) (vs[j].acts.take l)).map V.bl)[at'.2.toNat]? = some (.bl ((eQ (cL vs doors (tip.take i)) (vs[j].acts.take l)).getD at'.2.toNat false)):=by
       rw[aah,abd];simp [hsp]
      refine⟨_,rfl,_,rfl,.inl ⟨b,_,at'.2,_,rfl,rfl,bV.of hb2,gY aok.lo hg,_,rfl,?_⟩⟩;exact set _ (by rw[if_neg e1,if_pos e2])
     ·have e2:¬ at'.1 = "turn" := λ z=>h2 (abz (by rw[z]));exact set false (by rw[if_neg e1,if_neg e2])
   ·rintro Z H2 ⟨sm2,hb2,u11,u12,rfl⟩;rw[ecs,aaq] at hb2;refine⟨sm2,?_,_,_,_,_,_,_,_,_,_,rfl⟩;rw[aX hj,o5 vs doors _ j vs[j] hv];exact hb2
  ·rintro Z H1 ⟨sm,hbl,v4,v5,v6,v7,v8,v9,v10,v11,v12,rfl⟩;rw[aad,aaq] at hbl;refine⟨_,rfl,b,_,rfl,.inl ⟨bV.of hbl,λ l hl=>?_⟩⟩;exact k _ _ (sm.trans (aG.new hl)) (Is.tupOf (bH.of aD) (IsL.of_bools _))
theorem gN:∀ {a b c:List Int}{n:Nat},a.length=n->b.length=n->c.length=n->(gA a b c).length=n
 | [],b,c,n,h,_,_=>by simp at h;subst h;rfl
 | x::a,[],c,n,h1,h2,_=>by simp at h1 h2;omega
 | x::a,y::b,[],n,h1,_,h3=>by simp at h1 h3;omega
 | x::a,y::b,z::c,n,h1,h2,h3=>by
  simp at h1 h2 h3;show (gA a b c).length+1=n;rw[gN (n:=n - 1) (by omega) (by omega) (by omega)];omega
theorem qA:∀ {a b c:List Int}{i:Nat}{x y z:Int},a[i]? = some x->b[i]? = some y->c[i]? = some z->(gA a b c)[i]? = some (x+y+z)
 | [],_,_,i,_,_,_,h,_,_=>by simp at h
 | _::_,[],_,i,_,_,_,_,h,_=>by simp at h
 | _::_,_::_,[],i,_,_,_,_,_,h=>by simp at h
 | a::as,b::bs,c::cs,0,x,y,z,h1,h2,h3=>by simp at h1 h2 h3;subst h1 h2 h3;rfl
 | a::as,b::bs,c::cs,i+1,x,y,z,h1,h2,h3=>by
  show (gA as bs cs)[i]? = _;exact qA (by simpa using h1) (by simpa using h2) (by simpa using h3)
theorem rF (has:List Int) (s:wA) (d:Bool):(kR has s d).length=has.length:=by unfold kR;split <;> simp
theorem gD:∀ (ss:List wA) (ds:List Bool) (has:List Int),(dZ has ss ds).length=has.length
 | [],ds,has=>by cases ds <;> rfl
 | s::ss,[],has=>rfl
 | s::ss,d::ds,has=>by show (dZ (kR has s d) ss ds).length=_;rw[gD ss ds,rF]
theorem lH:∀ (ss:List wA) (ds:List Bool) (i:Nat) (has:List Int) (s:wA) (d:Bool),ss[i]? = some s->ds[i]? = some d->dZ has (ss.take (i+1)) (ds.take (i+1))=kR (dZ has (ss.take i) (ds.take i)) s d
 | [],_,i,_,_,_,h,_=>by simp at h
 | _::_,[],i,_,_,_,_,h=>by simp at h
 | a::ss,b::ds,0,has,s,d,h1,h2=>by simp at h1 h2;subst h1 h2;simp [dZ]
 | a::ss,b::ds,i+1,has,s,d,h1,h2=>by
  simp only [List.take_succ_cons,dZ];exact lH ss ds i _ s d (by simpa using h1) (by simpa using h2)
theorem lG:∀ (vs:List Vs) (hs:List Int) (i:Nat) (v:Vs) (h:Int),vs[i]? = some v->hs[i]? = some h->cF (vs.take (i+1)) (hs.take (i+1))=cF (vs.take i) (hs.take i)++fP v h
 | [],_,i,_,_,h,_=>by simp at h
 | _::_,[],i,_,_,_,h=>by simp at h
 | a::vs,b::hs,0,v,h,h1,h2=>by simp at h1 h2;subst h1 h2;simp [cF]
 | a::vs,b::hs,i+1,v,h,h1,h2=>by
  simp only [List.take_succ_cons,cF,acd];rw[lG vs hs i v h (by simpa using h1) (by simpa using h2)]
theorem j8:∀ (vs:List Vs) (hs:List Int) (i:Nat) (v:Vs) (h:Int),vs[i]? = some v->hs[i]? = some h->dL (vs.take (i+1)) (hs.take (i+1))=dL (vs.take i) (hs.take i)++[fN v h]
 | [],_,i,_,_,h,_=>by simp at h
 | _::_,[],i,_,_,_,h=>by simp at h
 | a::vs,b::hs,0,v,h,h1,h2=>by simp at h1 h2;subst h1 h2;simp [dL]
 | a::vs,b::hs,i+1,v,h,h1,h2=>by
  simp only [List.take_succ_cons,dL,List.cons_append];rw[j8 vs hs i v h (by simpa using h1) (by simpa using h2)]
theorem kT:∀ (vs:List Vs) (hs:List Int) (i j:Nat) (v:Vs) (h:Int),vs[i]? = some v->hs[i]? = some h->bI j (vs.take (i+1)) (hs.take (i+1))=bI j (vs.take i) (hs.take i)++(if j6 v h=true then [j+i] else [])
 | [],_,i,_,_,_,h,_=>by simp at h
 | _::_,[],i,_,_,_,_,h=>by simp at h
 | a::vs,b::hs,0,j,v,h,h1,h2=>by
  simp at h1 h2;subst h1 h2;simp only [List.take_succ_cons,List.take_zero,bI,Nat.add_zero,List.nil_append]
 | a::vs,b::hs,i+1,j,v,h,h1,h2=>by
  simp only [List.take_succ_cons,bI];rw[kT vs hs i (j+1) v h (by simpa using h1) (by simpa using h2)];have e:j+1+i=j+(i+1):=by omega
  rw[e]
  split <;> simp
theorem lP:∀ (vs:List Vs) (hs:List Int) (j k:Nat),k∈bI j vs hs->j<=k/\k < j+vs.length
 | [],_,_,k,h=>by simp [bI] at h
 | _::_,[],_,k,h=>by simp [bI] at h
 | a::vs,b::hs,j,k,h=>by
  simp only [bI] at h;have ih:=lP vs hs (j+1) k;simp only [abf]
  split at h
  ·rcases abl.mp h with rfl | h
   ·omega
   ·have:=ih h;omega
  ·have:=ih h;omega
theorem hU:∀ (vs:List Vs) (hs:List Int) (j:Nat),(bI j vs hs).length<=vs.length
 | [],_,_=>by simp [bI]
 | _::_,[],_=>by simp [bI]
 | a::vs,b::hs,j=>by
  simp only [bI,abf];have:=hU vs hs (j+1)
  split
  ·rw[abf];omega
  ·omega
theorem kC {n m:Nat}:∀ (vs:List Vs) (hs:List Int),(∀ v∈vs,VOk n m v)->(cF vs hs).length<=5 * vs.length
 | [],_,_=>by simp [cF]
 | _::_,[],_=>by simp [cF]
 | a::vs,b::hs,h=>by
  simp only [cF,aap,abf];have h1:=xV (h a abi) b;have h2:=kC vs hs λ v hv=>h v (aay _ hv);omega
theorem oV {H:Hp}{sps:List wA}{xs:List V}{i:Nat}{x:V} (l:IsL K H (sps.map EE) xs) (h:xs[i]? = some x) :
  ∃ s,sps[i]? = some s/\∃ a,x=.ref a/\bH K H a [.int s.1,.int s.2.1,.bl s.2.2]:=by
 obtain⟨d,hd,hx⟩:=l.get' h;rw[aah] at hd;cases e:sps[i]? with
 | none=>rw[e] at hd;cases hd
 | some o=>
  rw[e] at hd;cases hd;refine⟨o,rfl,?_⟩;obtain⟨a,ys,rfl,q,l⟩:=(show Is K H (.tup [.int o.1,.int o.2.1,.bl o.2.2]) x from hx).un;obtain⟨y,r,rfl,hy,l⟩:=l.un;obtain⟨z,r,rfl,hz,l⟩:=l.un;obtain⟨z2,r,rfl,hz2,l⟩:=l.un;have:=l.un0;subst this;rw[hy.ui,hz.ui,hz2.ub] at q;exact⟨a,rfl,q⟩
theorem qS {H:Hp}{held coming:List Int}{doors:List Bool}{y:V} (h:Is K H (tK held coming doors) y):∃ (a b c d:Addr),y=.ref a/\bH K H a [.ref b,.ref c,.ref d]/\bH K H b (held.map V.int)/\bH K H c (coming.map V.int)/\bH K H d (doors.map V.bl):=by
 obtain⟨a,xs,rfl,q,l⟩:=(show Is K H (.tup [.tup (held.map D.int),.tup (coming.map D.int),.tup (doors.map D.bl)]) y from h).un;obtain⟨x1,r,rfl,h1,l⟩:=l.un;obtain⟨x2,r,rfl,h2,l⟩:=l.un;obtain⟨x3,r,rfl,h3,l⟩:=l.un;have:=l.un0;subst this;obtain⟨b,ys,rfl,q1,l1⟩:=h1.un;obtain⟨c,zs,rfl,q2,l2⟩:=h2.un;obtain⟨d,us,rfl,q3,l3⟩:=h3.un;rw[l1.ints] at q1;rw[l2.ints] at q2;rw[l3.bools] at q3;exact⟨a,b,c,d,rfl,q,q1,q2,q3⟩
theorem wJ {H:Hp}{held coming:List Int}{doors:List Bool}{a b c d:Addr} (q:bH K H a [.ref b,.ref c,.ref d]) (q1:bH K H b (held.map V.int)) (q2:bH K H c (coming.map V.int)) (q3:bH K H d (doors.map V.bl)):Is K H (tK held coming doors) (.ref a):=
 Is.tupOf q (.cons (Is.tupOf q1 (IsL.of_ints _)) (.cons (Is.tupOf q2 (IsL.of_ints _)) (.cons (Is.tupOf q3 (IsL.of_bools _)) .nil)))
def p6 (K:aaa):Sp:=λ args H Q _=>∃ (x y:V) (z:Addr) (sps:List wA) (held coming poured:List Int) (doors:List Bool) (n:Nat),args=[x,y,.ref z]/\Is K H (.tup (sps.map EE)) x/\Is K H (tK held coming doors) y/\bH K H z (poured.map V.int)/\
 held.length=n/\coming.length=n/\poured.length=n/\doors.length=sps.length/\n<=12/\(∀ s∈sps,0<=s.1/\s.1 < n)/\
 ∀ p H',aG H H'->H p=none->H' p=some (.lst ((dZ (gA held coming poured) sps doors).map V.int))->Q (.ref p) H'
theorem qU:FnScope ["spouts","state","poured","held","coming","doors","has","target","flow","first_door","door"] ["spouts","state","poured"] (aR (bO 5)):={}
theorem yE {f:Addr}{fd:FuncData} (F:Fun K "filled" "filled" (bO 5) f fd) (T:Txt mg):FnOk P w K mg base gQ 1 f fd ["spouts","state","poured"] (p6 K):=by
 refine F.ok qU (λ vs H Q E h=>?_) (λ cdv A outer s H vs Q E hr h=>?_)
 ·obtain⟨x,y,z,sps,held,coming,poured,doors,n,rfl,_⟩:=h;rfl
 ·obtain⟨x,y,z,sps,held,coming,poured,doors,n,rfl,hx,hy,qz,l1,l2,l3,l4,hn,hsp,k⟩:=h;have sc:=qU;refine⟨_,(aF (cG (pv 1) (bC (K:=K) (n:=3) rfl rfl (aH (gL 3 sc.nd) (aH (gL 4 sc.nd) (aH (gL 5 sc.nd) bA)))))
   (aF (jZ (i:=6) sc.nd rfl rfl (λ _ _ h=>h) rfl (LcOk.mk (N':=["amounts"]) (fr:=[none]) rfl trivial rfl rfl rfl rfl rfl trivial) (A6 (K:=K) rfl rfl T.b_zip (aA (pv 3) (aA (pv 4) (aA (pv 2) aC)))) (λ _ _ _=>(gC 0 ["amounts"])) (λ _ _ _=>dN) (λ _ _ _=>(bF (dX (K:=K) rfl rfl) rfl T.b_sum PyProof.Rows.boot_sum (aA (pv 0) aC))))
   (aF (dM PassesOwn.never rfl (pF (K:=K) rfl rfl T.b_zip (aA (pv 0) (aA (pv 5) aC))) (bC (K:=K) (n:=2) rfl rfl (aH (bC (K:=K) (n:=3) rfl rfl (aH (gL 7 sc.nd) (aH (gL 8 sc.nd) (aH (gL 9 sc.nd) bA)))) (aH (gL 10 sc.nd) bA))) (aJ (cQ (dF (pv 10)) (aJ (wQ (pv 6) (pv 7) (rC (K:=K) rfl) (pv 8) vW fQ)) bK)))
   (aJ (aY (pv 6)))))),?_⟩
  obtain⟨ax,xs,rfl,qx,lx⟩:=hx.un;obtain⟨ay,a1,a2,a3,rfl,qy,q1,q2,q3⟩:=qS hy;have exl:xs.length=sps.length:=by rw[lx.length,aad]
  refine⟨_,rfl,ay,_,rfl,qy,rfl,_,_,rfl,_,_,rfl,_,_,rfl,rfl,?_⟩;have la:=gN l1 l2 l3;refine⟨_,rfl,_,rfl,_,rfl,true,true,true,a1,a2,z,rfl,⟨_,q1⟩,⟨_,q2⟩,⟨_,qz⟩,D0 (K:=K) (xs:=held.map V.int) (ys:=coming.map V.int) (zs:=poured.map V.int) (n:=n) (by simpa using l1) (by simpa using l2) (by simpa using l3)
   (λ D i r Z H'=>H D=none/\aG H H'/\H' D=some (.lst r)/\r=((gA held coming poured).take i).map V.int/\∃ v,Z=[v])
   (λ D i r Z H' p=>⟨p.2.1.tup q1,p.2.1.tup q2,p.2.1.tup qz⟩) (λ D hD=>⟨hD,aG.new hD,aD,by simp,none,rfl⟩) ?_ ?_⟩
  rotate_left
  ·rintro D i x0 y0 z0 r Z H' Tt hx0 hy0 hz0 ⟨hD,sm,hDl,rfl,v,rfl⟩ hT;rw[aah] at hx0 hy0 hz0;obtain⟨x,hx,rfl⟩:=aba.mp hx0;obtain⟨y,hy,rfl⟩:=aba.mp hy0;obtain⟨z',hz,rfl⟩:=aba.mp hz0;have hi:=qA hx hy hz;have hil:=(aag.mp hi).1;have nT:D≠Tt:=aN hDl hT;refine eV ?_;refine⟨_,rfl,true,Tt,[x,y,z'],rfl,bH.of aD,by rw[aM nT];exact hDl,aW (by simp;omega),hD,?_,aD,?_,_,rfl⟩
   ·intro b o e;rw[aM (aN e hD)];exact aG.new hT b o (sm b o e)
   ·rw[aX hi,aal];have:[x,y,z'].sum=x+y+z':=by simp;omega
    rw[this];rfl
  ·rintro D r Z H1 ⟨hD,sm,hDl,rfl,_⟩;rw[<- la,aaq] at hDl;refine⟨_,rfl,_,rfl,true,true,ax,a3,rfl,⟨_,sm.tup qx⟩,⟨_,sm.tup q3⟩,BB (K:=K) (xs:=xs) (ys:=doors.map V.bl) (n:=sps.length) exl (by rw[aad,l4])
    (λ i Z H'=>aG H H'/\H' D=some (.lst ((dZ (gA held coming poured) (sps.take i) (doors.take i)).map V.int))/\
     ∃ v7 v8 v9 v10,Z=[some (.ref ax),some (.ref ay),some (.ref z),some (.ref a1),some (.ref a2),some (.ref a3),some (.ref D),v7,v8,v9,v10])
    (λ i Z H' p=>⟨p.1.tup qx,p.1.tup q3⟩) ⟨sm,by cases sps <;> exact hDl,none,none,none,none,rfl⟩ ?_ ?_⟩
   ·rintro Z H2 ⟨sm2,h2,v7,v8,v9,v10,rfl⟩;rw[<- l4,aaq] at h2;rw[l4,aaq] at h2;refine⟨_,rfl,?_⟩;exact k D H2 sm2 hD h2
   ·rintro i x y Z H2 Tt hx hy ⟨sm2,h2,v7,v8,v9,v10,rfl⟩ hT;obtain⟨sp,hsi,sa,rfl,qs⟩:=oV lx hx;rw[aah] at hy;obtain⟨dr,hdi,rfl⟩:=aba.mp hy;have nT:D≠Tt:=aN h2 hT;have sm3:aG H (upd H2 Tt (.tup [.ref sa,.bl dr])):=λ b o e=>aG.new hT b o (sm2 b o e);have h3:upd H2 Tt (.tup [.ref sa,.bl dr]) D=some (.lst ((dZ (gA held coming poured) (sps.take i) (doors.take i)).map V.int)):=by rw[aM nT];exact h2
    refine⟨Tt,_,rfl,bH.of aD,rfl,_,_,rfl,⟨sa,_,rfl,sm3.tup qs,rfl,_,_,rfl,_,_,rfl,_,_,rfl,rfl,_,_,rfl,rfl,?_⟩⟩;refine⟨_,rfl,_,rfl,?_⟩;have snoc:=lH sps doors i (gA held coming poured) sp dr hsi hdi;cases dr with
    | false=>
     refine cT ?_;refine⟨sm3,?_,_,_,_,_,rfl⟩;rw[snoc];exact h3
    | true=>
     refine cR ?_;have hs:=hsp sp (aao hsi);have hlen:(dZ (gA held coming poured) (sps.take i) (doors.take i)).length=n:=by rw[gD,la]
     have hlt:sp.1.toNat < (dZ (gA held coming poured) (sps.take i) (doors.take i)).length:=by rw[hlen];omega
     have hg:((dZ (gA held coming poured) (sps.take i) (doors.take i)).map V.int)[sp.1.toNat]? = some (.int ((dZ (gA held coming poured) (sps.take i) (doors.take i)).getD sp.1.toNat 0)):=by
      rw[aah,abd];simp [hlt]
     refine⟨_,rfl,_,rfl,D,_,sp.1,_,rfl,rfl,bV.of h3,hs.1,by omega,hg,_,rfl,_,_,rfl,rfl,D,_,sp.1,sp.1.toNat,rfl,rfl,h3,mH hs.1 (by rw[aad,hlen];omega),?_⟩;refine⟨sm3.put hD,?_,_,_,_,_,rfl⟩;rw[aD,snoc,kR,if_pos rfl,List.map_set]
theorem iE:∀ (vs:List Vs) (hs:List Int),vs.length=hs.length->(dL vs hs).length=vs.length
 | [],_,_=>by simp [dL]
 | _::_,[],h=>by simp at h
 | a::vs,b::hs,h=>by simp only [dL,abf];rw[iE vs hs (by simpa using h)]
theorem g6 {H:Hp}{net:Net}{x:V} (h:Is K H (gZ net) x):∃ (a b c:Addr) (xs ys:List V),x=.ref a/\bH K H a [.ref b,.ref c]/\bH K H b xs/\IsL K H (net.vs.map xU) xs/\bH K H c ys/\IsL K H (net.sps.map EE) ys:=by
 obtain⟨a,zs,rfl,q,l⟩:=(show Is K H (.tup [.tup (net.vs.map xU),.tup (net.sps.map EE)]) x from h).un;obtain⟨x1,r,rfl,h1,l⟩:=l.un;obtain⟨x2,r,rfl,h2,l⟩:=l.un;have:=l.un0;subst this;obtain⟨b,xs,rfl,q1,l1⟩:=h1.un;obtain⟨c,ys,rfl,q2,l2⟩:=h2.un;exact⟨a,b,c,xs,ys,rfl,q,q1,l1,q2,l2⟩
structure StOk (net:Net) (held coming:List Int) (doors:List Bool):Prop where
 h:held.length=net.vs.length
 c:coming.length=net.vs.length
 d:doors.length=net.sps.length
def uX (K:aaa):Sp:=λ args H Q _=>∃ (x y:V) (z:Addr) (net:Net) (held coming poured:List Int) (doors:List Bool),args=[x,y,.ref z]/\Is K H (gZ net) x/\Is K H (tK held coming doors) y/\bH K H z (poured.map V.int)/\
 NetOk net/\StOk net held coming doors/\poured.length=net.vs.length/\∀ (p:Addr) (ys:List V) H',aG H H'->H' p=some (.tup ys)->Is K H' (GC (kU net held coming poured doors)) (.ref p)->Q (.ref p) H'
theorem j9:FnScope ["net","state","poured","vessels","spouts","held","tipped","sent","number","has","left","tips","coming","doors"] ["net","state","poured"] (aR (bO 3)):={}
theorem pI {f fF fS fD:Addr}{fd fdF fdS fdD:FuncData} (F:Fun K "tick_behind" "tick_behind" (bO 3) f fd) (T:Txt mg) (G_filled:Callee P w K mg base "filled" ["spouts","state","poured"] 1 (p6 K) fF fdF)
  (G_settle:Callee P w K mg base "settle" ["vessel","has","sent"] 3 (oX K) fS fdS) (G_doors_behind:Callee P w K mg base "doors_behind" ["vessels","doors","tipped"] 1 (rT K) fD fdD):FnOk P w K mg base gQ 4 f fd ["net","state","poured"] (uX K):=by
 refine F.ok j9 (λ vs H Q E h=>?_) (λ cdv A outer s H vs Q E hr h=>?_)
 ·obtain⟨x,y,z,net,held,coming,poured,doors,rfl,_⟩:=h;rfl
 ·obtain⟨x,y,z,net,held,coming,poured,doors,rfl,hx,hy,qz,nok,sok,lp,k⟩:=h;have sc:=j9;have hu:=DX hr;refine⟨_,(aF (cG (pv 0) (bC (K:=K) (n:=2) rfl rfl (aH (gL 3 sc.nd) (aH (gL 4 sc.nd) bA))))
   (aF (cG (aO (aA (b9 aC) (aA (b9 aC) (aA A8 aC)))) (bC (K:=K) (n:=3) rfl rfl (aH (gL 5 sc.nd) (aH (gL 6 sc.nd) (aH (iJ (i:=7) sc.nd rfl (Or.inr rfl)) bA)))))
   (aF (dM PassesOwn.never rfl (tQ (K:=K) rfl rfl T.b_enumerate (aA (cN G_filled hr (aA (pv 4) (aA (pv 1) (aA (pv 2) aC)))) aC)) (bC (K:=K) (n:=2) rfl rfl (aH (gL 8 sc.nd) (aH (gL 9 sc.nd) bA))) (aF (cG (cN G_settle hr (aA (px K (pv 3) (pv 8)) (aA (pv 9) (aA (pv 7) aC)))) (bC (K:=K) (n:=2) rfl rfl (aH (gL 10 sc.nd) (aH (gL 11 sc.nd) bA))))
   (aF (cV (eS (K:=K) rfl aas aav aaw cD (pv 5) (aA (pv 10) aC)))
   (aJ (cQ (dF (pv 11)) (aJ (cV (eS (K:=K) rfl aas aav aaw cD (pv 6) (aA (pv 8) aC)))) bK)))))
   (aF (jZ (i:=12) sc.nd rfl rfl (λ _ _ h=>h) rfl (LcOk.mk (N':=["number","sent"]) (fr:=[none,some 7]) rfl ⟨rfl,trivial⟩ rfl rfl rfl rfl rfl ⟨⟨_,rfl,rfl,rfl,rfl⟩,trivial⟩) (cH rfl T.b_range (aA (mS K T.b_len (pv 3)) aC)) (λ _ _ _=>(gC 0 ["number","sent"])) (λ _ _ _=>dN) (λ _ _ _=>(pH hu (pv 1) (pv 0) aE ⟨rfl,rfl,rfl,rfl⟩)))
   (aF (pL 13 sc.nd (cN G_doors_behind hr (aA (pv 3) (aA (px K (pv 1) aE) (aA (pv 6) aC)))))
   (aJ (aY (aO (aA (aO (aA (b0 (bZ (K:=K) rfl) rfl T.b_tuple bW (aA (pv 5) aC)) (aA (b0 (bZ (K:=K) rfl) rfl T.b_tuple bW (aA (pv 12) aC)) (aA (pv 13) aC)))) (aA (b0 (bZ (K:=K) rfl) rfl T.b_tuple bW (aA (pv 6) aC)) (aA (pH hu (pv 7) dO aE ⟨rfl,rfl,rfl,rfl⟩) aC))))))))))),?_⟩
  obtain⟨ax,av,as,xs,ys,rfl,qx,qv,lv,qs,ls⟩:=g6 hx;obtain⟨ay,b1,b2,b3,rfl,qy,q1,q2,q3⟩:=qS hy;have exl:xs.length=net.vs.length:=by rw[lv.length,aad]
  refine⟨_,rfl,ax,_,rfl,qx,rfl,_,_,rfl,_,_,rfl,rfl,?_⟩;refine⟨aar _,λ hl hhl=>⟨aar _,λ tl htl=>λ sd hsd=>⟨(show 3<=sizeLine by decide),λ tp htp=>⟨tp,_,rfl,bH.of aD,rfl,_,_,rfl,_,_,rfl,_,_,rfl,rfl,?_⟩⟩⟩⟩;have n1:hl≠tl:=aN (show upd H hl (.lst []) hl=_ from aD) htl;have fh:H hl=none:=hhl;have ft:H tl=none:=aG.free (aG.new hhl) htl;have fs:H sd=none:=aG.free ((aG.new hhl).trans (aG.new htl)) hsd;have n2:hl≠sd:=aN (by rw[aM n1];exact aD) hsd;have n3:tl≠sd:=aN (show upd (upd H hl (.lst [])) tl (.lst []) tl=_ from aD) hsd;have sm0:aG H (upd (upd (upd (upd H hl (.lst [])) tl (.lst [])) sd (.dK [])) tp (.tup [.ref hl,.ref tl,.ref sd])):=(((aG.new hhl).trans (aG.new htl)).trans (aG.new hsd)).trans (aG.new htp);have g1:upd (upd (upd (upd H hl (.lst [])) tl (.lst [])) sd (.dK [])) tp (.tup [.ref hl,.ref tl,.ref sd]) hl=some (.lst []):=aG.new htp _ _ (by rw[aM n2,aM n1];exact aD);have g2:upd (upd (upd (upd H hl (.lst [])) tl (.lst [])) sd (.dK [])) tp (.tup [.ref hl,.ref tl,.ref sd]) tl=some (.lst []):=aG.new htp _ _ (by rw[aM n3];exact aD);have g3:upd (upd (upd (upd H hl (.lst [])) tl (.lst [])) sd (.dK [])) tp (.tup [.ref hl,.ref tl,.ref sd]) sd=some (.dK []):=aG.new htp _ _ aD;generalize upd (upd (upd (upd H hl (.lst [])) tl (.lst [])) sd (.dK [])) tp (.tup [.ref hl,.ref tl,.ref sd])=H0 at sm0 g1 g2 g3 ⊢;refine⟨_,rfl,_,rfl,_,rfl,.ref as,.ref ay,z,net.sps,held,coming,poured,doors,net.vs.length,rfl,Is.tupOf (sm0.tup qs) (IsL.mono sm0.ts _ _ ls),Is.mono sm0.ts _ _ hy,sm0.tup qz,sok.h,sok.c,lp,sok.d,nok.hi,nok.sps,λ ha H1 sm1 fha hha=>?_⟩;have hsl:(aP net held coming poured doors).length=net.vs.length:=by
   unfold aP;rw[gD,gN sok.h sok.c lp]
  have g1':=sm1 _ _ g1;have g2':=sm1 _ _ g2;have g3':=sm1 _ _ g3;have na1:hl≠ha:=aN g1 fha;have na2:tl≠ha:=aN g2 fha;have na3:sd≠ha:=aN g3 fha;have fa:H ha=none:=sm0.free fha;refine⟨false,ha,rfl,⟨_,bV.of hha⟩,uG (K:=K) (t:=false) (a:=ha) (xs:=(aP net held coming poured doors).map V.int)
   (λ i Z H'=>aG H H'/\H' ha=some (.lst ((aP net held coming poured doors).map V.int))/\H' hl=some (.lst ((dL (net.vs.take i) ((aP net held coming poured doors).take i)).map V.int))/\
    H' tl=some (.lst ((bI 0 (net.vs.take i) ((aP net held coming poured doors).take i)).map λ (j:Nat)=>V.int (j:Int)))/\iY H' sd (cF (net.vs.take i) ((aP net held coming poured doors).take i))/\
    ∃ v8 v9 v10 v11,Z=[some (.ref ax),some (.ref ay),some (.ref z),some (.ref av),some (.ref as),some (.ref hl),some (.ref tl),some (.ref sd),v8,v9,v10,v11,none,none])
   (λ i Z H' p=>bV.of p.2.1) ⟨sm0.trans sm1,hha,by simpa [dL] using g1',by simpa [bI] using g2',⟨[],g3',by simp,λ k=>rfl⟩,none,none,none,none,rfl⟩ ?_ ?_⟩
  rotate_left
  ·rintro i x0 Z H2 Tt hx0 ⟨sm2,p1,p2,p3,p4,v8,v9,v10,v11,rfl⟩ hT;rw[aah] at hx0;obtain⟨hi,hhi,rfl⟩:=aba.mp hx0;have hil:i < net.vs.length:=by rw[<- hsl];exact (aag.mp hhi).1
   have hv:net.vs[i]? = some net.vs[i]:=by simp [hil]
   have vok:=nok.vs _ (abx hil);obtain⟨xv,hxv,ixv⟩:=lv.get (i:=i) (d:=xU net.vs[i]) (by rw[aah,hv];rfl);have smT:=aG.new (o:=HO.tup [.int (i:Int),.int hi]) hT;refine⟨Tt,_,rfl,bH.of aD,rfl,_,_,rfl,_,_,rfl,rfl,?_⟩;have sm3:aG H (upd H2 Tt (.tup [.int (i:Int),.int hi])):=sm2.trans smT;obtain⟨kvs,d1,d2,d3⟩:=p4;have hgl:=kC (net.vs.take i) ((aP net held coming poured doors).take i) λ v hv'=>nok.vs v (List.mem_of_mem_take hv');have htk:(net.vs.take i).length<=12:=by rw[aau];have:=nok.hi;omega
   refine⟨_,rfl,_,rfl,.inr (.inl ⟨av,xs,i,_,rfl,rfl,sm3.tup qv,cE hxv,_,rfl,_,rfl,xv,sd,hi,net.vs[i],_,_,_,rfl,Is.mono sm3.ts _ _ ixv,⟨kvs,smT _ _ d1,d2,d3⟩,by omega,vok,λ p H3 bt dg qp=>?_⟩)⟩;refine⟨p,_,rfl,qp,rfl,_,_,rfl,_,_,rfl,rfl,?_⟩;have e1:=bt hl _ n2 (smT _ _ p2);have e2:=bt tl _ n3 (smT _ _ p3);have e3:=bt ha _ (Ne.symm na3) (smT _ _ p1);have sm4:aG H H3:=λ b o e=>bt b o (aN e fs) (sm3 b o e);have stl:(dL (net.vs.take i) ((aP net held coming poured doors).take i)).length<=12:=by
    rw[iE _ _ (by rw[aau,aau,hsl])];exact htk
   have tpl:=hU (net.vs.take i) ((aP net held coming poured doors).take i) 0;refine⟨_,rfl,.inl ⟨rfl,_,bV.of e1⟩,_,rfl,hl,_,_,rfl,rfl,e1,aW (by simp;omega),?_⟩;have f1:upd H3 hl (.lst ((dL (net.vs.take i) ((aP net held coming poured doors).take i)).map V.int++[.int (fN net.vs[i] hi)])) tl=some (.lst ((bI 0 (net.vs.take i) ((aP net held coming poured doors).take i)).map λ (j:Nat)=>V.int (j:Int))):=by rw[aM (Ne.symm n1)];exact e2
   have s1:=j8 net.vs (aP net held coming poured doors) i _ _ hv hhi;have s2:=kT net.vs (aP net held coming poured doors) i 0 _ _ hv hhi;have s3:=lG net.vs (aP net held coming poured doors) i _ _ hv hhi;have dgo:∀ {Hx:Hp},Hx sd=H3 sd->iY Hx sd (cF (net.vs.take (i+1)) ((aP net held coming poured doors).take (i+1))):=λ {Hx} e=>by
    obtain⟨kv,a1,a2,a3⟩:=dg;rw[s3];exact⟨kv,e.trans a1,a2,a3⟩
   refine⟨_,rfl,_,rfl,?_⟩;cases ht:j6 net.vs[i] hi with
   | false=>
    refine cT ?_;rw[ht] at s2;refine⟨sm4.put fh,by rw[aM (Ne.symm na1)];exact e3,by rw[aD,s1,aal];rfl,by rw[s2];simpa using f1,dgo (by rw[aM (Ne.symm n2)]),_,_,_,_,rfl⟩
   | true=>
    refine cR ?_;rw[ht] at s2;refine⟨_,rfl,.inl ⟨rfl,_,bV.of f1⟩,_,rfl,tl,_,_,rfl,rfl,f1,aW (by simp;omega),?_⟩;refine⟨(sm4.put fh).put ft,by rw[aM (Ne.symm na2),aM (Ne.symm na1)];exact e3,by rw[aM n1,aD,s1,aal];rfl,?_,dgo (by rw[aM (Ne.symm n3),aM (Ne.symm n2)]),_,_,_,_,rfl⟩;rw[aD,s2];simp
  ·rintro Z H2 ⟨sm2,p1,p2,p3,p4,v8,v9,v10,v11,rfl⟩;rw[aad,hsl] at p2 p3 p4;have ek:net.vs.take net.vs.length=net.vs:=aaq;have ek2:(aP net held coming poured doors).take net.vs.length=aP net held coming poured doors:=by rw[<- hsl,aaq]
   rw[ek,ek2] at p2 p3 p4;obtain⟨kvs,d1,d2,d3⟩:=p4;refine⟨_,rfl,av,xs,rfl,.inr (sm2.tup qv),_,rfl,by omega,by have:=nok.hi;omega,?_⟩;have hn:((xs.length:Nat):Int).toNat=net.vs.length:=by rw[exl];simp
   rw[hn];refine jO (n:=net.vs.length) (λ D i r Z H'=>H2 D=none/\aG H2 H'/\H' D=some (.lst r)/\r=((eI net.vs.length (cF net.vs (aP net held coming poured doors))).take i).map V.int/\∃ v,Z=[v,some (.ref sd)])
    (λ D hD=>⟨hD,aG.new hD,aD,by simp,none,rfl⟩) ?_ ?_
   rotate_left
   ·rintro D i r Z H' hi ⟨hD,sm,hDl,rfl,v,rfl⟩;refine eV ?_;have hg:=wC.k (k:=mG (some (i:Int))) (sm _ _ d1);refine⟨_,rfl,sd,rfl,.inl ⟨kvs,.inl (sm _ _ d1)⟩,_,rfl,_,hg,hDl,aW (by simp [eI];have:=nok.hi;omega),hD,sm.put hD,aD,?_,_,rfl⟩;have e:(eI net.vs.length (cF net.vs (aP net held coming poured doors)))[i]? = some (d6 (some (i:Int)) (cF net.vs (aP net held coming poured doors))):=by
     unfold eI;simp [hi]
    rw[aX e,aal];show _++[(fX kvs (mG (some (i:Int)))).getD (.int 0)]=_;rw[d3];rfl
   ·rintro D r Z H3 ⟨hD,sm,hDl,rfl,_⟩;have ll:(eI net.vs.length (cF net.vs (aP net held coming poured doors))).length=net.vs.length:=by unfold eI;simp
    rw[abj (Nat.le_of_eq ll)] at hDl;have sm3:aG H H3:=sm2.trans sm;refine⟨_,rfl,_,rfl,.inr (.inl ⟨ay,_,2,_,rfl,rfl,sm3.tup qy,rfl,_,rfl,.ref av,.ref b3,tl,net.vs,doors,bI 0 net.vs (aP net held coming poured doors),net.vs.length,rfl,Is.tupOf (sm3.tup qv) (IsL.mono sm3.ts _ _ lv),Is.tupOf (sm3.tup q3) (IsL.of_bools _),bV.of (sm _ _ p3),λ j hj=>by have:=lP _ _ _ _ hj;omega,λ v hv=>by rw[sok.d];exact nok.vs v hv,by rw[sok.d];exact nok.sp,λ dp H4 sm4 hdp=>?_⟩)⟩;obtain⟨da,dxs,rfl,qd,ld⟩:=hdp.un;have c1:=sm4 _ _ (sm _ _ p2);have c2:=sm4 _ _ hDl;have c3:=sm4 _ _ (sm _ _ p3);have c4:=sm4 _ _ (sm _ _ d1);refine⟨_,rfl,hl,_,rfl,.inl ⟨bV.of c1,λ t1 ht1=>?_⟩⟩;have m1:=aG.new (o:=HO.tup ((dL net.vs (aP net held coming poured doors)).map V.int)) ht1;refine⟨_,rfl,D,_,rfl,.inl ⟨bV.of (m1 _ _ c2),λ t2 ht2=>?_⟩⟩;have m2:=aG.new (o:=HO.tup ((eI net.vs.length (cF net.vs (aP net held coming poured doors))).map V.int)) ht2;refine⟨_,rfl,(show 3<=sizeLine by decide),λ t3 ht3=>?_⟩;have m3:=aG.new (o:=HO.tup [.ref t1,.ref t2,.ref da]) ht3;refine⟨_,rfl,tl,_,rfl,.inl ⟨bV.of (m3 _ _ (m2 _ _ (m1 _ _ c3))),λ t4 ht4=>?_⟩⟩;have m4:=aG.new (o:=HO.tup ((bI 0 net.vs (aP net held coming poured doors)).map λ (j:Nat)=>V.int (j:Int))) ht4;have c4':=m4 _ _ (m3 _ _ (m2 _ _ (m1 _ _ c4)));have hg:=wC.k (k:=mG none) c4';refine⟨_,rfl,sd,rfl,.inl ⟨kvs,.inl c4'⟩,_,hg,(show 3<=sizeLine by decide),λ t5 ht5=>?_⟩;have m5:aG _ _:=aG.new (o:=HO.tup [.ref t3,.ref t4,(fX kvs (mG none)).getD (.int 0)]) ht5;have eg:(fX kvs (mG none)).getD (.int 0)=.int (d6 none (cF net.vs (aP net held coming poured doors))):=d3 none;refine k _ _ _ ((((((sm3.trans sm4).trans m1).trans m2).trans m3).trans m4).trans m5) aD ?_;refine Is.tupOf (bH.of aD) (.cons ?_ (.cons ?_ (.cons ?_ .nil)))
    ·exact Is.mono m5.ts _ _ (Is.mono m4.ts _ _ (wJ (bH.of aD) (m3.tup (m2.tup (bH.of aD))) (m3.tup (bH.of aD)) (by
      have:=ld.bools;rw[this] at qd;exact m3.tup (m2.tup (m1.tup qd)))))
    ·refine Is.mono m5.ts _ _ (Is.tupOf (bH.of aD) ?_);show L2.IsL K _ ((bI 0 net.vs (aP net held coming poured doors)).map λ (i:Nat)=>L2.D.int (i:Int)) _;have e1:((bI 0 net.vs (aP net held coming poured doors)).map λ (i:Nat)=>L2.D.int (i:Int))=((bI 0 net.vs (aP net held coming poured doors)).map λ (i:Nat)=>(i:Int)).map L2.D.int:=by rw[acf];rfl
     have e2:((bI 0 net.vs (aP net held coming poured doors)).map λ (i:Nat)=>V.int (i:Int))=((bI 0 net.vs (aP net held coming poured doors)).map λ (i:Nat)=>(i:Int)).map V.int:=by rw[acf];rfl
     rw[e1,e2];exact L2.IsL.of_ints _
    ·rw[eg];exact Is.i _
def dH (H:Hp) (t sl:Addr):Prop:=∃ (ns:List Int) (pos cell:Int),H t=some (.lst [.ref sl,.int pos,.int cell])/\H sl=some (.lst (ns.map V.int))/\ns.length<=1000
theorem dH.mut {H:Hp}{t sl:Addr} (h:dH H t sl):t9 (H t):=by obtain⟨ns,pos,cell,e,_⟩:=h;rw[e];exact trivial
theorem dH.same {H H':Hp}{t sl:Addr} (h:dH H t sl) (s:aG H H'):dH H' t sl:=by
 obtain⟨ns,pos,cell,e,f,g⟩:=h;exact⟨ns,pos,cell,s _ _ e,s _ _ f,g⟩
def fZ:Sp:=λ vs H Q _=>∃ (t sl:Addr) (many:Int),vs=[.ref t,.int many]/\dH H t sl/\0 < many/\many < 1000000/\
 ∀ (r:Int) H',dU t H H'->dH H' t sl->0<=r->r < many->Q (.int r) H'
def rS:Sp:=λ vs H Q _=>∃ (t sl:Addr) (many:Int),vs=[.ref t,.int many]/\dH H t sl/\0 < many/\many < 2 ^ 200/\
 ∀ (r:Int) H',dU t H H'->dH H' t sl->0<=r->r < many->Q (.int r) H'
abbrev rX (K:aaa):TS:=fA (fI (eZ (rI (λ _ j=>0 < j) λ i j=>.int (i % j)) (eZ (rY K) (aZ 0) (tC (.int 2))) (aZ 1)) (cB 4)) (fA (fI (eZ (rI E6 λ i j=>.int (i / j)) (eZ (rY K) (aZ 0) (tC (.int 2))) (aZ 1)) (B8 (aZ 0) (tC (.int 2)) tP)) (CC (aZ 4)))
abbrev zZ (K:aaa):TS:=fA (fI (eZ (mY λ i j=>.int (i+j)) (eZ (rY K) (aZ 0) (tC (.int 1))) (tC (.int 1))) (B8 (aZ 0) (tC (.int 1)) tP)) (fI (aZ 3) (B8 (aZ 0) (tC (.int 2)) tP))
abbrev A0 (K:aaa):TS:=fA (fI (eZ (rI (λ _ j=>0 < j) λ i j=>.int (i % j)) (eZ (mY λ i j=>.int (i+j)) (aZ 3) (eZ (rI uQ λ i j=>.int (i * j)) (tC (.int 1000003)) (eZ (rY K) (aZ 0) (tC (.int 1))))) (aZ 2)) (cB 3)) (fA (fI (eZ (rI (λ _ j=>0 < j) λ i j=>.int (i % j)) (eZ (mY λ i j=>.int (i+j)) (eZ (mY λ i j=>.int (i+j)) (eZ (rI uQ λ i j=>.int (i * j)) (aZ 3) (aZ 3)) (eZ (rI uQ λ i j=>.int (i * j)) (tC (.int 1181783497276652981)) (aZ 3))) (tC (.int 2049848353892358983))) (aZ 2)) (cB 3)) (fI (eZ (rI (λ _ j=>0 < j) λ i j=>.int (i % j)) (eZ (mY λ i j=>.int (i+j)) (eZ (rI uQ λ i j=>.int (i * j)) (aZ 3) (aZ 3)) (tC (.int 1442695040888963407))) (aZ 2)) (cB 3)))
abbrev EJ (K:aaa):TT:=tOr (tJ (eZ (mY λ i j=>.bl (decide (j<=i))) (eZ (rY K) (aZ 0) (tC (.int 1))) (zE (A2 K) (bE (eZ (rY K) (aZ 0) (tC (.int 0))) eD)))) (tJ (eZ (mY λ i j=>.bl (decide (i < j))) (aZ 3) (eZ (rI DF λ i j=>.int (i ^ j.toNat)) (tC (.int 10)) (tC (.int 18)))))
abbrev dE (Q:VK):Ends:={ nx:=λ _ H'=>Q .non H',rt:=Q }
theorem lY:FnScope ["tape","many","prime","cell","found"] ["tape","many"] (aR (bO 28)):={}
theorem kQ {f:Addr}{fd:FuncData} (F:Fun K "_law_draw" "_law_draw" (bO 28) f fd) (T:Txt mg):FnOk P w K mg base gQ 1 f fd ["tape","many"] rS:=by
 refine F.ok lY (λ vs H Q E h=>?_) (λ cdv A outer s H vs Q E hr h=>?_)
 ·obtain⟨t,sl,many,rfl,_⟩:=h;rfl
 ·obtain⟨t,sl,many,rfl,⟨ns,pos,cell,ht,hsl,hns⟩,hm0,hm1,k⟩:=h;have sc:=lY;refine⟨_,(aF (pL 2 sc.nd aE)
   (aF (cQ (bN qW (px K (pv 0) aE) (pv 1) (bQ _)) (aF (pL 3 sc.nd aE)
   (aF (cQ (bN AC (mS K T.b_len (px K (pv 0) aE)) aE (bQ _)) (aJ (pL 3 sc.nd (px K (px K (pv 0) aE) (aK nC (px K (pv 0) aE) (mS K T.b_len (px K (pv 0) aE)))))) bK)
   (aF (cQ (PW.pt (m7 (bN DO (px K (pv 0) aE) (mS K T.b_len (px K (pv 0) aE)) (bQ _)) (lA (bN qW (pv 3) (aK lC aE aE) (bQ _))))) (aF (pL 3 sc.nd (aK nC (aK bG (pv 3) (aK jJ aE (px K (pv 0) aE))) (pv 2)))
   (aF (pL 3 sc.nd (aK nC (aK bG (aK bG (aK jJ (pv 3) (pv 3)) (aK jJ aE (pv 3))) aE) (pv 2)))
   (aJ (pL 3 sc.nd (aK nC (aK bG (aK jJ (pv 3) (pv 3)) aE) (pv 2)))))) bK)
   (aF (cG (aK bG (px K (pv 0) aE) aE) (nA (pv 0) aE fQ))
   (aJ (cG (pv 3) (nA (pv 0) aE fQ))))))) bK)
   (aF (pL 4 sc.nd (aK nC (px K (pv 0) aE) (pv 1)))
   (aF (cG (aK AD (px K (pv 0) aE) (pv 1)) (nA (pv 0) aE fQ))
   (aJ (aY (pv 4))))))),?_⟩
  have nst:sl≠t:=DP hsl ht (by intro z;injection z with z;cases ns <;> simp at z);have ix:∀ {H1:Hp}{p' c':Int}{Q:VK},H1 t=some (.lst [.ref sl,.int p',.int c'])->Q (.ref sl) H1->rY K (.ref t) (.int 0) H1 Q:=λ e q=>.inl ⟨t,_,0,_,rfl,rfl,bV.of e,rfl,q⟩;have ix1:∀ {H1:Hp}{p' c':Int}{Q:VK},H1 t=some (.lst [.ref sl,.int p',.int c'])->Q (.int p') H1->rY K (.ref t) (.int 1) H1 Q:=λ e q=>.inl ⟨t,_,1,_,rfl,rfl,bV.of e,rfl,q⟩;have D6:∀ {H1:Hp}{p' c':Int}{Q:VK},H1 t=some (.lst [.ref sl,.int p',.int c'])->Q (.int c') H1->rY K (.ref t) (.int 2) H1 Q:=λ e q=>.inl ⟨t,_,2,_,rfl,rfl,bV.of e,rfl,q⟩;have tail:∀ (v3:Option V) (H1:Hp) (p' c':Int),dU t H H1->H1 t=some (.lst [.ref sl,.int p',.int c'])->rX K (dE Q) [some (.ref t),some (.int many),some (.int 2305843009213693951),v3,none] H1:=by
   intro v3 H1 p' c' bt e;refine⟨_,rfl,D6 e ⟨_,rfl,_,_,rfl,rfl,hm0,?_⟩⟩;refine⟨_,rfl,D6 e ⟨_,rfl,_,_,rfl,rfl,⟨hm0,hm1⟩,_,rfl,t,_,2,2,rfl,rfl,e,rfl,_,rfl,?_⟩⟩;refine k _ _ (bt.trans dU.upd) ⟨ns,p',c' / many,aD,?_,hns⟩ (Int.emod_nonneg _ (by omega)) (Int.emod_lt_of_pos _ hm0);rw[aM nst];exact bt sl _ nst hsl
  refine⟨_,rfl,D6 ht ⟨_,rfl,_,_,rfl,rfl,_,rfl,?_⟩⟩;refine gP (λ _=>?_) (λ _=>tail none H pos cell (dU.refl H) ht);have mid:∀ (c':Int),zZ K { nx:=rX K (dE Q),rt:=Q } [some (.ref t),some (.int many),some (.int 2305843009213693951),some (.int c'),none] H:=by
   intro c';refine⟨_,rfl,ix1 ht ⟨_,_,rfl,rfl,_,rfl,t,_,1,1,rfl,rfl,ht,rfl,?_⟩⟩;refine⟨_,rfl,_,rfl,t,_,2,2,rfl,rfl,aD,rfl,?_⟩;exact tail (some (.int c')) _ (pos+1) c' (dU.upd.trans dU.upd) aD
  have big:∀ (c':Int),fA (y8 (EJ K) (A0 K) j7) (zZ K) { nx:=rX K (dE Q),rt:=Q } [some (.ref t),some (.int many),some (.int 2305843009213693951),some (.int c'),none] H:=by
   intro c';have body:∀ σ,σ=[some (.ref t),some (.int many),some (.int 2305843009213693951),some (.int c'),none]->A0 K { nx:=zZ K { nx:=rX K (dE Q),rt:=Q },rt:=Q } σ H:=by
    rintro σ rfl;have prime:(0:Int) < 2305843009213693951:=by decide
    refine⟨_,rfl,_,rfl,ix1 ht ⟨_,_,rfl,rfl,.inl ⟨by decide,by decide⟩,_,_,rfl,rfl,_,rfl,_,_,rfl,rfl,prime,?_⟩⟩;have b1:=Int.emod_nonneg (c'+1000003 * pos) (show (2305843009213693951:Int)≠0 by decide);have b2:=Int.emod_lt_of_pos (c'+1000003 * pos) prime;generalize (c'+1000003 * pos) % 2305843009213693951=c1 at b1 b2;refine⟨_,rfl,_,rfl,_,_,rfl,rfl,.inl ⟨by omega,by omega⟩,_,rfl,_,_,rfl,rfl,.inl ⟨by decide,by decide⟩,_,_,rfl,rfl,_,_,rfl,rfl,_,rfl,_,_,rfl,rfl,prime,?_⟩;have b3:=Int.emod_nonneg (c1 * c1+1181783497276652981 * c1+2049848353892358983) (show (2305843009213693951:Int)≠0 by decide);have b4:=Int.emod_lt_of_pos (c1 * c1+1181783497276652981 * c1+2049848353892358983) prime;generalize (c1 * c1+1181783497276652981 * c1+2049848353892358983) % 2305843009213693951=c2 at b3 b4;refine⟨_,rfl,_,rfl,_,_,rfl,rfl,.inl ⟨by omega,by omega⟩,_,_,rfl,rfl,_,rfl,_,_,rfl,rfl,prime,?_⟩;exact mid _
   refine⟨_,rfl,ix1 ht ⟨_,rfl,ix ht ⟨sl,_,rfl,.inl (bV.of hsl),_,_,rfl,rfl,_,rfl,?_⟩⟩⟩;refine gP (λ _=>?_) (λ _=>?_)
   ·refine cR ?_;exact body _ rfl
   ·refine⟨_,rfl,_,_,rfl,rfl,⟨by decide,by decide,by decide⟩,_,_,rfl,rfl,_,rfl,?_⟩;refine gP (λ _=>body _ rfl) (λ _=>mid _)
  refine⟨_,rfl,ix ht ⟨sl,_,rfl,.inl (bV.of hsl),_,_,rfl,rfl,_,rfl,?_⟩⟩;refine gP (λ hlen=>?_) (λ _=>big 0);have hpos:0 < ns.length:=by have:=abp hlen;simpa using this
  refine⟨_,rfl,ix ht ⟨_,rfl,ix1 ht ⟨_,rfl,ix ht ⟨sl,_,rfl,.inl (bV.of hsl),_,_,rfl,rfl,(show (0:Int) < (((ns.map V.int).length:Nat):Int) by rw[aad];omega),?_⟩⟩⟩⟩;have m1:=Int.emod_nonneg pos (show (((ns.map V.int).length:Nat):Int)≠0 by rw[aad];omega);have m2:=Int.emod_lt_of_pos pos (show (0:Int) < (((ns.map V.int).length:Nat):Int) by rw[aad];omega);rw[aad] at m1 m2;have hix:(ns.map V.int)[(pos % ((ns.map V.int).length:Int)).toNat]? = some (.int (ns[(pos % (ns.length:Int)).toNat]'(by omega))):=by
   rw[aad,aah];simp [show (pos % (ns.length:Int)).toNat < ns.length by omega]
  refine .inl ⟨sl,_,_,_,rfl,rfl,bV.of hsl,gY (by rw[aad];exact m1) hix,?_⟩;exact big _
theorem sK {f:Addr}{fd:FuncData} (F:Fun K "_law_draw" "_law_draw" (bO 28) f fd) (T:Txt mg):FnOk P w K mg base gQ 1 f fd ["tape","many"] fZ:=
 (kQ F T).imp λ vs H Q E ⟨t,sl,many,e,tp,h0,h1,k⟩=>⟨t,sl,many,e,tp,h0,Int.lt_of_lt_of_le h1 (by decide),k⟩
structure Ext (t sl:Addr) (H H':Hp):Prop where
 bt:dU t H H'
 tp:dH H' t sl
theorem dH.some {H:Hp}{t sl:Addr} (h:dH H t sl):∃ o,H t=some o:=by obtain⟨ns,pos,cell,e,_⟩:=h;exact⟨_,e⟩
theorem dH.put {H:Hp}{t sl p:Addr}{o:HO} (h:dH H t sl) (h1:p≠t) (h2:p≠sl):dH (upd H p o) t sl:=by
 obtain⟨ns,pos,cell,e,f,g⟩:=h;exact⟨ns,pos,cell,by rw[aM (Ne.symm h1)];exact e,by rw[aM (Ne.symm h2)];exact f,g⟩
theorem dH.ne_sl {H:Hp}{t sl p:Addr} (h:dH H t sl) (hp:H p=none):p≠sl:=by
 obtain⟨ns,pos,cell,e,f,g⟩:=h;exact λ z=>by rw[z,f] at hp;cases hp
theorem Ext.new {t sl p:Addr}{H H':Hp}{o:HO} (e:Ext t sl H H') (hp:H' p=none):Ext t sl H (upd H' p o):=⟨e.bt.trans (aG.new hp).but,e.tp.same (aG.new hp)⟩
theorem Ext.ne {t sl p:Addr}{H H':Hp} (e:Ext t sl H H') (hp:H' p=none):p≠t:=by
 obtain⟨o,h⟩:=e.tp.some;intro z;rw[z,h] at hp;cases hp
theorem Ext.ts {K:aaa}{t sl:Addr}{H H':Hp} (e:Ext t sl H H') (tp:dH H t sl):bT K H H':=e.bt.ts tp.mut
def Gn (t sl:Addr) (σ:St) (H0:Hp) (P:V->Prop) (te:TE):Prop:=∀ H Q,Ext t sl H0 H->(∀ v H',Ext t sl H0 H'->dU t H H'->P v->Q v H')->te σ H Q
section
variable {t sl:Addr}{σ:St}{H0:Hp}{P:V->Prop}{a b c d:TE}
def cU (lo hi:Int):V->Prop:=λ v=>∃ i,v=.int i/\lo<=i/\i < hi
theorem Gn.imp {P':V->Prop} (h:Gn t sl σ H0 P a) (f:∀ v,P v->P' v):Gn t sl σ H0 P' a:=λ H Q e k=>h H Q e λ v H' e' b p=>k v H' e' b (f v p)
theorem mM {v:V} (h:P v):Gn t sl σ H0 P (tC v):=λ H Q e k=>k v H e (dU.refl H) h
theorem HC {i:Nat}{v:V} (ao:σ[i]? = some (some v)) (h:P v):Gn t sl σ H0 P (aZ i):=λ H Q e k=>⟨v,ao,k v H e (dU.refl H) h⟩
theorem eW (ha:Gn t sl σ H0 P a) (hb:Gn t sl σ H0 P b) (hc:Gn t sl σ H0 (cU 0 2) c):Gn t sl σ H0 P (eZ (rY K) (kJ (bE a (bE b eD))) c):=by
 intro H Q e k;refine ha H _ e λ v1 H1 e1 b1 p1=>hb H1 _ e1 λ v2 H2 e2 b2 p2=>⟨(show 2<=sizeLine by decide),λ p hp=>hc _ _ (e2.new hp) λ v H3 e3 b3 ⟨i,hi,h0,h1⟩=>?_⟩;subst hi;have hl:=b3 p _ (e2.ne hp) aD;have hb:dU t H H3:=b1.trans (b2.trans ((aG.new hp).but.trans b3));rcases (show i=0\/i=1 by omega) with rfl | rfl
 ·exact .inl ⟨p,_,0,v1,rfl,rfl,bV.of hl,rfl,k v1 H3 e3 hb p1⟩
 ·exact .inl ⟨p,_,1,v2,rfl,rfl,bV.of hl,rfl,k v2 H3 e3 hb p2⟩
theorem uD (ha:Gn t sl σ H0 P a) (hb:Gn t sl σ H0 P b) (hd:Gn t sl σ H0 P d) (hc:Gn t sl σ H0 (cU 0 3) c):Gn t sl σ H0 P (eZ (rY K) (kJ (bE a (bE b (bE d eD)))) c):=by
 intro H Q e k;refine ha H _ e λ v1 H1 e1 b1 p1=>hb H1 _ e1 λ v2 H2 e2 b2 p2=>hd H2 _ e2 λ v4 H4 e4 b4 p4=>⟨(show 3<=sizeLine by decide),λ p hp=>hc _ _ (e4.new hp) λ v H3 e3 b3 ⟨i,hi,h0,h1⟩=>?_⟩;subst hi;have hl:=b3 p _ (e4.ne hp) aD;have hb:dU t H H3:=b1.trans (b2.trans (b4.trans ((aG.new hp).but.trans b3)));rcases (show i=0\/i=1\/i=2 by omega) with rfl | rfl | rfl
 ·exact .inl ⟨p,_,0,v1,rfl,rfl,bV.of hl,rfl,k v1 H3 e3 hb p1⟩
 ·exact .inl ⟨p,_,1,v2,rfl,rfl,bV.of hl,rfl,k v2 H3 e3 hb p2⟩
 ·exact .inl ⟨p,_,2,v4,rfl,rfl,bV.of hl,rfl,k v4 H3 e3 hb p4⟩
theorem sT {i:Nat}{lo hi:Int} (ao:σ[i]? = some (some (.ref t))) (hlo:0 < lo) (hhi:hi<=1000000) (ha:Gn t sl σ H0 (cU lo hi) a):Gn t sl σ H0 (λ v=>∃ r m,v=.int r/\0<=r/\r < m/\lo<=m/\m < hi) (iS fZ [] E0 (bE (aZ i) (bE a eD))):=by
 intro H Q e k;refine⟨_,ao,ha H _ e λ v H1 e1 b1 ⟨m,hm,h0,h1⟩=>?_⟩;subst hm;exact⟨t,sl,m,rfl,e1.tp,by omega,by omega,λ r H2 b2 t2 r0 r1=>k _ H2 ⟨e1.bt.trans b2,t2⟩ (b1.trans b2) ⟨r,m,rfl,r0,r1,h0,h1⟩⟩
theorem bD {i:Nat}{m:Int} (ao:σ[i]? = some (some (.ref t))) (h0:0 < m) (h1:m < 1000000):Gn t sl σ H0 (cU 0 m) (iS fZ [] E0 (bE (aZ i) (bE (tC (.int m)) eD))):=
 (sT (lo:=m) (hi:=m+1) ao h0 (by omega) (mM ⟨m,rfl,by omega,by omega⟩)).imp λ v ⟨r,m',e,a,b,c,d⟩=>⟨r,e,a,by omega⟩
theorem jQ {i j:Nat}{m:Int} (ao:σ[i]? = some (some (.ref t))) (hj:σ[j]? = some (some (.int m))) (h0:0 < m) (h1:m < 1000000):Gn t sl σ H0 (cU 0 m) (iS fZ [] E0 (bE (aZ i) (bE (aZ j) eD))):=
 (sT (lo:=m) (hi:=m+1) ao h0 (by omega) (HC hj ⟨m,rfl,by omega,by omega⟩)).imp λ v ⟨r,m',e,a,b,c,d⟩=>⟨r,e,a,by omega⟩
theorem pS {x y l h:Int} (ha:Gn t sl σ H0 (cU x y) a) (hb:Gn t sl σ H0 (cU l h) b):Gn t sl σ H0 (cU (x+l) (y+h - 1)) (eZ (mY λ i j=>.int (i+j)) a b):=by
 intro H Q e k;refine ha H _ e λ v1 H1 e1 b1 ⟨i,hi,i0,i1⟩=>hb H1 _ e1 λ v2 H2 e2 b2 ⟨j,hj,j0,j1⟩=>?_;subst hi hj;exact⟨i,j,rfl,rfl,k _ H2 e2 (b1.trans b2) ⟨_,rfl,by omega,by omega⟩⟩
theorem B6 {y m:Int} (hm:0 < m) (hm2:m < 1000000) (ha:Gn t sl σ H0 (cU 0 y) a):Gn t sl σ H0 (λ v=>∃ i,v=.int (i / m)/\0<=i/\i < y) (eZ (rI G0 λ i j=>.int (i / j)) a (tC (.int m))):=by
 intro H Q e k;refine ha H _ e λ v1 H1 e1 b1 ⟨i,hi,i0,i1⟩=>?_;subst hi;exact⟨i,m,rfl,rfl,⟨hm,by omega⟩,k _ H1 e1 b1 ⟨i,rfl,i0,i1⟩⟩
theorem sS {y c0:Int} (ha:Gn t sl σ H0 (cU 0 y) a):Gn t sl σ H0 (λ v=>∃ b:Bool,v=.bl b) (eZ rEq a (tC (.int c0))):=by
 intro H Q e k;refine ha H _ e λ v1 H1 e1 b1 ⟨i,hi,i0,i1⟩=>?_;subst hi;exact⟨rfl,k _ H1 e1 b1 ⟨_,rfl⟩⟩
theorem FL {y c0:Int} (ha:Gn t sl σ H0 (cU 0 y) a):Gn t sl σ H0 (λ v=>∃ b:Bool,v=.bl b) (eZ (mY λ i j=>.bl (decide (j < i))) a (tC (.int c0))):=by
 intro H Q e k;refine ha H _ e λ v1 H1 e1 b1 ⟨i,hi,i0,i1⟩=>?_;subst hi;exact⟨i,c0,rfl,rfl,k _ H1 e1 b1 ⟨_,rfl⟩⟩
abbrev A3:List V->Hp->VK->Prop:=λ xs H Q=>(∃ i,xs=[.int i]/\Q (.int i) H)\/∃ k,xs=[.bl k]/\Q (.int (if k then 1 else 0)) H
theorem B5 {i:Nat}{s:Bool} (ao:σ[i]? = some (some (.bl s))):Gn t sl σ H0 (cU 0 2) (zE A3 (bE (aZ i) eD)):=by
 intro H Q e k;refine⟨_,ao,.inr ⟨s,rfl,k _ H e (dU.refl H) ?_⟩⟩;cases s
 ·exact⟨0,rfl,by omega,by omega⟩
 ·exact⟨1,rfl,by omega,by omega⟩
theorem oH {i:Nat}{s:Bool}{x y lo hi:Int} (ao:σ[i]? = some (some (.bl s))) (h1:lo<=x/\x < hi) (h2:lo<=y/\y < hi):Gn t sl σ H0 (cU lo hi) (eZ (rY K) (kJ (bE (tC (.int x)) (bE (tC (.int y)) eD))) (zE A3 (bE (aZ i) eD))):=
 eW (mM ⟨x,rfl,h1.1,h1.2⟩) (mM ⟨y,rfl,h2.1,h2.2⟩) (B5 ao)
theorem iO (ha:Gn t sl σ H0 (cU 0 4) a):Gn t sl σ H0 (cU 0 2) (eZ (rI G0 λ i j=>.int (i / j)) a (tC (.int 3))):=
 (B6 (by decide) (by decide) ha).imp λ v ⟨i,e,a,b⟩=>⟨i / 3,e,by omega,by omega⟩
theorem iX {lo hi lo' hi':Int} (h:Gn t sl σ H0 (cU lo hi) a) (h1:lo'<=lo) (h2:hi<=hi'):Gn t sl σ H0 (cU lo' hi') a:=h.imp λ v ⟨i,e,a,b⟩=>⟨i,e,by omega,by omega⟩
theorem iC {i:Nat}{lo hi:Int} (ao:σ[i]? = some (some (.ref t))) (hlo:0 < lo) (hhi:hi<=1000000) (ha:Gn t sl σ H0 (cU lo hi) a):Gn t sl σ H0 (cU 0 (hi - 1)) (iS fZ [] E0 (bE (aZ i) (bE a eD))):=
 (sT ao hlo hhi ha).imp λ v ⟨r,m,e,a,b,c,d⟩=>⟨r,e,a,by omega⟩
end
def uY (K:aaa):Sp:=λ args H Q _=>∃ (t sl:Addr) (n:Nat) (small:Bool),args=[.ref t,.int (n:Int),.bl small]/\dH H t sl/\1<=n/\n<=12/\
 ∀ (outs:List (Option Int×Int)) p H',Ext t sl H H'->outs≠[]->outs.length<=3->(∀ o∈outs,OutOk n o)->Is K H' (.tup (outs.map outD)) p->Q p H'
theorem lX:FnScope ["tape","many","small","outs","k","target","parts"] ["tape","many","small"] (aR (bO 31)):={}
theorem sI {f fD:Addr}{fd fdD:FuncData} (F:Fun K "_law_outs" "_law_outs" (bO 31) f fd) (T:Txt mg) (G__law_draw:Callee P w K mg base "_law_draw" ["tape","many"] 1 fZ fD fdD):FnOk P w K mg base gQ 2 f fd ["tape","many","small"] (uY K):=by
 refine F.ok lX (λ vs H Q E h=>?_) (λ cdv A outer s H vs Q E hr h=>?_)
 ·obtain⟨t,sl,n,small,rfl,_⟩:=h;rfl
 ·obtain⟨t,sl,n,small,rfl,tp,n1,n2,k⟩:=h;have sc:=lX;refine⟨_,(aF (pL 3 sc.nd (b9 aC))
   (aF (dM PassesOwn.never rfl (cH rfl T.b_range (aA (aK bG aE (px K (b9 (aA (cN G__law_draw hr (aA (pv 0) (aA aE aC))) (aA (cN G__law_draw hr (aA (pv 0) (aA aE aC))) aC))) (cN G__law_draw hr (aA (pv 0) (aA aE aC))))) aC)) (gL 4 sc.nd) (aF (pL 5 sc.nd (px K (b9 (aA dO (aA (cN G__law_draw hr (aA (pv 0) (aA (pv 1) aC))) (aA (cN G__law_draw hr (aA (pv 0) (aA (pv 1) aC))) aC)))) (cN G__law_draw hr (aA (pv 0) (aA aE aC)))))
   (aF (pL 6 sc.nd (px K (b9 (aA (cN G__law_draw hr (aA (pv 0) (aA aE aC))) (aA (cN G__law_draw hr (aA (pv 0) (aA (px K (b9 (aA aE (aA aE aC))) (b0 iD rfl T.b_int lJ (aA (pv 2) aC))) aC))) aC))) (aK fM (cN G__law_draw hr (aA (pv 0) (aA aE aC))) aE)))
   (aJ (cV (eS (K:=K) rfl aas aav aaw cD (pv 3) (aA (aO (aA (pv 5) (aA (aK bG aE (pv 6)) aC))) aC)))))))
   (aJ (aY (b0 (bZ (K:=K) rfl) rfl T.b_tuple bW (aA (pv 3) aC)))))),?_⟩
  refine⟨aar _,λ ol hol=>?_⟩;have e0:Ext t sl H (upd H ol (.lst [])):=Ext.new ⟨dU.refl H,tp⟩ hol;have no:ol≠t:=Ext.ne ⟨dU.refl H,tp⟩ hol;refine pS (x:=1) (y:=2) (l:=0) (h:=3) (H0:=upd H ol (.lst [])) (t:=t) (sl:=sl) (mM ⟨1,rfl,by omega,by omega⟩)
   (eW (iX (bD rfl (by decide) (by decide)) (Int.le_refl _) (by decide)) (bD rfl (by decide) (by decide)) (bD rfl (by decide) (by decide))) _ _ ⟨dU.refl _,e0.tp⟩ ?_
  rintro v H1 e1 _ ⟨m,rfl,m0,m1⟩;refine⟨m,rfl,by omega,by omega,?_⟩;refine dW (lo:=0) (n:=m.toNat) (λ i Z H'=>Ext t sl H H'/\∃ (outs:List (Option Int×Int)) (xs:List V),H' ol=some (.lst xs)/\IsL K H' (outs.map outD) xs/\outs.length=i/\(∀ o∈outs,OutOk n o)/\
   ∃ v4 v5 v6,Z=[some (.ref t),some (.int (n:Int)),some (.bl small),some (.ref ol),v4,v5,v6]) ?_ ?_ ?_
  ·exact⟨⟨e0.bt.trans e1.bt,e1.tp⟩,[],[],e1.bt ol _ no aD,.nil,rfl,λ o ho=>(nomatch ho),none,none,none,rfl⟩
  ·rintro i Z H2 hi ⟨e2,outs,xs,ho,hl,hlen,hok,v4,v5,v6,rfl⟩;refine uD (H0:=H2) (t:=t) (sl:=sl) (P:=λ v=>∃ o:Option Int,v=lM o/\∀ z,o=some z->0<=z/\z < n) (mM ⟨none,rfl,λ z h=>nomatch h⟩)
    ((jQ (m:=(n:Int)) rfl rfl (by omega) (by omega)).imp λ v ⟨r,e,a,b⟩=>⟨some r,e,λ z h=>by cases h;exact⟨a,by omega⟩⟩)
    ((jQ (m:=(n:Int)) rfl rfl (by omega) (by omega)).imp λ v ⟨r,e,a,b⟩=>⟨some r,e,λ z h=>by cases h;exact⟨a,by omega⟩⟩) (bD rfl (by decide) (by decide)) _ _ ⟨dU.refl _,e2.tp⟩ ?_
   rintro v H3 e3 _ ⟨tg,rfl,htg⟩;refine eW (H0:=H3) (t:=t) (sl:=sl) (P:=cU 0 60) (iX (bD rfl (by decide) (by decide)) (Int.le_refl _) (by decide))
    (iX (iC (lo:=3) (hi:=61) rfl (by decide) (by decide) (oH rfl ⟨by decide,by decide⟩ ⟨by decide,by decide⟩)) (Int.le_refl _) (by decide)) (iO (bD rfl (by decide) (by decide))) _ _ ⟨dU.refl _,e3.tp⟩ ?_
   rintro v H4 e4 _ ⟨pt,rfl,p0,p1⟩;have ho4:H4 ol=some (.lst xs):=e4.bt ol _ no (e3.bt ol _ no ho);refine⟨_,rfl,.inl ⟨rfl,_,bV.of ho4⟩,_,rfl,_,rfl,_,_,rfl,rfl,(show 2<=sizeLine by decide),λ q hq=>?_⟩;have nq:ol≠q:=aN ho4 hq;have hxl:xs.length=outs.length:=by rw[hl.length,aad]
   have hm3:m.toNat<=3:=by omega
   refine⟨ol,xs,_,rfl,rfl,by rw[aM nq];exact ho4,aW (by omega),?_⟩;have e5:Ext t sl H2 (upd H4 q (.tup [lM tg,.int (1+pt)])):=Ext.new ⟨e3.bt.trans e4.bt,e4.tp⟩ hq;have ts:bT K H2 (upd (upd H4 q (.tup [lM tg,.int (1+pt)])) ol (.lst (xs++[.ref q]))):=bT.put (e5.ts e2.tp) (.inr (by rw[aM nq,ho4];exact trivial));refine⟨⟨λ b o hb e=>?_,?_⟩,outs++[(tg,1+pt)],xs++[.ref q],aD,?_,by simp [hlen],?_,_,_,_,rfl⟩
   ·rw[aM (aN e hol)];exact e5.bt b o hb (e2.bt b o hb e)
   ·exact e5.tp.put no (dH.ne_sl tp hol)
   ·rw[aal];exact IsL.snoc (Is.tupOf (ds:=[CA tg,.int (1+pt)]) (bT.put (bT.refl _) (.inr (by rw[aM nq,ho4];exact trivial)) _ _ (bH.of aD)) (.cons (Is.tgOf tg) (.cons (Is.i _) .nil))) (IsL.mono ts _ _ hl)
   ·intro o ho;rcases abg.mp ho with ho | ho
    ·exact hok o ho
    ·rw[abq.mp ho];exact⟨λ z hz=>htg z hz,by show 1<=1+pt;omega,by show 1+pt<=60;omega⟩
  ·rintro Z H2 ⟨e2,outs,xs,ho,hl,hlen,hok,v4,v5,v6,rfl⟩;refine⟨_,rfl,ol,_,rfl,.inl ⟨bV.of ho,λ l hlf=>?_⟩⟩;refine k outs _ _ (e2.new hlf) (λ z=>by rw[z] at hlen;simp at hlen;omega) (by omega) hok (Is.tupOf (bH.of aD) (IsL.mono (aG.new hlf).ts _ _ hl))
end Tw
namespace L2
theorem xC {c:TT}{a b:TS}{D:Ends}{σ:St}{H:Hp} (I:St->Hp->Prop) (h1:∀ D':Ends,(∀ Z H',I Z H'->D'.nx Z H')->y8 c a b D' σ H) (h2:∀ Z H',I Z H'->D.nx Z H'):y8 c a b D σ H:=h1 D h2
theorem FN {i:TI}{g:TG}{b:TS}{D:Ends}{σ:St}{H:Hp} (I:St->Hp->Prop) (h1:∀ D':Ends,(∀ Z H',I Z H'->D'.nx Z H')->EA i g b D' σ H) (h2:∀ Z H',I Z H'->D.nx Z H'):EA i g b D σ H:=h1 D h2
theorem p9 {s R:TS}{D:Ends}{σ:St}{H:Hp} (I:St->Hp->Prop) (h1:∀ D':Ends,(∀ Z H',I Z H'->D'.nx Z H')->s D' σ H) (h2:∀ Z H',I Z H'->R D Z H'):fA s R D σ H:=h1 _ h2
end L2
namespace Tw
open PySem L2
section
variable {t sl:Addr}{σ:St}{H0:Hp}{P:V->Prop}{a b c d:TE}
theorem uB {y c0:Int}{t' u':TS}{D':Ends}{H:Hp} (ha:Gn t sl σ H0 (cU 0 y) a) (e:Ext t sl H0 H) (k:∀ (b:Bool) H',Ext t sl H0 H'->dU t H H'->if b=true then t' D' σ H' else u' D' σ H'):y8 (tJ (eZ rEq a (tC (.int c0)))) t' u' D' σ H:=
 sS ha H _ e λ v H' e' b ⟨c,hc⟩=>⟨c,hc,k c H' e' b⟩
theorem yM {i:Nat}{s:Bool} (ao:σ[i]? = some (some (.bl s))) (ha:Gn t sl σ H0 (cU 0 2) a):Gn t sl σ H0 (cU 0 2) (eZ (rI uQ λ i j=>.int (i * j)) a (zE A3 (bE (DH (aZ i)) eD))):=by
 intro H Q e k;refine ha H _ e λ v1 H1 e1 b1 ⟨j,hj,j0,j1⟩=>⟨_,ao,s,rfl,.inr ⟨!s,rfl,?_⟩⟩;subst hj;refine⟨j,_,rfl,rfl,.inl ⟨by omega,by omega⟩,k _ H1 e1 b1 ?_⟩;cases s
 ·exact⟨j,by simp,j0,j1⟩
 ·exact⟨0,by simp,by omega,by omega⟩
theorem B0 {j:Nat}{x y:Int} (hj:σ[j]? = some (some (.int y))):Gn t sl σ H0 (cU (x - y) (x - y+1)) (eZ (mY λ i j=>.int (i - j)) (tC (.int x)) (aZ j)):=λ H Q e k=>
 ⟨_,hj,x,y,rfl,rfl,k _ H e (dU.refl H) ⟨_,rfl,by omega,by omega⟩⟩
theorem xE {j:Nat}{y l h:Int} (hj:σ[j]? = some (some (.int y))) (hb:Gn t sl σ H0 (cU l h) b):Gn t sl σ H0 (cU (y+l) (y+h)) (eZ (mY λ i j=>.int (i+j)) (aZ j) b):=
 iX (pS (x:=y) (y:=y+1) (HC hj ⟨y,rfl,by omega,by omega⟩) hb) (by omega) (by omega)
end
structure VFull (i:Nat) (v:Vs):Prop where
 sz:v.size<=60
 br:v.size<=v.brim
 bh:v.brim<=200
 sp:∀ t,v.spill=some t->(i:Int) < t
structure NetFull (net:Net):Prop where
 vs:∀ i v,net.vs[i]? = some v->VFull i v
 sps:∀ s∈net.sps,0<=s.2.1/\s.2.1<=60
def oW (K:aaa):Sp:=λ args H Q _=>∃ (t sl:Addr) (i n m:Nat) (small:Bool),args=[.ref t,.int (i:Int),.int (n:Int),.int (m:Int),.bl small]/\dH H t sl/\i < n/\n<=12/\m<=12/\
 ∀ (v:Vs) p H',Ext t sl H H'->VOk n m v->VFull i v->Is K H' (xU v) p->Q p H'
theorem jD:FnScope ["tape","number","many","spouts","small","size","brim","spill","acts","k"] ["tape","number","many","spouts","small"] (aR (bO 32)):={}
theorem pN {f fD fO:Addr}{fd fdD fdO:FuncData} (F:Fun K "_law_vessel" "_law_vessel" (bO 32) f fd) (T:Txt mg) (G__law_draw:Callee P w K mg base "_law_draw" ["tape","many"] 1 fZ fD fdD)
  (G__law_outs:Callee P w K mg base "_law_outs" ["tape","many","small"] 2 (uY K) fO fdO):FnOk P w K mg base gQ 3 f fd ["tape","number","many","spouts","small"] (oW K):=by
 refine F.ok jD (λ vs H Q E h=>?_) (λ cdv A outer s H vs Q E hr h=>?_)
 ·obtain⟨t,sl,i,n,m,small,rfl,_⟩:=h;rfl
 ·obtain⟨t,sl,i,n,m,small,rfl,tp,hi,hn,hm,k⟩:=h;have sc:=jD;refine⟨_,(aF (pL 5 sc.nd (aK bG aE (px K (b9 (aA (cN G__law_draw hr (aA (pv 0) (aA (px K (b9 (aA aE (aA aE aC))) (b0 iD rfl T.b_int lJ (aA (pv 4) aC))) aC))) (aA (cN G__law_draw hr (aA (pv 0) (aA (px K (b9 (aA aE (aA aE aC))) (b0 iD rfl T.b_int lJ (aA (pv 4) aC))) aC))) aC))) (aK fM (cN G__law_draw hr (aA (pv 0) (aA aE aC))) aE))))
   (aF (pL 6 sc.nd (aK bG (pv 5) (px K (b9 (aA aE (aA (cN G__law_draw hr (aA (pv 0) (aA (aK d8 aE (pv 5)) aC))) aC))) (aK jJ (cN G__law_draw hr (aA (pv 0) (aA aE aC))) (b0 iD rfl T.b_int lJ (aA (pG (pv 4)) aC))))))
   (aF (cQ (bN iW (cN G__law_draw hr (aA (pv 0) (aA aE aC))) aE (bQ _)) (aJ (pL 6 sc.nd (aK bG (pv 5) (cN G__law_draw hr (aA (pv 0) (aA aE aC)))))) bK)
   (aF (pL 7 sc.nd dO)
   (aF (cQ (PW.pt (sB (bN qW (aK bG (pv 1) aE) (pv 2) (bQ _)) (oF (bN iW (cN G__law_draw hr (aA (pv 0) (aA aE aC))) aE (bQ _))))) (aJ (pL 7 sc.nd (aK bG (aK bG (pv 1) aE) (cN G__law_draw hr (aA (pv 0) (aA (aK d8 (aK d8 (pv 2) (pv 1)) aE) aC)))))) bK)
   (aF (pL 8 sc.nd (b9 aC))
   (aF (cQ (bN AC (pv 3) aE (bQ _)) (aJ (dM PassesOwn.never rfl (cH rfl T.b_range (aA (aK fM (cN G__law_draw hr (aA (pv 0) (aA aE aC))) aE) aC)) (gL 9 sc.nd) (aJ (cV (eS (K:=K) rfl aas aav aaw cD (pv 8) (aA (aO (aA (px K (b9 (aA cI (aA cI (aA cI aC)))) (cN G__law_draw hr (aA (pv 0) (aA aE aC)))) (aA (cN G__law_draw hr (aA (pv 0) (aA (pv 3) aC))) aC))) aC)))))) bK)
   (aJ (aY (aO (aA (pv 5) (aA (pv 6) (aA (cN G__law_outs hr (aA (pv 0) (aA (pv 2) (aA (pv 4) aC)))) (aA (iK iW (cN G__law_draw hr (aA (pv 0) (aA aE aC))) aE (bQ _)) (aA (pv 7) (aA (b0 (bZ (K:=K) rfl) rfl T.b_tuple bW (aA (pv 8) aC)) aC)))))))))))))))),?_⟩
  refine pS (t:=t) (sl:=sl) (H0:=H) (x:=1) (y:=2) (l:=0) (h:=60) (mM ⟨1,rfl,by omega,by omega⟩)
   (eW (iX (iC (lo:=4) (hi:=10) rfl (by decide) (by decide) (oH rfl ⟨by decide,by decide⟩ ⟨by decide,by decide⟩)) (Int.le_refl _) (by decide))
    (iX (iC (lo:=4) (hi:=61) rfl (by decide) (by decide) (oH rfl ⟨by decide,by decide⟩ ⟨by decide,by decide⟩)) (Int.le_refl _) (by decide)) (iO (bD rfl (by decide) (by decide)))) _ _ ⟨dU.refl _,tp⟩ ?_
  rintro v H1 e1 _ ⟨size,rfl,s0,s1⟩;refine xE (t:=t) (sl:=sl) (H0:=H) (y:=size) (l:=0) (h:=201 - size) rfl (eW (mM ⟨0,rfl,by omega,by omega⟩)
   (iX (iC (lo:=201 - size) (hi:=201 - size+1) rfl (by omega) (by omega) (B0 rfl)) (Int.le_refl _) (by omega)) (yM rfl (bD rfl (by decide) (by decide)))) _ _ e1 ?_
  rintro v H2 e2 _ ⟨brim,rfl,br0,br1⟩;dsimp only [fA,fI,tC,cB];refine xC (λ Z H'=>Ext t sl H H'/\∃ brim,size<=brim/\brim<=200/\Z=[some (.ref t),some (.int (i:Int)),some (.int (n:Int)),some (.int (m:Int)),some (.bl small),some (.int size),some (.int brim),none,none,none]) (λ D' hD=>?_) ?_
  ·refine uB (t:=t) (sl:=sl) (H0:=H) (bD rfl (by decide) (by decide)) e2 λ b H3 e3 _=>?_;cases b with
   | false=>exact cT (hD _ _ ⟨e3,brim,by omega,by omega,rfl⟩)
   | true=>
    refine cR ?_;refine xE (t:=t) (sl:=sl) (H0:=H) (y:=size) (l:=0) (h:=3) rfl (bD rfl (by decide) (by decide)) _ _ e3 ?_;rintro v H4 e4 _ ⟨b2,rfl,c0,c1⟩;exact hD _ _ ⟨e4,b2,by omega,by omega,rfl⟩
  rintro ak H3 ⟨e3,brim,hb1,hb2,rfl⟩;dsimp only [fA,fI,tC,cB];refine xC (λ Z H'=>Ext t sl H H'/\∃ sp:Option Int,(∀ z,sp=some z->(0<=z/\z < n)/\(i:Int) < z)/\Z=[some (.ref t),some (.int (i:Int)),some (.int (n:Int)),some (.int (m:Int)),some (.bl small),some (.int size),some (.int brim),some (lM sp),none,none]) (λ D' hD=>?_) ?_
  ·refine⟨_,rfl,_,_,rfl,rfl,_,rfl,_,_,rfl,rfl,_,rfl,?_⟩;refine gP (λ hlt=>?_) (λ _=>cT (hD _ _ ⟨e3,none,(λ z h=>nomatch h),rfl⟩));have hlt':(i:Int)+1 < n:=abp hlt;refine sS (t:=t) (sl:=sl) (H0:=H) (bD rfl (by decide) (by decide)) _ _ e3 ?_;rintro v H4 e4 _ ⟨b,rfl⟩;refine⟨b,rfl,?_⟩;cases b with
   | false=>exact cT (hD _ _ ⟨e4,none,(λ z h=>nomatch h),rfl⟩)
   | true=>
    refine cR ?_;refine⟨_,rfl,_,_,rfl,rfl,_,rfl,_,rfl,_,rfl,_,_,rfl,rfl,_,_,rfl,rfl,t,sl,(n:Int) - i - 1,rfl,e4.tp,by omega,by omega,λ r H5 b5 t5 r0 r1=>⟨_,_,rfl,rfl,?_⟩⟩;exact hD _ _ ⟨⟨e4.bt.trans b5,t5⟩,some ((i:Int)+1+r),λ z h=>by cases h;omega,rfl⟩
  rintro σ4 H4 ⟨e4,sp,hsp,rfl⟩;refine⟨aar _,λ al hal=>?_⟩;dsimp only [fA,fI,tC,cB];have fal:H al=none:=e4.bt.free (e4.ne hal) hal;have nal:al≠t:=e4.ne hal;refine xC (λ Z H'=>Ext t sl H H'/\∃ (acts:List (Str×Int)) (xs:List V),H' al=some (.lst xs)/\L2.IsL K H' (acts.map zC) xs/\acts.length<=3/\(∀ a∈acts,ActOk m a)/\
   ∃ v9,Z=[some (.ref t),some (.int (i:Int)),some (.int (n:Int)),some (.int (m:Int)),some (.bl small),some (.int size),some (.int brim),some (lM sp),some (.ref al),v9]) (λ D' hD=>?_) ?_
  ·refine⟨_,rfl,_,_,rfl,rfl,_,rfl,?_⟩;refine gP (λ hlt=>?_) (λ _=>hD _ _ ⟨e4.new hal,[],[],aD,.nil,by simp,λ a ha=>(nomatch ha),none,rfl⟩);have hm0:(0:Int) < m:=abp hlt;refine B6 (t:=t) (sl:=sl) (H0:=H) (by decide) (by decide) (bD (m:=11) rfl (by decide) (by decide)) _ _ (e4.new hal) ?_;rintro v H5 e5 b5 ⟨c,rfl,c0,c1⟩;refine⟨_,rfl,by omega,by omega,?_⟩;refine dW (lo:=0) (n:=(c / 3).toNat) (λ j Z H'=>Ext t sl H H'/\∃ (acts:List (Str×Int)) (xs:List V),H' al=some (.lst xs)/\L2.IsL K H' (acts.map zC) xs/\acts.length=j/\(∀ a∈acts,ActOk m a)/\
    ∃ v9,Z=[some (.ref t),some (.int (i:Int)),some (.int (n:Int)),some (.int (m:Int)),some (.bl small),some (.int size),some (.int brim),some (lM sp),some (.ref al),v9]) ?_ ?_ ?_
   ·exact⟨e5,[],[],b5 al _ nal aD,.nil,rfl,λ a ha=>(nomatch ha),none,rfl⟩
   ·rintro j Z H6 hj ⟨e6,acts,xs,ha,hl,hlen,hok,v9,rfl⟩;refine⟨_,rfl,.inl ⟨rfl,_,bV.of ha⟩,?_⟩;refine uD (t:=t) (sl:=sl) (H0:=H) (P:=λ v=>∃ wd:Str,v=.str wd/\(wd = "open" \/ wd = "shut" \/ wd = "turn")) (mM ⟨_,rfl,.inl rfl⟩) (mM ⟨_,rfl,.inr (.inl rfl)⟩) (mM ⟨_,rfl,.inr (.inr rfl)⟩) (bD rfl (by decide) (by decide)) _ _ e6 ?_;rintro v H7 e7 b7 ⟨wd,rfl,hwd⟩;refine jQ (t:=t) (sl:=sl) (H0:=H) (m:=(m:Int)) rfl rfl hm0 (by omega) _ _ e7 ?_;rintro v H8 e8 b8 ⟨r,rfl,r0,r1⟩;refine⟨(show 2<=sizeLine by decide),λ q hq=>?_⟩;have ha8:H8 al=some (.lst xs):=b8 al _ nal (b7 al _ nal ha);have nq:al≠q:=aN ha8 hq;have hxl:xs.length=acts.length:=by rw[hl.length,aad]
    refine⟨al,xs,_,rfl,rfl,by rw[aM nq];exact ha8,aW (by omega),?_⟩;have e9:Ext t sl H (upd H8 q (.tup [.str wd,.int r])):=e8.new hq;have mt:t9 (upd H8 q (.tup [.str wd,.int r]) al):=by rw[aM nq,ha8];exact trivial
    have ts:bT K H6 (upd (upd H8 q (.tup [.str wd,.int r])) al (.lst (xs++[.ref q]))):=bT.put (((b7.trans b8).trans (aG.new hq).but).ts e6.tp.mut) (.inr mt);refine⟨⟨λ b o hb e=>?_,e9.tp.put nal (dH.ne_sl tp fal)⟩,acts++[(wd,r)],xs++[.ref q],aD,?_,by simp [hlen],?_,_,rfl⟩
    ·rw[aM (aN e fal)];exact e9.bt b o hb e
    ·rw[aal];exact L2.IsL.snoc (Is.tupOf (ds:=[.str wd,.int r]) (bT.put (bT.refl _) (.inr mt) _ _ (bH.of aD)) (.cons (Is.s _) (.cons (Is.i _) .nil))) (L2.IsL.mono ts _ _ hl)
    ·intro a ha';rcases abg.mp ha' with ha' | ha'
     ·exact hok a ha'
     ·rw[abq.mp ha'];exact⟨hwd,r0,r1⟩
   ·rintro Z H6 ⟨e6,acts,xs,ha,hl,hlen,hok,v9,rfl⟩;exact hD _ _ ⟨e6,acts,xs,ha,hl,by omega,hok,v9,rfl⟩
  rintro cb H5 ⟨e5,acts,xs,ha,hl,hlen,hok,v9,rfl⟩;refine⟨_,rfl,_,rfl,_,rfl,_,rfl,_,rfl,t,sl,n,small,rfl,e5.tp,by omega,hn,λ outs p H6 e6 o1 o2 o3 hp=>?_⟩;refine sS (t:=t) (sl:=sl) (H0:=H) (bD rfl (by decide) (by decide)) _ _ ⟨e5.bt.trans e6.bt,e6.tp⟩ ?_;rintro v H7 e7 b7 ⟨b,rfl⟩;have ha7:H7 al=some (.lst xs):=b7 al _ nal (e6.bt al _ nal ha);have b57:dU t H5 H7:=e6.bt.trans b7;refine⟨_,rfl,_,rfl,al,_,rfl,.inl ⟨bV.of ha7,λ q hq=>⟨(show 6<=sizeLine by decide),λ r hr'=>?_⟩⟩⟩;have m1:=aG.new (o:=HO.tup xs) hq;have m2:aG (upd H7 q (.tup xs)) (upd (upd H7 q (.tup xs)) r (.tup [.int size,.int brim,p,.bl b,lM sp,.ref q])):=aG.new hr';refine k ⟨size,brim,outs,b,sp,acts⟩ _ _ ((e7.new hq).new hr') ⟨s0,o1,o2,o3,λ z h=>(hsp z h).1,hlen,hok⟩ ⟨by show size<=60;omega,hb1,hb2,λ z h=>(hsp z h).2⟩ ?_;refine Is.tupOf (bH.of aD) (.cons (Is.i _) (.cons (Is.i _) (.cons ?_ (.cons (Is.b _) (.cons (Is.tgOf _) (.cons ?_ .nil))))))
  ·exact Is.mono m2.ts _ _ (Is.mono m1.ts _ _ (Is.mono (b7.ts e6.tp.mut) _ _ hp))
  ·exact Is.mono m2.ts _ _ (Is.tupOf (bH.of aD) (L2.IsL.mono m1.ts _ _ (L2.IsL.mono (b57.ts e5.tp.mut) _ _ hl)))
def cA (lo hi:Int):G->Bool
 | .int n=>decide (lo<=n) && decide (n<=hi)
 | _=>false
def gF (lo hi:Int):G->Bool
 | .tup gs=>decide (lo<=(gs.length:Int)) && decide ((gs.length:Int)<=hi)
 | _=>false
def FI:G->List G
 | .tup gs=>gs
 | _=>[]
theorem eA {lo hi:Int}{g:G} (h:cA lo hi g=true):∃ n,g=.int n/\lo<=n/\n<=hi:=by
 cases g with
 | int n=>simp [cA] at h;exact⟨n,rfl,h⟩
 | _=>simp [cA] at h
theorem oR (ds:List L2.D):(eY ds).length=ds.length:=by rw[oQ,aad]
theorem Ext.put {t sl p:Addr}{H H':Hp}{o:HO} (e:Ext t sl H H') (tp:dH H t sl) (hp:H p=none):Ext t sl H (upd H' p o):=
 ⟨λ b u hb e1=>by rw[aM (aN e1 hp)];exact e.bt b u hb e1,e.tp.put (λ z=>by obtain⟨o,h⟩:=tp.some;rw[z,h] at hp;cases hp) (dH.ne_sl tp hp)⟩
theorem Ext.trans {t sl:Addr}{H H1 H2:Hp} (a:Ext t sl H H1) (b:Ext t sl H1 H2):Ext t sl H H2:=⟨a.bt.trans b.bt,b.tp⟩
def uZ (K:aaa):Sp:=λ args H Q _=>∃ (t sl:Addr) (most:Int) (small:Bool),args=[.ref t,.int most,.bl small]/\1<=most/\most<=12/\dH H t sl/\
 ∀ (net:Net) p H',Ext t sl H H'->NetOk net->NetFull net->(net.vs.length:Int)<=most->Is K H' (gZ net) p->Q p H'
theorem nW:FnScope ["tape","most","small","many","spouts","vessels","found","k","flow"] ["tape","most","small"] (aR (bO 33)):={}
theorem sJ {f fD fV:Addr}{fd fdD fdV:FuncData} (F:Fun K "_law_net" "_law_net" (bO 33) f fd) (T:Txt mg) (G__law_draw:Callee P w K mg base "_law_draw" ["tape","many"] 1 fZ fD fdD)
  (G__law_vessel:Callee P w K mg base "_law_vessel" ["tape","number","many","spouts","small"] 3 (oW K) fV fdV):FnOk P w K mg base gQ 4 f fd ["tape","most","small"] (uZ K):=by
 refine F.ok nW (λ vs H Q E h=>?_) (λ cdv A outer s H vs Q E hr h=>?_)
 ·obtain⟨t,sl,most,small,rfl,_⟩:=h;rfl
 ·obtain⟨t,sl,most,small,rfl,mo1,mo2,tp,k⟩:=h;have sc:=nW;refine⟨_,(aF (fB (i:=3) sc.nd rfl (Or.inr rfl) (aK bG aE (cN G__law_draw hr (aA (pv 0) (aA (pv 1) aC)))))
   (aF (fB (i:=4) sc.nd rfl (Or.inr rfl) (px K (b9 (aA (cN G__law_draw hr (aA (pv 0) (aA aE aC))) (aA (cN G__law_draw hr (aA (pv 0) (aA aE aC))) aC))) (aK fM (cN G__law_draw hr (aA (pv 0) (aA aE aC))) aE)))
   (aF (jZ (i:=5) sc.nd rfl rfl (λ _ _ h=>h) rfl (LcOk.mk (N':=["k","tape","many","spouts","small"]) (fr:=[none,some 0,some 3,some 4,some 2]) rfl ⟨rfl,rfl,rfl,rfl,trivial⟩ rfl rfl rfl rfl rfl ⟨⟨_,rfl,rfl,rfl,rfl⟩,⟨_,rfl,rfl,rfl,rfl⟩,⟨_,rfl,rfl,rfl,rfl⟩,⟨_,rfl,rfl,rfl,rfl⟩,trivial⟩) (cH rfl T.b_range (aA (pv 3) aC)) (λ _ _ _=>(gC 0 ["k","tape","many","spouts","small"])) (λ _ _ _=>dN) (λ _ _ _=>(cN G__law_vessel hr (aA (pv 1) (aA (pv 0) (aA (pv 2) (aA (pv 3) (aA (pv 4) aC))))))))
   (aF (pL 6 sc.nd (b9 aC))
   (aF (dM PassesOwn.never rfl (cH rfl T.b_range (aA (pv 4) aC)) (gL 7 sc.nd) (aF (pL 8 sc.nd (px K (b9 (aA (cN G__law_draw hr (aA (pv 0) (aA aE aC))) (aA (cN G__law_draw hr (aA (pv 0) (aA (px K (b9 (aA aE (aA aE aC))) (b0 iD rfl T.b_int lJ (aA (pv 2) aC))) aC))) aC))) (aK fM (cN G__law_draw hr (aA (pv 0) (aA aE aC))) aE)))
   (aJ (cV (eS (K:=K) rfl aas aav aaw cD (pv 6) (aA (aO (aA (cN G__law_draw hr (aA (pv 0) (aA (pv 3) aC))) (aA (pv 8) (aA (iK AC (cN G__law_draw hr (aA (pv 0) (aA aE aC))) aE (bQ _)) aC)))) aC))))))
   (aJ (aY (aO (aA (b0 (bZ (K:=K) rfl) rfl T.b_tuple bW (aA (pv 5) aC)) (aA (b0 (bZ (K:=K) rfl) rfl T.b_tuple bW (aA (pv 6) aC)) aC)))))))))),?_⟩
  refine pS (t:=t) (sl:=sl) (H0:=H) (x:=1) (y:=2) (l:=0) (h:=most) (mM ⟨1,rfl,by omega,by omega⟩) (jQ (m:=most) rfl rfl (by omega) (by omega)) _ _ ⟨dU.refl _,tp⟩ ?_;rintro v H1 e1 _ ⟨n',rfl,n0,n1⟩;obtain⟨n,rfl⟩:=Int.eq_ofNat_of_zero_le (show 0<=n' by omega);refine eW (t:=t) (sl:=sl) (H0:=H) (P:=cU 0 13) (iX (bD rfl (by decide) (by decide)) (Int.le_refl _) (by decide)) (bD rfl (by decide) (by decide)) (iO (bD rfl (by decide) (by decide))) _ _ e1 ?_;rintro v H2 e2 _ ⟨m',rfl,m0,m1⟩;obtain⟨m,rfl⟩:=Int.eq_ofNat_of_zero_le m0;refine⟨_,rfl,_,rfl,by omega,by omega,?_⟩;refine jO (n:=n) (λ D i r Z H'=>H2 D=none/\Ext t sl H H'/\H' D=some (.lst r)/\∃ vs:List Vs,vs.length=i/\L2.IsL K H' (vs.map xU) r/\(∀ v∈vs,VOk n m v)/\(∀ i v,vs[i]? = some v->VFull i v)/\∃ v0,Z=[v0,some (.ref t),some (.int (n:Int)),some (.int (m:Int)),some (.bl small)])
   (λ D hD=>⟨hD,e2.new hD,aD,[],rfl,.nil,(λ v hv=>nomatch hv),(λ i v hv=>by simp at hv),none,rfl⟩) ?_ ?_
  rotate_left
  ·rintro D i r Z H3 hi ⟨hD,e3,hl,vs,hlen,hvl,hok,hfu,v0,rfl⟩;refine eV ?_;refine⟨_,rfl,_,rfl,_,rfl,_,rfl,_,rfl,t,sl,i,n,m,small,rfl,e3.tp,hi,by omega,by omega,λ v p H4 e4 vok vfu hp=>?_⟩;have nD:D≠t:=e2.ne hD;have fD:H D=none:=e2.bt.free nD hD;have hl4:H4 D=some (.lst r):=e4.bt D _ nD hl;have hrl:r.length=vs.length:=by rw[hvl.length,aad]
   have mt:t9 (H4 D):=by rw[hl4];exact trivial
   refine⟨hl4,aW (by omega),hD,(e3.trans e4).put tp fD,aD,vs++[v],by simp [hlen],?_,?_,?_,_,rfl⟩
   ·rw[aal];exact L2.IsL.snoc (Is.mono (bT.put (bT.refl _) (.inr mt)) _ _ hp) (L2.IsL.mono (bT.put (e4.bt.ts e3.tp.mut) (.inr mt)) _ _ hvl)
   ·intro u hu;rcases abg.mp hu with hu | hu
    ·exact hok u hu
    ·rw[abq.mp hu];exact vok
   ·intro j u hu;rcases Nat.lt_or_ge j vs.length with hj | hj
    ·rw[aci hj] at hu;exact hfu j u hu
    ·rw[ach hj] at hu;have e0:j - vs.length=0:=by
      rcases Nat.eq_zero_or_pos (j - vs.length) with h | h
      ·exact h
      ·rw[acn (show [v].length<=j - vs.length from h)] at hu;cases hu
     rw[e0] at hu;have e1:j=i:=by omega
     cases hu;rw[e1];exact vfu
  rintro D r Z H3 ⟨hD,e3,hl,vs,hlen,hvl,hok,hfu,_⟩;have nD:D≠t:=e2.ne hD;have fD:H D=none:=e2.bt.free nD hD;refine⟨aar _,λ fl hfl=>?_⟩;have nf:fl≠t:=e3.ne hfl;have ff:H fl=none:=e3.bt.free nf hfl;have nDf:D≠fl:=aN hl hfl;refine⟨_,rfl,_,rfl,by omega,by omega,?_⟩;refine dW (lo:=0) (n:=m) (λ j Z H'=>Ext t sl H H'/\H' D=some (.lst r)/\L2.IsL K H' (vs.map xU) r/\∃ (sps:List wA) (xs:List V),H' fl=some (.lst xs)/\L2.IsL K H' (sps.map EE) xs/\sps.length=j/\(∀ s∈sps,(0<=s.1/\s.1 < n)/\0<=s.2.1/\s.2.1<=60)/\
   ∃ v7 v8,Z=[some (.ref t),some (.int most),some (.bl small),some (.int (n:Int)),some (.int (m:Int)),some (.ref D),some (.ref fl),v7,v8]) ?_ ?_ ?_
  ·exact⟨e3.new hfl,by rw[aM nDf];exact hl,L2.IsL.mono (aG.new hfl).ts _ _ hvl,[],[],aD,.nil,rfl,(λ s hs=>nomatch hs),none,none,rfl⟩
  ·rintro j Z H4 hj ⟨e4,hl4,hv4,sps,xs,hf4,hs4,hslen,hsok,v7,v8,rfl⟩;refine eW (t:=t) (sl:=sl) (H0:=H) (P:=cU 0 61) (iX (bD rfl (by decide) (by decide)) (Int.le_refl _) (by decide))
    (iX (iC (lo:=4) (hi:=62) rfl (by decide) (by decide) (oH rfl ⟨by decide,by decide⟩ ⟨by decide,by decide⟩)) (Int.le_refl _) (by decide)) (iO (bD rfl (by decide) (by decide))) _ _ e4 ?_
   rintro v H5 e5 b5 ⟨flow,rfl,fl0,fl1⟩;have hf5:H5 fl=some (.lst xs):=b5 fl _ nf hf4;refine⟨_,rfl,.inl ⟨rfl,_,bV.of hf5⟩,?_⟩;refine jQ (t:=t) (sl:=sl) (H0:=H) (m:=(n:Int)) rfl rfl (by omega) (by omega) _ _ e5 ?_;rintro v H6 e6 b6 ⟨tg,rfl,tg0,tg1⟩;refine⟨_,rfl,?_⟩;refine FL (t:=t) (sl:=sl) (H0:=H) (bD rfl (by decide) (by decide)) _ _ e6 ?_;rintro v H7 e7 b7 ⟨dr,rfl⟩;refine⟨(show 3<=sizeLine by decide),λ q hq=>?_⟩;have b47:dU t H4 H7:=b5.trans (b6.trans b7);have hf7:H7 fl=some (.lst xs):=b47 fl _ nf hf4;have hl7:H7 D=some (.lst r):=b47 D _ nD hl4;have nq:fl≠q:=aN hf7 hq;have nDq:D≠q:=aN hl7 hq;have hxl:xs.length=sps.length:=by rw[hs4.length,aad]
   refine⟨fl,xs,_,rfl,rfl,by rw[aM nq];exact hf7,aW (by omega),?_⟩;have mt:t9 (upd H7 q (.tup [.int tg,.int flow,.bl dr]) fl):=by rw[aM nq,hf7];exact trivial
   have ts:bT K H4 (upd (upd H7 q (.tup [.int tg,.int flow,.bl dr])) fl (.lst (xs++[.ref q]))):=bT.put ((b47.trans (aG.new hq).but).ts e4.tp.mut) (.inr mt);refine⟨(e7.new hq).put tp ff,by rw[aM nDf,aM nDq];exact hl7,L2.IsL.mono ts _ _ hv4,sps++[(tg,flow,dr)],xs++[.ref q],aD,?_,by simp [hslen],?_,_,_,rfl⟩
   ·rw[aal];exact L2.IsL.snoc (Is.tupOf (ds:=[.int tg,.int flow,.bl dr]) (bT.put (bT.refl _) (.inr mt) _ _ (bH.of aD)) (.cons (Is.i _) (.cons (Is.i _) (.cons (Is.b _) .nil)))) (L2.IsL.mono ts _ _ hs4)
   ·intro s hs;rcases abg.mp hs with hs | hs
    ·exact hsok s hs
    ·rw[abq.mp hs];exact⟨⟨tg0,tg1⟩,fl0,show flow<=60 by omega⟩
  ·rintro Z H4 ⟨e4,hl4,hv4,sps,xs,hf4,hs4,hslen,hsok,v7,v8,rfl⟩;refine⟨_,rfl,D,_,rfl,.inl ⟨bV.of hl4,λ q1 hq1=>⟨_,rfl,fl,_,rfl,.inl ⟨bV.of (aG.new hq1 _ _ hf4),λ q2 hq2=>⟨(show 2<=sizeLine by decide),λ q3 hq3=>?_⟩⟩⟩⟩⟩;have m1:aG H4 (upd H4 q1 (.tup r)):=aG.new hq1;have m2:aG (upd H4 q1 (.tup r)) (upd (upd H4 q1 (.tup r)) q2 (.tup xs)):=aG.new hq2;have m3:aG (upd (upd H4 q1 (.tup r)) q2 (.tup xs)) (upd (upd (upd H4 q1 (.tup r)) q2 (.tup xs)) q3 (.tup [.ref q1,.ref q2])):=aG.new hq3;refine k ⟨vs,sps⟩ _ _ (((e4.new hq1).new hq2).new hq3) ⟨by show 1<=vs.length;omega,by show vs.length<=12;omega,by show sps.length<=12;omega,λ v hv=>by rw[hlen,hslen];exact hok v hv,λ s hs=>by rw[hlen];exact (hsok s hs).1⟩ ⟨hfu,λ s hs=>(hsok s hs).2⟩ (by show (vs.length:Int)<=most;omega) ?_;refine Is.tupOf (bH.of aD) (.cons (Is.tupOf (m3.tup (m2.tup (bH.of aD))) ?_) (.cons (Is.tupOf (m3.tup (bH.of aD)) ?_) .nil))
   ·exact L2.IsL.mono m3.ts _ _ (L2.IsL.mono m2.ts _ _ (L2.IsL.mono m1.ts _ _ hv4))
   ·exact L2.IsL.mono m3.ts _ _ (L2.IsL.mono m2.ts _ _ (L2.IsL.mono m1.ts _ _ hs4))
theorem yB:∀ n:Nat,(List.replicate n [V.int 0]).flatten=(List.replicate n (0:Int)).map V.int
 | 0=>rfl
 | n+1=>by rw[List.replicate_succ,List.replicate_succ,List.flatten_cons,yB n,abk];rfl
def hR (n:Nat):List Int:=List.replicate n 0
def jX (K:aaa):Sp:=λ args H Q _=>∃ (x:V) (net:Net),args=[x]/\Is K H (gZ net) x/\NetOk net/\
 ∀ p H',aG H H'->Is K H' (tK (hR net.vs.length) (hR net.vs.length) (net.sps.map (·.2.2))) p->Q p H'
theorem jC:FnScope ["net","vessels","spouts","empty"] ["net"] (aR (bO 1)):={}
theorem pK {f:Addr}{fd:FuncData} (F:Fun K "first_state" "first_state" (bO 1) f fd) (T:Txt mg):FnOk P w K mg base gQ 1 f fd ["net"] (jX K):=by
 refine F.ok jC (λ vs H Q E h=>?_) (λ cdv A outer s H vs Q E hr h=>?_)
 ·obtain⟨x,net,rfl,_⟩:=h;rfl
 ·obtain⟨x,net,rfl,hx,nok,k⟩:=h;have sc:=jC;refine⟨_,(aF (cG (pv 0) (bC (K:=K) (n:=2) rfl rfl (aH (gL 1 sc.nd) (aH (gL 2 sc.nd) bA))))
   (aF (pL 3 sc.nd (aK (mB (K:=K) rfl) (aO (aA aE aC)) (mS K T.b_len (pv 1))))
   (aJ (aY (aO (aA (pv 3) (aA (pv 3) (aA (b0 (bZ (K:=K) rfl) rfl T.b_tuple bW (aA (i6 (λ _ _ h=>h) rfl (LcOk.mk (N':=["target","flow","door"]) (fr:=[none,none,none]) rfl trivial rfl rfl rfl rfl rfl trivial) (eX (K:=K) rfl (pv 2)) (λ _ _ _=>(bC (K:=K) (n:=3) rfl rfl (aH (gC 0 ["target","flow","door"]) (aH (gC 1 ["target","flow","door"]) (aH (gC 2 ["target","flow","door"]) bA))))) (λ _ _ _=>dN) (λ _ _ _=>(pv 2))) aC)) aC)))))))),?_⟩
  obtain⟨a,b,c,xs,ys,rfl,q,q1,l1,q2,l2⟩:=g6 hx;have exl:xs.length=net.vs.length:=by rw[l1.length,aad]
  have eyl:ys.length=net.sps.length:=by rw[l2.length,aad]
  have n1:=nok.lo;have n2:=nok.hi;have n3:=nok.sp;refine⟨_,rfl,a,_,rfl,q,rfl,_,_,rfl,_,_,rfl,rfl,?_⟩;refine⟨(show 1<=sizeLine by decide),λ z hz=>⟨_,rfl,b,xs,rfl,.inr ((aG.new hz).tup q1),z,_,[.int 0],rfl,rfl,bH.of aD,by omega,by omega,by simp,by simp,λ e H1 sm1 qe=>?_⟩⟩;have s1:aG H H1:=(aG.new hz).trans sm1;have en:((xs.length:Nat):Int).toNat=net.vs.length:=by rw[exl];simp
  rw[en,yB] at qe;refine⟨_,rfl,_,rfl,_,rfl,c,rfl,⟨_,s1.tup q2⟩,jN (K:=K) (a:=c) (xs:=ys) (λ D i r Z H'=>H1 D=none/\aG H1 H'/\H' D=some (.lst r)/\r=((net.sps.take i).map (·.2.2)).map V.bl/\∃ u v w,Z=[u,v,w])
   (λ D i r Z H' p=>p.2.1.tup (s1.tup q2)) (λ D hD=>⟨hD,aG.new hD,aD,by simp,none,none,none,rfl⟩) ?_ ?_⟩
  rotate_left
  ·rintro D i x r Z H2 hx ⟨hD,sm,hDl,rfl,u,v,w',rfl⟩;obtain⟨sp,hsi,sa,rfl,qs⟩:=oV l2 hx;have hil:=(aag.mp hsi).1;refine⟨sa,_,rfl,sm.tup (s1.tup qs),rfl,_,_,rfl,_,_,rfl,_,_,rfl,rfl,?_⟩;refine mU ⟨_,rfl,hDl,aW (by simp;omega),hD,sm.put hD,aD,?_,_,_,_,rfl⟩;rw[aX hsi];simp
  ·rintro D r Z H2 ⟨hD,sm,hDl,rfl,_⟩;rw[eyl,aaq] at hDl;refine⟨D,_,rfl,.inl ⟨bV.of hDl,λ d hd=>⟨(show 3<=sizeLine by decide),λ r hr'=>?_⟩⟩⟩;have m1:aG H2 (upd H2 d (.tup ((net.sps.map (·.2.2)).map V.bl))):=aG.new hd;have m2:aG (upd H2 d (.tup ((net.sps.map (·.2.2)).map V.bl))) (upd (upd H2 d (.tup ((net.sps.map (·.2.2)).map V.bl))) r (.tup [.ref e,.ref e,.ref d])):=aG.new hr';refine k _ _ (((s1.trans sm).trans m1).trans m2) (wJ (bH.of aD) ?_ ?_ (m2.tup (bH.of aD)))
   ·exact m2.tup (m1.tup (sm.tup qe))
   ·exact m2.tup (m1.tup (sm.tup qe))
theorem kO:FnScope ["net","none"] ["net"] (aR (bO 34)):={}
theorem qJ {f:Addr}{fd:FuncData} (F:Fun K "_law_first" "_law_first" (bO 34) f fd) (T:Txt mg):FnOk P w K mg base gQ 1 f fd ["net"] (jX K):=by
 refine F.ok kO (λ vs H Q E h=>?_) (λ cdv A outer s H vs Q E hr h=>?_)
 ·obtain⟨x,net,rfl,_⟩:=h;rfl
 ·obtain⟨x,net,rfl,hx,nok,k⟩:=h;have sc:=kO;refine⟨_,(aF (pL 1 sc.nd (aK (mB (K:=K) rfl) (aO (aA aE aC)) (mS K T.b_len (px K (pv 0) aE))))
   (aJ (aY (aO (aA (pv 1) (aA (pv 1) (aA (b0 (bZ (K:=K) rfl) rfl T.b_tuple bW (aA (i6 (λ _ _ h=>h) rfl (LcOk.mk (N':=["spout"]) (fr:=[none]) rfl trivial rfl rfl rfl rfl rfl trivial) (eX (K:=K) rfl (px K (pv 0) aE)) (λ _ _ _=>(gC 0 ["spout"])) (λ _ _ _=>dN) (λ _ _ _=>(px K (pv 0) aE))) aC)) aC))))))),?_⟩
  obtain⟨a,b,c,xs,ys,rfl,q,q1,l1,q2,l2⟩:=g6 hx;have exl:xs.length=net.vs.length:=by rw[l1.length,aad]
  have eyl:ys.length=net.sps.length:=by rw[l2.length,aad]
  have n1:=nok.lo;have n2:=nok.hi;have n3:=nok.sp;refine⟨(show 1<=sizeLine by decide),λ z hz=>⟨_,rfl,.inr (.inl ⟨a,_,0,_,rfl,rfl,(aG.new hz).tup q,rfl,b,xs,rfl,.inr ((aG.new hz).tup q1),z,_,[.int 0],rfl,rfl,bH.of aD,by omega,by omega,by simp,by simp,λ e H1 sm1 qe=>?_⟩)⟩⟩;have s1:aG H H1:=(aG.new hz).trans sm1;have en:((xs.length:Nat):Int).toNat=net.vs.length:=by rw[exl];simp
  rw[en,yB] at qe;refine⟨_,rfl,_,rfl,_,rfl,.inr (.inl ⟨a,_,1,_,rfl,rfl,s1.tup q,rfl,c,rfl,⟨_,s1.tup q2⟩,jN (K:=K) (a:=c) (xs:=ys) (λ D i r Z H'=>H1 D=none/\aG H1 H'/\H' D=some (.lst r)/\r=((net.sps.take i).map (·.2.2)).map V.bl/\∃ u,Z=[u])
   (λ D i r Z H' p=>p.2.1.tup (s1.tup q2)) (λ D hD=>⟨hD,aG.new hD,aD,by simp,none,rfl⟩) ?_ ?_⟩)⟩
  rotate_left
  ·rintro D i x r Z H2 hx ⟨hD,sm,hDl,rfl,u,rfl⟩;obtain⟨sp,hsi,sa,rfl,qs⟩:=oV l2 hx;have hil:=(aag.mp hsi).1;refine eV ?_;refine⟨_,rfl,.inr (.inl ⟨sa,_,2,_,rfl,rfl,sm.tup (s1.tup qs),rfl,hDl,aW (by simp;omega),hD,sm.put hD,aD,?_,_,rfl⟩)⟩;rw[aX hsi];simp
  ·rintro D r Z H2 ⟨hD,sm,hDl,rfl,_⟩;rw[eyl,aaq] at hDl;refine⟨D,_,rfl,.inl ⟨bV.of hDl,λ d hd=>⟨(show 3<=sizeLine by decide),λ r hr'=>?_⟩⟩⟩;have m1:aG H2 (upd H2 d (.tup ((net.sps.map (·.2.2)).map V.bl))):=aG.new hd;have m2:aG (upd H2 d (.tup ((net.sps.map (·.2.2)).map V.bl))) (upd (upd H2 d (.tup ((net.sps.map (·.2.2)).map V.bl))) r (.tup [.ref e,.ref e,.ref d])):=aG.new hr';refine k _ _ (((s1.trans sm).trans m1).trans m2) (wJ (bH.of aD) ?_ ?_ (m2.tup (bH.of aD)))
   ·exact m2.tup (m1.tup (sm.tup qe))
   ·exact m2.tup (m1.tup (sm.tup qe))
def wK (K:aaa):Sp:=λ vs H Q _=>∃ (a:Addr) (ns:List Int),vs=[.ref a]/\bV K H a (ns.map V.int)/\ns.length<=63/\∀ H',Q (.bl true) H'
end Tw
namespace L2
open PySem PySem.Spec PyProof.Rows TwZ
section
variable {X:Cx}
theorem tS {x:Str}{v:V}{pos:Pos} (hg:Gl X x) (h:∃ u,X.mg x=some u/\bM v u) (hd:(x == ("__debug__" : Str))=false:=by decide):PE X (.Name x pos) (tC v):=by
 obtain⟨u,e,r⟩:=h;exact CQ hg e r hd
end
theorem iteD {c A B:Prop} [Decidable c] (hc:c) (h:A):if decide c=true then A else B:=by
 rw[if_pos (abz hc)];exact h
end L2
namespace Tw
open PySem L2
section
variable {aw:Addr}
theorem nV:FnScope ["thing","least","most"] ["thing","least","most"] (aR (bO 20)):={}
theorem nU:FnScope ["thing","least","most"] ["thing","least","most"] (aR (bO 21)):={}
end
end Tw
namespace L2
open PySem PySem.Spec PyProof.Rows TwZ
section
variable {g:TG}{tc:TT}{te:TE}{fr:List (Option Nat)}{σ:St}{H1:Hp}{Q:Addr->Hp->Prop}
theorem x9 {t1 t2:Bool}{a1 a2:Addr}{xs ys:List V}{n:Nat} (h1:xs.length=n) (h2:ys.length=n) (Pv:Addr->Nat->List V->St->Hp->Prop)
  (hq:∀ D i r σ H,Pv D i r σ H->j4 K H t1 a1 xs/\j4 K H t2 a2 ys)
  (h0:∀ D,H1 D=none->Pv D 0 [] (uE fr σ) (upd H1 D (.lst []))) (hstop:∀ D r Z H',Pv D n r Z H'->Q D H')
  (hgo:∀ D i x y r Z H' T,xs[i]? = some x->ys[i]? = some y->Pv D i r Z H'->H' T=none->g (.ref T) Z (upd H' T (.tup [x,y])) λ ak H3=>tc ak H3 λ b H4=>
    if b=true then te ak H4 λ y H5=>H5 D=some (.lst r)/\r.length < PySem.sizeLine/\Pv D (i+1) (r++[y]) ak (upd H5 D (.lst (r++[y])))
    else Pv D (i+1) r ak H4):iM (DE K t1 t2 a1 a2) g tc te fr σ H1 Q:=by
 refine pQ (n:=n) Pv h0 (λ D r Z H' p=>?_) λ D i r Z H' hi p=>?_
 ·obtain⟨q1,q2⟩:=hq D _ r Z H' p;exact⟨⟨xs,ys,q1,q2,.inl (by omega)⟩,hstop D r Z H' p⟩
 ·obtain⟨q1,q2⟩:=hq D _ r Z H' p;refine⟨⟨xs,ys,xs[i]'(by omega),ys[i]'(by omega),q1,q2,by simp,by simp⟩,?_⟩;rintro v H2 ⟨T,x,y,hT,rfl,e1,e2,rfl⟩;exact hgo D i x y r Z H' T (e1 xs q1) (e2 ys q2) p hT
end
end L2
namespace Tw
open PySem L2
structure Mom where
 tick:Int
 held:List Int
 coming:List Int
 doors:List Bool
 poured:List Int
 came:Int
 ground:Int
def jK (m:Mom):L2.D:=.tup [.int m.tick,tK m.held m.coming m.doors,.tup (m.poured.map L2.D.int),.int m.came,.int m.ground]
def dA:List wA->List Bool->Int
 | s::ss,d::ds=>(if d=true then s.2.1 else 0)+dA ss ds
 | _,_=>0
structure MomOk (net:Net) (m:Mom):Prop where
 st:StOk net m.held m.coming m.doors
 pl:m.poured.length=net.vs.length
def Mom.tk (net:Net) (m:Mom):Tick:=kU net m.held m.coming m.poured m.doors
def Mom.step (net:Net) (m:Mom):Mom:=
 { tick:=m.tick+1,held:=(m.tk net).held,coming:=(m.tk net).coming,doors:=(m.tk net).doors,poured:=hR net.vs.length,came:=m.came+(m.poured.sum+dA net.sps m.doors),ground:=m.ground+(m.tk net).ground }
def Mom.pour (m:Mom) (v a:Int):Mom:={ m with poured:=m.poured.set v.toNat (m.poured.getD v.toNat 0+a) }
def cZ (net:Net) (m:Mom):Nat->Mom
 | 0=>m
 | i+1=>(cZ net m i).step net
def fY (net:Net) (m:Mom):List (Int×Nat):=(m.tk net).tip.map λ k=>(m.tick,k)
def cM (net:Net) (m:Mom):Nat->List (Int×Nat)
 | 0=>[]
 | i+1=>cM net m i++fY net (cZ net m i)
inductive Row where
 | pour (v a:Int)
 | go (many:Int) (tips:List (Int×Nat))
def fH (t:Int×Nat):L2.D:=.tup [.int t.1,.int (t.2:Int)]
def iG:Row->L2.D
 | .pour v a=>.tup [.str "pour",.int v,.int a]
 | .go n ts=>.tup [.str "go",.int n,.tup (ts.map fH)]
structure RunS where
 net:Net
 rows:List Row
 pre:List Mom
 cur:Mom
 tips:List (List Int)
def dY (ts:List (List Int)) (t:Int×Nat):List (List Int):=ts.set t.2 (ts.getD t.2 []++[t.1])
def RunS.pour (S:RunS) (v a:Int):RunS:={ S with rows:=S.rows++[.pour v a],pre:=S.pre++[S.cur],cur:=S.cur.pour v a }
def RunS.go (S:RunS) (k:Nat):RunS:={ S with rows:=S.rows++[.go (k:Int) (cM S.net S.cur k)],pre:=S.pre++[S.cur],cur:=cZ S.net S.cur k,tips:=(cM S.net S.cur k).foldl dY S.tips }
def jL (net:Net):Mom:=⟨0,hR net.vs.length,hR net.vs.length,net.sps.map (·.2.2),hR net.vs.length,0,0⟩
def tM (net:Net):RunS:=⟨net,[],[],jL net,List.replicate net.vs.length []⟩
structure RunOk (S:RunS):Prop where
 nok:NetOk S.net
 cur:MomOk S.net S.cur
 tl:S.tips.length=S.net.vs.length
structure RunSz (S:RunS) (B:Nat):Prop where
 rows:S.rows.length<=B
 pre:S.pre.length<=B
 tips:∀ l∈S.tips,l.length<=B
theorem jV (n:Nat):(hR n).length=n:=by simp [hR]
theorem oK {n:Nat} (h:1<=n):(0:Int)::hR (n - 1)=hR n:=by
 obtain⟨k,rfl⟩:∃ k,n=k+1:=⟨n - 1,by omega⟩;simp [hR,List.replicate_succ]
theorem wX (net:Net):MomOk net (jL net):=⟨⟨jV _,jV _,by simp [jL]⟩,jV _⟩
theorem Mom.hs_len {net:Net}{m:Mom} (h:MomOk net m):(aP net m.held m.coming m.poured m.doors).length=net.vs.length:=by
 unfold aP;rw[gD,gN h.st.h h.st.c h.pl]
theorem MomOk.step {net:Net}{m:Mom} (h:MomOk net m):MomOk net (m.step net):=
 ⟨⟨iE _ _ (Mom.hs_len h).symm,by show (eI _ _).length=_;unfold eI;simp,by show (cL _ _ _).length=_;rw[iP];exact h.st.d⟩,jV _⟩
theorem MomOk.pour {net:Net}{m:Mom} (h:MomOk net m) (v a:Int):MomOk net (m.pour v a):=⟨h.st,by show (List.set _ _ _).length=_;rw[List.length_set];exact h.pl⟩
theorem mF {net:Net}{m:Mom} (h:MomOk net m):∀ i,MomOk net (cZ net m i)
 | 0=>h
 | i+1=>(mF h i).step
theorem GB {net:Net}{m:Mom}{k:Nat} (h:k∈(m.tk net).tip):k < net.vs.length:=by
 have:=lP _ _ _ _ (show k∈bI 0 net.vs _ from h);omega
theorem uU (net:Net) (m:Mom):(m.tk net).tip.length<=net.vs.length:=hU _ _ _
theorem wG {net:Net}{m:Mom}:∀ (i:Nat) (t:Int×Nat),t∈cM net m i->t.2 < net.vs.length
 | 0,t,h=>by simp [cM] at h
 | i+1,t,h=>by
  rcases abg.1 h with h | h
  ·exact wG i t h
  ·obtain⟨k,hk,rfl⟩:=acm.1 h;exact GB hk
theorem gG {net:Net}{m:Mom} (nok:NetOk net):∀ (i:Nat),(cM net m i).length<=12 * i
 | 0=>by simp [cM]
 | i+1=>by
  have h1:=gG (m:=m) nok i;have h2:=uU net (cZ net m i);have h3:=nok.hi;show (cM net m i++fY net (cZ net m i)).length<=_;rw[aap];unfold fY;rw[aad];omega
theorem jT:∀ (l:List (Int×Nat)) (ts:List (List Int)),(l.foldl dY ts).length=ts.length
 | [],_=>rfl
 | t::l,ts=>by show (l.foldl dY (dY ts t)).length=_;rw[jT l];unfold dY;simp
theorem RunOk.pour {S:RunS} (h:RunOk S) (v a:Int):RunOk (S.pour v a):=⟨h.nok,h.cur.pour v a,h.tl⟩
theorem RunOk.go {S:RunS} (h:RunOk S) (k:Nat):RunOk (S.go k):=⟨h.nok,mF h.cur k,by show (List.foldl dY S.tips (cM S.net S.cur k)).length=_;rw[jT];exact h.tl⟩
theorem wO {net:Net} (nok:NetOk net):RunOk (tM net):=⟨nok,wX net,by simp [tM]⟩
section
variable {r dx R M T:Addr}{H H':Hp}{S:RunS}{fp:List Addr}{np mv:V}{ts:List Addr}{rs ms:List V}
theorem nI {m:Mom}{v:V} (h:Is K H (jK m) v):∃ (a po:Addr) (st:V),v=.ref a/\bH K H a [.int m.tick,st,.ref po,.int m.came,.int m.ground]/\Is K H (tK m.held m.coming m.doors) st/\bH K H po (m.poured.map V.int):=by
 obtain⟨a,zs,rfl,q,l⟩:=(show Is K H (.tup [.int m.tick,tK m.held m.coming m.doors,.tup (m.poured.map L2.D.int),.int m.came,.int m.ground]) v from h).un;obtain⟨x1,r,rfl,h1,l⟩:=l.un;obtain⟨x2,r,rfl,h2,l⟩:=l.un;obtain⟨x3,r,rfl,h3,l⟩:=l.un;obtain⟨x4,r,rfl,h4,l⟩:=l.un;obtain⟨x5,r,rfl,h5,l⟩:=l.un;have:=l.un0;subst this;have:=h1.ui;subst this;have:=h4.ui;subst this;have:=h5.ui;subst this;obtain⟨po,xs,rfl,q1,l1⟩:=h3.un;have:=l1.ints;subst this;exact⟨a,po,x2,rfl,q,h2,q1⟩
theorem vJ {m:Mom}{a po:Addr}{st:V} (q:bH K H a [.int m.tick,st,.ref po,.int m.came,.int m.ground]) (hs:Is K H (tK m.held m.coming m.doors) st) (hp:bH K H po (m.poured.map V.int)):Is K H (jK m) (.ref a):=
 Is.tupOf q (.cons (Is.i _) (.cons hs (.cons (Is.tupOf hp (IsL.of_ints _)) (.cons (Is.i _) (.cons (Is.i _) .nil)))))
end
def jW (K:aaa):Sp:=λ vs H Q _=>∃ (x:V) (net:Net) (v:Int),vs=[x,.int v]/\Is K H (gZ net) x/\NetOk net/\∀ p H',aG H H'->bH K H' p ((v::hR (net.vs.length - 1)).map V.int)->Q (.ref p) H'
theorem pA:FnScope ["net","amount","vessels","spouts"] ["net","amount"] (aR (bO 2)):={}
theorem vH {f:Addr}{fd:FuncData} (F:Fun K "pouring" "pouring" (bO 2) f fd) (T:Txt mg):FnOk P w K mg base gQ 1 f fd ["net","amount"] (jW K):=by
 refine F.ok pA (λ vs H Q E h=>?_) (λ cdv A outer s H vs Q E hr h=>?_)
 ·obtain⟨x,net,v,rfl,_⟩:=h;rfl
 ·obtain⟨x,net,v,rfl,hx,nok,k⟩:=h;have sc:=pA;refine⟨_,(aF (cG (pv 0) (bC (K:=K) (n:=2) rfl rfl (aH (gL 2 sc.nd) (aH (gL 3 sc.nd) bA))))
   (aJ (aY (aK (AF (K:=K) rfl) (aO (aA (pv 1) aC)) (aK (A9 (K:=K) rfl) (aO (aA aE aC)) (aK d8 (mS K T.b_len (pv 2)) aE)))))),?_⟩
  obtain⟨a,b,c,xs,ys,rfl,q,q1,l1,q2,l2⟩:=g6 hx;have exl:xs.length=net.vs.length:=by rw[l1.length,aad]
  have n1:=nok.lo;have n2:=nok.hi;refine⟨_,rfl,a,_,rfl,q,rfl,_,_,rfl,_,_,rfl,rfl,?_⟩;refine⟨_,rfl,(show 1<=sizeLine by decide),λ y hy=>⟨(show 1<=sizeLine by decide),λ z hz=>?_⟩⟩;have m1:=aG.new (o:=HO.tup [.int v]) hy;have m2:=aG.new (o:=HO.tup [.int 0]) hz;refine⟨_,rfl,b,xs,rfl,.inr (m2.tup (m1.tup q1)),_,_,rfl,rfl,z,_,[.int 0],rfl,rfl,bH.of aD,by omega,by omega,by simp,by simp,λ e H1 sm1 qe=>?_⟩;have en:(((xs.length:Nat):Int) - 1).toNat=net.vs.length - 1:=by rw[exl];omega
  rw[en,yB] at qe;refine⟨y,e,[.int v],_,rfl,rfl,sm1.tup (m2.tup (bH.of aD)),qe,by simp,aW (by simp;omega) |> aca,λ he=>?_,λ _ p hp=>?_⟩
  ·refine k _ _ ((m1.trans m2).trans sm1) ?_;have e0:hR (net.vs.length - 1)=[]:=List.map_eq_nil_iff.mp he;rw[e0];exact sm1.tup (m2.tup (bH.of aD))
  ·exact k _ _ (((m1.trans m2).trans sm1).trans (aG.new hp)) (bH.of aD)
def p7 (K:aaa):Sp:=λ vs H Q _=>∃ (x y:V) (z:Addr) (net:Net) (held coming poured:List Int) (doors:List Bool),vs=[x,y,.ref z]/\Is K H (gZ net) x/\Is K H (tK held coming doors) y/\bH K H z (poured.map V.int)/\
 NetOk net/\StOk net held coming doors/\∀ H',aG H H'->Q (.int (poured.sum+dA net.sps doors)) H'
theorem m9:∀ (ss:List wA) (ds:List Bool) (i:Nat) (s:wA) (d:Bool),ss[i]? = some s->ds[i]? = some d->dA (ss.take (i+1)) (ds.take (i+1))=dA (ss.take i) (ds.take i)+(if d=true then s.2.1 else 0)
 | [],_,i,_,_,h,_=>by simp at h
 | _::_,[],i,_,_,_,h=>by simp at h
 | a::ss,b::ds,0,s,d,h1,h2=>by simp at h1 h2;subst h1 h2;simp [dA]
 | a::ss,b::ds,i+1,s,d,h1,h2=>by
  simp only [List.take_succ_cons,dA];rw[m9 ss ds i s d (by simpa using h1) (by simpa using h2)];omega
theorem pC:FnScope ["net","state","poured","vessels","spouts","held","coming","doors"] ["net","state","poured"] (aR (bO 4)):={}
theorem vI {f:Addr}{fd:FuncData} (F:Fun K "came_in" "came_in" (bO 4) f fd) (T:Txt mg):FnOk P w K mg base gQ 1 f fd ["net","state","poured"] (p7 K):=by
 refine F.ok pC (λ vs H Q E h=>?_) (λ cdv A outer s H vs Q E hr h=>?_)
 ·obtain⟨x,y,z,net,held,coming,poured,doors,rfl,_⟩:=h;rfl
 ·obtain⟨x,y,z,net,held,coming,poured,doors,rfl,hx,hy,qz,nok,sok,k⟩:=h;have sc:=pC;refine⟨_,(aF (cG (pv 0) (bC (K:=K) (n:=2) rfl rfl (aH (gL 3 sc.nd) (aH (gL 4 sc.nd) bA))))
   (aF (cG (pv 1) (bC (K:=K) (n:=3) rfl rfl (aH (gL 5 sc.nd) (aH (gL 6 sc.nd) (aH (gL 7 sc.nd) bA)))))
   (aJ (aY (aK bG (bF (dX (K:=K) rfl rfl) rfl T.b_sum PyProof.Rows.boot_sum (aA (pv 2) aC)) (bF (dX (K:=K) rfl rfl) rfl T.b_sum PyProof.Rows.boot_sum (aA (i6 (λ _ _ h=>h) rfl (LcOk.mk (N':=["target","flow","first_door","door"]) (fr:=[none,none,none,none]) rfl trivial rfl rfl rfl rfl rfl trivial) (pF (K:=K) rfl rfl T.b_zip (aA (pv 4) (aA (pv 7) aC))) (λ _ _ _=>(bC (K:=K) (n:=2) rfl rfl (aH (bC (K:=K) (n:=3) rfl rfl (aH (gC 0 ["target","flow","first_door","door"]) (aH (gC 1 ["target","flow","first_door","door"]) (aH (gC 2 ["target","flow","first_door","door"]) bA)))) (aH (gC 3 ["target","flow","first_door","door"]) bA)))) (λ _ _ _=>oG (dF (pv 3))) (λ _ _ _=>(pv 1))) aC))))))),?_⟩
  obtain⟨a,b,c,xs,ys,rfl,q,q1,l1,q2,l2⟩:=g6 hx;obtain⟨ay,b1,b2,b3,rfl,qy,qb1,qb2,qb3⟩:=qS hy;have eyl:ys.length=net.sps.length:=by rw[l2.length,aad]
  have n3:=nok.sp;refine⟨_,rfl,a,_,rfl,q,rfl,_,_,rfl,_,_,rfl,rfl,?_⟩;refine⟨_,rfl,ay,_,rfl,qy,rfl,_,_,rfl,_,_,rfl,_,_,rfl,rfl,?_⟩;refine⟨_,rfl,true,z,_,rfl,qz,?_⟩;refine⟨_,rfl,_,rfl,true,true,c,b3,rfl,⟨_,q2⟩,⟨_,qb3⟩,x9 (K:=K) (t1:=true) (t2:=true) (xs:=ys) (ys:=doors.map V.bl) (n:=net.sps.length) eyl (by rw[aad];exact sok.d)
   (λ D i r Z H'=>H D=none/\aG H H'/\H' D=some (.lst r)/\(∃ ns:List Int,r=ns.map V.int/\ns.sum=dA (net.sps.take i) (doors.take i)/\ns.length<=i)/\∃ u1 u2 u3 u4,Z=[u1,u2,u3,u4])
   (λ D i r Z H' p=>⟨p.2.1.tup q2,p.2.1.tup qb3⟩) (λ D hD=>⟨hD,aG.new hD,aD,⟨[],rfl,by simp [dA],by simp⟩,none,none,none,none,rfl⟩) ?_ ?_⟩
  rotate_left
  ·rintro D i x y r Z H2 Tt hx hy ⟨hD,sm,hDl,⟨ns,rfl,hns,hnl⟩,u1,u2,u3,u4,rfl⟩ hT;obtain⟨sp,hsi,sa,rfl,qs⟩:=oV l2 hx;have hil:=(aag.mp hsi).1;obtain⟨d,hdi,rfl⟩:∃ d,doors[i]? = some d/\y=V.bl d:=by
    rw[aah] at hy;cases hd:doors[i]? with
    | none=>rw[hd] at hy;cases hy
    | some d=>rw[hd] at hy;cases hy;exact⟨d,rfl,rfl⟩
   have mT:=aG.new (o:=HO.tup [.ref sa,.bl d]) hT;have hs:=m9 net.sps doors i sp d hsi hdi;refine⟨Tt,_,rfl,bH.of aD,rfl,_,_,rfl,sa,_,rfl,mT.tup (sm.tup qs),rfl,_,_,rfl,_,_,rfl,_,_,rfl,rfl,_,_,rfl,rfl,?_⟩;refine⟨_,rfl,_,rfl,?_⟩;have smT:=sm.trans mT;cases d with
   | false=>
    refine cT ⟨hD,smT,mT _ _ hDl,⟨ns,rfl,by rw[hs,hns];simp,by omega⟩,_,_,_,_,rfl⟩
   | true=>
    refine cR ⟨_,rfl,mT _ _ hDl,aW (by simp;omega),hD,smT.put hD,aD,⟨ns++[sp.2.1],by rw[aal];rfl,by rw[hs,List.sum_append,hns];simp,by simp;omega⟩,_,_,_,_,rfl⟩
  ·rintro D r Z H2 ⟨hD,sm,hDl,⟨ns,rfl,hns,hnl⟩,_⟩;refine⟨false,D,_,rfl,bV.of hDl,_,_,rfl,rfl,?_⟩;rw[hns,abj (aak _),abj (Nat.le_of_eq sok.d)];exact k _ sm
def oZ (K:aaa):Sp:=λ vs H Q _=>∃ (x y:V) (net:Net) (m:Mom),vs=[x,y]/\Is K H (gZ net) x/\Is K H (jK m) y/\NetOk net/\MomOk net m/\
 ∀ p p1 p2 H',aG H H'->bH K H' p [p1,.ref p2]->Is K H' (jK (m.step net)) p1->bH K H' p2 ((m.tk net).tip.map λ (k:Nat)=>V.int (k:Int))->Q (.ref p) H'
theorem hX:FnScope ["net","moment","tick","state","poured","came","grounded","behind","tipped","lost"] ["net","moment"] (aR (bO 16)):={}
theorem nF {f f1 f2 f3:Addr}{fd fd1 fd2 fd3:FuncData} (F:Fun K "moment_behind" "moment_behind" (bO 16) f fd) (T:Txt mg) (G_tick_behind:Callee P w K mg base "tick_behind" ["net","state","poured"] 4 (uX K) f1 fd1)
  (G_came_in:Callee P w K mg base "came_in" ["net","state","poured"] 1 (p7 K) f2 fd2) (G_pouring:Callee P w K mg base "pouring" ["net","amount"] 1 (jW K) f3 fd3):FnOk P w K mg base gQ 5 f fd ["net","moment"] (oZ K):=by
 refine F.ok hX (λ vs H Q E h=>?_) (λ cdv A outer s H vs Q E hr h=>?_)
 ·obtain⟨x,y,net,m,rfl,_⟩:=h;rfl
 ·obtain⟨x,y,net,m,rfl,hx,hy,nok,mok,k⟩:=h;have sc:=hX;refine⟨_,(aF (cG (pv 1) (bC (K:=K) (n:=5) rfl rfl (aH (gL 2 sc.nd) (aH (gL 3 sc.nd) (aH (gL 4 sc.nd) (aH (gL 5 sc.nd) (aH (gL 6 sc.nd) bA)))))))
   (aF (cG (cN G_tick_behind hr (aA (pv 0) (aA (pv 3) (aA (pv 4) aC)))) (bC (K:=K) (n:=3) rfl rfl (aH (gL 7 sc.nd) (aH (gL 8 sc.nd) (aH (gL 9 sc.nd) bA)))))
   (aF (A4 (i:=5) sc.nd rfl (Or.inl rfl) (cN G_came_in hr (aA (pv 0) (aA (pv 3) (aA (pv 4) aC)))) vW)
   (aJ (aY (aO (aA (aO (aA (aK bG (pv 2) aE) (aA (pv 7) (aA (cN G_pouring hr (aA (pv 0) (aA aE aC))) (aA (pv 5) (aA (aK bG (pv 6) (pv 9)) aC)))))) (aA (pv 8) aC)))))))),?_⟩
  obtain⟨a,po,st,rfl,q,hs,hp⟩:=nI hy;refine⟨_,rfl,a,_,rfl,q,rfl,_,_,rfl,_,_,rfl,_,_,rfl,_,_,rfl,_,_,rfl,rfl,?_⟩;refine⟨_,rfl,_,rfl,_,rfl,x,st,po,net,m.held,m.coming,m.poured,m.doors,rfl,hx,hs,hp,nok,mok.st,mok.pl,λ f fxs H1 sm1 _ if1=>?_⟩;obtain⟨fa,gxs,ef,qf,lf⟩:=(show Is K H1 (.tup [tK (m.tk net).held (m.tk net).coming (m.tk net).doors,.tup ((m.tk net).tip.map λ (i:Nat)=>L2.D.int (i:Int)),.int (m.tk net).ground]) (.ref f) from if1).un;cases ef;obtain⟨y1,r,rfl,j1,lf⟩:=lf.un;obtain⟨y2,r,rfl,j2,lf⟩:=lf.un;obtain⟨y3,r,rfl,j3,lf⟩:=lf.un;have:=lf.un0;subst this;have:=j3.ui;subst this;obtain⟨p2,ts,rfl,qt,lt⟩:=j2.un;have et:ts=(m.tk net).tip.map λ (k:Nat)=>V.int (k:Int):=by
   have e1:((m.tk net).tip.map λ (i:Nat)=>L2.D.int (i:Int))=((m.tk net).tip.map λ (i:Nat)=>(i:Int)).map L2.D.int:=by rw[acf];rfl
   rw[e1] at lt;rw[lt.ints,acf];rfl
  subst et;refine⟨f,_,rfl,qf,rfl,_,_,rfl,_,_,rfl,_,_,rfl,rfl,?_⟩;refine⟨_,rfl,_,rfl,_,rfl,_,rfl,x,st,po,net,m.held,m.coming,m.poured,m.doors,rfl,Is.mono sm1.ts _ _ hx,Is.mono sm1.ts _ _ hs,sm1.tup hp,nok,mok.st,λ H2 sm2=>⟨_,_,rfl,rfl,?_⟩⟩;have s2:aG H H2:=sm1.trans sm2;refine⟨_,rfl,_,_,rfl,rfl,_,rfl,_,rfl,x,net,0,rfl,Is.mono s2.ts _ _ hx,nok,λ z H3 sm3 qz=>?_⟩;rw[oK nok.lo] at qz;refine⟨_,rfl,_,rfl,_,rfl,_,_,rfl,rfl,(show 5<=sizeLine by decide),λ p1 hp1=>?_⟩;have m1:aG H3 _:=aG.new (o:=HO.tup [.int (m.tick+1),y1,.ref z,.int (m.came+(m.poured.sum+dA net.sps m.doors)),.int (m.ground+(m.tk net).ground)]) hp1;refine⟨_,rfl,(show 2<=sizeLine by decide),λ p hpp=>?_⟩;have m2:aG _ _:=aG.new (o:=HO.tup [.ref p1,.ref p2]) hpp;refine k p (.ref p1) p2 _ (((s2.trans sm3).trans m1).trans m2) (bH.of aD) (vJ (m:=m.step net) (m2.tup (bH.of aD)) ?_ ?_) ?_
  ·exact Is.mono m2.ts _ _ (Is.mono m1.ts _ _ (Is.mono sm3.ts _ _ (Is.mono sm2.ts _ _ j1)))
  ·exact m2.tup (m1.tup qz)
  ·exact m2.tup (m1.tup (sm3.tup (sm2.tup qt)))
theorem IsL.app {H:Hp}:∀ {ds es:List L2.D}{xs ys:List V},L2.IsL K H ds xs->L2.IsL K H es ys->L2.IsL K H (ds++es) (xs++ys)
 | [],_,_,_,h1,h2=>by have:=h1.un0;subst this;exact h2
 | d::ds,_,_,_,h1,h2=>by
  obtain⟨x,r,rfl,h,h1⟩:=h1.un;exact .cons h (IsL.app h1 h2)
theorem iF {n:Nat} (h:n<=10000000):n < sizeLine:=by rw[sizeLine_eq];omega
def kZ (K:aaa):Sp:=λ vs H Q _=>∃ (x:V) (net:Net),vs=[x]/\Is K H (gZ net) x/\NetOk net/\∀ p H',aG H H'->Is K H' (jK (jL net)) (.ref p)->Q (.ref p) H'
theorem iU:FnScope ["net"] ["net"] (aR (bO 13)):={}
theorem o9 {f f1 f2:Addr}{fd fd1 fd2:FuncData} (F:Fun K "first_moment" "first_moment" (bO 13) f fd) (T:Txt mg)
  (G_first_state:Callee P w K mg base "first_state" ["net"] 1 (jX K) f1 fd1) (G_pouring:Callee P w K mg base "pouring" ["net","amount"] 1 (jW K) f2 fd2):FnOk P w K mg base gQ 2 f fd ["net"] (kZ K):=by
 refine F.ok iU (λ vs H Q E h=>?_) (λ cdv A outer s H vs Q E hr h=>?_)
 ·obtain⟨x,net,rfl,_⟩:=h;rfl
 ·obtain⟨x,net,rfl,hx,nok,k⟩:=h;have sc:=iU;refine⟨_,(aJ (aY (aO (aA aE (aA (cN G_first_state hr (aA (pv 0) aC)) (aA (cN G_pouring hr (aA (pv 0) (aA aE aC))) (aA aE (aA aE aC)))))))),?_⟩;refine⟨_,rfl,x,net,rfl,hx,nok,λ st H4 sm4 hst=>⟨_,rfl,x,net,0,rfl,Is.mono sm4.ts _ _ hx,nok,λ z H5 sm5 qz=>⟨(show 5<=sizeLine by decide),λ p hp=>?_⟩⟩⟩;rw[oK nok.lo] at qz;have sp:aG H5 (upd H5 p (.tup [.int 0,st,.ref z,.int 0,.int 0])):=aG.new hp;exact k p _ ((sm4.trans sm5).trans sp) (vJ (m:=jL net) (bH.of aD) (Is.mono sp.ts _ _ (Is.mono sm5.ts _ _ hst)) (sp.tup qz))
def mW (K:aaa):Sp:=λ vs H Q _=>∃ (x:V) (n:Nat) (m:Mom) (v a:Int),vs=[x,.int v,.int a]/\Is K H (jK m) x/\m.poured.length=n/\n<=12/\0<=v/\v < n/\
 ∀ p H',aG H H'->Is K H' (jK (m.pour v a)) (.ref p)->Q (.ref p) H'
theorem hW:FnScope ["moment","vessel","amount","tick","state","poured","came","grounded","more"] ["moment","vessel","amount"] (aR (bO 14)):={}
theorem nE {f:Addr}{fd:FuncData} (F:Fun K "moment_poured" "moment_poured" (bO 14) f fd) (T:Txt mg):FnOk P w K mg base gQ 1 f fd ["moment","vessel","amount"] (mW K):=by
 refine F.ok hW (λ vs H Q E h=>?_) (λ cdv A outer s H vs Q E hr h=>?_)
 ·obtain⟨x,n,m,v,a,rfl,_⟩:=h;rfl
 ·obtain⟨x,n,m,v,a,rfl,hx,pl,hnh,v0,v1,k⟩:=h;have sc:=hW;refine⟨_,(aF (cG (pv 0) (bC (K:=K) (n:=5) rfl rfl (aH (gL 3 sc.nd) (aH (gL 4 sc.nd) (aH (gL 5 sc.nd) (aH (gL 6 sc.nd) (aH (gL 7 sc.nd) bA)))))))
   (aF (pL 8 sc.nd (b0 (gE (K:=K) rfl) rfl T.b_list kG (aA (pv 5) aC)))
   (aF (wQ (pv 8) (pv 1) (rC (K:=K) rfl) (pv 2) vW fQ)
   (aJ (aY (aO (aA (pv 3) (aA (pv 4) (aA (b0 (bZ (K:=K) rfl) rfl T.b_tuple bW (aA (pv 8) aC)) (aA (pv 6) (aA (pv 7) aC))))))))))),?_⟩
  obtain⟨ma,po,st,rfl,q,hs,hp⟩:=nI hx;refine⟨_,rfl,ma,_,rfl,q,rfl,_,_,rfl,_,_,rfl,_,_,rfl,_,_,rfl,_,_,rfl,rfl,?_⟩;refine⟨_,rfl,po,_,rfl,.inr hp,λ l hl=>?_⟩;have hlt:v.toNat < m.poured.length:=by omega
  have hg:m.poured[v.toNat]? = some (m.poured.getD v.toNat 0):=by rw[abd,aax hlt];rfl
  refine⟨_,rfl,_,rfl,l,_,v,_,rfl,rfl,bV.of aD,v0,by omega,(by rw[aah,hg];rfl),_,rfl,_,_,rfl,rfl,l,_,v,v.toNat,rfl,rfl,aD,mH v0 (by rw[aad];omega),?_⟩;have e2:upd (upd H l (.lst (m.poured.map V.int))) l (.lst ((m.poured.map V.int).set v.toNat (.int (m.poured.getD v.toNat 0+a))))=upd H l (.lst ((m.pour v a).poured.map V.int)):=by
   rw[BY];show _=upd H l (.lst ((m.poured.set v.toNat (m.poured.getD v.toNat 0+a)).map V.int));rw[List.map_set]
  rw[e2];have s1:aG H (upd H l (.lst ((m.pour v a).poured.map V.int))):=aG.new hl;have hl1:upd H l (.lst ((m.pour v a).poured.map V.int)) l=some (.lst ((m.pour v a).poured.map V.int)):=aD;generalize upd H l (.lst ((m.pour v a).poured.map V.int))=H1 at s1 hl1;refine⟨_,rfl,_,rfl,_,rfl,l,_,rfl,.inl ⟨bV.of hl1,λ p hp'=>⟨_,rfl,_,rfl,(show 5<=sizeLine by decide),λ p2 hp2=>?_⟩⟩⟩;have m2:aG H1 (upd H1 p (.tup ((m.pour v a).poured.map V.int))):=aG.new hp';have m3:aG (upd H1 p (.tup ((m.pour v a).poured.map V.int))) (upd (upd H1 p (.tup ((m.pour v a).poured.map V.int))) p2 (.tup [.int m.tick,st,.ref p,.int m.came,.int m.ground])):=aG.new hp2;exact k p2 _ ((s1.trans m2).trans m3) (vJ (m:=m.pour v a) (bH.of aD) (Is.mono m3.ts _ _ (Is.mono m2.ts _ _ (Is.mono s1.ts _ _ hs))) (m3.tup (bH.of aD)))
def oD (K:aaa):Sp:=λ vs H Q _=>∃ (x y:V) (net:Net) (m:Mom) (n:Nat),vs=[x,y,.int (n:Int)]/\Is K H (gZ net) x/\Is K H (jK m) y/\NetOk net/\MomOk net m/\n<=100000/\
 ∀ p p1 p2 tvs H',aG H H'->bH K H' p [p1,.ref p2]->Is K H' (jK (cZ net m n)) p1->bH K H' p2 tvs->IsL K H' ((cM net m n).map fH) tvs->Q (.ref p) H'
theorem jB:FnScope ["net","moment","many","tipped","step","tick","numbers"] ["net","moment","many"] (aR (bO 15)):={}
theorem pJ {f f1:Addr}{fd fd1:FuncData} (F:Fun K "moment_gone" "moment_gone" (bO 15) f fd) (T:Txt mg) (G_moment_behind:Callee P w K mg base "moment_behind" ["net","moment"] 5 (oZ K) f1 fd1) :
  FnOk P w K mg base gQ 6 f fd ["net","moment","many"] (oD K):=by
 refine F.ok jB (λ vs H Q E h=>?_) (λ cdv A outer s H vs Q E hr h=>?_)
 ·obtain⟨x,y,net,m,n,rfl,_⟩:=h;rfl
 ·obtain⟨x,y,net,m,n,rfl,hx,hy,nok,mok,hn,k⟩:=h;have sc:=jB;refine⟨_,(aF (pL 3 sc.nd (b9 aC))
   (aF (dM PassesOwn.never rfl (cH rfl T.b_range (aA (pv 2) aC)) (gL 4 sc.nd) (aF (fB (i:=5) sc.nd rfl (Or.inr rfl) (px K (pv 1) aE))
   (aF (cG (cN G_moment_behind hr (aA (pv 0) (aA (pv 1) aC))) (bC (K:=K) (n:=2) rfl rfl (aH (gL 1 sc.nd) (aH (gL 6 sc.nd) bA))))
   (aJ (cV (eS (K:=K) rfl aas PySem.F.slot_list_extend PySem.F.type_list_extend yG (pv 3) (aA (i6 (λ _ _ h=>h) rfl (LcOk.mk (N':=["number","tick"]) (fr:=[none,some 5]) rfl ⟨rfl,trivial⟩ rfl rfl rfl rfl rfl ⟨⟨_,rfl,rfl,rfl,rfl⟩,trivial⟩) (eX (K:=K) rfl (pv 6)) (λ _ _ _=>(gC 0 ["number","tick"])) (λ _ _ _=>dN) (λ _ _ _=>(aO (aA (pv 1) (aA (pv 0) aC))))) aC)))))))
   (aJ (aY (aO (aA (pv 1) (aA (b0 (bZ (K:=K) rfl) rfl T.b_tuple bW (aA (pv 3) aC)) aC))))))),?_⟩
  refine⟨aar _,λ tl htl=>?_⟩;have s0:aG H (upd H tl (.lst [])):=aG.new htl;have g0:upd H tl (.lst []) tl=some (.lst []):=aD;generalize upd H tl (.lst [])=H0 at s0 g0;dsimp only [fA];refine FN (λ Z H'=>aG H H'/\(∃ tvs,H' tl=some (.lst tvs)/\IsL K H' ((cM net m n).map fH) tvs)/\∃ mi,Is K H' (jK (cZ net m n)) mi/\
   ∃ v4 v5 v6,Z=[some x,some mi,some (.int (n:Int)),some (.ref tl),v4,v5,v6]) (λ D' hD=>?_) ?_
  rotate_left
  ·rintro Z H1 ⟨s1,⟨tvs,ht1,lt1⟩,mi,cm1,v4,v5,v6,rfl⟩;refine⟨_,rfl,_,rfl,tl,_,rfl,.inl ⟨bV.of ht1,λ p2 hp2=>⟨(show 2<=sizeLine by decide),λ p hp=>?_⟩⟩⟩;have m2:aG H1 (upd H1 p2 (.tup tvs)):=aG.new hp2;have m3:aG (upd H1 p2 (.tup tvs)) (upd (upd H1 p2 (.tup tvs)) p (.tup [mi,.ref p2])):=aG.new hp;exact k p mi p2 tvs _ ((s1.trans m2).trans m3) (bH.of aD) (Is.mono (m2.trans m3).ts _ _ cm1) (m3.tup (bH.of aD)) (L2.IsL.mono (m2.trans m3).ts _ _ lt1)
  refine⟨_,rfl,_,rfl,by omega,by omega,?_⟩;refine dW (lo:=0) (n:=n) (λ i Z H'=>aG H H'/\(∃ tvs,H' tl=some (.lst tvs)/\IsL K H' ((cM net m i).map fH) tvs)/\∃ mi,Is K H' (jK (cZ net m i)) mi/\
   ∃ v4 v5 v6,Z=[some x,some mi,some (.int (n:Int)),some (.ref tl),v4,v5,v6]) ?_ ?_ ?_
  ·exact⟨s0,⟨[],g0,.nil⟩,y,Is.mono s0.ts _ _ hy,_,_,_,rfl⟩
  ·rintro i Z H1 hi ⟨s1,⟨tvs,ht1,lt1⟩,mi,cm1,v4,v5,v6,rfl⟩;obtain⟨ma,po,st,rfl,q,hs,hp⟩:=nI cm1;refine⟨_,rfl,.inr (.inl ⟨ma,_,0,_,rfl,rfl,q,rfl,?_⟩)⟩;refine⟨_,rfl,_,rfl,x,.ref ma,net,cZ net m i,rfl,Is.mono s1.ts _ _ hx,cm1,nok,mF mok i,λ p p1 p2 H2 sm2 qp i1 q2=>?_⟩;refine⟨p,_,rfl,qp,rfl,_,_,rfl,_,_,rfl,rfl,?_⟩;have ht2:=sm2 _ _ ht1;have ltk:=uU net (cZ net m i);have hn12:=nok.hi;refine⟨_,rfl,.inl ⟨rfl,_,bV.of ht2⟩,?_⟩;refine⟨_,rfl,p2,rfl,⟨_,q2⟩,jN (K:=K) (a:=p2) (xs:=((cZ net m i).tk net).tip.map λ (k:Nat)=>V.int (k:Int))
    (λ D j rr Z H'=>H2 D=none/\aG H2 H'/\H' D=some (.lst rr)/\IsL K H' (((((cZ net m i).tk net).tip.take j).map λ k=>((cZ net m i).tick,k)).map fH) rr/\∃ u,Z=[u,some (.int (cZ net m i).tick)])
    (λ D j rr Z H' p=>p.2.1.tup q2) (λ D hD=>⟨hD,aG.new hD,aD,.nil,none,rfl⟩) ?_ ?_⟩
   rotate_left
   ·rintro D j x' rr Z H3 hx ⟨hD,sm3,hDl,lr,u,rfl⟩;rw[aah] at hx;obtain⟨kk,hk,rfl⟩:=aba.mp hx;have hjl:=(aag.mp hk).1;have hrl:rr.length<=12:=by rw[lr.length];simp;omega
    refine eV ?_;refine⟨_,rfl,_,rfl,(show 2<=sizeLine by decide),λ e he=>?_⟩;have me:=aG.new (o:=HO.tup [.int (cZ net m i).tick,.int (kk:Int)]) he;have nDe:D≠e:=aN hDl he;have muD:t9 (upd H3 e (.tup [.int (cZ net m i).tick,.int (kk:Int)]) D):=by rw[me _ _ hDl];exact trivial
    refine⟨me _ _ hDl,aW (by omega),hD,(sm3.trans me).put hD,aD,?_,_,rfl⟩;rw[aX hk,aal,aal];exact L2.IsL.snoc (Is.tupOf (ds:=[.int (cZ net m i).tick,.int (kk:Int)]) (dU.ts (K:=K) dU.upd muD _ _ (bH.of aD)) (.cons (Is.i _) (.cons (Is.i _) .nil))) (L2.IsL.mono (me.ts.trans (dU.ts dU.upd muD)) _ _ lr)
   ·rintro D rr Z H3 ⟨hD,sm3,hDl,lr,_⟩;rw[aad,aaq] at lr;have ht3:=sm3 _ _ ht2;have l1:tvs.length<=12 * i:=by rw[lt1.length,aad];exact gG nok i
    have l2:rr.length<=12:=by rw[lr.length];simp;omega
    refine⟨tl,D,_,_,rfl,rfl,ht3,hDl,aca (iF (by omega)),?_⟩;have mu3:t9 (H3 tl):=by rw[ht3];exact trivial
    have ts3:bT K H3 (upd H3 tl (.lst (tvs++rr))):=dU.ts dU.upd mu3;have s13:=sm2.trans sm3;refine⟨(s1.trans s13).put htl,⟨_,aD,?_⟩,p1,Is.mono ts3 _ _ (Is.mono sm3.ts _ _ i1),_,_,_,rfl⟩;show IsL K _ ((cM net m i++fY net (cZ net m i)).map fH) _;rw[aal];exact IsL.app (L2.IsL.mono (s13.ts.trans ts3) _ _ lt1) (L2.IsL.mono ts3 _ _ lr)
  ·exact λ Z H' p=>hD _ _ p
theorem q0 {B:Nat}:∀ (l:List (Int×Nat)) (ts:List (List Int)),(∀ x∈ts,x.length<=B)->∀ x∈l.foldl dY ts,x.length<=B+l.length
 | [],ts,h,x,hx=>by have:=h x hx;simp;omega
 | t::l,ts,h,x,hx=>by
  have h2:∀ y∈dY ts t,y.length<=B+1:=λ y hy=>by
   unfold dY at hy;rcases List.mem_or_eq_of_mem_set hy with hy | rfl
   ·have:=h y hy;omega
   ·rw[aap,abh];have:(ts.getD t.2 []).length<=B:=by
     rw[abd];cases e:ts[t.2]? with
     | none=>simp
     | some z=>exact h z (aao e)
    omega
  have:=q0 (B:=B+1) l (dY ts t) h2 x hx;rw[abf];omega
theorem RunSz.pour {S:RunS}{B:Nat} (h:RunSz S B) (v a:Int):RunSz (S.pour v a) (B+1):=
 ⟨by have:=h.rows;show (S.rows++_).length<=_;rw[aap,abh];omega,by have:=h.pre;show (S.pre++_).length<=_;rw[aap,abh];omega,λ l hl=>by have:=h.tips l hl;omega⟩
theorem RunSz.go {S:RunS}{B:Nat} (h:RunSz S B) (nok:NetOk S.net) (k:Nat):RunSz (S.go k) (B+12 * k+1):=
 ⟨by have:=h.rows;show (S.rows++_).length<=_;rw[aap,abh];omega,by have:=h.pre;show (S.pre++_).length<=_;rw[aap,abh];omega,λ l hl=>by
  have h1:=q0 (B:=B) _ _ h.tips l hl;have h2:=gG (m:=S.cur) nok k;omega⟩
theorem wN (net:Net):RunSz (tM net) 0:=⟨aak _,aak _,λ l hl=>by
 have:=List.eq_of_mem_replicate (show l∈List.replicate net.vs.length [] from hl);subst this;exact aak _⟩
section
variable {r dx R M T:Addr}{H H':Hp}{S:RunS}{fp:List Addr}{np mv:V}{ts:List Addr}{rs ms:List V}
end
end Tw
namespace L2
open PySem PySem.Spec PyProof.Rows TwZ
section
variable {X:Cx}{pins:List (Addr×Obj)}{σ:St}{H H':Hp}{s s':Shared}{E:XK}
end
section
variable {X:Cx}{pins:List (Addr×Obj)}{σ:St}{H:Hp}{s:Shared}{pn:List (Addr×Obj)}{E:Value->Shared->Prop}{ea:Addr}
end
end L2
namespace L2
open PySem PySem.Spec PyProof.Rows TwZ PySem.Builtin PySem.Builtin.ObjectAttr PySem.Builtin.Getset_descriptor
section
variable {prog:Program}{x D:Addr}
end
section
variable {X:Cx}
def vE (K:aaa):R2:=λ x y H Q=>∃ a b xs ys,x=.ref a/\y=.ref b/\bH K H a xs/\bH K H b ys/\xs.length+ys.length<=sizeLine/\∀ p H',aG H H'->bH K H' p (xs++ys)->Q (.ref p) H'
theorem AE:j5 X (binaryOp .Add) (vE X.K):=by
 intro pins s σ H x y v u Q I rx ry h;obtain⟨a,b,xs,ys,rfl,rfl,ha,hb,hz,q⟩:=h
 by_cases hx:xs=[]
 ·subst hx;cases rx;cases ry;obtain⟨its,r1,p1,_⟩:=I.tuple ha;obtain⟨its2,r2,p2,_⟩:=I.tuple hb;cases r1;obtain⟨⟨cls,dd,data,sl⟩,ho,hc,n,hd⟩:=id p1;obtain⟨⟨cls2,dd2,data2,sl2⟩,ho2,hc2,n2,hd2⟩:=id p2;simp only at hc hd hc2 hd2;subst hc hd hc2 hd2;exact concat_meets ⟨_,ho,rfl⟩ ⟨_,ho2,rfl⟩ noFill_tuple_add seq_tuple_add PySem.F.slot_tuple_add PySem.F.entry_tuple_add (PySem.F.args_tuple_add_2 _ _) (tuple_addW0 a b _ its2.toArray n n2 dd dd2 sl sl2 (by simp)) ⟨ho,ho2,⟨.ref b,H,I,rfl,q b H (aG.refl H) hb⟩⟩
 ·refine wW pins s σ H _ _ v u Q I rx ry ⟨a,b,xs,ys,rfl,rfl,ha,hb,hx,hz,λ e=>?_,λ _ p hp=>?_⟩
  ·subst e;exact q a H (aG.refl H) (by rw[acg];exact ha)
  ·exact q p _ (aG.new hp) (bH.of aD)
theorem eJ (hK:X.K=K):j5 X (binaryOp .Add) (vE K):=by subst hK;exact AE
theorem wL (hK:X.K=K):G6 X (GI K):=by subst hK;exact zU
theorem dC (hK:X.K=K):G6 X (mX K):=by subst hK;exact CD
end
end L2
namespace Tw
open PySem L2
theorem wI:∀ (l:List Int) (i:Nat) (a:Int),i < l.length->(l.set i (l.getD i 0+a)).sum=l.sum+a
 | [],i,a,h=>by simp at h
 | x::l,0,a,_=>by simp;omega
 | x::l,i+1,a,h=>by
  have:=wI l i a (by simpa using h);simp only [List.set_cons_succ,List.sum_cons,List.getD_cons_succ];omega
theorem rE {n:Nat}:∀ (ss:List wA) (ds:List Bool) (has:List Int),has.length=n->(∀ s∈ss,0<=s.1/\s.1 < n)->(dZ has ss ds).sum=has.sum+dA ss ds
 | [],ds,has,_,_=>by cases ds <;> simp [dZ,dA]
 | s::ss,[],has,_,_=>by simp [dZ,dA]
 | s::ss,d::ds,has,hl,h=>by
  have h1:=h s abi;show (dZ (kR has s d) ss ds).sum=has.sum+((if d=true then s.2.1 else 0)+dA ss ds);rw[rE (n:=n) ss ds (kR has s d) (by rw[rF];exact hl) λ s hs=>h s (aay _ hs)];unfold kR
  by_cases e:d=true
  ·rw[if_pos e,if_pos e,wI _ _ _ (by omega)];omega
  ·rw[if_neg e,if_neg e];omega
theorem uP:∀ {a b c:List Int}{n:Nat},a.length=n->b.length=n->c.length=n->(gA a b c).sum=a.sum+b.sum+c.sum
 | [],b,c,n,h,h2,h3=>by
  simp at h;subst h;have:=List.eq_nil_of_length_eq_zero h2;have:=List.eq_nil_of_length_eq_zero h3;subst b c;rfl
 | x::a,[],c,n,h1,h2,_=>by simp at h1 h2;omega
 | x::a,y::b,[],n,h1,_,h3=>by simp at h1 h3;omega
 | x::a,y::b,z::c,n,h1,h2,h3=>by
  simp at h1 h2 h3;show x+y+z+(gA a b c).sum=_;rw[uP (n:=n - 1) (by omega) (by omega) (by omega)];simp only [List.sum_cons];omega
theorem D9 {net:Net}{m:Mom} (nok:NetOk net) (mok:MomOk net m):(aP net m.held m.coming m.poured m.doors).sum=m.held.sum+m.coming.sum+m.poured.sum+dA net.sps m.doors:=by
 unfold aP;rw[rE (n:=net.vs.length) _ _ _ (gN mok.st.h mok.st.c mok.pl) nok.sps,uP mok.st.h mok.st.c mok.pl]
section
variable {t sl:Addr}{σ:St}{H0:Hp}
end
section
variable {H:Hp}{r:Addr}{S:RunS}{fp:List Addr}
end
def G5 (K:aaa) (H:Hp) (a:Addr) (xs:List V):Prop:=bH K H a xs\/bV K H a xs
theorem G5.same {H H':Hp}{a:Addr}{xs:List V} (h:G5 K H a xs) (s:aG H H'):G5 K H' a xs:=h.elim (λ h=>.inl (s.tup h)) λ h=>.inr (s.seq h)
theorem D6 {H:Hp}{z:Addr}{xs:List V}{i:Int}{v:V}{Q:VK} (h:G5 K H z xs) (e:BM xs i=some v) (k:Q v H):rY K (.ref z) (.int i) H Q:=h.elim (λ h=>.inr (.inl ⟨z,xs,i,v,rfl,rfl,h,e,k⟩)) λ h=>.inl ⟨z,xs,i,v,rfl,rfl,h,e,k⟩
def jY (K:aaa):Sp:=λ args H Q _=>∃ (x y:V) (z:Addr) (net:Net) (held coming poured:List Int) (doors:List Bool),args=[x,y,.ref z]/\Is K H (gZ net) x/\Is K H (tK held coming doors) y/\G5 K H z (poured.map V.int)/\
 NetOk net/\StOk net held coming doors/\poured.length=net.vs.length/\∀ p H',aG H H'->H p=none->H' p=some (.lst ((aP net held coming poured doors).map V.int))->Q (.ref p) H'
theorem jE:FnScope ["net","state","poured","has","k"] ["net","state","poured"] (aR (bO 35)):={}
theorem pO {f:Addr}{fd:FuncData} (F:Fun K "_law_filled" "_law_filled" (bO 35) f fd) (T:Txt mg):FnOk P w K mg base gQ 1 f fd ["net","state","poured"] (jY K):=by
 refine F.ok jE (λ vs H Q E h=>?_) (λ cdv A outer s H vs Q E hr h=>?_)
 ·obtain⟨x,y,z,net,held,coming,poured,doors,rfl,_⟩:=h;rfl
 ·obtain⟨x,y,z,net,held,coming,poured,doors,rfl,hx,hy,qz,nok,sok,hpl,k⟩:=h;have sc:=jE;refine⟨_,(aF (jZ (i:=3) sc.nd rfl rfl (λ _ _ h=>h) rfl (LcOk.mk (N':=["k","poured","state"]) (fr:=[none,some 2,some 1]) rfl ⟨rfl,rfl,trivial⟩ rfl rfl rfl rfl rfl ⟨⟨_,rfl,rfl,rfl,rfl⟩,⟨_,rfl,rfl,rfl,rfl⟩,trivial⟩) (cH rfl T.b_range (aA (mS K T.b_len (px K (pv 0) aE)) aC)) (λ _ _ _=>(gC 0 ["k","poured","state"])) (λ _ _ _=>dN) (λ _ _ _=>(aK bG (aK bG (px K (px K (pv 2) aE) (pv 0)) (px K (px K (pv 2) aE) (pv 0))) (px K (pv 1) (pv 0)))))
   (aF (dM PassesOwn.never rfl (cH rfl T.b_range (aA (mS K T.b_len (px K (pv 0) aE)) aC)) (gL 4 sc.nd) (aJ (cQ (dF (px K (px K (pv 1) aE) (pv 4))) (aJ (cG (aK bG (px K (pv 3) (px K (px K (px K (pv 0) aE) (pv 4)) aE)) (px K (px K (px K (pv 0) aE) (pv 4)) aE)) (nA (pv 3) (px K (px K (px K (pv 0) aE) (pv 4)) aE) fQ))) bK)))
   (aJ (aY (pv 3))))),?_⟩
  obtain⟨a,b,c,xs,ys,rfl,q,q1,l1,q2,l2⟩:=g6 hx;obtain⟨ay,a1,a2,a3,rfl,qy,p1,p2,p3⟩:=qS hy;have exl:xs.length=net.vs.length:=by rw[l1.length,aad]
  have eyl:ys.length=net.sps.length:=by rw[l2.length,aad]
  have n1:=nok.lo;have n2:=nok.hi;have n3:=nok.sp;have la:=gN sok.h sok.c hpl;refine⟨_,rfl,.inr (.inl ⟨a,_,0,_,rfl,rfl,q,rfl,b,xs,rfl,.inr q1,_,rfl,by omega,by omega,?_⟩)⟩;have hn:((xs.length:Nat):Int).toNat=net.vs.length:=by rw[exl];simp
  rw[hn];refine jO (n:=net.vs.length) (λ D i r Z H'=>H D=none/\aG H H'/\H' D=some (.lst r)/\r=((gA held coming poured).take i).map V.int/\∃ v,Z=[v,some (.ref z),some (.ref ay)])
   (λ D hD=>⟨hD,aG.new hD,aD,by simp,none,rfl⟩) ?_ ?_
  rotate_left
  ·rintro D i r Z H' hi ⟨hD,sm,hDl,rfl,v,rfl⟩;refine eV ?_;have g1:held[i]? = some (held[i]'(by rw[sok.h];exact hi)):=by simp
   have g2:coming[i]? = some (coming[i]'(by rw[sok.c];exact hi)):=by simp
   have g3:poured[i]? = some (poured[i]'(by rw[hpl];exact hi)):=by simp
   have g4:=qA g1 g2 g3;have m1:∀ {l:List Int}{u:Int},l[i]? = some u->(l.map V.int)[i]? = some (.int u):=λ e=>by rw[aah,e];rfl
   refine⟨_,rfl,.inr (.inl ⟨ay,_,0,_,rfl,rfl,sm.tup qy,rfl,_,rfl,.inr (.inl ⟨a1,_,(i:Int),_,rfl,rfl,sm.tup p1,cE (m1 g1),?_⟩)⟩)⟩;refine⟨_,rfl,.inr (.inl ⟨ay,_,1,_,rfl,rfl,sm.tup qy,rfl,_,rfl,.inr (.inl ⟨a2,_,(i:Int),_,rfl,rfl,sm.tup p2,cE (m1 g2),?_⟩)⟩)⟩;refine⟨_,_,rfl,rfl,_,rfl,_,rfl,D6 (qz.same sm) (cE (m1 g3)) ⟨_,_,rfl,rfl,hDl,aW (by simp;omega),hD,sm.put hD,aD,?_,_,rfl⟩⟩;rw[aX g4,aal];rfl
  rintro D r Z H1 ⟨hD,sm,hDl,rfl,_⟩;rw[<- la,aaq] at hDl;refine⟨_,rfl,.inr (.inl ⟨a,_,1,_,rfl,rfl,sm.tup q,rfl,c,ys,rfl,.inr (sm.tup q2),_,rfl,by omega,by omega,?_⟩)⟩;have hm:((ys.length:Nat):Int).toNat=net.sps.length:=by rw[eyl];simp
  rw[hm];refine dW (lo:=0) (n:=net.sps.length) (λ i Z H'=>aG H H'/\H' D=some (.lst ((dZ (gA held coming poured) (net.sps.take i) (doors.take i)).map V.int))/\
   ∃ v4,Z=[some (.ref a),some (.ref ay),some (.ref z),some (.ref D),v4]) ⟨sm,by cases net.sps <;> exact hDl,none,rfl⟩ ?_ ?_
  ·rintro i Z H2 hi ⟨sm2,h2,v4,rfl⟩;rw[Int.zero_add];have hsi:net.sps[i]? = some net.sps[i]:=by simp [hi]
   have hdi:doors[i]? = some (doors[i]'(by rw[sok.d];exact hi)):=by simp
   obtain⟨xv,hxv,ixv⟩:=l2.get (i:=i) (d:=EE net.sps[i]) (by rw[aah,hsi];rfl);obtain⟨sp,hsi',sa,rfl,qs⟩:=oV l2 hxv;rw[hsi] at hsi';cases hsi';have snoc:=lH net.sps doors i (gA held coming poured) _ _ hsi hdi;have hs:=nok.sps net.sps[i] (abx hi);have hdm:(doors.map V.bl)[i]? = some (.bl (doors[i]'(by rw[sok.d];exact hi))):=by rw[aah,hdi];rfl
   refine⟨_,rfl,.inr (.inl ⟨ay,_,2,_,rfl,rfl,sm2.tup qy,rfl,_,rfl,.inr (.inl ⟨a3,_,(i:Int),_,rfl,rfl,sm2.tup p3,cE hdm,_,rfl,?_⟩)⟩)⟩;cases hdr:(doors[i]'(by rw[sok.d];exact hi)) with
   | false=>
    rw[hdr] at snoc;refine cT ?_;exact⟨sm2,by rw[snoc];exact h2,_,rfl⟩
   | true=>
    rw[hdr] at snoc;refine cR ?_;have hlen:(dZ (gA held coming poured) (net.sps.take i) (doors.take i)).length=net.vs.length:=by rw[gD,la]
    have hlt:net.sps[i].1.toNat < (dZ (gA held coming poured) (net.sps.take i) (doors.take i)).length:=by rw[hlen];omega
    have hg:((dZ (gA held coming poured) (net.sps.take i) (doors.take i)).map V.int)[net.sps[i].1.toNat]? = some (.int ((dZ (gA held coming poured) (net.sps.take i) (doors.take i)).getD net.sps[i].1.toNat 0)):=by
     rw[aah,abd];simp [hlt]
    refine⟨_,rfl,_,rfl,.inr (.inl ⟨a,_,1,_,rfl,rfl,sm2.tup q,rfl,_,rfl,.inr (.inl ⟨c,ys,(i:Int),_,rfl,rfl,sm2.tup q2,cE hxv,.inr (.inl ⟨sa,_,0,_,rfl,rfl,sm2.tup qs,rfl,.inl ⟨D,_,_,_,rfl,rfl,bV.of h2,gY hs.1 hg,?_⟩⟩)⟩)⟩)⟩;refine⟨_,rfl,.inr (.inl ⟨a,_,1,_,rfl,rfl,sm2.tup q,rfl,_,rfl,.inr (.inl ⟨c,ys,(i:Int),_,rfl,rfl,sm2.tup q2,cE hxv,.inr (.inl ⟨sa,_,1,_,rfl,rfl,sm2.tup qs,rfl,_,_,rfl,rfl,?_⟩)⟩)⟩)⟩;refine⟨_,rfl,_,rfl,.inr (.inl ⟨a,_,1,_,rfl,rfl,sm2.tup q,rfl,_,rfl,.inr (.inl ⟨c,ys,(i:Int),_,rfl,rfl,sm2.tup q2,cE hxv,.inr (.inl ⟨sa,_,0,_,rfl,rfl,sm2.tup qs,rfl,D,_,_,net.sps[i].1.toNat,rfl,rfl,h2,mH hs.1 (by rw[aad,hlen];omega),?_⟩)⟩)⟩)⟩;refine⟨sm2.put hD,?_,_,rfl⟩;rw[aD,snoc,kR,if_pos rfl,List.map_set]
  ·rintro Z H2 ⟨sm2,h2,v4,rfl⟩;rw[<- sok.d,aaq,sok.d,aaq] at h2;exact⟨_,rfl,k D H2 sm2 hD h2⟩
end Tw
namespace L2
open PySem PySem.Spec PyProof.Rows
theorem BK:∀ (names:List (Str×NameKind)) (h:Heap) (acc:List (Str×Addr)) (x:Str) (c:Addr),(cellsFrom h.objs.size names acc).lookup x=some c->
  (h.objs.size<=c/\(x,NameKind.cell)∈names/\(pushCells h names).IsCell c none)\/acc.lookup x=some c
 | [],h,acc,x,c,e=>.inr e
 | (name,kind)::r,h,acc,x,c,e=>by
  unfold cellsFrom at e;unfold pushCells;cases hk:kind == NameKind.cell with
  | true=>
   rw[hk,if_pos rfl] at e;rw[if_pos rfl];have hk':kind=.cell:=by simpa using hk
   have ih:=BK r (h.push { cls:=.type "cell",data:=.cell none }) ((name,h.objs.size)::acc) x c (by rw[abm];exact e);rw[abm] at ih;rcases ih with ⟨a,b,d⟩ | ih
   ·exact .inl ⟨Nat.le_of_succ_le a,aay _ b,d⟩
   ·cases hx:x == name with
    | true=>
     simp only [List.lookup_cons,hx] at ih;cases ih;have e':x=name:=by simpa using hx
     subst e' hk';exact .inl ⟨aak _,abi,_,pushCells_keeps _ _ _ _ (aai _ rfl),rfl⟩
    | false=>
     simp only [List.lookup_cons,hx] at ih;exact .inr ih
  | false=>
   rw[hk,if_neg aaj] at e;rw[if_neg aaj];rcases BK r h acc x c e with ⟨a,b,d⟩ | ih
   ·exact .inl ⟨a,aay _ b,d⟩
   ·exact .inr ih
theorem sU:∀ (names:List (Str×NameKind)) (n m:Nat) (acc:List (Str×Addr)) (x:Str),m<=n->((x,NameKind.cell)∈names\/∃ c,m<=c/\acc.lookup x=some c)->∃ c,m<=c/\(cellsFrom n names acc).lookup x=some c
 | [],n,m,acc,x,_,h=>by
  rcases h with h | h
  ·simp at h
  ·exact h
 | (name,kind)::r,n,m,acc,x,hm,h=>by
  unfold cellsFrom;cases hk:kind == NameKind.cell with
  | true=>
   rw[if_pos rfl];have hk':kind=.cell:=by simpa using hk
   refine sU r (n+1) m _ x (by omega) ?_;cases hx:x == name with
   | true=>exact .inr ⟨n,hm,by simp only [List.lookup_cons,hx]⟩
   | false=>
    have ne:x≠name:=λ z=>by rw[z] at hx;simp at hx
    rcases h with h | ⟨c,h1,h2⟩
    ·rcases abl.mp h with h | h
     ·exact absurd (by injection h) ne
     ·exact .inl h
    ·exact .inr ⟨c,h1,by simp only [List.lookup_cons,hx];exact h2⟩
  | false=>
   rw[if_neg aaj];refine sU r n m _ x hm ?_;rcases h with h | h
   ·rcases abl.mp h with h | h
    ·injection h with h1 h2;rw[<- h2] at hk;simp at hk
    ·exact .inl h
   ·exact .inr h
theorem sV:∀ (names:List (Str×NameKind)) (n:Nat) (acc:List (Str×Addr)) (x:Str),(x,NameKind.cell)∉names->(cellsFrom n names acc).lookup x=acc.lookup x
 | [],_,_,_,_=>rfl
 | (name,kind)::r,n,acc,x,h=>by
  unfold cellsFrom;have hr:(x,NameKind.cell)∉r:=λ z=>h (aay _ z);cases hk:kind == NameKind.cell with
  | true=>
   rw[if_pos rfl,sV r (n+1) _ x hr];have hk':kind=.cell:=by simpa using hk
   have hx:(x == name)=false:=by
    cases hx:x == name with
    | false=>rfl
    | true=>
     have e':x=name:=by simpa using hx
     subst e' hk';exact absurd abi h
   simp only [List.lookup_cons,hx]
  | false=>rw[if_neg aaj,sV r n _ x hr]
theorem w4:∀ (names:List (Str×NameKind)) (n:Nat) (acc:List (Str×Addr)),(∀ x y c,acc.lookup x=some c->acc.lookup y=some c->x=y)->(∀ x c,acc.lookup x=some c->c < n)->
  ∀ x y c,(cellsFrom n names acc).lookup x=some c->(cellsFrom n names acc).lookup y=some c->x=y
 | [],_,_,h,_=>h
 | (name,kind)::r,n,acc,h,hb=>by
  unfold cellsFrom
  split
  ·refine w4 r (n+1) _ (λ x y c e1 e2=>?_) λ x c e=>?_
   ·cases hx:x == name <;> cases hy:y == name <;> simp only [List.lookup_cons,hx,hy] at e1 e2
    ·exact h x y c e1 e2
    ·cases e2;exact absurd (hb x _ e1) (aby _)
    ·cases e1;exact absurd (hb y _ e2) (aby _)
    ·have a:x=name:=by simpa using hx
     have b:y=name:=by simpa using hy
     rw[a,b]
   ·cases hx:x == name <;> simp only [List.lookup_cons,hx] at e
    ·exact Nat.lt_succ_of_lt (hb x c e)
    ·cases e;exact Nat.lt_succ_self _
  ·exact w4 r n acc h hb
section
variable {M:Model}{A:Around}{E:Value->Shared->Prop}{s:Shared}
theorem qC {scope:Scope}{globals:Addr}{cl:List (Str×Addr)}{qual:Str}{func:Option Addr}{code:Value}{env:Env}{builtins:Addr}{Q:Env->Shared->Prop}
  (h:Q { scope,locals:=s.heap.objs.size,globals,cells:=cellsFrom (s.heap.objs.size+1) scope.names cl,qual,func,code:=env.code,frame:=env.frame,builtins:=env.builtins }
   { s with heap:=pushCells (s.heap.push { cls:=.type "dict",data:=.dict #[] }) scope.names }):wpAny M A (newFunctionEnv scope globals cl [] qual func code (some env) builtins) Q E s:=by
 simp only [newFunctionEnv,Option.isSome_some,if_true];refine aab (wpAny_alloc ?_);refine aab (wpAny_layCells _ (λ name kind cells=>by cases hkc:kind == NameKind.cell <;> simp [hkc]) _ _ _ _ ?_);rw[show ({ s with heap:=s.heap.push { cls:=.type "dict",data:=.dict #[] } }:Shared).heap.objs.size=s.heap.objs.size+1 from abm ..];rw[List.forIn_nil];exact aab (aae (aae h))
end
structure LcOk2 (X:Cx) (scope:Scope) (cl:List (Str×Addr)) (N':List Str) (fr:List (Option Nat)):Prop where
 clos:closureFor scope X.env=pure cl
 cls:zD X.env cl
 kind:scope.kind=.function
 owns:(scope.names.all λ p=>p.2 != NameKind.cell || scope.names.lookup p.1 == some NameKind.cell)=true
 locs:(scope.names.all λ p=>p.2 != NameKind.local || scope.names.lookup p.1 == some NameKind.local)=true
 frees:(scope.names.all λ p=>p.2 != NameKind.free || (cl.lookup p.1).isSome)=true
 len:fr.length=N'.length
 fr:tD X scope N' fr 0
def tE (X:Cx) (N':List Str) (scope:Scope) (cl:List (Str×Addr)) (fp:List Addr) (s:Shared) (H:Hp):Cx:=
 { X with N:=N',s₀:=s,H₀:=H,env:=compEnvC scope (cellsFrom (s.heap.objs.size+1) scope.names cl) s.heap.objs.size X.env,outer:=X.stack,ex:=fp,fn:=λ x=>scope.names.lookup x == some .cell,pn:=[] }
section
variable {X:Cx}
theorem LcOk2.cells {scope:Scope}{cl:List (Str×Addr)}{N':List Str}{fr:List (Option Nat)} (S:LcOk2 X scope cl N' fr) {s:Shared}{o:Obj}{x:Str}{c:Addr} (e:(cellsFrom (s.heap.objs.size+1) scope.names cl).lookup x=some c) :
  (s.heap.objs.size < c/\(x,NameKind.cell)∈scope.names/\(pushCells (s.heap.push o) scope.names).IsCell c none)\/X.env.cells.lookup x=some c:=by
 have:=BK scope.names (s.heap.push o) cl x c (by rw[abm];exact e);rw[abm] at this;rcases this with ⟨a,b,d⟩ | h
 ·exact .inl ⟨a,b,d⟩
 ·exact .inr (S.cls.get x c h)
theorem LcOk2.invC {scope:Scope}{cl:List (Str×Addr)}{N':List Str}{fr:List (Option Nat)}{pins:List (Addr×Obj)}{σ:St}{H:Hp}{s:Shared}{o:Obj}{fp:List Addr}{m1:Str->Option Value}{tk:Nat}
  (S:LcOk2 X scope cl N' fr) (I:Inv X pins σ H s) (hf:∀ b∈fp,hJ X pins H b) (hfo:∀ b∈fp,b < s.heap.objs.size)
  (hn:(pushCells (s.heap.push o) scope.names).Ns s.heap.objs.size m1):Inv (tE X N' scope cl fp s H) [] (uE fr σ) H { s with heap:=pushCells (s.heap.push o) scope.names,toks:=tk }:=by
 have hfree:=S.frees;have hown:=S.owns;rw[abu] at hfree hown;have k:∀ b o',s.heap.get? b=some o'->(pushCells (s.heap.push o) scope.names).get? b=some o':=λ b o' e=>pushCells_keeps _ _ b o' (aac _ e);have fresh:H s.heap.objs.size=none:=I.hok.fresh (aak _);have clg:=S.cls.get;have cg:=λ x c e=>S.cells (s:=s) (o:=o) (x:=x) (c:=c) e;have clt:∀ x c,cl.lookup x=some c->c < s.heap.objs.size:=λ x c e=>by
  obtain⟨v,oc,hoc,hd⟩:=I.cell x c (clg x c e);exact aam hoc
 have notown:∀ x,scope.names.lookup x=some .free->(x,NameKind.cell)∉scope.names:=λ x e hm=>by
  have:=hown _ hm;simp only [bne_self_eq_false,Bool.false_or,beq_iff_eq] at this;rw[e] at this;cases this
 refine⟨⟨I.ok.mod,S.kind,I.ok.glob,I.ok.blt,aak _,w4 scope.names _ cl (λ x y c e1 e2=>I.ok.inj x y c (clg x c e1) (clg y c e2)) (λ x c e=>Nat.lt_succ_of_lt (clt x c e)),λ x hx=>?_,λ x c e1 e2=>?_,I.ok.hd,I.ok.frames,.inl rfl,λ b hb=>⟨abc (hfo b hb),λ x c e=>?_⟩,
  I.bs,abo I.ok.bsz I.sz,λ b o e hb=>?_,λ b hb hz=>?_,I.stack,I.stkFree⟩,rfl,I.bare,Un.kept k,⟨m1,hn,λ i x v e1 e2 e3=>?_⟩,λ x c e=>?_,fresh,λ x c e=>?_,λ p hp=>absurd (show p∈([]:List (Addr×Obj)) from hp) (by simp),I.hok.kept k,?_⟩
 ·
  have hm:∃ k',(x,k')∈scope.names/\(k'=NameKind.free\/k'=NameKind.cell):=by
   have hx':(relabel scope X.env).names.lookup x=some .cell\/(relabel scope X.env).names.lookup x=some .free:=hx;obtain⟨k',e,hk'⟩:∃ k',(relabel scope X.env).names.lookup x=some k'/\(k'=.cell\/k'=.free):=by
    rcases hx' with e | e
    ·exact⟨_,e,.inl rfl⟩
    ·exact⟨_,e,.inr rfl⟩
   have hmem:=abt e;obtain⟨⟨n,kn⟩,hp,he⟩:=acm.mp hmem;dsimp only at he
   split at he
   ·rename_i hc
    cases he;have:kn=.free:=by
     simp only [Bool.and_eq_true,beq_iff_eq] at hc;exact hc.1.1
    exact⟨kn,hp,.inl this⟩
   ·cases he;rcases hk' with e' | e'
    ·exact⟨_,hp,.inr e'⟩
    ·exact⟨_,hp,.inl e'⟩
  obtain⟨k',hp,hk'⟩:=hm
  by_cases hc:(x,NameKind.cell)∈scope.names
  ·obtain⟨c,_,e⟩:=sU scope.names (s.heap.objs.size+1) 0 cl x (aar _) (.inl hc);exact⟨c,e⟩
  ·rcases hk' with rfl | rfl
   ·have:=hfree _ hp;simp only [bne_self_eq_false,Bool.false_or] at this;obtain⟨c,e⟩:=Option.isSome_iff_exists.mp this;exact⟨c,by show (cellsFrom _ _ _).lookup x=_;rw[sV _ _ _ _ hc];exact e⟩
   ·exact absurd hp hc
 ·have e1':scope.names.lookup x=some .cell:=by simpa using (show (scope.names.lookup x == some NameKind.cell)=true from e1)
  obtain⟨c',hc',e'⟩:=sU scope.names (s.heap.objs.size+1) (s.heap.objs.size+1) cl x (aak _) (.inl (abt e1'));have e2':(cellsFrom (s.heap.objs.size+1) scope.names cl).lookup x=some c:=e2;rw[e'] at e2';cases e2';exact Nat.le_of_succ_le hc'
 ·rcases cg x c e with ⟨a,_⟩ | e'
  ·exact Ne.symm (abc (Nat.lt_trans (hfo b hb) a))
  ·exact (hf b hb).2.2.2.2.1 x c e'
 ·rcases (hf b hb).2.2.2.1 with z | z
  ·exact I.ok.noex b o e z
  ·have:=aam e;exact absurd (aat this (abo I.ok.bsz z)) (aby _)
 ·obtain⟨_,f1,f2,_⟩:=hf b hb;rcases abl.mp (I.stkSub b hz) with e | e
  ·exact f1 e
  ·exact f2 e
 ·
  unfold uE at e2;rw[aah] at e2;cases ef:fr[i]? with
  | none=>rw[ef] at e2;cases e2
  | some o=>
   rw[ef] at e2;cases o with
   | none=>simp at e2
   | some j=>
    have e2':(σ[j]?).join=some v:=by simpa using e2
    obtain⟨x',h1',h2',h3',h4'⟩:=S.fr.get i j ef;rw[Nat.zero_add] at h1';have ex:x'=x:=by
     have:N'[i]? = some x:=e1;rw[h1'] at this;exact abn this
    subst ex;have e2'':σ[j]? = some (some v):=by
     cases q:σ[j]? with
     | none=>rw[q] at e2';cases e2'
     | some z=>rw[q] at e2';simp at e2';rw[e2']
    obtain⟨m,hm,hl⟩:=I.loc;obtain⟨u,r,lk⟩:=hl j x' v h2' e2'' (.inr (.inl h4'));refine⟨u,r,?_⟩;rcases lk with ⟨q,_⟩ | ⟨_,c,hc,z⟩
    ·rw[h4'] at q;cases q
    ·have hcl:∃ c',cl.lookup x'=some c':=by
      have:=hfree _ (abt h3');simp only [bne_self_eq_false,Bool.false_or] at this;exact Option.isSome_iff_exists.mp this
     obtain⟨c',hc'⟩:=hcl;have e':=clg x' c' hc';rw[hc] at e';cases e';obtain⟨oc,hoc,hd⟩:=z;refine .inr ⟨.inl ?_,c,?_,oc,k c oc hoc,hd⟩
     ·exact eT I.ok.kind h3' h4'
     ·show (cellsFrom _ _ _).lookup x'=_;rw[sV _ _ _ _ (notown x' h3')];exact hc'
 ·rcases cg x c e with ⟨_,_,z⟩ | e'
  ·exact⟨_,z⟩
  ·obtain⟨v,oc,hoc,hd⟩:=I.cell x c e';exact⟨v,oc,k c oc hoc,hd⟩
 ·rcases cg x c e with ⟨a,_⟩ | e'
  ·exact I.hok.fresh (aca a)
  ·exact I.freeC x c e'
 ·show (uE fr σ).length=N'.length;unfold uE;rw[aad,S.len]
theorem Inv.outD {scope:Scope}{cl:List (Str×Addr)}{N':List Str}{pins pins':List (Addr×Obj)}{σ Z:St}{H H':Hp}{s s':Shared}{fp:List Addr} (I:Inv X pins σ H s) (J:Inv (tE X N' scope cl fp s H) pins' Z H' s')
  (hf:∀ b∈fp,hJ X pins H b):Inv X pins σ H' s':=
 I.call' (ch:=fp) J.os J.base J.hok J.bare λ b hb=>by
  obtain⟨_,f1,_,f3,f4,f5⟩:=hf b hb;exact⟨f3,f1,f4,f5⟩
theorem qZ {elt tg iter:Expr}{ifs:List Expr}{scope:Scope}{pos:Pos}{N':List Str}{fr:List (Option Nat)}{cl:List (Str×Addr)}{g:TG}{tc:TT}{te:TE}
  {pins:List (Addr×Obj)}{σ:St}{H:Hp}{s:Shared}{J:It}{fp:List Addr}{it:Addr}{tn:Nat->Heap->Prop}{Q:Addr->Hp->Prop}{RR:Value->Addr->Result->Shared->Prop}{E:Value->Shared->Prop}
  (hx:∀ e s,¬ X.xe e s) (hc:X.calm=true) (S:LcOk2 X scope cl N' fr)
  (hg:∀ fp s H,PG (tE X N' scope cl fp s H) tg g) (ht:∀ fp s H,E4 (tE X N' scope cl fp s H) ifs tc) (he:∀ fp s H,PE (tE X N' scope cl fp s H) elt te)
  (I:Inv X pins σ H s) (T:Turn X.prog X.w X.K tg J fp it tn) (st:tn 0 s.heap) (hf:∀ b∈fp,hJ X pins H b) (h:iM J g tc te fr σ H Q)
  (hRR:∀ D C H' s' m',Inv X pins σ H' s'->Q D H'->s'.heap.Ns C m'->hJ X pins H' C->RR (.ref D) C (.ok .next) s') :
  wpAny (model X.prog X.w) X.A (newList []) (λ acc bq=>wpAny (model X.prog X.w) X.A (newFunctionEnv scope X.env.globals cl [] X.env.qual none .none (some X.env)) (λ cenv ck=>
   codeAny (model X.prog X.w) X.A (.compStart (.ListComp elt [⟨tg,iter,ifs,0⟩] scope pos) 0 (.ref it) acc { cenv with scope:=relabel scope X.env }) (RR acc cenv.locals) ck) E bq) E s:=by
 refine wpAny_newObj_type (qC ?_);dsimp only;have fresh:H s.heap.objs.size=none:=I.hok.fresh (aak _);have I3:Inv X pins σ (upd H s.heap.objs.size (.lst [])) { s with heap:=s.heap.push { cls:=.type "list",data:=.seq ([]:List Value).toArray },toks:=s.toks }:=I.lnew (ys:=[]) (its:=[]) .nil (aar _);have hf3:∀ b∈fp,hJ X pins (upd H s.heap.objs.size (.lst [])) b:=λ b hb=>by
  obtain⟨o,ho,_⟩:=T.obj _ _ st b hb;exact⟨by rw[aM (abc (aam ho))];exact (hf b hb).1,(hf b hb).2⟩
 generalize hs3:({ s with heap:=s.heap.push { cls:=.type "list",data:=.seq ([]:List Value).toArray },toks:=s.toks }:Shared)=s3 at I3;have e3:s3.heap=s.heap.push { cls:=.type "list",dict:=none,data:=.seq ([]:List Value).toArray }:=by rw[<- hs3]
 have e3s:({ s with heap:=s.heap.push { cls:=.type "list",dict:=none,data:=.seq ([]:List Value).toArray } }:Shared)=s3:=hs3;have hsz3:s3.heap.objs.size=s.heap.objs.size+1:=by rw[e3,abm]
 have hfo:∀ b∈fp,b < s3.heap.objs.size:=λ b hb=>by
  obtain⟨o,ho,_⟩:=T.obj _ _ st b hb;rw[hsz3];exact Nat.lt_succ_of_lt (aam ho)
 rw[<- e3];generalize hh1:pushCells (s3.heap.push { cls:=.type "dict",data:=.dict #[] }) scope.names=aj;have bx:(pushCells (s3.heap.push { cls:=.type "dict",data:=.dict #[] }) scope.names).Ns s3.heap.objs.size (λ _=>none):=(Heap.Ns.new s3.heap (.type "dict")).keeps (pushCells_keeps _ _);have old3:∀ b o,s3.heap.get? b=some o->aj.get? b=some o:=λ b o e=>by rw[<- hh1];exact pushCells_keeps _ _ b o (aac _ e)
 have old:∀ b o,s.heap.get? b=some o->s3.heap.get? b=some o:=λ b o e=>by rw[e3];exact aac _ e
 have I4:=S.invC (tk:=s3.toks) I3 hf3 hfo bx;rw[hh1] at I4;obtain⟨W,⟨m0,w0⟩,turn⟩:=h s.heap.objs.size fresh;have stat:∀ {H':Hp},(∀ b∈fp,H' b=none)->∀ b∈fp,hJ (tE X N' scope cl fp s3 (upd H s.heap.objs.size (.lst []))) [] H' b:=λ hn b hb=>by
  refine⟨hn b hb,abc (hfo b hb),?_,.inl hb,λ x c e=>?_,λ p hp=>absurd (show p∈([]:List (Addr×Obj)) from hp) (by simp)⟩
  ·intro hz;obtain⟨_,f1,f2,_⟩:=hf b hb;rcases abl.mp (I.stkSub b hz) with e | e
   ·exact f1 e
   ·exact f2 e
  ·rcases S.cells (s:=s3) (o:={ cls:=.type "dict",data:=.dict #[] }) e with ⟨a,_⟩ | e'
   ·exact Ne.symm (abc (Nat.lt_trans (hfo b hb) a))
   ·exact (hf b hb).2.2.2.2.1 x c e'
 have loop:∀ s4:Shared,s4={ s3 with heap:=aj,toks:=s3.toks }->
   codeAny (model X.prog X.w) X.A (.compLoop (.ListComp elt [⟨tg,iter,ifs,0⟩] scope pos) 0 (.ref it) (.ref s.heap.objs.size) (compEnvC scope (cellsFrom (s3.heap.objs.size+1) scope.names cl) s3.heap.objs.size X.env)) (RR (.ref s.heap.objs.size) s3.heap.objs.size) s4:=by
  intro s4 hs4;refine mQ (λ n s'=>∃ i ys Z H',Inv (tE X N' scope cl fp s3 (upd H s.heap.objs.size (.lst []))) [] Z H' s'/\tn i s'.heap/\(∀ b∈fp,H' b=none)/\W i n ys Z H') ?_ m0
   ⟨0,[],uE fr σ,_,by rw[hs4];exact I4,by rw[hs4];exact T.keep _ _ _ st λ b _ o e=>old3 b o (old b o e),λ b hb=>(hf3 b hb).1,w0⟩
  rintro n s5 ⟨i,ys,cb,H5,I5,st5,fr5,w5⟩;rcases turn i n ys cb H5 w5 with ⟨stop,qn⟩ | ⟨go,N,hN,step⟩
  ·refine d5 (T.done (tE X N' scope cl fp s3 (upd H s.heap.objs.size (.lst []))) rfl rfl rfl hc i [] s5 cb H5 _ I5 (stat fr5) st5 stop) λ r s6 ⟨hr,I6⟩=>?_;subst hr;obtain⟨m',hm',_⟩:=I6.loc;exact hRR _ _ H5 s6 m' (I3.outD I6 hf3) qn hm' (I3.fpOk (aak _) I6.free)
  ·refine d5 (T.item (tE X N' scope cl fp s3 (upd H s.heap.objs.size (.lst []))) rfl rfl rfl hc i [] s5 cb H5 _ I5 (stat fr5) st5 go) λ r s6 ⟨u,hr,h6⟩=>?_;subst hr;refine d5 h6 λ _ s7 ⟨x,H7,I7,r7,y7,st7,fr7⟩=>?_;have I7':=I7.pinned (stat fr7) (T.obj _ _ st7);refine abv (hg fp s3 _ _ s7 cb H7 x u _ I7' r7 (step x H7 y7)) (λ _ s8 ⟨bp,H8,I8,q8⟩=>?_) λ e s' z=>(hx e s' z).elim;refine abv (ht fp s3 _ _ s8 bp H8 _ I8 q8) (λ ok s9 ⟨H9,I9,q9⟩=>?_) λ e s' z=>(hx e s' z).elim;have again:∀ {s10:Shared}{H10:Hp}{ys':List V},Inv (tE X N' scope cl fp s3 (upd H s.heap.objs.size (.lst []))) ([]++n6 fp s7.heap) bp H10 s10->N ys' bp H10->
     ∃ m,m < n/\∃ i ys Z H',Inv (tE X N' scope cl fp s3 (upd H s.heap.objs.size (.lst []))) [] Z H' s10/\tn i s10.heap/\(∀ b∈fp,H' b=none)/\W i m ys Z H':=λ {s10 H10 ys'} I10 n10=>by
    obtain⟨m',hm,w10⟩:=hN ys' bp H10 n10;refine⟨m',hm,i+1,ys',bp,H10,I10.unpinned,T.keep _ _ _ st7 λ b hb o e=>(I10.pin (b,o) (aaz _ (aaz _ (fK hb e)))).1,λ b hb=>?_,w10⟩;obtain⟨o,e,d⟩:=T.obj _ _ st7 b hb;exact (I10.pin (b,o) (aaz _ (aaz _ (fK hb e)))).2.1
   cases ok with
   | false=>
    rw[if_neg aaj] at q9 ⊢;exact again I9 q9
   | true=>
    rw[if_pos rfl] at q9 ⊢;refine abv (he fp s3 _ _ s9 bp H9 _ I9 q9) (λ y s10 ⟨yv,H10,I10,r10,hD,hlen,q10⟩=>?_) λ e s' z=>(hx e s' z).elim;refine abv (cD (X:=tE X N' scope cl fp s3 (upd H s.heap.objs.size (.lst []))) _ s10 bp H10 (.ref s.heap.objs.size) [yv] (.ref s.heap.objs.size) [y] (λ _ H11=>H11=upd H10 s.heap.objs.size (.lst (ys++[yv]))) I10 rfl (.cons r10 .nil)
     ⟨_,ys,yv,rfl,rfl,hD,hlen,rfl⟩) (λ _ s11 ⟨_,H11,I11,_,e11⟩=>?_) λ e s' z=>(hx e s' z).elim
    subst e11;exact again I11 q10
 exact codeAny_compStart_list (loop _ (by rw[<- e3s])) (T.self X.A 0 _ _ _ (T.keep _ _ _ st λ b _ o e=>old3 b o (old b o e)) (loop _ (by rw[<- e3s])))
theorem ES {elt tg iter:Expr}{ifs:List Expr}{scope:Scope}{pos:Pos}{N':List Str}{fr:List (Option Nat)}{cl:List (Str×Addr)}{wi:TI}{g:TG}{tc:TT}{te:TE}
  (hx:∀ e s,¬ X.xe e s) (hc:X.calm=true) (S:LcOk2 X scope cl N' fr) (hi:PI X tg iter wi)
  (hg:∀ fp s H,PG (tE X N' scope cl fp s H) tg g) (ht:∀ fp s H,E4 (tE X N' scope cl fp s H) ifs tc) (he:∀ fp s H,PE (tE X N' scope cl fp s H) elt te)
  (hs:∀ x,foldedSetIterable iter X.env x=pure x:=by intro _;rfl):PE X (.ListComp elt [⟨tg,iter,ifs,0⟩] scope pos) (tLC wi fr g tc te):=by
 intro pins s σ H Q I h;have hloc:=S.locs;rw[abu] at hloc;rw[eval_ListComp];refine wpAny_comprehension_free (use:=none) rfl hs S.clos S.kind (λ x hx' hl=>by have:=hloc x hx';rw[hl] at this;simpa using this) (d5 (hi pins s σ H _ I h) λ v s1 h1=>d5 h1 λ itv s2 h2=>?_);obtain⟨it,fp,tn,J,H2,e,I2,T,st2,f2,rest⟩:=h2;subst e;refine qZ (RR:=λ acc C=>compPost (model X.prog X.w) X.A X.xe none (EP X pins σ Q) acc C) hx hc S hg ht he I2 T st2 f2 rest ?_;intro D C H' s' m' I' q hn f;exact⟨m',hn,λ h' hsb=>⟨.ref D,H',I'.letgo f hsb,rfl,q⟩⟩
theorem vF {i:Nat}{y:Str}{py:Pos}{spos:Pos}{elt tg iter:Expr}{ifs:List Expr}{scope:Scope}{pos:Pos}{N':List Str}{fr:List (Option Nat)}{cl:List (Str×Addr)}{wi:TI}{g:TG}{tc:TT}{te:TE}
  (hN:X.N.Nodup) (hy:X.N[i]? = some y) (hk:X.env.scope.names.lookup y=some .local)
  (hx:∀ e s,¬ X.xe e s) (hc:X.calm=true) (S:LcOk2 X scope cl N' fr) (hi:PI X tg iter wi)
  (hg:∀ fp s H,PG (tE X N' scope cl fp s H) tg g) (ht:∀ fp s H,E4 (tE X N' scope cl fp s H) ifs tc) (he:∀ fp s H,PE (tE X N' scope cl fp s H) elt te)
  (hsw:swapsWith (.ListComp elt [⟨tg,iter,ifs,0⟩] scope pos) (some (.Name y py)) spos.line X.env=pure true:=by rfl)
  (hs:∀ x,foldedSetIterable iter X.env x=pure x:=by intro _;rfl):PS X (.Assign [.Name y py] (.ListComp elt [⟨tg,iter,ifs,0⟩] scope pos) spos) (fI (tLC wi fr g tc te) (cB i)):=by
 intro pins s σ H D I h;have hloc:=S.locs;rw[abu] at hloc;rw[exec_Assign_Name_used _ _ _ _ hsw];refine aab (wpAny_standAt (aab ?_));show wpAny _ X.A (do let _ <- comprehension (.ListComp elt [⟨tg,iter,ifs,0⟩] scope pos) scope X.env _ (newList []) false (eval iter X.env) (some (assign (.Name y py) X.env))) _ _ s;refine aab (abv (wpAny_comprehension_free (use:=some (assign (.Name y py) X.env)) (Q:=λ _ s'=>SP X pins D .next s') rfl hs S.clos S.kind (λ x hx' hl=>by have:=hloc x hx';rw[hl] at this;simpa using this)
  (d5 (hi pins s σ H _ I h) λ v s1 h1=>d5 h1 λ itv s2 h2=>?_)) (λ _ s' hq=>aae (aae hq)) λ _ _ e=>e)
 obtain⟨it,fp,tn,J,H2,e,I2,T,st2,f2,rest⟩:=h2;subst e;refine qZ (RR:=λ acc C=>compPost (model X.prog X.w) X.A X.xe (some (assign (.Name y py) X.env)) (λ _ s'=>SP X pins D .next s') acc C) hx hc S hg ht he I2 T st2 f2 rest ?_;intro Da C H' s' m' I' q hn f;show wpAny _ X.A (assign (.Name y py) X.env (.ref Da)) _ _ _;refine wpAny_assign_Name (mV I' hN hy (.inl hk) (v:=.ref Da) rfl (λ s'' I'' hch=>?_) (.inr hk));obtain⟨a,hsb,ha⟩:=hch;have haC:a≠C:=by
  rcases ha with e | e
  ·rw[e];exact Ne.symm f.2.1
  ·exact f.2.2.2.2.1 _ _ e
 exact⟨m',hn.sameBut hsb (Ne.symm haC),λ h' hs'=>⟨_,H',I''.letgo f hs',q⟩⟩
end
end L2
namespace Tw
open PySem L2
def pZ (k:Option Int) (gs:List (Option Int×Int)):List Int:=(gs.filter λ g=>decide (g.1=k)).map (·.2)
theorem pY (k:Option Int):∀ gs:List (Option Int×Int),(pZ k gs).sum=d6 k gs
 | []=>rfl
 | g::r=>by
  have ih:=pY k r;unfold pZ at ih ⊢;unfold d6
  by_cases h:g.1=k
  ·simp [h,<- ih]
  ·simp [h,<- ih]
theorem kH (k:Option Int) (gs:List (Option Int×Int)) (g:Option Int×Int):pZ k (gs++[g])=pZ k gs++(if g.1=k then [g.2] else []):=by
 unfold pZ;rw[List.filter_append,aal]
 by_cases h:g.1=k <;> simp [h]
theorem uO (k:Option Int) (gs:List (Option Int×Int)):(pZ k gs).length<=gs.length:=by
 unfold pZ;rw[aad];exact List.length_filter_le _ _
theorem BX {wd:Str} (h:wd = "open" \/ wd = "shut" \/ wd = "turn"):∃ j:Nat,j < 3/\(∀ z,[V.str "turn",V.str "open",V.str "shut"][j]? = some z->BT z (.str wd)=true)/\(∀ i z,i < j->[V.str "turn",V.str "open",V.str "shut"][i]? = some z->BT z (.str wd)=false)/\
  ∀ old:Bool,[V.bl (!old),V.bl true,V.bl false][j]? = some (.bl (if wd = "open" then true else if wd = "turn" then !old else false)):=by
 rcases h with rfl | rfl | rfl
 ·refine⟨1,by decide,λ z hz=>by cases hz;rfl,λ i z hi hz=>?_,λ old=>rfl⟩;have:i=0:=by omega
  subst this;cases hz;rfl
 ·refine⟨2,by decide,λ z hz=>by cases hz;rfl,λ i z hi hz=>?_,λ old=>rfl⟩;rcases (show i=0\/i=1 by omega) with rfl | rfl <;> cases hz <;> rfl
 ·exact⟨0,by decide,λ z hz=>by cases hz;rfl,λ i z hi hz=>absurd hi (Nat.not_lt_zero _),λ old=>rfl⟩
theorem IsL.append {H:Hp}:∀ {ds es:List L2.D}{xs ys:List V},L2.IsL K H ds xs->L2.IsL K H es ys->L2.IsL K H (ds++es) (xs++ys)
 | [],es,xs,ys,h1,h2=>by rw[h1.un0];exact h2
 | d::ds,es,xs,ys,h1,h2=>by
  obtain⟨x,r,rfl,hx,hr⟩:=h1.un;exact .cons hx (IsL.append hr h2)
theorem uC {H1 H2:Hp}{gl gq:Addr}{gs:List (Option Int×Int)}{gxs:List V} (sm:aG H1 H2) (fg:H1 gl=none) (hg:H2 gl=some (.lst gxs)) (ig:L2.IsL K H2 (gs.map outD) gxs) (hq:H2 gq=none) (t:Option Int) (n:Int) :
  aG H1 (upd (upd H2 gq (.tup [lM t,.int n])) gl (.lst (gxs++[.ref gq])))/\upd (upd H2 gq (.tup [lM t,.int n])) gl (.lst (gxs++[.ref gq])) gl=some (.lst (gxs++[.ref gq]))/\
  L2.IsL K (upd (upd H2 gq (.tup [lM t,.int n])) gl (.lst (gxs++[.ref gq]))) ((gs++[(t,n)]).map outD) (gxs++[.ref gq])/\∀ p o,p≠gl->H2 p=some o->upd (upd H2 gq (.tup [lM t,.int n])) gl (.lst (gxs++[.ref gq])) p=some o:=by
 have nq:gl≠gq:=aN hg hq;have mt:t9 (upd H2 gq (.tup [lM t,.int n]) gl):=by rw[aM nq,hg];exact trivial
 refine⟨λ b o e=>by rw[aM (aN e fg)];exact aG.new hq b o (sm b o e),aD,?_,λ p o hp e=>by rw[aM hp];exact aG.new hq p o e⟩;rw[aal];exact L2.IsL.snoc (Is.tupOf (ds:=[CA t,.int n]) (bT.put (bT.refl _) (.inr mt) _ _ (bH.of aD)) (.cons (Is.tgOf _) (.cons (Is.i _) .nil))) (L2.IsL.mono (bT.put (aG.new hq).ts (.inr mt)) _ _ ig)
def rO (K:aaa):Sp:=λ args H Q _=>∃ (x y:V) (z:Addr) (net:Net) (held coming poured:List Int) (doors:List Bool),args=[x,y,.ref z,.non]/\Is K H (gZ net) x/\Is K H (tK held coming doors) y/\G5 K H z (poured.map V.int)/\
 NetOk net/\StOk net held coming doors/\poured.length=net.vs.length/\∀ (l:Addr) (p1 p2:V) H',aG H H'->H' l=some (.lst [p1,p2,.int (kU net held coming poured doors).ground])->
  Is K H' (tK (kU net held coming poured doors).held (kU net held coming poured doors).coming (kU net held coming poured doors).doors) p1->
  Is K H' (.tup ((kU net held coming poured doors).tip.map λ (i:Nat)=>D.int (i:Int))) p2->Q (.ref l) H'
theorem lW:FnScope ["net","state","poured","fast","has","goes","tipped","stays","number","size","brim","outs","holds","spill","acts","here","whole","doors","word","spout","later","ground"] ["net","state","poured","fast"] (aR (bO 36)):={}
theorem sH {f fF:Addr}{fd fdF:FuncData} (F:Fun K "_law_tick" "_law_tick" (bO 36) f fd) (T:Txt mg) (G__law_filled:Callee P w K mg base "_law_filled" ["net","state","poured"] 1 (jY K) fF fdF):FnOk P w K mg base gQ 2 f fd ["net","state","poured","fast"] (rO K):=by
 refine F.ok lW (λ vs H Q E h=>?_) (λ cdv A outer s H vs Q E hr h=>?_)
 ·obtain⟨x,y,z,net,held,coming,poured,doors,rfl,_⟩:=h;rfl
 ·obtain⟨x,y,z,net,held,coming,poured,doors,rfl,hx,hy,qz,nok,sok,hpl,k⟩:=h;have sc:=lW;refine⟨_,(aF (pL 4 sc.nd (cN G__law_filled hr (aA (pv 0) (aA (pv 1) (aA (pv 2) aC)))))
   (aF (fB (i:=5) sc.nd rfl (Or.inr rfl) (b9 aC))
   (aF (pL 6 sc.nd (b9 aC))
   (aF (pL 7 sc.nd (b9 aC))
   (aF (dM PassesOwn.never rfl (cH rfl T.b_range (aA (mS K T.b_len (px K (pv 0) aE)) aC)) (gL 8 sc.nd) (aF (cG (px K (px K (pv 0) aE) (pv 8)) (bC (K:=K) (n:=6) rfl rfl (aH (gL 9 sc.nd) (aH (gL 10 sc.nd) (aH (gL 11 sc.nd) (aH (gL 12 sc.nd) (aH (gL 13 sc.nd) (aH (gL 14 sc.nd) bA))))))))
   (aF (fB (i:=15) sc.nd rfl (Or.inr rfl) (bF (kF rfl) rfl T.b_min PyProof.Rows.boot_min (aA (px K (pv 4) (pv 8)) (aA (pv 10) aC))))
   (aF (cV (eS (K:=K) rfl aas aav aaw cD (pv 5) (aA (aO (aA (pv 13) (aA (aK d8 (px K (pv 4) (pv 8)) (pv 15)) aC))) aC)))
   (aF (cQ (PW.pt (sB (bN DO (pv 15) (pv 9) (bQ _)) (oF (bN wV (pv 8) (pv 3) (bQ _))))) (aF (fB (i:=16) sc.nd rfl (Or.inr rfl) (bF (dX (K:=K) rfl rfl) rfl T.b_sum PyProof.Rows.boot_sum (aA (i6 (λ _ _ h=>h) rfl (LcOk.mk (N':=["target","parts"]) (fr:=[none,none]) rfl trivial rfl rfl rfl rfl rfl trivial) (eX (K:=K) rfl (pv 11)) (λ _ _ _=>(bC (K:=K) (n:=2) rfl rfl (aH (gC 0 ["target","parts"]) (aH (gC 1 ["target","parts"]) bA)))) (λ _ _ _=>dN) (λ _ _ _=>(pv 1))) aC)))
   (aF (fB (i:=5) sc.nd rfl (Or.inr rfl) (aK dP (pv 5) (i6 (λ _ _ h=>h) rfl (LcOk.mk (N':=["target","parts","here","whole"]) (fr:=[none,none,some 15,some 16]) rfl ⟨rfl,rfl,trivial⟩ rfl rfl rfl rfl rfl ⟨⟨_,rfl,rfl,rfl,rfl⟩,⟨_,rfl,rfl,rfl,rfl⟩,trivial⟩) (eX (K:=K) rfl (pv 11)) (λ _ _ _=>(bC (K:=K) (n:=2) rfl rfl (aH (gC 0 ["target","parts","here","whole"]) (aH (gC 1 ["target","parts","here","whole"]) bA)))) (λ _ _ _=>dN) (λ _ _ _=>(aO (aA (pv 0) (aA (aK jJ (aK fM (pv 2) (pv 3)) (pv 1)) aC)))))))
   (aF (fB (i:=15) sc.nd rfl (Or.inr rfl) (aK nC (pv 15) (pv 16)))
   (aF (cV (eS (K:=K) rfl aas aav aaw cD (pv 6) (aA (pv 8) aC)))
   (aJ (cQ (gJ (dF (pv 12))) (aF (cV (eS (K:=K) rfl aas aav aaw cD (pv 5) (aA (aO (aA dO (aA (pv 15) aC))) aC)))
   (aJ (fB (i:=15) sc.nd rfl (Or.inr rfl) aE))) bK)))))) bK)
   (aJ (cV (eS (K:=K) rfl aas aav aaw cD (pv 7) (aA (pv 15) aC)))))))))
   (aF (pL 17 sc.nd (b0 (gE (K:=K) rfl) rfl T.b_list kG (aA (px K (pv 1) aE) aC)))
   (aF (dM PassesOwn.never rfl (jG (K:=K) rfl (pv 6)) (gL 8 sc.nd) (aJ (dM PassesOwn.never rfl (eX (K:=K) rfl (px K (px K (px K (pv 0) aE) (pv 8)) aE)) (bC (K:=K) (n:=2) rfl rfl (aH (gL 18 sc.nd) (aH (gL 19 sc.nd) bA))) (aJ (cG (px K (b9 (aA (pG (px K (pv 17) (pv 19))) (aA fR (aA fR aC)))) (eS (K:=K) rfl aas PySem.F.slot_list_index PySem.F.type_list_index AH (b9 (aA cI (aA cI (aA cI aC)))) (aA (pv 18) aC))) (nA (pv 17) (pv 19) fQ))))))
   (aF (vF (i:=20) sc.nd rfl rfl (λ _ _ h=>h) rfl (LcOk2.mk (N':=["k","goes"]) (fr:=[none,some 5]) rfl ⟨rfl,trivial⟩ rfl rfl rfl rfl rfl ⟨⟨_,rfl,rfl,rfl,rfl⟩,trivial⟩) (cH rfl T.b_range (aA (mS K T.b_len (px K (pv 0) aE)) aC)) (λ _ _ _=>(iJ (i:=0) (show (["k","goes"]:List Str).Nodup by decide +kernel) rfl (Or.inr rfl) (Or.inl rfl))) (λ _ _ _=>dN) (λ _ _ _=>(bF (dX (K:=K) rfl rfl) rfl T.b_sum PyProof.Rows.boot_sum (aA (i6 (λ _ _ h=>h) rfl (LcOk.mk (N':=["target","amount","k"]) (fr:=[none,none,some 0]) rfl ⟨rfl,trivial⟩ rfl rfl rfl rfl rfl ⟨⟨_,rfl,rfl,rfl,rfl⟩,trivial⟩) (jG (K:=K) rfl (pv 1)) (λ _ _ _=>(bC (K:=K) (n:=2) rfl rfl (aH (gC 0 ["target","amount","k"]) (aH (gC 1 ["target","amount","k"]) bA)))) (λ _ _ _=>oG (bN iW (pv 0) (pv 2) (bQ _))) (λ _ _ _=>(pv 1))) aC))))
   (aF (pL 21 sc.nd (bF (dX (K:=K) rfl rfl) rfl T.b_sum PyProof.Rows.boot_sum (aA (i6 (λ _ _ h=>h) rfl (LcOk.mk (N':=["target","amount"]) (fr:=[none,none]) rfl trivial rfl rfl rfl rfl rfl trivial) (jG (K:=K) rfl (pv 5)) (λ _ _ _=>(bC (K:=K) (n:=2) rfl rfl (aH (gC 0 ["target","amount"]) (aH (gC 1 ["target","amount"]) bA)))) (λ _ _ _=>oG (bN AB (pv 0) dO (bQ _))) (λ _ _ _=>(pv 1))) aC)))
   (aJ (aY (b9 (aA (aO (aA (b0 (bZ (K:=K) rfl) rfl T.b_tuple bW (aA (pv 7) aC)) (aA (b0 (bZ (K:=K) rfl) rfl T.b_tuple bW (aA (pv 20) aC)) (aA (b0 (bZ (K:=K) rfl) rfl T.b_tuple bW (aA (pv 17) aC)) aC)))) (aA (b0 (bZ (K:=K) rfl) rfl T.b_tuple bW (aA (pv 6) aC)) (aA (pv 21) aC))))))))))))))),?_⟩
  obtain⟨a,b,c,xs,ys,rfl,q,q1,l1,q2,l2⟩:=g6 hx;obtain⟨ay,a1,a2,a3,rfl,qy,p1,p2,p3⟩:=qS hy;have exl:xs.length=net.vs.length:=by rw[l1.length,aad]
  have n1:=nok.lo;have n2:=nok.hi;have n3:=nok.sp;have hn:((xs.length:Nat):Int).toNat=net.vs.length:=by rw[exl];simp
  have hsl:(aP net held coming poured doors).length=net.vs.length:=by
   unfold aP;rw[gD,gN sok.h sok.c hpl]
  have hgl60:(cF net.vs (aP net held coming poured doors)).length<=60:=by
   have:=kC net.vs (aP net held coming poured doors) nok.vs;omega
  have hgt:∀ i,(cF (net.vs.take i) ((aP net held coming poured doors).take i)).length<=60:=λ i=>by
   have h1:=kC (net.vs.take i) ((aP net held coming poured doors).take i) λ v hv=>nok.vs v (List.mem_of_mem_take hv);have h2:(net.vs.take i).length<=12:=by rw[aau];omega
   omega
  have htt:∀ i,(bI 0 (net.vs.take i) ((aP net held coming poured doors).take i)).length<=12:=λ i=>by
   have h1:=hU (net.vs.take i) ((aP net held coming poured doors).take i) 0;have h2:(net.vs.take i).length<=12:=by rw[aau];omega
   omega
  have hst:∀ i,(dL (net.vs.take i) ((aP net held coming poured doors).take i)).length<=12:=λ i=>by
   rw[iE _ _ (by rw[aau,aau,hsl]),aau];omega
  refine⟨_,rfl,_,rfl,_,rfl,.ref a,.ref ay,z,net,held,coming,poured,doors,rfl,hx,hy,qz,nok,sok,hpl,λ hl H1 sm1 fr1 hH1=>?_⟩;refine⟨aar _,λ gl hgl=>⟨aar _,λ tl htl=>⟨aar _,λ sl hsl'=>?_⟩⟩⟩;have ft:H1 tl=none:=aG.free (aG.new hgl) htl;have fs:H1 sl=none:=aG.free (aG.new hgl) (aG.free (aG.new htl) hsl');have nts:tl≠sl:=aN (show upd _ tl (.lst []) tl=_ from aD) hsl';have ngt:gl≠tl:=aN (show upd H1 gl (.lst []) gl=_ from aD) htl;have ngs:gl≠sl:=aN (show upd (upd H1 gl (.lst [])) tl (.lst []) gl=some (.lst []) by rw[aM ngt];exact aD) hsl';refine⟨_,rfl,.inr (.inl ⟨a,_,0,_,rfl,rfl,((((sm1.trans (aG.new hgl)).trans (aG.new htl)).trans (aG.new hsl')).tup q),rfl,b,xs,rfl,.inr ((((sm1.trans (aG.new hgl)).trans (aG.new htl)).trans (aG.new hsl')).tup q1),_,rfl,by omega,by omega,?_⟩)⟩;rw[hn];refine dW (lo:=0) (n:=net.vs.length) (λ i Z H'=>aG H1 H'/\H' tl=some (.lst ((bI 0 (net.vs.take i) ((aP net held coming poured doors).take i)).map λ (j:Nat)=>V.int (j:Int)))/\
   H' sl=some (.lst ((dL (net.vs.take i) ((aP net held coming poured doors).take i)).map V.int))/\∃ (gl:Addr) (gxs:List V),H1 gl=none/\gl≠tl/\gl≠sl/\H' gl=some (.lst gxs)/\L2.IsL K H' ((cF (net.vs.take i) ((aP net held coming poured doors).take i)).map outD) gxs/\
   ∃ v8 v9 v10 v11 v12 v13 v14 v15 v16,Z=[some (.ref a),some (.ref ay),some (.ref z),some .non,some (.ref hl),some (.ref gl),some (.ref tl),some (.ref sl),v8,v9,v10,v11,v12,v13,v14,v15,v16,none,none,none,none,none]) ?_ ?_ ?_
  ·refine⟨((aG.new hgl).trans (aG.new htl)).trans (aG.new hsl'),by rw[aM nts,aD];simp [bI],by rw[aD];simp [dL],gl,[],hgl,ngt,ngs,by rw[aM ngs,aM ngt,aD],?_,none,none,none,none,none,none,none,none,none,rfl⟩;simp only [List.take_zero,cF,acb];exact .nil
  ·rintro i Z H2 hi ⟨sm,ht2,hs2,gl,gxs,fg,ngt,ngs,hg2,ig2,v8,v9,v10,v11,v12,v13,v14,v15,v16,rfl⟩;rw[Int.zero_add];have hv:net.vs[i]? = some net.vs[i]:=by simp [hi]
   have vok:=nok.vs net.vs[i] (abx hi);have hil:i < (aP net held coming poured doors).length:=by rw[hsl];exact hi
   have hhi:(aP net held coming poured doors)[i]? = some ((aP net held coming poured doors)[i]'hil):=by simp
   generalize hh:(aP net held coming poured doors)[i]'hil=h at hhi;have hhm:((aP net held coming poured doors).map V.int)[i]? = some (.int h):=by rw[aah,hhi];rfl
   have sA:aG H H2:=sm1.trans sm;have s1:=j8 net.vs (aP net held coming poured doors) i _ _ hv hhi;have s2:=kT net.vs (aP net held coming poured doors) i 0 _ _ hv hhi;have s3:=lG net.vs (aP net held coming poured doors) i _ _ hv hhi;generalize hvv:net.vs[i]=v at hv vok s1 s2 s3;obtain⟨xv,hxv,ixv⟩:=l1.get (i:=i) (d:=xU v) (by rw[aah,hv];rfl);obtain⟨va,o,cc,rfl,qv,ho,hc⟩:=wE ixv;obtain⟨oa,os,rfl,qo,lo⟩:=ho.un;have eol:os.length=v.outs.length:=by rw[lo.length,aad]
   have hw1:=qN vok.ne vok.outs;have hw2:=oM vok.outs;have ho3:=vok.o3;refine⟨_,rfl,.inr (.inl ⟨a,_,0,_,rfl,rfl,sA.tup q,rfl,_,rfl,.inr (.inl ⟨b,xs,(i:Int),_,rfl,rfl,sA.tup q1,cE hxv,va,_,rfl,sA.tup qv,rfl,_,_,rfl,_,_,rfl,_,_,rfl,_,_,rfl,_,_,rfl,_,_,rfl,rfl,?_⟩)⟩)⟩;refine⟨_,rfl,_,rfl,.inl ⟨hl,_,(i:Int),_,rfl,rfl,bV.of (sm _ _ hH1),cE hhm,_,rfl,_,_,rfl,?_⟩⟩;have eh:(if v.brim < h then v.brim else h)=bR v h:=by unfold bR;split <;> omega
   rw[eh];refine⟨_,rfl,.inl ⟨rfl,_,bV.of hg2⟩,_,rfl,_,rfl,_,rfl,.inl ⟨hl,_,(i:Int),_,rfl,rfl,bV.of (sm _ _ hH1),cE hhm,_,rfl,_,_,rfl,rfl,(show 2<=sizeLine by decide),λ gq hgq=>?_⟩⟩;have ngq:gl≠gq:=aN hg2 hgq;have hgxl:gxs.length=(cF (net.vs.take i) ((aP net held coming poured doors).take i)).length:=by rw[ig2.length,aad]
   have hg60:=hgt i;refine⟨gl,gxs,_,rfl,rfl,by rw[aM ngq];exact hg2,aW (by omega),?_⟩;obtain⟨sm3,hg3,ig3,kp3⟩:=uC sm fg hg2 ig2 hgq v.spill (h - bR v h);have ht3:=kp3 tl _ (Ne.symm ngt) ht2;have hs3:=kp3 sl _ (Ne.symm ngs) hs2;generalize upd (upd H2 gq (.tup [lM v.spill,.int (h - bR v h)])) gl (.lst (gxs++[.ref gq]))=H3 at sm3 hg3 ig3 kp3 ht3 hs3 ⊢;have sA3:aG H H3:=sm1.trans sm3;dsimp only [fA,fI,tC,cB];refine xC (λ Z H'=>aG H1 H'/\H' tl=some (.lst ((bI 0 (net.vs.take (i+1)) ((aP net held coming poured doors).take (i+1))).map λ (j:Nat)=>V.int (j:Int)))/\
    H' sl=some (.lst ((dL (net.vs.take i) ((aP net held coming poured doors).take i)).map V.int))/\∃ (gl:Addr) (gxs:List V),H1 gl=none/\gl≠tl/\gl≠sl/\H' gl=some (.lst gxs)/\L2.IsL K H' ((cF (net.vs.take (i+1)) ((aP net held coming poured doors).take (i+1))).map outD) gxs/\
    ∃ v8 v9 v10 v11 v12 v13 v14 v16,Z=[some (.ref a),some (.ref ay),some (.ref z),some .non,some (.ref hl),some (.ref gl),some (.ref tl),some (.ref sl),v8,v9,v10,v11,v12,v13,v14,some (.int (fN v h)),v16,none,none,none,none,none]) (λ D' hD=>?_) ?_
   ·refine⟨_,rfl,_,rfl,_,_,rfl,rfl,_,rfl,?_⟩;refine gP (λ hge=>?_) (λ hlt=>cT ?_)
    ·have tips:j6 v h=true:=hge;refine⟨_,rfl,_,rfl,rfl,_,rfl,?_⟩;refine gP (λ _=>?_) (λ hne=>absurd (by simp) hne);refine⟨_,rfl,oa,rfl,⟨_,sA3.tup qo⟩,jN (K:=K) (a:=oa) (xs:=os) (λ D j ys Z H'=>H3 D=none/\aG H3 H'/\H' D=some (.lst ys)/\ys=(v.outs.take j).map (λ x=>V.int x.2)/\∃ x y,Z=[x,y])
      (λ D j ys Z H' p=>p.2.1.tup (sA3.tup qo)) (λ D hD=>⟨hD,aG.new hD,aD,by simp,none,none,rfl⟩) ?_ ?_⟩
     rotate_left
     ·rintro D j x ys Z H' hx ⟨hD,smx,hDl,rfl,v1,v2,rfl⟩;obtain⟨ot,hot,oq,rfl,qa⟩:=kA lo hx;have hjl:=(aag.mp hot).1;refine⟨oq,_,rfl,smx.tup (sA3.tup qa),rfl,_,_,rfl,_,_,rfl,rfl,?_⟩;refine mU ⟨_,rfl,hDl,aW (by simp;omega),hD,smx.put hD,aD,?_,_,_,rfl⟩;rw[aX hot];simp
     rintro D ys Z H4 ⟨hD4,sm4,hDl,rfl,_⟩;rw[eol,aaq] at hDl;refine⟨false,D,v.outs.map (·.2),rfl,bV.of (by rw[acf];exact hDl),?_⟩;have ew:(v.outs.map (·.2)).sum=whole v.outs:=rfl;rw[ew];have sA4:aG H H4:=sA3.trans sm4;refine⟨_,rfl,_,rfl,oa,rfl,⟨_,sA4.tup qo⟩,jN (K:=K) (a:=oa) (xs:=os) (λ D j ys Z H'=>H4 D=none/\aG H4 H'/\H' D=some (.lst ys)/\L2.IsL K H' (((fJ v (bR v h)).take j).map outD) ys/\∃ x y,Z=[x,y,some (.int (bR v h)),some (.int (whole v.outs))])
      (λ D j ys Z H' p=>p.2.1.tup (sA4.tup qo)) (λ D hD=>⟨hD,aG.new hD,aD,by simp only [List.take_zero,acb];exact .nil,none,none,rfl⟩) ?_ ?_⟩
     rotate_left
     ·rintro D j x ys Z H' hx ⟨hD,smx,hDl,hys,v1,v2,rfl⟩;obtain⟨ot,hot,oq,rfl,qa⟩:=kA lo hx;have hjl:=(aag.mp hot).1;have hom:=vok.outs ot (aao hot);refine⟨oq,_,rfl,smx.tup (sA4.tup qa),rfl,_,_,rfl,_,_,rfl,rfl,?_⟩;refine mU ⟨_,rfl,_,rfl,_,rfl,_,_,rfl,rfl,⟨by omega,by omega⟩,_,rfl,_,_,rfl,rfl,.inr ⟨by have:=hom.lo;omega,by have:=hom.hi;omega⟩,(show 2<=sizeLine by decide),λ tq htq=>?_⟩;have nD:D≠tq:=aN hDl htq;have hysl:ys.length<=3:=by rw[hys.length,aad,aau];unfold fJ;rw[aad];omega
      have mt:t9 (upd H' tq (.tup [lM ot.1,.int (bR v h / whole v.outs * ot.2)]) D):=by rw[aM nD,hDl];exact trivial
      have hsh:(fJ v (bR v h))[j]? = some (ot.1,bR v h / whole v.outs * ot.2):=by unfold fJ;rw[aah,hot];rfl
      refine⟨by rw[aM nD];exact hDl,aW (by omega),hD,λ b o e=>by rw[aM (aN e hD)];exact aG.new htq b o (smx b o e),aD,?_,_,_,rfl⟩;rw[aX hsh,aal];exact L2.IsL.snoc (Is.tupOf (ds:=[CA ot.1,.int (bR v h / whole v.outs * ot.2)]) (bT.put (bT.refl _) (.inr mt) _ _ (bH.of aD)) (.cons (Is.tgOf _) (.cons (Is.i _) .nil))) (L2.IsL.mono (bT.put (aG.new htq).ts (.inr mt)) _ _ hys)
     rintro D2 ys Z H5 ⟨hD5,sm5,hD5l,hys,_⟩;have esh:(fJ v (bR v h)).length=os.length:=by unfold fJ;rw[aad,eol]
     rw[abj (Nat.le_of_eq esh)] at hys;have hysl:ys.length<=3:=by rw[hys.length,aad,esh,eol];exact ho3
     have hg5:=sm5 _ _ (sm4 _ _ hg3);refine⟨gl,D2,gxs++[.ref gq],ys,rfl,rfl,hg5,hD5l,aca (aW (by simp;omega)),λ gl2 hgl2=>?_⟩;have fg2:H1 gl2=none:=aG.free (sm3.trans (sm4.trans sm5)) hgl2;have ht5:=sm5 _ _ (sm4 _ _ ht3);have hs5:=sm5 _ _ (sm4 _ _ hs3);have ngt2:gl2≠tl:=Ne.symm (aN ht5 hgl2);have ngs2:gl2≠sl:=Ne.symm (aN hs5 hgl2);have m6:aG H5 (upd H5 gl2 (.lst (gxs++[.ref gq]++ys))):=aG.new hgl2;have ig6:L2.IsL K (upd H5 gl2 (.lst (gxs++[.ref gq]++ys))) ((cF (net.vs.take i) ((aP net held coming poured doors).take i)++[(v.spill,h - bR v h)]++fJ v (bR v h)).map outD) (gxs++[.ref gq]++ys):=by
      rw[aal];exact IsL.append (L2.IsL.mono m6.ts _ _ (L2.IsL.mono sm5.ts _ _ (L2.IsL.mono sm4.ts _ _ ig3))) (L2.IsL.mono m6.ts _ _ hys)
     have hg6:upd H5 gl2 (.lst (gxs++[.ref gq]++ys)) gl2=some (.lst (gxs++[.ref gq]++ys)):=aD;have sm6:aG H1 (upd H5 gl2 (.lst (gxs++[.ref gq]++ys))):=(sm3.trans (sm4.trans sm5)).trans m6;have ht6:=m6 _ _ ht5;have hs6:=m6 _ _ hs5;generalize upd H5 gl2 (.lst (gxs++[.ref gq]++ys))=H6 at sm6 hg6 ig6 ht6 hs6 ⊢;refine⟨_,rfl,_,rfl,_,_,rfl,rfl,(show 0 < whole v.outs by omega),?_⟩;have htl:=htt i;refine⟨_,rfl,.inl ⟨rfl,_,bV.of ht6⟩,_,rfl,tl,_,_,rfl,rfl,ht6,aW (by rw[aad];omega),?_⟩;have mtt:t9 (H6 tl):=by rw[ht6];exact trivial
     rw[tips,if_pos rfl,Nat.zero_add] at s2;have hg7:upd H6 tl (.lst (((bI 0 (net.vs.take i) ((aP net held coming poured doors).take i)).map λ (j:Nat)=>V.int (j:Int))++[.int (i:Int)])) gl2=some (.lst (gxs++[.ref gq]++ys)):=by rw[aM ngt2];exact hg6
     have ig7:=L2.IsL.mono (bT.put (o:=HO.lst (((bI 0 (net.vs.take i) ((aP net held coming poured doors).take i)).map λ (j:Nat)=>V.int (j:Int))++[.int (i:Int)])) (bT.refl H6) (.inr mtt)) _ _ ig6;have sm7:aG H1 (upd H6 tl (.lst (((bI 0 (net.vs.take i) ((aP net held coming poured doors).take i)).map λ (j:Nat)=>V.int (j:Int))++[.int (i:Int)]))):=sm6.put ft;have ht7:upd H6 tl (.lst (((bI 0 (net.vs.take i) ((aP net held coming poured doors).take i)).map λ (j:Nat)=>V.int (j:Int))++[.int (i:Int)])) tl=some (.lst ((bI 0 (net.vs.take (i+1)) ((aP net held coming poured doors).take (i+1))).map λ (j:Nat)=>V.int (j:Int))):=by
      rw[aD,s2,aal];rfl
     have hs7:upd H6 tl (.lst (((bI 0 (net.vs.take i) ((aP net held coming poured doors).take i)).map λ (j:Nat)=>V.int (j:Int))++[.int (i:Int)])) sl=_:=(aM (Ne.symm nts)).trans hs6;generalize upd H6 tl (.lst (((bI 0 (net.vs.take i) ((aP net held coming poured doors).take i)).map λ (j:Nat)=>V.int (j:Int))++[.int (i:Int)]))=H7 at hg7 ig7 sm7 ht7 hs7 ⊢;refine⟨_,rfl,_,rfl,?_⟩;cases hhd:v.holds with
     | true=>
      refine cT ?_;have es:bR v h % whole v.outs=fN v h:=by unfold fN;rw[tips,hhd];rfl
      refine hD _ _ ⟨sm7,ht7,hs7,gl2,_,fg2,ngt2,ngs2,hg7,?_,_,_,_,_,_,_,_,_,by rw[<- es];rfl⟩;have eg:fP v h=[(v.spill,h - bR v h)]++fJ v (bR v h):=by unfold fP;rw[tips,hhd];simp
      rw[s3,eg,<- acd];exact ig7
     | false=>
      refine cR ?_;refine⟨_,rfl,.inl ⟨rfl,_,bV.of hg7⟩,_,rfl,(show 2<=sizeLine by decide),λ gq2 hgq2=>?_⟩;have ngq2:gl2≠gq2:=aN hg7 hgq2;refine⟨gl2,_,_,rfl,rfl,by rw[aM ngq2];exact hg7,aW (by simp;omega),?_⟩;obtain⟨sm8,hg8,ig8,kp8⟩:=uC sm7 fg2 hg7 ig7 hgq2 none (bR v h % whole v.outs);have es:fN v h=0:=by unfold fN;rw[tips,hhd];rfl
      refine hD _ _ ⟨sm8,kp8 tl _ (Ne.symm ngt2) ht7,kp8 sl _ (Ne.symm ngs2) hs7,gl2,_,fg2,ngt2,ngs2,hg8,?_,_,_,_,_,_,_,_,_,by rw[es];rfl⟩;have eg:fP v h=[(v.spill,h - bR v h)]++fJ v (bR v h)++[(none,bR v h % whole v.outs)]:=by unfold fP;rw[tips,hhd];simp
      rw[s3,eg,<- acd,<- acd];exact ig8
    ·have tips:j6 v h=false:=by
      cases e:j6 v h with
      | false=>rfl
      | true=>exact absurd e hlt
     have es:bR v h=fN v h:=by unfold fN;rw[tips];rfl
     have eg:fP v h=[(v.spill,h - bR v h)]:=by unfold fP;rw[tips];rfl
     rw[tips,if_neg aaj,acg] at s2;refine hD _ _ ⟨sm3,by rw[s2];exact ht3,hs3,gl,_,fg,ngt,ngs,hg3,by rw[s3,eg];exact ig3,_,_,_,_,_,_,_,_,by rw[<- es];rfl⟩
   rintro ak H4 ⟨sm4,ht4,hs4,gl,gxs,fg,ngt,ngs,hg4,ig4,v8,v9,v10,v11,v12,v13,v14,v16,rfl⟩;have hsl2:=hst i;refine⟨_,rfl,.inl ⟨rfl,_,bV.of hs4⟩,_,rfl,sl,_,_,rfl,rfl,hs4,aW (by rw[aad];omega),?_⟩;refine⟨sm4.put fs,by rw[aM nts];exact ht4,by rw[aD,s1,aal];rfl,gl,gxs,fg,ngt,ngs,by rw[aM ngs];exact hg4,L2.IsL.mono (bT.put (bT.refl _) (.inr (by rw[hs4];exact trivial))) _ _ ig4,_,_,_,_,_,_,_,_,_,rfl⟩
  ·rintro Z H2 ⟨sm,ht2,hs2,gl,gxs,fg,ngt,ngs,hg2,ig2,v8,v9,v10,v11,v12,v13,v14,v15,v16,rfl⟩;have ek:net.vs.take net.vs.length=net.vs:=aaq;have ek2:(aP net held coming poured doors).take net.vs.length=aP net held coming poured doors:=by rw[<- hsl,aaq]
   rw[ek,ek2] at ht2 hs2 ig2;have sA:aG H H2:=sm1.trans sm;have etl:(bI 0 net.vs (aP net held coming poured doors)).length<=12:=by have:=hU net.vs (aP net held coming poured doors) 0;omega
   refine⟨_,rfl,.inr (.inl ⟨ay,_,2,_,rfl,rfl,sA.tup qy,rfl,a3,_,rfl,.inr (sA.tup p3),λ dl hdl=>?_⟩)⟩;have m3:aG H2 (upd H2 dl (.lst (doors.map V.bl))):=aG.new hdl;refine⟨_,rfl,tl,rfl,⟨_,bV.of (m3 _ _ ht2)⟩,uF (K:=K) (a:=tl) (xs:=(bI 0 net.vs (aP net held coming poured doors)).map λ (j:Nat)=>V.int (j:Int))
    (λ i Z H'=>aG H2 H'/\H' dl=some (.lst ((cL net.vs doors ((bI 0 net.vs (aP net held coming poured doors)).take i)).map V.bl))/\
     ∃ v8 v9 v10 v11 v12 v13 v14 v15 v16 v18 v19,Z=[some (.ref a),some (.ref ay),some (.ref z),some .non,some (.ref hl),some (.ref gl),some (.ref tl),some (.ref sl),v8,v9,v10,v11,v12,v13,v14,v15,v16,some (.ref dl),v18,v19,none,none])
    ⟨m3,aD,_,_,_,_,_,_,_,_,_,_,_,rfl⟩ (λ i Z H' _ p=>bV.of (p.1 _ _ ht2)) ?_ ?_⟩
   ·rintro i x Z H3 hx' ⟨sm3,hd3,v8,v9,v10,v11,v12,v13,v14,v15,v16,v18,v19,rfl⟩;rw[aah] at hx';obtain⟨j,hj,rfl⟩:=aba.mp hx';have hjv:j < net.vs.length:=by have:=lP _ _ _ _ (aao hj);omega
    have hv:net.vs[j]? = some net.vs[j]:=by simp [hjv]
    have vok:=nok.vs net.vs[j] (abx hjv);have dsn:=o5 net.vs doors ((bI 0 net.vs (aP net held coming poured doors)).take i) j net.vs[j] hv;generalize hvv:net.vs[j]=v at hv vok dsn;obtain⟨xv,hxv,ixv⟩:=l1.get (i:=j) (d:=xU v) (by rw[aah,hv];rfl);obtain⟨va,o,cc,rfl,qv,ho,hc⟩:=wE ixv;obtain⟨ca,cs,rfl,qc,lc⟩:=hc.un;have ecs:cs.length=v.acts.length:=by rw[lc.length,aad]
    have sA3:aG H H3:=sA.trans sm3;refine⟨_,rfl,.inr (.inl ⟨a,_,0,_,rfl,rfl,sA3.tup q,rfl,_,rfl,.inr (.inl ⟨b,xs,(j:Int),_,rfl,rfl,sA3.tup q1,cE hxv,.inr (.inl ⟨va,_,5,_,rfl,rfl,sA3.tup qv,rfl,ca,rfl,⟨_,sA3.tup qc⟩,oI (K:=K) (a:=ca) (xs:=cs)
     (λ l Z H'=>aG H2 H'/\H' dl=some (.lst ((eQ (cL net.vs doors ((bI 0 net.vs (aP net held coming poured doors)).take i)) (v.acts.take l)).map V.bl))/\
      ∃ v8 v9 v10 v11 v12 v13 v14 v15 v16 v18 v19,Z=[some (.ref a),some (.ref ay),some (.ref z),some .non,some (.ref hl),some (.ref gl),some (.ref tl),some (.ref sl),v8,v9,v10,v11,v12,v13,v14,v15,v16,some (.ref dl),v18,v19,none,none])
     ⟨sm3,hd3,_,_,_,_,_,_,_,_,_,_,_,rfl⟩ (λ l Z H' _ p=>(sA.trans p.1).tup qc) ?_ ?_⟩)⟩)⟩)⟩
    ·rintro l x Z H4 hl' ⟨sm4,hd4,v8,v9,v10,v11,v12,v13,v14,v15,v16,v18,v19,rfl⟩;obtain⟨at',hat,aa,rfl,qa⟩:=xP lc hl';have aok:=vok.acts at' (aao hat);refine⟨aa,_,rfl,(sA.trans sm4).tup qa,rfl,_,_,rfl,_,_,rfl,rfl,?_⟩;have asn:=qB (cL net.vs doors ((bI 0 net.vs (aP net held coming poured doors)).take i)) (v.acts.take l) at';have hdl':(eQ (cL net.vs doors ((bI 0 net.vs (aP net held coming poured doors)).take i)) (v.acts.take l)).length=doors.length:=by rw[kI,iP]
     generalize eQ (cL net.vs doors ((bI 0 net.vs (aP net held coming poured doors)).take i)) (v.acts.take l)=DS at hd4 asn hdl';have hsp:at'.2.toNat < DS.length:=by rw[hdl',sok.d];have:=aok.lo;have:=aok.hi;omega
     have hg:(DS.map V.bl)[at'.2.toNat]? = some (.bl (DS.getD at'.2.toNat false)):=by
      rw[aah,abd];simp [hsp]
     obtain⟨jj,hj3,w1,w2,w3⟩:=BX aok.word;refine⟨_,rfl,_,rfl,.inl ⟨dl,_,at'.2,_,rfl,rfl,bV.of hd4,gY aok.lo hg,_,rfl,(show 3<=sizeLine by decide),λ b1 hb1=>⟨(show 3<=sizeLine by decide),λ b2 hb2=>⟨.inl ⟨rfl,_,bV.of aD⟩,_,rfl,?_⟩⟩⟩⟩;have m5:aG H4 (upd H4 b1 (.lst [.bl (!DS.getD at'.2.toNat false),.bl true,.bl false])):=aG.new hb1;have m6:aG (upd H4 b1 (.lst [.bl (!DS.getD at'.2.toNat false),.bl true,.bl false])) (upd (upd H4 b1 (.lst [.bl (!DS.getD at'.2.toNat false),.bl true,.bl false])) b2 (.lst [.str "turn",.str "open",.str "shut"])):=aG.new hb2;refine⟨b2,_,_,jj,rfl,rfl,aD,rfl,rfl,hj3,w1,w2,.inl ⟨b1,_,(jj:Int),_,rfl,rfl,bV.of (m6 _ _ aD),cE (w3 (DS.getD at'.2.toNat false)),?_⟩⟩;refine⟨_,rfl,_,rfl,dl,_,at'.2,at'.2.toNat,rfl,rfl,m6 _ _ (m5 _ _ hd4),mH aok.lo (by rw[aad];have:=aok.lo;omega),?_⟩;refine⟨((sm4.trans m5).trans m6).put hdl,?_,_,_,_,_,_,_,_,_,_,_,_,rfl⟩;rw[aD,aX hat,asn,w9,List.map_set]
    ·rintro Z H4 ⟨sm4,hd4,v8,v9,v10,v11,v12,v13,v14,v15,v16,v18,v19,rfl⟩;rw[ecs,aaq] at hd4;refine⟨sm4,?_,_,_,_,_,_,_,_,_,_,_,_,rfl⟩;rw[aX hj,dsn];exact hd4
   ·rintro Z H3 ⟨sm3,hd3,v8,v9,v10,v11,v12,v13,v14,v15,v16,v18,v19,rfl⟩;rw[aad,aaq] at hd3;have sA3:aG H H3:=sA.trans sm3;have hg3:=sm3 _ _ hg2;have ig3:=L2.IsL.mono sm3.ts _ _ ig2;have hgxl:gxs.length=(cF net.vs (aP net held coming poured doors)).length:=by rw[ig2.length,aad]
    refine⟨_,rfl,.inr (.inl ⟨a,_,0,_,rfl,rfl,sA3.tup q,rfl,b,xs,rfl,.inr (sA3.tup q1),_,rfl,by omega,by omega,?_⟩)⟩;rw[hn];refine jO (n:=net.vs.length) (λ D i r Z H'=>H3 D=none/\aG H3 H'/\H' D=some (.lst r)/\r=((eI net.vs.length (cF net.vs (aP net held coming poured doors))).take i).map V.int/\∃ v,Z=[v,some (.ref gl)])
     (λ D hD=>⟨hD,aG.new hD,aD,by simp,none,rfl⟩) ?_ ?_
    rotate_left
    ·rintro D i r Z H4 hi ⟨hD,sm4,hDl,rfl,v,rfl⟩;refine eV ?_;refine⟨_,rfl,gl,rfl,⟨_,bV.of (sm4 _ _ hg3)⟩,sN (K:=K) (a:=gl) (xs:=gxs) (λ D' j r' Z H'=>H4 D'=none/\aG H4 H'/\H' D'=some (.lst r')/\r'=(pZ (some (i:Int)) ((cF net.vs (aP net held coming poured doors)).take j)).map V.int/\∃ u1 u2,Z=[u1,u2,some (.int (i:Int))])
      (λ D' j r' Z H' p=>bV.of (p.2.1 _ _ (sm4 _ _ hg3))) (λ D' hD'=>⟨hD',aG.new hD',aD,by simp [pZ],none,none,rfl⟩) ?_ ?_⟩
     rotate_left
     ·rintro D' j x r' Z H5 hx' ⟨hD',sm5,hD'l,rfl,u1,u2,rfl⟩;obtain⟨g,hg,ga,rfl,qg⟩:=kA (L2.IsL.mono sm4.ts _ _ ig3) hx';refine⟨ga,_,rfl,sm5.tup qg,rfl,_,_,rfl,_,_,rfl,rfl,?_⟩;have hsc:EF (lM g.1) (.int (i:Int))=true:=by cases g.1 <;> rfl
      have hiff:lM g.1=.int (i:Int)↔g.1=some (i:Int):=by cases g.1 <;> simp [lM]
      have hal:=uO (some (i:Int)) ((cF net.vs (aP net held coming poured doors)).take j);rw[aau] at hal;refine⟨_,rfl,_,rfl,hsc,_,rfl,?_⟩;refine gP (λ ht=>?_) (λ hf=>?_)
      ·refine⟨_,rfl,hD'l,aW (by rw[aad];omega),hD',sm5.put hD',aD,?_,_,_,rfl⟩;rw[aX hg,kH,if_pos (hiff.mp (abp ht)),aal];rfl
      ·refine⟨hD',sm5,hD'l,?_,_,_,rfl⟩;rw[aX hg,kH,if_neg (λ e=>hf (abz (hiff.mpr e))),acg]
     rintro D' r' Z H5 ⟨hD',sm5,hD'l,rfl,_⟩;rw[hgxl,aaq] at hD'l;refine⟨false,D',_,rfl,bV.of hD'l,sm5 _ _ hDl,aW (by simp [eI];omega),hD,(sm4.trans sm5).put hD,aD,?_,_,rfl⟩;have e:(eI net.vs.length (cF net.vs (aP net held coming poured doors)))[i]? = some (d6 (some (i:Int)) (cF net.vs (aP net held coming poured doors))):=by
      unfold eI;simp [hi]
     rw[aX e,aal,pY];rfl
    rintro D r Z H4 ⟨hD,sm4,hDl,rfl,_⟩;have ll:(eI net.vs.length (cF net.vs (aP net held coming poured doors))).length=net.vs.length:=by unfold eI;simp
    rw[abj (Nat.le_of_eq ll)] at hDl;refine⟨_,rfl,gl,rfl,⟨_,bV.of (sm4 _ _ hg3)⟩,sN (K:=K) (a:=gl) (xs:=gxs) (λ D' j r' Z H'=>H4 D'=none/\aG H4 H'/\H' D'=some (.lst r')/\r'=(pZ none ((cF net.vs (aP net held coming poured doors)).take j)).map V.int/\∃ u1 u2,Z=[u1,u2])
     (λ D' j r' Z H' p=>bV.of (p.2.1 _ _ (sm4 _ _ hg3))) (λ D' hD'=>⟨hD',aG.new hD',aD,by simp [pZ],none,none,rfl⟩) ?_ ?_⟩
    rotate_left
    ·rintro D' j x r' Z H5 hx' ⟨hD',sm5,hD'l,rfl,u1,u2,rfl⟩;obtain⟨g,hg,ga,rfl,qg⟩:=kA (L2.IsL.mono sm4.ts _ _ ig3) hx';refine⟨ga,_,rfl,sm5.tup qg,rfl,_,_,rfl,_,_,rfl,rfl,?_⟩;have hiff:lM g.1=.non↔g.1=none:=by cases g.1 <;> simp [lM]
     have hal:=uO none ((cF net.vs (aP net held coming poured doors)).take j);rw[aau] at hal;refine⟨_,rfl,rfl,_,rfl,?_⟩;refine gP (λ ht=>?_) (λ hf=>?_)
     ·refine⟨_,rfl,hD'l,aW (by rw[aad];omega),hD',sm5.put hD',aD,?_,_,_,rfl⟩;rw[aX hg,kH,if_pos (hiff.mp (abp ht)),aal];rfl
     ·refine⟨hD',sm5,hD'l,?_,_,_,rfl⟩;rw[aX hg,kH,if_neg (λ e=>hf (abz (hiff.mpr e))),acg]
    rintro D' r' Z H5 ⟨hD',sm5,hD'l,rfl,_⟩;rw[hgxl,aaq] at hD'l;refine⟨false,D',_,rfl,bV.of hD'l,?_⟩;rw[pY];have c1:=sm5 _ _ (sm4 _ _ (sm3 _ _ hs2));have c2:=sm5 _ _ hDl;have c3:=sm5 _ _ (sm4 _ _ hd3);have c4:=sm5 _ _ (sm4 _ _ (sm3 _ _ ht2));refine⟨_,rfl,sl,_,rfl,.inl ⟨bV.of c1,λ t1 ht1=>?_⟩⟩;have m1:=aG.new (o:=HO.tup ((dL net.vs (aP net held coming poured doors)).map V.int)) ht1;refine⟨_,rfl,D,_,rfl,.inl ⟨bV.of (m1 _ _ c2),λ t2 ht2=>?_⟩⟩;have m2:=aG.new (o:=HO.tup ((eI net.vs.length (cF net.vs (aP net held coming poured doors))).map V.int)) ht2;refine⟨_,rfl,dl,_,rfl,.inl ⟨bV.of (m2 _ _ (m1 _ _ c3)),λ t3 ht3=>?_⟩⟩;have m3:=aG.new (o:=HO.tup ((cL net.vs doors (bI 0 net.vs (aP net held coming poured doors))).map V.bl)) ht3;refine⟨(show 3<=sizeLine by decide),λ t4 ht4=>?_⟩;have m4:=aG.new (o:=HO.tup [.ref t1,.ref t2,.ref t3]) ht4;refine⟨_,rfl,tl,_,rfl,.inl ⟨bV.of (m4 _ _ (m3 _ _ (m2 _ _ (m1 _ _ c4)))),λ t5 ht5=>?_⟩⟩;have m5:=aG.new (o:=HO.tup ((bI 0 net.vs (aP net held coming poured doors)).map λ (j:Nat)=>V.int (j:Int))) ht5;refine⟨_,rfl,(show 3<=sizeLine by decide),λ t6 ht6=>?_⟩;have m6:aG _ _:=aG.new (o:=HO.lst [.ref t4,.ref t5,.int (d6 none (cF net.vs (aP net held coming poured doors)))]) ht6;refine k t6 (.ref t4) (.ref t5) _ (((((((((sA3.trans sm4).trans sm5).trans m1).trans m2).trans m3).trans m4).trans m5)).trans m6) aD ?_ ?_
    ·exact Is.mono m6.ts _ _ (Is.mono m5.ts _ _ (wJ (bH.of aD) (m4.tup (m3.tup (m2.tup (bH.of aD)))) (m4.tup (m3.tup (bH.of aD))) (m4.tup (bH.of aD))))
    ·refine Is.mono m6.ts _ _ (Is.tupOf (bH.of aD) ?_);show L2.IsL K _ ((bI 0 net.vs (aP net held coming poured doors)).map λ (i:Nat)=>L2.D.int (i:Int)) _;have e1:((bI 0 net.vs (aP net held coming poured doors)).map λ (i:Nat)=>L2.D.int (i:Int))=((bI 0 net.vs (aP net held coming poured doors)).map λ (i:Nat)=>(i:Int)).map L2.D.int:=by rw[acf];rfl
     have e2:((bI 0 net.vs (aP net held coming poured doors)).map λ (i:Nat)=>V.int (i:Int))=((bI 0 net.vs (aP net held coming poured doors)).map λ (i:Nat)=>(i:Int)).map V.int:=by rw[acf];rfl
     rw[e1,e2];exact L2.IsL.of_ints _
def nK (l:List (Int×Nat)) (i:Nat):List Int:=(l.filter λ p=>decide (p.2=i)).map (·.1)
theorem yN (l:List (Int×Nat)) (p:Int×Nat) (i:Nat):nK (l++[p]) i=nK l i++(if p.2=i then [p.1] else []):=by
 unfold nK;rw[List.filter_append,aal]
 by_cases h:p.2=i
 ·simp [h]
 ·simp [h]
theorem uH (l:List (Int×Nat)) (i:Nat):(nK l i).length<=l.length:=by
 unfold nK;rw[aad];exact List.length_filter_le _ _
theorem jU:∀ (l:List (Int×Nat)) (ts:List (List Int)) (i:Nat) (x:List Int),ts[i]? = some x->(l.foldl dY ts)[i]? = some (x++nK l i)
 | [],ts,i,x,h=>by simpa [nK] using h
 | p::l,ts,i,x,h=>by
  have hi:=(aag.mp h).1;show (l.foldl dY (dY ts p))[i]? = _
  by_cases e:p.2=i
  ·have h2:(dY ts p)[i]? = some (x++[p.1]):=by
    unfold dY;rw[e,acl hi,abd,h];rfl
   rw[jU l _ i _ h2];unfold nK;rw[List.filter_cons,if_pos (by simpa using e)];simp
  ·have h2:(dY ts p)[i]? = some x:=by
    unfold dY;rw[acp e];exact h
   rw[jU l _ i _ h2];unfold nK;rw[List.filter_cons,if_neg (by simpa using e)]
structure KeptC (K:aaa) (H:Hp) (A:Addr->Prop) (S:RunS) (a:Addr) (st:V) (ha tl bl:Addr) (ts:List Addr) (bs:List V):Prop where
 tup:bH K H a [st,.ref ha,.int S.cur.tick,.ref tl,.int S.cur.came,.int S.cur.ground,.ref bl]
 hst:Is K H (tK S.cur.held S.cur.coming S.cur.doors) st
 hha:bH K H ha (S.cur.poured.map V.int)
 hT:H tl=some (.lst (ts.map V.ref))
 len:ts.length=S.tips.length
 ti:∀ (i:Nat) (t:Addr) (l:List Int),ts[i]? = some t->S.tips[i]? = some l->H t=some (.lst (l.map V.int))
 hB:H bl=some (.lst bs)
 lB:IsL K H (S.rows.map iG) bs
 aT:A tl
 aB:A bl
 aI:∀ t∈ts,A t
def kK (K:aaa) (H:Hp) (A:Addr->Prop) (S:RunS) (v:V):Prop:=∃ a st ha tl bl ts bs,v=.ref a/\KeptC K H A S a st ha tl bl ts bs
section
variable {H H':Hp}{A A':Addr->Prop}{S:RunS}{v:V}{a ha tl bl:Addr}{st:V}{ts:List Addr}{bs:List V}
theorem KeptC.keep (c:KeptC K H A S a st ha tl bl ts bs) (t:bT K H H') (k:∀ b o,A b->H b=some o->H' b=some o):KeptC K H' A S a st ha tl bl ts bs where
 tup:=t _ _ c.tup
 hst:=Is.mono t _ _ c.hst
 hha:=t _ _ c.hha
 hT:=k _ _ c.aT c.hT
 len:=c.len
 ti:=λ i t l h1 h2=>k _ _ (c.aI t (aao h1)) (c.ti i t l h1 h2)
 hB:=k _ _ c.aB c.hB
 lB:=L2.IsL.mono t _ _ c.lB
 aT:=c.aT
 aB:=c.aB
 aI:=c.aI
theorem kK.keep (c:kK K H A S v) (t:bT K H H') (k:∀ b o,A b->H b=some o->H' b=some o):kK K H' A S v:=by
 obtain⟨a,st,ha,tl,bl,ts,bs,rfl,c⟩:=c;exact⟨a,st,ha,tl,bl,ts,bs,rfl,c.keep t k⟩
theorem kK.same (c:kK K H A S v) (s:aG H H'):kK K H' A S v:=c.keep s.ts λ b o _ e=>s b o e
theorem kK.imp (c:kK K H A S v) (h:∀ b,A b->A' b):kK K H A' S v:=by
 obtain⟨a,st,ha,tl,bl,ts,bs,rfl,c⟩:=c;exact⟨a,st,ha,tl,bl,ts,bs,rfl,{ c with aT:=h _ c.aT,aB:=h _ c.aB,aI:=λ t ht=>h _ (c.aI t ht) }⟩
end
inductive Deed where
 | pour (v a:Int)
 | go (k:Nat)
def xJ:Deed->L2.D
 | .pour v a=>.tup [.str "pour",.int v,.int a]
 | .go k=>.tup [.str "go",.int (k:Int)]
def RunS.deed (S:RunS):Deed->RunS
 | .pour v a=>S.pour v a
 | .go k=>S.go k
section
variable {H:Hp}
theorem CJ {v a:Int}{x:V} (h:Is K H (xJ (.pour v a)) x):∃ d,x=.ref d/\bH K H d [.str "pour",.int v,.int a]:=by
 obtain⟨d,xs,rfl,q,l⟩:=(show Is K H (.tup [.str "pour",.int v,.int a]) x from h).un;obtain⟨x1,r,rfl,h1,l⟩:=l.un;obtain⟨x2,r,rfl,h2,l⟩:=l.un;obtain⟨x3,r,rfl,h3,l⟩:=l.un;have:=l.un0;subst this;rw[h1.us,h2.ui,h3.ui] at q;exact⟨d,rfl,q⟩
theorem HB {k:Nat}{x:V} (h:Is K H (xJ (.go k)) x):∃ d,x=.ref d/\bH K H d [.str "go",.int (k:Int)]:=by
 obtain⟨d,xs,rfl,q,l⟩:=(show Is K H (.tup [.str "go",.int (k:Int)]) x from h).un;obtain⟨x1,r,rfl,h1,l⟩:=l.un;obtain⟨x2,r,rfl,h2,l⟩:=l.un;have:=l.un0;subst this;rw[h1.us,h2.ui] at q;exact⟨d,rfl,q⟩
end
theorem gB (net:Net) (m:Mom):∀ k,(cZ net m k).tick=m.tick+k
 | 0=>by simp [cZ]
 | k+1=>by
  show (cZ net m k).tick+1=_;rw[gB net m k];omega
def gR (K:aaa):Sp:=λ vs H Q _=>∃ (x:V) (net:Net),vs=[x]/\Is K H (gZ net) x/\NetOk net/\∀ u H',aG H H'->kK K H' (λ b=>H b=none) (tM net) u->Q u H'
theorem gI:FnScope ["net"] ["net"] (aR (bO 39)):={}
theorem lE {f f1:Addr}{fd fd1:FuncData} (F:Fun K "_law_book_first" "_law_book_first" (bO 39) f fd) (T:Txt mg) (G__law_first:Callee P w K mg base "_law_first" ["net"] 1 (jX K) f1 fd1) :
  FnOk P w K mg base gQ 2 f fd ["net"] (gR K):=by
 refine F.ok gI (λ vs H Q E h=>?_) (λ cdv A outer s H vs Q E hr h=>?_)
 ·obtain⟨x,net,rfl,_⟩:=h;rfl
 ·obtain⟨x,net,rfl,hx,nok,k⟩:=h;have sc:=gI;refine⟨_,(aJ (aY (aO (aA (cN G__law_first hr (aA (pv 0) aC)) (aA (aK (mB (K:=K) rfl) (aO (aA aE aC)) (mS K T.b_len (px K (pv 0) aE))) (aA aE (aA (i6 (λ _ _ h=>h) rfl (LcOk.mk (N':=["vessel"]) (fr:=[none]) rfl trivial rfl rfl rfl rfl rfl trivial) (eX (K:=K) rfl (px K (pv 0) aE)) (λ _ _ _=>(gC 0 ["vessel"])) (λ _ _ _=>dN) (λ _ _ _=>(b9 aC))) (aA aE (aA aE (aA (b9 aC) aC)))))))))),?_⟩;have n1:=nok.lo;have n2:=nok.hi;refine⟨_,rfl,x,net,rfl,hx,nok,λ st H1 sm1 hst=>?_⟩;obtain⟨a,b,c,xs,ys,rfl,q,q1,l1,q2,l2⟩:=g6 (Is.mono sm1.ts _ _ hx);have exl:xs.length=net.vs.length:=by rw[l1.length,aad]
  refine⟨(show 1<=sizeLine by decide),λ o ho=>?_⟩;have so:=aG.new (o:=HO.tup [.int 0]) ho;refine⟨_,rfl,.inr (.inl ⟨a,_,0,_,rfl,rfl,so.tup q,rfl,b,xs,rfl,.inr (so.tup q1),o,_,[.int 0],rfl,rfl,bH.of aD,by omega,by omega,by simp,by decide,λ z H2 sm2 qz=>?_⟩)⟩;have en:((xs.length:Nat):Int).toNat=net.vs.length:=by rw[exl];simp
  rw[en,yB] at qz;have s2:=so.trans sm2;refine⟨_,rfl,.inr (.inl ⟨a,_,0,_,rfl,rfl,s2.tup q,rfl,b,rfl,⟨_,s2.tup q1⟩,jN (K:=K) (a:=b) (xs:=xs) (λ D i rr Z H'=>H2 D=none/\aG H2 H'/\H' D=some (.lst rr)/\(∃ ts:List Addr,rr=ts.map V.ref/\ts.length=i/\∀ t∈ts,H2 t=none/\t≠D/\H' t=some (.lst []))/\∃ u,Z=[u])
   (λ D i rr Z H' p=>p.2.1.tup (s2.tup q1)) (λ D hD=>⟨hD,aG.new hD,aD,⟨[],rfl,rfl,λ t ht=>(nomatch ht)⟩,none,rfl⟩) ?_ ?_⟩)⟩
  rotate_left
  ·rintro D i v rr Z H8 hv ⟨hD,sm,hDl,⟨ts,rfl,hts,hall⟩,u,rfl⟩;have hil:=(aag.mp hv).1;refine eV ?_;refine⟨aar _,λ t ht=>⟨aG.new ht _ _ hDl,aW (by simp;omega),hD,(sm.trans (aG.new ht)).put hD,aD,⟨ts++[t],by rw[aal];rfl,by simp [hts],λ t' ht'=>?_⟩,_,rfl⟩⟩;have nDt:t≠D:=λ z=>by rw[z,hDl] at ht;cases ht
   rcases abg.1 ht' with z | z
   ·have h1:=hall t' z;exact⟨h1.1,h1.2.1,by rw[aM h1.2.1];exact aG.new ht _ _ h1.2.2⟩
   ·have:t'=t:=by simpa using z
    subst this;exact⟨sm.free ht,nDt,by rw[aM nDt];exact aD⟩
  ·rintro D rr Z H3 ⟨hD,sm3,hDl,⟨ts,rfl,hts,hall⟩,_⟩;refine⟨aar _,λ bl hbl=>⟨(show 7<=sizeLine by decide),λ p hp=>?_⟩⟩;have s3:=(aG.new (o:=HO.lst []) hbl);have s4:=(aG.new (o:=HO.tup [st,.ref z,.int 0,.ref D,.int 0,.int 0,.ref bl]) hp);have s24:=(sm3.trans s3).trans s4;have s1:=sm1.trans s2;have s04:=s1.trans s24;refine k _ _ s04 ⟨p,st,z,D,bl,ts,[],rfl,?_⟩;exact {
    tup:=bH.of aD
    hst:=Is.mono (s2.trans s24).ts _ _ hst
    hha:=s24.tup qz
    hT:=s4 _ _ (s3 _ _ hDl)
    len:=by rw[hts,exl];simp [tM]
    ti:=λ i t l h1 h2=>by
     have hl:=aao h2;have:=List.eq_of_mem_replicate (show l∈List.replicate net.vs.length [] from hl);subst this;exact s4 _ _ (s3 _ _ (hall t (aao h1)).2.2)
    hB:=s4 _ _ aD
    lB:=.nil
    aT:=s1.free hD
    aB:=(s1.trans sm3).free hbl
    aI:=λ t ht=>s1.free (hall t ht).1 }
def BR (S:RunS):Deed->Prop
 | .pour v _=>0<=v/\v < S.net.vs.length
 | .go k=>k<=10000
def rR (K:aaa):Sp:=λ vs H Q _=>∃ (x kv dv:V) (S:RunS) (d:Deed) (A:Addr->Prop) (B:Nat),vs=[x,kv,dv]/\Is K H (gZ S.net) x/\RunOk S/\kK K H A S kv/\RunSz S B/\B<=1000000/\Is K H (xJ d) dv/\BR S d/\
 ∀ u H',aG H H'->kK K H' (λ b=>A b\/H b=none) (S.deed d) u->Q u H'
theorem gU:FnScope ["net","kept","deed","state","hand","tick","tips","came","ground","book","pairs","k","tipped","lost"] ["net","kept","deed"] (aR (bO 38)):={}
theorem CG {l:List V}{j:Nat} (x:V) (h:j < l.length):l.take j++[x]++l.drop (j+1)=l.set j x:=by
 rw[List.set_eq_take_append_cons_drop,if_pos h,acd];rfl
theorem mC {f f1 f2:Addr}{fd fd1 fd2:FuncData} (F:Fun K "_law_book_gone" "_law_book_gone" (bO 38) f fd) (T:Txt mg)
  (G__law_filled:Callee P w K mg base "_law_filled" ["net","state","poured"] 1 (jY K) f1 fd1) (G__law_tick:Callee P w K mg base "_law_tick" ["net","state","poured","fast"] 2 (rO K) f2 fd2) :
  FnOk P w K mg base gQ 3 f fd ["net","kept","deed"] (rR K):=by
 refine F.ok gU (λ vs H Q E h=>?_) (λ cdv A outer s H vs Q E hr h=>?_)
 ·obtain⟨x,kv,dv,S,d,Al,B,rfl,_⟩:=h;rfl
 ·obtain⟨x,kv,dv,S,d,Al,B,rfl,hx,sok,⟨a,st,ha,tl,bl,ts,bs,rfl,c⟩,sz,hB,hd,dok,k⟩:=h;have sc:=gU;refine⟨_,(aF (cG (pv 1) (bC (K:=K) (n:=7) rfl rfl (aH (gL 3 sc.nd) (aH (gL 4 sc.nd) (aH (iJ (i:=5) sc.nd rfl (Or.inr rfl)) (aH (iJ (i:=6) sc.nd rfl (Or.inr rfl)) (aH (gL 7 sc.nd) (aH (gL 8 sc.nd) (aH (gL 9 sc.nd) bA)))))))))
   (aF (cQ (bN iW (px K (pv 2) aE) cI (bQ _)) (aF (pL 4 sc.nd (aK (eJ (K:=K) rfl) (aK (eJ (K:=K) rfl) (bS (wL (K:=K) rfl) (pv 4) cJ (bX (px K (pv 2) aE))) (aO (aA (aK bG (px K (pv 4) (px K (pv 2) aE)) (px K (pv 2) aE)) aC))) (bS (wL (K:=K) rfl) (pv 4) (bX (aK bG (px K (pv 2) aE) aE)) cJ)))
   (aJ (aY (aO (aA (pv 3) (aA (pv 4) (aA (pv 5) (aA (pv 6) (aA (pv 7) (aA (pv 8) (aA (aK dP (pv 9) (b9 (aA (pv 2) aC))) aC))))))))))) bK)
   (aF (fB (i:=10) sc.nd rfl (Or.inr rfl) (b9 aC))
   (aF (dM PassesOwn.never rfl (cH rfl T.b_range (aA (px K (pv 2) aE) aC)) (gL 11 sc.nd) (aF (pL 7 sc.nd (aK d8 (aK d8 (aK bG (pv 7) (bF (dX (K:=K) rfl rfl) rfl T.b_sum PyProof.Rows.boot_sum (aA (cN G__law_filled hr (aA (pv 0) (aA (pv 3) (aA (pv 4) aC)))) aC))) (bF (dX (K:=K) rfl rfl) rfl T.b_sum PyProof.Rows.boot_sum (aA (px K (pv 3) aE) aC))) (bF (dX (K:=K) rfl rfl) rfl T.b_sum PyProof.Rows.boot_sum (aA (px K (pv 3) aE) aC))))
   (aF (cG (cN G__law_tick hr (aA (pv 0) (aA (pv 3) (aA (pv 4) (aA dO aC))))) (CO (K:=K) (n:=3) rfl rfl (aH (gL 3 sc.nd) (aH (gL 12 sc.nd) (aH (gL 13 sc.nd) bA)))))
   (aF (pL 4 sc.nd (aK (mB (K:=K) rfl) (aO (aA aE aC)) (mS K T.b_len (pv 4))))
   (aF (fB (i:=10) sc.nd rfl (Or.inr rfl) (aK dP (pv 10) (i6 (λ _ _ h=>h) rfl (LcOk.mk (N':=["number","tick"]) (fr:=[none,some 5]) rfl ⟨rfl,trivial⟩ rfl rfl rfl rfl rfl ⟨⟨_,rfl,rfl,rfl,rfl⟩,trivial⟩) (eX (K:=K) rfl (pv 12)) (λ _ _ _=>(gC 0 ["number","tick"])) (λ _ _ _=>dN) (λ _ _ _=>(aO (aA (pv 1) (aA (pv 0) aC)))))))
   (aF (pL 8 sc.nd (aK bG (pv 8) (pv 13)))
   (aJ (fB (i:=5) sc.nd rfl (Or.inr rfl) (aK bG (pv 5) aE)))))))))
   (aF (fB (i:=6) sc.nd rfl (Or.inr rfl) (ES (λ _ _ h=>h) rfl (LcOk2.mk (N':=["k","tips","pairs"]) (fr:=[none,some 6,some 10]) rfl ⟨rfl,rfl,trivial⟩ rfl rfl rfl rfl rfl ⟨⟨_,rfl,rfl,rfl,rfl⟩,⟨_,rfl,rfl,rfl,rfl⟩,trivial⟩) (cH rfl T.b_range (aA (mS K T.b_len (pv 6)) aC)) (λ _ _ _=>(iJ (i:=0) (show (["k","tips","pairs"]:List Str).Nodup by decide +kernel) rfl (Or.inr rfl) (Or.inl rfl))) (λ _ _ _=>dN) (λ _ _ _=>(aK dP (px K (pv 1) (pv 0)) (i6 (λ _ _ h=>h) rfl (LcOk.mk (N':=["pair","k"]) (fr:=[none,some 0]) rfl ⟨rfl,trivial⟩ rfl rfl rfl rfl rfl ⟨⟨_,rfl,rfl,rfl,rfl⟩,trivial⟩) (jG (K:=K) rfl (pv 2)) (λ _ _ _=>(gC 0 ["pair","k"])) (λ _ _ _=>oG (bN iW (px K (pv 0) aE) (pv 1) (bQ _))) (λ _ _ _=>(px K (pv 0) aE)))))))
   (aJ (aY (aO (aA (pv 3) (aA (pv 4) (aA (pv 5) (aA (pv 6) (aA (pv 7) (aA (pv 8) (aA (aK dP (pv 9) (b9 (aA (aO (aA cI (aA (px K (pv 2) aE) (aA (b0 (bZ (K:=K) rfl) rfl T.b_tuple bW (aA (pv 10) aC)) aC)))) aC))) aC))))))))))))))),?_⟩
  have nok:=sok.nok;have n1:=nok.lo;have n2:=nok.hi;have pl:=sok.cur.pl;have hbsl:bs.length<=B:=by rw[c.lB.length,aad];exact sz.rows
  refine⟨_,rfl,a,_,rfl,c.tup,rfl,_,_,rfl,_,_,rfl,_,_,rfl,_,_,rfl,_,_,rfl,_,_,rfl,_,_,rfl,rfl,?_⟩;cases d with
  | pour v am=>
   obtain⟨v0,v1⟩:=(show 0<=v/\v < S.net.vs.length from dok);obtain⟨j,rfl⟩:=Int.eq_ofNat_of_zero_le v0;obtain⟨d,rfl,qd⟩:=CJ hd;refine⟨_,rfl,.inr (.inl ⟨d,_,0,_,rfl,rfl,qd,rfl,rfl,_,rfl,gP (λ _=>?_) λ z=>absurd (abz rfl) z⟩)⟩;generalize hps:S.cur.poured.map V.int=ps at *;have hpl:ps.length=S.net.vs.length:=by rw[<- hps,aad];exact pl
   have hjl:j < ps.length:=by omega
   have hq:=c.hha;rw[hps] at hq;have hjp:j < S.cur.poured.length:=by omega
   have hg:S.cur.poured[j]? = some (S.cur.poured.getD j 0):=by rw[abd,aax hjp];rfl
   have hgp:ps[j]? = some (.int (S.cur.poured.getD j 0)):=by rw[<- hps,aah,hg];rfl
   have hc1:nO ps none (some (j:Int))=ps.take j:=by
    unfold nO;rw[HT.sIx_none,HT.sIx_nat,List.drop_zero,Nat.sub_zero,Nat.min_eq_left (by omega)]
   have hc2:nO ps (some ((j:Int)+1)) none=ps.drop (j+1):=by
    unfold nO;rw[HT.sIx_none,show ((j:Int)+1)=((j+1:Nat):Int) by omega,HT.sIx_nat,Nat.min_eq_left (by omega)];exact abj (by rw[List.length_drop];omega)
   refine⟨_,rfl,_,rfl,.inr (.inl ⟨d,_,1,_,rfl,rfl,qd,rfl,_,rfl,ha,ps,rfl,hq,?_,λ p1 hp1=>?_⟩)⟩
   ·rintro⟨_,z⟩;rw[HT.sIx_nat,Nat.min_eq_left (by omega)] at z;omega
   rw[hc1];have s1:=aG.new (o:=HO.tup (ps.take j)) hp1;have t1:bH K (upd H p1 (.tup (ps.take j))) p1 (ps.take j):=bH.of aD;generalize upd H p1 (.tup (ps.take j))=H1 at s1 t1;refine⟨_,rfl,_,rfl,.inr (.inl ⟨d,_,1,_,rfl,rfl,s1.tup qd,rfl,.inr (.inl ⟨ha,ps,(j:Int),_,rfl,rfl,s1.tup hq,cE hgp,_,rfl,.inr (.inl ⟨d,_,2,_,rfl,rfl,s1.tup qd,rfl,_,_,rfl,rfl,(show 1<=sizeLine by decide),λ p2 hp2=>?_⟩)⟩)⟩)⟩;have s2:=aG.new (o:=HO.tup [.int (S.cur.poured.getD j 0+am)]) hp2;have t2:bH K (upd H1 p2 (.tup [.int (S.cur.poured.getD j 0+am)])) p2 [.int (S.cur.poured.getD j 0+am)]:=bH.of aD;generalize upd H1 p2 (.tup [.int (S.cur.poured.getD j 0+am)])=H2 at s2 t2;refine⟨p1,p2,_,_,rfl,rfl,s2.tup t1,t2,aca (aW (by rw[aau,abh];omega)),λ p3 H3 s3 t3=>?_⟩;have s02:=s1.trans s2;have s03:=s02.trans s3;refine⟨_,rfl,_,rfl,.inr (.inl ⟨d,_,1,_,rfl,rfl,s03.tup qd,rfl,_,_,rfl,rfl,_,rfl,ha,ps,rfl,s03.tup hq,?_,λ p4 hp4=>?_⟩)⟩
   ·rintro⟨z,_⟩;rw[show ((j:Int)+1)=((j+1:Nat):Int) by omega,HT.sIx_nat] at z;omega
   rw[hc2];have s4:=aG.new (o:=HO.tup (ps.drop (j+1))) hp4;have t4:bH K (upd H3 p4 (.tup (ps.drop (j+1)))) p4 (ps.drop (j+1)):=bH.of aD;generalize upd H3 p4 (.tup (ps.drop (j+1)))=H4 at s4 t4;refine⟨p3,p4,_,_,rfl,rfl,s4.tup t3,t4,aca (aW (by rw[aap,aau,List.length_drop,abh];omega)),λ p5 H5 s5 t5=>?_⟩;rw[CG _ hjl] at t5;have s05:=(s03.trans s4).trans s5;have hB5:=s05 _ _ c.hB;refine⟨_,rfl,_,rfl,_,rfl,_,rfl,_,rfl,_,rfl,_,rfl,_,rfl,(show 1<=sizeLine by decide),λ e he=>?_⟩;have s6:=aG.new (o:=HO.lst [.ref d]) he;refine⟨bl,e,bs,_,rfl,rfl,s6 _ _ hB5,aD,aca (iF (by rw[abh];omega)),λ nb hnb=>⟨(show 7<=sizeLine by decide),λ p hp=>?_⟩⟩;have s7:=aG.new (o:=HO.lst (bs++[.ref d])) hnb;have s8:=aG.new (o:=HO.tup [st,.ref p5,.int S.cur.tick,.ref tl,.int S.cur.came,.int S.cur.ground,.ref nb]) hp;have s58:=(s6.trans s7).trans s8;have s08:=s05.trans s58;refine k _ _ s08 ⟨p,st,p5,tl,nb,ts,bs++[.ref d],rfl,?_⟩;exact {
    tup:=bH.of aD
    hst:=Is.mono s08.ts _ _ c.hst
    hha:=by
     have e:((S.deed (.pour (j:Int) am)).cur.poured.map V.int)=ps.set j (.int (S.cur.poured.getD j 0+am)):=by
      show ((S.cur.poured.set (j:Int).toNat (S.cur.poured.getD (j:Int).toNat 0+am)).map V.int)=_;rw[ace,List.map_set,hps]
     rw[e];exact s58.tup t5
    hT:=s08 _ _ c.hT
    len:=c.len
    ti:=λ i t l h1 h2=>s08 _ _ (c.ti i t l h1 h2)
    hB:=s8 _ _ aD
    lB:=by
     show IsL K _ ((S.rows++[Row.pour (j:Int) am]).map iG) _;rw[aal];exact L2.IsL.snoc (Is.mono s08.ts _ _ hd) (L2.IsL.mono s08.ts _ _ c.lB)
    aT:=.inl c.aT
    aB:=.inr ((s05.trans s6).free hnb)
    aI:=λ t ht=>.inl (c.aI t ht) }
  | go kk=>
   have hkk:kk<=10000:=dok;obtain⟨d,rfl,qd⟩:=HB hd;refine⟨_,rfl,.inr (.inl ⟨d,_,0,_,rfl,rfl,qd,rfl,rfl,_,rfl,gP (λ z=>absurd (abp z) (by decide)) λ _=>?_⟩)⟩;refine⟨aar _,λ pl0 hpl0=>?_⟩;have s0:=aG.new (o:=HO.lst []) hpl0;have g0:upd H pl0 (.lst []) pl0=some (.lst []):=aD;generalize upd H pl0 (.lst [])=H0 at s0 g0;refine⟨_,rfl,.inr (.inl ⟨d,_,1,_,rfl,rfl,s0.tup qd,rfl,_,rfl,by omega,by omega,?_⟩)⟩;rw[ace];refine dW (lo:=0) (n:=kk) (λ i Z H'=>aG H H'/\∃ (st':V) (ha' pp:Addr) (pxs:List V),Is K H' (tK (cZ S.net S.cur i).held (cZ S.net S.cur i).coming (cZ S.net S.cur i).doors) st'/\bH K H' ha' ((cZ S.net S.cur i).poured.map V.int)/\
    H' pp=some (.lst pxs)/\IsL K H' ((cM S.net S.cur i).map fH) pxs/\∃ v11 v12 v13,Z=[some x,some (.ref a),some (.ref d),some st',some (.ref ha'),some (.int (cZ S.net S.cur i).tick),some (.ref tl),some (.int (cZ S.net S.cur i).came),some (.int (cZ S.net S.cur i).ground),some (.ref bl),some (.ref pp),v11,v12,v13]) ?_ ?_ ?_
   ·exact⟨s0,st,ha,pl0,[],Is.mono s0.ts _ _ c.hst,s0.tup c.hha,g0,.nil,_,_,_,rfl⟩
   ·rintro i Z H1 hi ⟨s1,st',ha',pp,pxs,hst',hha',hpp,lpp,v11,v12,v13,rfl⟩;generalize hm:cZ S.net S.cur i=m at *;have mok:MomOk S.net m:=by rw[<- hm];exact mF sok.cur i
    have e1:cZ S.net S.cur (i+1)=m.step S.net:=by rw[<- hm];rfl
    have e2:cM S.net S.cur (i+1)=cM S.net S.cur i++fY S.net m:=by rw[<- hm];rfl
    have hx1:=Is.mono s1.ts _ _ hx;obtain⟨ay,a1,a2,a3,rfl,qy,p1,p2,p3⟩:=qS hst';refine⟨_,rfl,_,rfl,_,rfl,_,rfl,x,.ref ay,ha',S.net,_,_,_,_,rfl,hx1,hst',.inl hha',nok,mok.st,mok.pl,λ hl H2 s2 hl0 hhl=>?_⟩;refine⟨false,hl,_,rfl,bV.of hhl,_,_,rfl,rfl,_,rfl,.inr (.inl ⟨ay,_,0,_,rfl,rfl,s2.tup qy,rfl,true,a1,_,rfl,s2.tup p1,_,_,rfl,rfl,_,rfl,.inr (.inl ⟨ay,_,1,_,rfl,rfl,s2.tup qy,rfl,true,a2,_,rfl,s2.tup p2,_,_,rfl,rfl,?_⟩)⟩)⟩;have ecame:m.came+(aP S.net m.held m.coming m.poured m.doors).sum - m.held.sum - m.coming.sum=(m.step S.net).came:=by
     rw[D9 nok mok];show _=m.came+(m.poured.sum+dA S.net.sps m.doors);omega
    dsimp only;rw[ecame];refine⟨_,rfl,_,rfl,_,rfl,x,.ref ay,ha',S.net,_,_,_,_,rfl,Is.mono s2.ts _ _ hx1,Is.mono s2.ts _ _ hst',.inl (s2.tup hha'),nok,mok.st,mok.pl,λ l q1 q2 H3 s3 hl3 i1 i2=>?_⟩;refine⟨l,_,rfl,bV.of hl3,rfl,_,_,rfl,_,_,rfl,_,_,rfl,rfl,?_⟩;have s13:=s2.trans s3;refine⟨(show 1<=sizeLine by decide),λ o ho=>?_⟩;have so:=aG.new (o:=HO.tup [.int 0]) ho;have hpl:(m.poured.map V.int).length=S.net.vs.length:=by rw[aad];exact mok.pl
    refine⟨_,rfl,ha',_,rfl,.inr (so.tup (s13.tup hha')),o,_,[.int 0],rfl,rfl,bH.of aD,by omega,by omega,by simp,by decide,λ z H4 s4 qz=>?_⟩;have en:(((m.poured.map V.int).length:Nat):Int).toNat=S.net.vs.length:=by rw[hpl];simp
    rw[en,yB] at qz;have s34:=so.trans s4;have s14:=s13.trans s34;obtain⟨ta,txs,rfl,qt,lt⟩:=(Is.mono s34.ts _ _ i2).un;have hlt:txs.length=(m.tk S.net).tip.length:=by rw[lt.length,aad];rfl
    have htl:=uU S.net m;refine⟨_,rfl,_,rfl,ta,rfl,⟨_,qt⟩,jN (K:=K) (a:=ta) (xs:=txs) (λ D n rr Z H'=>H4 D=none/\aG H4 H'/\H' D=some (.lst rr)/\IsL K H' (((fY S.net m).take n).map fH) rr/\∃ u,Z=[u,some (.int m.tick)])
     (λ D n rr Z H' p=>p.2.1.tup qt) (λ D hD=>⟨hD,aG.new hD,aD,.nil,none,rfl⟩) ?_ ?_⟩
    rotate_left
    ·rintro D n y rr Z H5 hy ⟨hD,s5,hDl,lr,u,rfl⟩;have hnl:=(aag.mp hy).1;obtain⟨dd,hdd,iy⟩:=L2.IsL.get' lt hy;rw[aah] at hdd;obtain⟨num,hnum,rfl⟩:=aba.mp hdd;have:=iy.ui;subst this;have hrl:rr.length<=12:=by rw[lr.length,aad,aau];omega
     refine eV ?_;refine⟨_,rfl,_,rfl,(show 2<=sizeLine by decide),λ e he=>⟨aG.new he _ _ hDl,aW (by omega),hD,(s5.trans (aG.new he)).put hD,aD,?_,_,rfl⟩⟩;have ht:(fY S.net m)[n]? = some (m.tick,num):=by unfold fY;rw[aah,show (m.tk S.net).tip[n]? = some num from hnum];rfl
     rw[aX ht,aal];have mu:t9 (upd H5 e (.tup [.int m.tick,.int (num:Int)]) D):=by rw[aG.new he _ _ hDl];exact trivial
     have ts6:bT K (upd H5 e (.tup [.int m.tick,.int (num:Int)])) (upd (upd H5 e (.tup [.int m.tick,.int (num:Int)])) D (.lst (rr++[.ref e]))):=dU.ts dU.upd mu;exact L2.IsL.snoc (Is.tupOf (ds:=[.int m.tick,.int (num:Int)]) (ts6 _ _ (bH.of aD)) (.cons (Is.i _) (.cons (Is.i _) .nil))) (L2.IsL.mono ((aG.new he).ts.trans ts6) _ _ lr)
    ·rintro D rr Z H5 ⟨hD,s5,hDl,lr,_⟩;have hta:txs.length=(fY S.net m).length:=by unfold fY;rw[aad];exact hlt
     rw[hta,aaq] at lr;have hpx:pxs.length<=12 * i:=by rw[lpp.length,aad];exact gG nok i
     have hrl:rr.length<=12:=by rw[lr.length,aad];unfold fY;rw[aad];omega
     have s15:=s14.trans s5;refine⟨pp,D,pxs,rr,rfl,rfl,s15 _ _ hpp,hDl,aca (iF (by omega)),λ np hnp=>?_⟩;have s6:=aG.new (o:=HO.lst (pxs++rr)) hnp;have s56:=s5.trans s6;have s16:=s15.trans s6;refine⟨_,rfl,_,rfl,_,_,rfl,rfl,_,rfl,_,_,rfl,rfl,?_⟩;rw[e1,e2];refine⟨s1.trans s16,q1,z,np,pxs++rr,Is.mono (s34.trans s56).ts _ _ i1,s56.tup qz,aD,?_,_,_,_,rfl⟩;rw[aal];exact IsL.app (L2.IsL.mono s16.ts _ _ lpp) (L2.IsL.mono s6.ts _ _ lr)
   ·rintro Z H1 ⟨s1,st',ha',pp,pxs,hst',hha',hpp,lpp,v11,v12,v13,rfl⟩;generalize hm:cZ S.net S.cur kk=m at *;have hpx:pxs.length<=12 * kk:=by rw[lpp.length,aad];exact gG nok kk
    have hT1:=s1 _ _ c.hT;have hts:ts.length=S.net.vs.length:=by rw[c.len];exact sok.tl
    refine⟨_,rfl,tl,_,rfl,.inl (bV.of hT1),_,rfl,by omega,by rw[aad];omega,?_⟩;have en:(((ts.map V.ref).length:Nat):Int).toNat=S.net.vs.length:=by rw[aad,hts];simp
    rw[en];refine jO (n:=S.net.vs.length) (λ D n rr Z H'=>H1 D=none/\aG H1 H'/\H' D=some (.lst rr)/\(∃ ns:List Addr,rr=ns.map V.ref/\ns.length=n/\(∀ t∈ns,H1 t=none/\t≠D)/\∀ i t l,ns[i]? = some t->S.tips[i]? = some l->H' t=some (.lst ((l++nK (cM S.net S.cur kk) i).map V.int)))/\
     ∃ u,Z=[u,some (.ref tl),some (.ref pp)]) (λ D hD=>⟨hD,aG.new hD,aD,⟨[],rfl,rfl,λ t ht=>(nomatch ht),λ i t l h=>by simp at h⟩,none,rfl⟩) ?_ ?_
    rotate_left
    ·rintro D n rr Z H2 hn ⟨hD,s2,hDl,⟨ns,rfl,hns,hfr,hti⟩,u,rfl⟩;refine eV ?_;have hnt:ts[n]? = some (ts[n]'(by omega)):=by simp
     have hnl:S.tips[n]? = some (S.tips[n]'(by rw[sok.tl];exact hn)):=by simp
     generalize ts[n]'(by omega)=tn at hnt;generalize S.tips[n]'(by rw[sok.tl];exact hn)=ln at hnl;have htn:=s1 _ _ (c.ti n tn ln hnt hnl);have hln:ln.length<=B:=sz.tips ln (aao hnl);refine⟨_,rfl,_,rfl,.inl ⟨tl,_,(n:Int),_,rfl,rfl,bV.of (s2 _ _ hT1),cE (by rw[aah,hnt];rfl),?_⟩⟩;refine⟨_,rfl,pp,rfl,⟨_,bV.of (s2 _ _ hpp)⟩,sN (K:=K) (a:=pp) (xs:=pxs) (λ D2 i2 r2 Z H'=>H2 D2=none/\aG H2 H'/\H' D2=some (.lst r2)/\r2=(nK ((cM S.net S.cur kk).take i2) n).map V.int/\∃ u,Z=[u,some (.int (n:Int))])
      (λ D2 i2 r2 Z H' p=>bV.of (p.2.1 _ _ (s2 _ _ hpp))) (λ D2 hD2=>⟨hD2,aG.new hD2,aD,rfl,none,rfl⟩) ?_ ?_⟩
     rotate_left
     ·rintro D2 i2 y r2 Z H3 hy ⟨hD2,s3,hD2l,rfl,u,rfl⟩;obtain⟨dd,hdd,iy⟩:=L2.IsL.get' lpp hy;rw[aah] at hdd;obtain⟨pr,hpr,rfl⟩:=aba.mp hdd;obtain⟨ya,yxs,rfl,qy,ly⟩:=(show Is K H1 (.tup [.int pr.1,.int (pr.2:Int)]) y from iy).un;obtain⟨y1,r,rfl,h1,ly⟩:=ly.un;obtain⟨y2,r,rfl,h2,ly⟩:=ly.un;have:=ly.un0;subst this;rw[h1.ui,h2.ui] at qy;have s13:=s2.trans s3;have hil:=(aag.mp hy).1;have hfl:=uH ((cM S.net S.cur kk).take i2) n;rw[aau] at hfl;refine⟨_,rfl,.inr (.inl ⟨ya,_,1,_,rfl,rfl,s13.tup qy,rfl,_,rfl,rfl,_,rfl,?_⟩)⟩;have snoc:=yN ((cM S.net S.cur kk).take i2) pr n;rw[<- aX hpr] at snoc
      by_cases e:pr.2=n
      ·rw[if_pos e] at snoc;have:decide (V.int (pr.2:Int)=V.int (n:Int))=true:=by rw[e];simp
       refine (show (if decide (V.int (pr.2:Int)=V.int (n:Int))=true then _ else _) from ?_);rw[if_pos this];refine⟨_,rfl,.inr (.inl ⟨ya,_,0,_,rfl,rfl,s13.tup qy,rfl,hD2l,iF (by rw[aad];omega),hD2,s3.put hD2,aD,?_,_,rfl⟩)⟩;rw[snoc,aal];rfl
      ·rw[if_neg e,acg] at snoc;have:¬ decide (V.int (pr.2:Int)=V.int (n:Int))=true:=by
        intro z;have:=abp z;injection this with this;omega
       refine (show (if decide (V.int (pr.2:Int)=V.int (n:Int))=true then _ else _) from ?_);rw[if_neg this];exact⟨hD2,s3,hD2l,by rw[snoc],_,rfl⟩
     ·rintro D2 r2 Z H3 ⟨hD2,s3,hD2l,rfl,_⟩;have hpxl:pxs.length=(cM S.net S.cur kk).length:=by rw[lpp.length,aad]
      rw[hpxl,aaq] at hD2l;have hfl:=uH (cM S.net S.cur kk) n;refine⟨tn,D2,_,_,rfl,rfl,s3 _ _ (s2 _ _ htn),hD2l,aca (iF (by rw[aad,aad];omega)),λ nt hnt'=>?_⟩;have s4:=aG.new (o:=HO.lst (ln.map V.int++(nK (cM S.net S.cur kk) n).map V.int)) hnt';have hDl4:=s4 _ _ (s3 _ _ hDl);have ntD:nt≠D:=λ z=>by rw[z,s3 _ _ hDl] at hnt';cases hnt'
      have s24:=s3.trans s4;refine⟨hDl4,aW (by rw[aad];omega),hD,(s2.trans s24).put hD,aD,⟨ns++[nt],by rw[aal];rfl,by simp [hns],λ t ht=>?_,λ i t l h1 h2=>?_⟩,_,rfl⟩
      ·rcases abg.1 ht with z | z
       ·exact hfr t z
       ·have:t=nt:=by simpa using z
        subst this;exact⟨(s2.trans s3).free hnt',ntD⟩
      ·have hil:=(aag.mp h1).1;rw[aap,abh] at hil
       by_cases e:i < n
       ·rw[aci (by omega)] at h1;rw[aM (hfr t (aao h1)).2];exact s24 _ _ (hti i t l h1 h2)
       ·have:i=n:=by omega
        subst this;rw[ach (by omega)] at h1;rw[hns,Nat.sub_self] at h1;have:nt=t:=by simpa using h1
        subst this;rw[hnl] at h2;cases h2;rw[aM ntD,aal];exact aD
    ·rintro D rr Z H2 ⟨hD,s2,hDl,⟨ns,rfl,hns,hfr,hti⟩,_⟩;have s12:=s1.trans s2;refine⟨_,rfl,_,rfl,_,rfl,_,rfl,_,rfl,_,rfl,_,rfl,_,rfl,.inr (.inl ⟨d,_,1,_,rfl,rfl,s12.tup qd,rfl,_,rfl,pp,_,rfl,.inl ⟨bV.of (s2 _ _ hpp),λ tp htp=>⟨(show 3<=sizeLine by decide),λ rw' hrw=>⟨(show 1<=sizeLine by decide),λ e he=>?_⟩⟩⟩⟩)⟩;have s3:=aG.new (o:=HO.tup pxs) htp;have s4:=aG.new (o:=HO.tup [.str "go",.int (kk:Int),.ref tp]) hrw;have s5:=aG.new (o:=HO.lst [.ref rw']) he;have s15:=((s12.trans s3).trans s4).trans s5;refine⟨bl,e,bs,_,rfl,rfl,s15 _ _ c.hB,aD,aca (iF (by rw[abh];omega)),λ nb hnb=>⟨(show 7<=sizeLine by decide),λ p hp=>?_⟩⟩;have s6:=aG.new (o:=HO.lst (bs++[.ref rw'])) hnb;have s7:=aG.new (o:=HO.tup [st',.ref ha',.int m.tick,.ref D,.int m.came,.int m.ground,.ref nb]) hp;have s57:=(s5.trans s6).trans s7;have s27:=((s2.trans s3).trans s4).trans s57;have s07:=s1.trans s27;refine k _ _ s07 ⟨p,st',ha',D,nb,ns,bs++[.ref rw'],rfl,?_⟩;have ecur:(S.deed (.go kk)).cur=m:=hm;exact {
      tup:=by rw[ecur];exact bH.of aD
      hst:=by rw[ecur];exact Is.mono s27.ts _ _ hst'
      hha:=by rw[ecur];exact s27.tup hha'
      hT:=s7 _ _ (s6 _ _ (s5 _ _ (s4 _ _ (s3 _ _ hDl))))
      len:=by
       show ns.length=(List.foldl dY S.tips (cM S.net S.cur kk)).length;rw[jT,hns];exact sok.tl.symm
      ti:=λ i t l h1 h2=>by
       have hil:i < S.tips.length:=by rw[sok.tl,<- hns];exact (aag.mp h1).1
       have hl:S.tips[i]? = some S.tips[i]:=by simp [hil]
       have h3:=jU (cM S.net S.cur kk) S.tips i _ hl;have h4:some l=some (S.tips[i]++nK (cM S.net S.cur kk) i):=h2.symm.trans h3;cases h4;exact s7 _ _ (s6 _ _ (s5 _ _ (s4 _ _ (s3 _ _ (hti i t _ h1 hl)))))
      hB:=s7 _ _ aD
      lB:=by
       show IsL K _ ((S.rows++[Row.go (kk:Int) (cM S.net S.cur kk)]).map iG) _;rw[aal];refine L2.IsL.snoc ?_ (L2.IsL.mono s07.ts _ _ c.lB);refine Is.tupOf (ds:=[.str "go",.int (kk:Int),.tup ((cM S.net S.cur kk).map fH)]) (s57.tup (bH.of aD)) (.cons (Is.s _) (.cons (Is.i _) (.cons ?_ .nil)));exact Is.tupOf ((s4.trans s57).tup (bH.of aD)) (L2.IsL.mono s27.ts _ _ lpp)
      aT:=.inr (s1.free hD)
      aB:=.inr (s15.free hnb)
      aI:=λ t ht=>.inr (s1.free (hfr t ht).1) }
def vC (K:aaa):Sp:=λ vs H Q _=>∃ (t sl ha:Addr) (x:V) (net:Net) (ps:List Int) (left:Int),vs=[.ref t,x,.ref ha,.int left]/\dH H t sl/\Is K H (gZ net) x/\NetOk net/\bH K H ha (ps.map V.int)/\ps.length=net.vs.length/\0<=left/\
 ∀ (d:Deed) u H',Ext t sl H H'->Is K H' (xJ d) u->(match d with | .pour v _=>0<=v/\v < net.vs.length | .go k=>k<=41/\(k:Int)<=left)->Q u H'
theorem gW:FnScope ["tape","net","hand","left","vessel","amount"] ["tape","net","hand","left"] (aR (bO 37)):={}
theorem mD {f f1:Addr}{fd fd1:FuncData} (F:Fun K "_law_book_deed" "_law_book_deed" (bO 37) f fd) (T:Txt mg) (G__law_draw:Callee P w K mg base "_law_draw" ["tape","many"] 1 fZ f1 fd1) :
  FnOk P w K mg base gQ 2 f fd ["tape","net","hand","left"] (vC K):=by
 refine F.ok gW (λ vs H Q E h=>?_) (λ cdv A outer s H vs Q E hr h=>?_)
 ·obtain⟨t,sl,ha,x,net,ps,left,rfl,_⟩:=h;rfl
 ·obtain⟨t,sl,ha,x,net,ps,left,rfl,tp,hx,nok,hq,hpl,h0,k⟩:=h;have sc:=gW;refine⟨_,(aF (cQ (bN iW (cN G__law_draw hr (aA (pv 0) (aA aE aC))) aE (bQ _)) (aF (pL 4 sc.nd (cN G__law_draw hr (aA (pv 0) (aA (mS K T.b_len (px K (pv 1) aE)) aC))))
   (aF (pL 5 sc.nd (px K (b9 (aA (cN G__law_draw hr (aA (pv 0) (aA aE aC))) (aA (cN G__law_draw hr (aA (pv 0) (aA aE aC))) aC))) (aK fM (cN G__law_draw hr (aA (pv 0) (aA aE aC))) aE)))
   (aJ (aY (aO (aA cI (aA (pv 4) (aA (bF (kF rfl) rfl T.b_min PyProof.Rows.boot_min (aA (pv 5) (aA (aK d8 aE (px K (pv 2) (pv 4))) aC))) aC)))))))) bK)
   (aJ (aY (aO (aA cI (aA (bF (kF rfl) rfl T.b_min PyProof.Rows.boot_min (aA (pv 3) (aA (px K (b9 (aA (cN G__law_draw hr (aA (pv 0) (aA aE aC))) (aA (cN G__law_draw hr (aA (pv 0) (aA aE aC))) aC))) (aK fM (cN G__law_draw hr (aA (pv 0) (aA aE aC))) aE)) aC))) aC)))))),?_⟩
  have n1:=nok.lo;have n2:=nok.hi;refine uB (t:=t) (sl:=sl) (H0:=H) (bD rfl (by decide) (by decide)) ⟨dU.refl _,tp⟩ λ b H1 e1 _=>?_;have ts1:=e1.bt.ts (K:=K) tp.mut;cases b with
  | true=>
   refine cR ?_;obtain⟨na,nb,nc,xs,ys,rfl,q,q1,l1,q2,l2⟩:=g6 (Is.mono ts1 _ _ hx);have exl:xs.length=net.vs.length:=by rw[l1.length,aad]
   refine⟨_,rfl,_,rfl,.inr (.inl ⟨na,_,0,_,rfl,rfl,q,rfl,nb,xs,rfl,.inr q1,t,sl,_,rfl,e1.tp,by omega,by omega,λ v H2 b2 t2 r0 r1=>?_⟩)⟩;have ts2:=ts1.trans (b2.ts (K:=K) e1.tp.mut);refine eW (t:=t) (sl:=sl) (H0:=H2) (P:=cU 0 1001) (iX (bD rfl (by decide) (by decide)) (Int.le_refl _) (by decide)) (bD rfl (by decide) (by decide)) (iO (bD rfl (by decide) (by decide))) _ _ ⟨dU.refl _,t2⟩ ?_;rintro v' H3 e3 _ ⟨am,rfl,a0,a1⟩;have ts3:=ts2.trans (e3.bt.ts (K:=K) t2.mut);have hvl:v.toNat < ps.length:=by omega
   have hg:(ps.map V.int)[v.toNat]? = some (.int ps[v.toNat]):=by rw[aah,aax hvl];rfl
   refine⟨_,rfl,_,rfl,_,rfl,_,rfl,.inr (.inl ⟨ha,_,v,_,rfl,rfl,ts3 _ _ hq,gY r0 hg,_,_,rfl,rfl,_,_,rfl,(show 3<=sizeLine by decide),λ p hp=>?_⟩)⟩;generalize (if 1000 - ps[v.toNat] < am then 1000 - ps[v.toNat] else am)=a' at hp ⊢;refine k (.pour v a') _ _ ⟨((e1.bt.trans b2).trans e3.bt).trans (aG.new hp).but,e3.tp.same (aG.new hp)⟩ ?_ ⟨r0,by omega⟩;exact Is.tupOf (ds:=[.str "pour",.int v,.int a']) (bH.of aD) (.cons (Is.s _) (.cons (Is.i _) (.cons (Is.i _) .nil)))
  | false=>
   refine cT ?_;refine⟨_,rfl,?_⟩;refine eW (t:=t) (sl:=sl) (H0:=H1) (P:=cU 0 41) (iX (bD rfl (by decide) (by decide)) (Int.le_refl _) (by decide)) (bD rfl (by decide) (by decide)) (iO (bD rfl (by decide) (by decide))) _ _ ⟨dU.refl _,e1.tp⟩ ?_;rintro v' H3 e3 _ ⟨am,rfl,a0,a1⟩;refine⟨_,_,rfl,(show 2<=sizeLine by decide),λ p hp=>?_⟩;have ha':0<=(if am < left then am else left)/\(if am < left then am else left)<=41/\(if am < left then am else left)<=left:=by split <;> omega
   generalize (if am < left then am else left)=a' at hp ha' ⊢;obtain⟨g0,g1,g2⟩:=ha';obtain⟨j,rfl⟩:=Int.eq_ofNat_of_zero_le g0;refine k (.go j) _ _ ⟨(e1.bt.trans e3.bt).trans (aG.new hp).but,e3.tp.same (aG.new hp)⟩ ?_ ⟨by omega,by omega⟩;exact Is.tupOf (ds:=[.str "go",.int (j:Int)]) (bH.of aD) (.cons (Is.s _) (.cons (Is.i _) .nil))
section
variable {σ:St}{H:Hp}{Q:VK}{t sl r rl na nb:Addr}{S:RunS}{fp:List Addr}{i j l:Nat}{n m v x:Int}{xs ys:List V}{u:V}
end
end Tw
namespace L2
open PySem PySem.Spec PyProof.Rows TwZ
section
variable {X:Cx}
theorem IsL.unsnoc {H:Hp}{ds:List D}{d:D}:∀ {xs:List V},IsL K H (ds++[d]) xs->∃ ys y,xs=ys++[y]/\IsL K H ds ys/\Is K H d y:=by
 induction ds with
 | nil=>
  intro xs h;obtain⟨x,r,rfl,h1,h2⟩:=(show IsL K H [d] xs from h).un;have:=h2.un0;subst this;exact⟨[],x,rfl,.nil,h1⟩
 | cons e ds ih=>
  intro xs h;obtain⟨x,r,rfl,h1,h2⟩:=(show IsL K H (e::(ds++[d])) xs from h).un;obtain⟨ys,y,rfl,h3,h4⟩:=ih h2;exact⟨x::ys,y,rfl,.cons h1 h3,h4⟩
end
end L2
namespace Tw
open PySem L2
structure TxtB (mg:Str->Option Value):Prop where
 g_MOST_POURED:∃ u,mg "MOST_POURED" = some u/\bM (.int 1000) u
 g_MOST_TICKS:∃ u,mg "MOST_TICKS" = some u/\bM (.int 3000) u
def zY (net:Net) (m:Mom):Row->Option Mom
 | .pour v a=>some (m.pour v a)
 | .go n ts=>if ts=cM net m n.toNat then some (cZ net m n.toNat) else none
def AJ:Option Nat->V
 | none=>.non
 | some i=>.int (i:Int)
theorem qV {net:Net}{m:Mom}{n:Int}{ts:List (Int×Nat)} (h:ts=cM net m n.toNat):zY net m (.go n ts)=some (cZ net m n.toNat):=if_pos h
theorem zX {net:Net}{m:Mom}{n:Int}{ts:List (Int×Nat)} (h:¬ ts=cM net m n.toNat):zY net m (.go n ts)=none:=if_neg h
theorem MomOk.row {net:Net}{m m':Mom}{r:Row} (h:MomOk net m) (e:zY net m r=some m'):MomOk net m':=by
 cases r with
 | pour v a=>cases (show some (m.pour v a)=some m' from e);exact h.pour v a
 | go n ts=>
  by_cases q:ts=cM net m n.toNat
  ·rw[qV q] at e;cases e;exact mF h _
  ·rw[zX q] at e;cases e
theorem EI {K:aaa}{H:Hp}{r:Row}{x:V} (h:Is K H (iG r) x):∃ (a:Addr) (w:Str) (n:Int) (y:V),x=.ref a/\bH K H a [.str w,.int n,y]/\
  ((∃ m,r=.pour n m/\w = "pour" /\ y=.int m)\/∃ (ts:List (Int×Nat)) (b:Addr) (ys:List V),r=.go n ts/\w = "go" /\ y=.ref b/\bH K H b ys/\IsL K H (ts.map fH) ys):=by
 cases r with
 | pour v a=>
  obtain⟨d,xs,rfl,q,l⟩:=(show Is K H (.tup [.str "pour",.int v,.int a]) x from h).un;obtain⟨x1,r,rfl,h1,l⟩:=l.un;obtain⟨x2,r,rfl,h2,l⟩:=l.un;obtain⟨x3,r,rfl,h3,l⟩:=l.un;have:=l.un0;subst this;rw[h1.us,h2.ui,h3.ui] at q;exact⟨d,_,_,_,rfl,q,.inl ⟨a,rfl,rfl,rfl⟩⟩
 | go n ts=>
  obtain⟨d,xs,rfl,q,l⟩:=(show Is K H (.tup [.str "go",.int n,.tup (ts.map fH)]) x from h).un;obtain⟨x1,r,rfl,h1,l⟩:=l.un;obtain⟨x2,r,rfl,h2,l⟩:=l.un;obtain⟨x3,r,rfl,h3,l⟩:=l.un;have:=l.un0;subst this;rw[h1.us,h2.ui] at q;obtain⟨b,ys,rfl,q3,l3⟩:=h3.un;exact⟨d,_,_,_,rfl,q,.inr ⟨ts,b,ys,rfl,rfl,rfl,q3,l3⟩⟩
theorem zP {K:aaa}{H:Hp}{t:Int×Nat}{x:V} (h:Is K H (fH t) x):∃ a,x=.ref a/\bH K H a [.int t.1,.int (t.2:Int)]:=by
 obtain⟨d,xs,rfl,q,l⟩:=(show Is K H (.tup [.int t.1,.int (t.2:Int)]) x from h).un;obtain⟨x1,r,rfl,h1,l⟩:=l.un;obtain⟨x2,r,rfl,h2,l⟩:=l.un;have:=l.un0;subst this;rw[h1.ui,h2.ui] at q;exact⟨d,rfl,q⟩
def kW (K:aaa):Sp:=λ vs H Q _=>∃ (x:V) (m:Mom) (v:Int),vs=[x,.int v]/\Is K H (jK m) x/\0<=v/\v < m.poured.length/\Q (.int (1000 - m.poured.getD v.toNat 0)) H
theorem iT:FnScope ["moment","vessel"] ["moment","vessel"] (aR (bO 17)):={}
theorem o7 {f:Addr}{fd:FuncData} (F:Fun K "most_to_pour" "most_to_pour" (bO 17) f fd) (T:Txt mg) (U:TxtB mg):FnOk P w K mg base gQ 1 f fd ["moment","vessel"] (kW K):=by
 refine F.ok iT (λ vs H Q E h=>?_) (λ cdv A outer s H vs Q E hr h=>?_)
 ·obtain⟨x,m,v,rfl,_⟩:=h;rfl
 ·obtain⟨x,m,v,rfl,hx,v0,v1,k⟩:=h;have sc:=iT;refine⟨_,(aJ (aY (aK d8 (tS rfl U.g_MOST_POURED) (px K (px K (pv 0) aE) (pv 1))))),?_⟩;obtain⟨ma,po,st,rfl,q,hs,hp⟩:=nI hx;have hlt:v.toNat < m.poured.length:=by omega
  have hg:m.poured[v.toNat]? = some (m.poured.getD v.toNat 0):=by rw[abd,aax hlt];rfl
  exact⟨_,rfl,.inr (.inl ⟨ma,_,2,_,rfl,rfl,q,rfl,_,rfl,.inr (.inl ⟨po,_,v,_,rfl,rfl,hp,gY v0 (by rw[aah,hg];rfl),_,_,rfl,rfl,k⟩)⟩)⟩
def lT (K:aaa):Sp:=λ vs H Q _=>∃ (x:V) (m:Mom),vs=[x]/\Is K H (jK m) x/\Q (.int (3000 - m.tick)) H
theorem kM:FnScope ["moment"] ["moment"] (aR (bO 18)):={}
theorem qH {f:Addr}{fd:FuncData} (F:Fun K "most_to_go" "most_to_go" (bO 18) f fd) (T:Txt mg) (U:TxtB mg):FnOk P w K mg base gQ 1 f fd ["moment"] (lT K):=by
 refine F.ok kM (λ vs H Q E h=>?_) (λ cdv A outer s H vs Q E hr h=>?_)
 ·obtain⟨x,m,rfl,_⟩:=h;rfl
 ·obtain⟨x,m,rfl,hx,k⟩:=h;have sc:=kM;refine⟨_,(aJ (aY (aK d8 (tS rfl U.g_MOST_TICKS) (px K (pv 0) aE)))),?_⟩;obtain⟨ma,po,st,rfl,q,hs,hp⟩:=nI hx;exact⟨_,rfl,.inr (.inl ⟨ma,_,0,_,rfl,rfl,q,rfl,_,_,rfl,rfl,k⟩)⟩
theorem nS:FnScope ["net","moment","vessel","amount"] ["net","moment","vessel","amount"] (aR (bO 25)):={}
theorem pB:FnScope ["thing","tipped"] ["thing","tipped"] (aR (bO 26)):={}
theorem jA:FnScope ["net","moment","row","word","what","last","behind","tipped"] ["net","moment","row"] (aR (bO 24)):={}
theorem lV:FnScope ["net","book","moment","place","row"] ["net","book"] (aR (bO 23)):={}
def uA:G->Int
 | .int i=>i
 | _=>0
def lQ (t:Int×Nat):G->Bool
 | .tup [a,b]=>cA t.1 t.1 a && cA t.2 t.2 b
 | _=>false
def dI:List G->List (Int×Nat)->List Bool
 | g::gs,t::ts=>lQ t g::dI gs ts
 | _,_=>[]
def gM (g:G) (ts:List (Int×Nat)):Bool:=gF ts.length ts.length g && (dI (FI g) ts).all id
def pE (net:Net) (m:Mom) (a b:G):Bool:=cA 0 ((net.vs.length:Int) - 1) a && cA 0 (1000 - m.poured.getD (uA a).toNat 0) b
def G2 (net:Net) (m:Mom) (a b:G):Bool:=cA 0 (3000 - m.tick) a && gM b (cM net m (uA a).toNat)
def rowG (net:Net) (m:Mom):G->Option Mom
 | .tup [w,a,b]=>if aS w (.str "pour") && pE net m a b then some (m.pour (uA a) (uA b)) else if aS w (.str "go") && G2 net m a b then some (cZ net m (uA a).toNat) else none
 | _=>none
def gO (net:Net):Mom->List G->Option Nat
 | _,[]=>none
 | m,g::gs=>match rowG net m g with
  | none=>some 0
  | some m'=>(gO net m' gs).map (· + 1)
theorem wY {net:Net}{m:Mom}{g:G}{gs:List G} (e:rowG net m g=none):gO net m (g::gs)=some 0:=by rw[gO,e]
theorem u5 {net:Net}{m m':Mom}{g:G}{gs:List G} (e:rowG net m g=some m'):gO net m (g::gs)=(gO net m' gs).map (· + 1):=by rw[gO,e]
theorem tN {net:Net}{m:Mom}{g:G} (h:gF 3 3 g=false):rowG net m g=none:=by
 unfold rowG;split
 ·simp [gF] at h
 ·rfl
theorem oT:∀ (gs:List G) (ts:List (Int×Nat)) (g:G) (t:Int×Nat),gs.length=ts.length->dI (gs++[g]) (ts++[t])=dI gs ts++[lQ t g]
 | [],[],_,_,_=>rfl
 | [],_::_,_,_,h=>by simp at h
 | _::_,[],_,_,h=>by simp at h
 | a::gs,b::ts,g,t,h=>by
  show lQ b a::dI (gs++[g]) (ts++[t])=lQ b a::(dI gs ts++[lQ t g]);rw[oT gs ts g t (by simpa using h)]
theorem qR:∀ (gs:List G) (ts:List (Int×Nat)),(dI gs ts).length<=ts.length
 | [],ts=>by cases ts <;> simp [dI]
 | g::gs,[]=>by simp [dI]
 | g::gs,t::ts=>by simp [dI];exact qR gs ts
theorem MomOk.rowG {net:Net}{m m':Mom}{g:G} (h:MomOk net m) (e:rowG net m g=some m'):MomOk net m':=by
 unfold Tw.rowG at e
 split at e
 ·split at e
  ·cases e;exact h.row (r:=.pour _ _) rfl
  ·split at e
   ·cases e;exact h.row (r:=.go (((uA _).toNat:Nat):Int) _) (qV (by rw[ace]))
   ·cases e
 ·cases e
theorem HP {a b c:G}{n:Nat} (h:cP (.tup [a,b,c])<=n+1):cP a<=n/\cP b<=n/\cP c<=n:=by
 rw[cP,cC,cC,cC,cC] at h;omega
section
variable {aw:Addr}
theorem kN:FnScope ["thing","low","high"] ["thing","low","high"] (aR (bO 30)):={}
end
theorem tL {n:Nat} (h:n<=10000000):n < sizeLine:=by rw[sizeLine_eq];omega
end Tw
namespace L2
open PySem PySem.Spec PyProof.Rows TwZ
end L2
namespace Tw
open PySem L2
section
variable {aw:Addr}
def rN (K:aaa):Sp:=λ vs H Q _=>∃ (x:V) (g:G) (lo hi:Int),vs=[x,.int lo,.int hi]/\aL K H g x/\Q (.bl (gF lo hi g)) H
def eU (K:aaa):Sp:=λ vs H Q _=>∃ (x:V) (g:G) (lo hi:Int),vs=[x,.int lo,.int hi]/\aL K H g x/\Q (.bl (cA lo hi g)) H
theorem sG {f:Addr}{fd:FuncData} (F:Fun K "is_tuple" "is_tuple" (bO 20) f fd) (T:Txt mg):FnOk P w K mg base gQ 1 f fd ["thing","least","most"] (rN K):=by
 refine F.ok nV (λ vs H Q E h=>?_) (λ cdv A outer s H vs Q E hr h=>?_)
 ·obtain⟨x,g,lo,hi,rfl,_⟩:=h;rfl
 ·obtain⟨x,g,lo,hi,rfl,hg,k⟩:=h;have sc:=nV;refine⟨_,(aJ (aY (gK (bF (dS (K:=K) rfl) rfl T.b_isinstance fE (aA (pv 0) (aA (g8 (v:=.ty "tuple") rfl T.b_tuple bW rfl) aC))) (jH (tT qX qX (pv 1) (mS K T.b_len (pv 0)) (pv 2)))))),?_⟩;refine⟨_,rfl,_,"tuple",g,rfl,by decide,hg,_,rfl,?_⟩;cases g with
  | tup gs=>
   refine cR ?_;obtain⟨a,xs,rfl,q,l⟩:=hg.ut;have el:=l.length;refine⟨_,rfl,_,rfl,a,xs,rfl,.inr q,_,_,rfl,rfl,_,rfl,?_⟩;rw[el];dsimp only [gF] at k;refine gP (λ h=>?_) (λ h=>?_)
   ·rw[h] at k;exact⟨_,rfl,_,_,rfl,rfl,k⟩
   ·rw[Bool.eq_false_iff.mpr h] at k;exact k
  | _=>exact cT k
theorem sF {f:Addr}{fd:FuncData} (F:Fun K "is_whole" "is_whole" (bO 21) f fd) (T:Txt mg):FnOk P w K mg base gQ 1 f fd ["thing","least","most"] (eU K):=by
 refine F.ok nU (λ vs H Q E h=>?_) (λ cdv A outer s H vs Q E hr h=>?_)
 ·obtain⟨x,g,lo,hi,rfl,_⟩:=h;rfl
 ·obtain⟨x,g,lo,hi,rfl,hg,k⟩:=h;have sc:=nU;refine⟨_,(aJ (aY (gK (bF (dS (K:=K) rfl) rfl T.b_isinstance fE (aA (pv 0) (aA (g8 (v:=.ty "int") rfl T.b_int lJ rfl) aC))) (gK (pG (bF (dS (K:=K) rfl) rfl T.b_isinstance fE (aA (pv 0) (aA (g8 (v:=.ty "bool") rfl T.b_bool sZ rfl) aC)))) (jH (tT qX qX (pv 1) (pv 0) (pv 2))))))),?_⟩;refine⟨_,rfl,_,"int",g,rfl,by decide,hg,_,rfl,?_⟩;cases g with
  | int n=>
   refine cR ?_;refine⟨_,rfl,_,"bool",.int n,rfl,by decide,hg,_,rfl,_,rfl,cR ?_⟩;obtain rfl:=hg.ui;refine⟨_,rfl,_,rfl,_,_,rfl,rfl,_,rfl,?_⟩;dsimp only [cA] at k;refine gP (λ h=>?_) (λ h=>?_)
   ·rw[h] at k;exact⟨_,rfl,_,_,rfl,rfl,k⟩
   ·rw[Bool.eq_false_iff.mpr h] at k;exact k
  | bl b=>
   refine cR ?_;exact⟨_,rfl,_,"bool",.bl b,rfl,by decide,hg,_,rfl,_,rfl,cT k⟩
  | _=>exact cT k
theorem pM {f:Addr}{fd:FuncData} (F:Fun K "_law_whole" "_law_whole" (bO 30) f fd) (T:Txt mg):FnOk P w K mg base gQ 1 f fd ["thing","low","high"] (eU K):=by
 refine F.ok kN (λ vs H Q E h=>?_) (λ cdv A outer s H vs Q E hr h=>?_)
 ·obtain⟨x,g,lo,hi,rfl,_⟩:=h;rfl
 ·obtain⟨x,g,lo,hi,rfl,hg,k⟩:=h;have sc:=kN;refine⟨_,(aJ (aY (gK (bF (dS (K:=K) rfl) rfl T.b_isinstance fE (aA (pv 0) (aA (g8 (v:=.ty "int") rfl T.b_int lJ rfl) aC))) (gK (pG (bF (dS (K:=K) rfl) rfl T.b_isinstance fE (aA (pv 0) (aA (g8 (v:=.ty "bool") rfl T.b_bool sZ rfl) aC)))) (gK (iK qX (pv 1) (pv 0) (bQ _)) (jH (iK qX (pv 0) (pv 2) (bQ _)))))))),?_⟩;refine⟨_,rfl,_,"int",g,rfl,by decide,hg,_,rfl,?_⟩;cases g with
  | int n=>
   refine cR ?_;refine⟨_,rfl,_,"bool",.int n,rfl,by decide,hg,_,rfl,_,rfl,cR ?_⟩;obtain rfl:=hg.ui;refine⟨_,rfl,_,rfl,_,_,rfl,rfl,_,rfl,?_⟩;dsimp only [cA] at k;refine gP (λ h=>?_) (λ h=>?_)
   ·rw[h] at k;exact⟨_,rfl,_,rfl,_,_,rfl,rfl,k⟩
   ·rw[Bool.eq_false_iff.mpr h] at k;exact k
  | bl b=>
   refine cR ?_;exact⟨_,rfl,_,"bool",.bl b,rfl,by decide,hg,_,rfl,_,rfl,cT k⟩
  | _=>exact cT k
theorem zO {g:G} (h:gF 2 2 g=true):∃ a b,g=.tup [a,b]:=by
 cases g with
 | tup gs=>
  simp only [gF,Bool.and_eq_true,decide_eq_true_eq] at h
  match gs,h with
  | [a,b],_=>exact⟨a,b,rfl⟩
  | [],h=>simp at h
  | [_],h=>simp at h
  | _::_::_::_,h=>simp at h;omega
 | _=>simp [gF] at h
theorem tI {g:G} (h:gF 3 3 g=true):∃ a b c,g=.tup [a,b,c]:=by
 cases g with
 | tup gs=>
  simp only [gF,Bool.and_eq_true,decide_eq_true_eq] at h
  match gs,h with
  | [a,b,c],_=>exact⟨a,b,c,rfl⟩
  | [],h=>simp at h
  | [_],h=>simp at h
  | [_,_],h=>simp at h
  | _::_::_::_::_,h=>simp at h;omega
 | _=>simp [gF] at h
end
section
variable {H:Hp}{r:Addr}{S:RunS}{fp:List Addr}
variable {t sl kl:Addr}{p:V}{net:Net}{l:List RunS}
end
section
variable {t sl:Addr}{σ:St}{H0:Hp}{a:TE}
end
theorem lI:∀ ts:List (Int×Nat),cC (eY (ts.map fH))<=1
 | []=>by rw[acb,eY,cC];exact aar _
 | t::ts=>by
  rw[abk,eY,cC];have h:=lI ts;have e:cP (qE (fH t))=1:=by unfold fH;simp [qE,eY,cP,cC]
  rw[e];omega
theorem uK (r:Row):cP (qE (iG r))<=3:=by
 cases r with
 | pour v a=>
  show cP (qE (.tup [.str "pour",.int v,.int a]))<=3;simp [qE,eY,cP,cC]
 | go n ts=>
  show cP (qE (.tup [.str "go",.int n,.tup (ts.map fH)]))<=3;have:=lI ts;simp only [qE,eY,cP,cC];omega
def wD:Int:=10 ^ (60:Int).toNat
theorem BW:(100000:Int)<=wD:=by unfold wD;decide
def fC:G->Bool
 | .tup [a,b]=>cA (0 - wD) wD a && cA (0 - wD) wD b
 | _=>false
def nB:G->Bool
 | .tup gs=>gs.all fC
 | _=>false
theorem CT {g:G} (h:fC g=true):∃ x y,g=.tup [.int x,.int y]:=by
 unfold fC at h
 split at h
 ·rw[Bool.and_eq_true] at h;obtain⟨x,rfl,_⟩:=eA h.1;obtain⟨y,rfl,_⟩:=eA h.2;exact⟨x,y,rfl⟩
 ·cases h
theorem BZ {t:Int×Nat}{g:G} (h:fC g=true):aS (qE (fH t)) g=lQ t g:=by
 obtain⟨x,y,rfl⟩:=CT h;unfold fH;simp only [qE,eY,aS,eK,lQ,cA,Bool.and_true];rw[Bool.eq_iff_iff];simp only [Bool.and_eq_true,beq_iff_eq,decide_eq_true_eq];omega
theorem u7:∀ (ts:List (Int×Nat)) (gs:List G),gs.all fC=true->eK (eY (ts.map fH)) gs=(decide (gs.length=ts.length) && (dI gs ts).all id)
 | [],[],_=>by simp [eY,eK,dI]
 | [],_::_,_=>by simp [eY,eK]
 | _::_,[],_=>by simp [eY,eK]
 | t::ts,g::gs,h=>by
  rw[List.all_cons,Bool.and_eq_true] at h;rw[abk,eY,eK,BZ h.1,u7 ts gs h.2];simp only [dI,List.all_cons,id,abf];have:decide (gs.length+1=ts.length+1)=decide (gs.length=ts.length):=by simp
  rw[this];cases lQ t g <;> cases decide (gs.length=ts.length) <;> simp
theorem D3 {b:G}{ts:List (Int×Nat)} (h:nB b=true):aS (.tup (eY (ts.map fH))) b=gM b ts:=by
 cases b with
 | tup gs=>
  rw[aS,u7 ts gs h];simp only [gM,gF,FI];congr 1;rw[Bool.eq_iff_iff,Bool.and_eq_true,decide_eq_true_eq,decide_eq_true_eq,decide_eq_true_eq];omega
 | _=>simp [nB] at h
theorem oS:∀ (gs:List G) (ts:List (Int×Nat)),gs.length=ts.length->(dI gs ts).all id=true->(∀ t∈ts,0<=t.1/\t.1<=3000/\t.2<=12)->gs.all fC=true
 | [],_,_,_,_=>rfl
 | g::gs,[],h,_,_=>by simp at h
 | g::gs,t::ts,h,ha,hb=>by
  simp only [dI,List.all_cons,id,Bool.and_eq_true] at ha;rw[List.all_cons,Bool.and_eq_true];refine⟨?_,oS gs ts (by simpa using h) ha.2 λ t ht=>hb t (aay _ ht)⟩;have hg:=ha.1;have hz:=BW;obtain⟨b1,b2,b3⟩:=hb t abi;unfold lQ at hg
  split at hg
  ·rw[Bool.and_eq_true] at hg;obtain⟨x,rfl,x1,x2⟩:=eA hg.1;obtain⟨y,rfl,y1,y2⟩:=eA hg.2;simp only [fC,cA,Bool.and_eq_true,decide_eq_true_eq];omega
  ·cases hg
theorem vV {b:G}{ts:List (Int×Nat)} (h:gM b ts=true) (hb:∀ t∈ts,0<=t.1/\t.1<=3000/\t.2<=12):nB b=true:=by
 unfold gM at h;rw[Bool.and_eq_true] at h;cases b with
 | tup gs=>
  have h1:=h.1;simp only [gF,Bool.and_eq_true,decide_eq_true_eq] at h1;exact oS gs ts (by omega) h.2 hb
 | _=>simp [gF] at h
theorem wH {net:Net}{m:Mom}:∀ (i:Nat) (t:Int×Nat),t∈cM net m i->m.tick<=t.1/\t.1 < m.tick+i
 | 0,t,h=>by simp [cM] at h
 | i+1,t,h=>by
  rw[cM,abg] at h;rcases h with h | h
  ·have:=wH i t h;omega
  ·unfold fY at h;obtain⟨k,_,rfl⟩:=acm.mp h;show m.tick<=(cZ net m i).tick/\(cZ net m i).tick < _;rw[gB];omega
theorem xH {a:Str}{w:G}:aS (.str a) w=aS w (.str a):=by
 cases w with
 | str z=>simp only [aS];rw[Bool.eq_iff_iff,beq_iff_eq,beq_iff_eq];exact⟨Eq.symm,Eq.symm⟩
 | _=>simp [aS]
theorem BD {a:Str}{w:G} (h:aS w (.str a)=true):w=.str a:=by
 cases w with
 | str z=>simp only [aS,beq_iff_eq] at h;rw[h]
 | _=>simp [aS] at h
theorem in2 {w:G}:DR w [.str "pour",.str "go"]=(aS w (.str "pour") || aS w (.str "go")):=by
 unfold DR;simp only [List.any_cons,List.any_nil,Bool.or_false];rw[xH,xH]
def kY (K:aaa):Sp:=λ vs H Q _=>∃ (x y z u:V) (net:Net) (m:Mom) (a b:G),vs=[x,y,z,u]/\Is K H (gZ net) x/\Is K H (jK m) y/\MomOk net m/\aL K H a z/\aL K H b u/\Q (.bl (pE net m a b)) H
theorem sE {f f1 f2:Addr}{fd fd1 fd2:FuncData} (F:Fun K "may_pour" "may_pour" (bO 25) f fd) (T:Txt mg) (G_is_whole:Callee P w K mg base "is_whole" ["thing","least","most"] 1 (eU K) f1 fd1)
  (G_most_to_pour:Callee P w K mg base "most_to_pour" ["moment","vessel"] 1 (kW K) f2 fd2):FnOk P w K mg base gQ 2 f fd ["net","moment","vessel","amount"] (kY K):=by
 refine F.ok nS (λ vs H Q E h=>?_) (λ cdv A outer s H vs Q E hr h=>?_)
 ·obtain⟨x,y,z,u,net,m,a,b,rfl,_⟩:=h;rfl
 ·obtain⟨x,y,z,u,net,m,a,b,rfl,hx,hy,mok,ha,hb,k⟩:=h;have sc:=nS;refine⟨_,(aJ (aY (gK (cN G_is_whole hr (aA (pv 2) (aA aE (aA (aK d8 (mS K T.b_len (px K (pv 0) aE)) aE) aC)))) (jH (cN G_is_whole hr (aA (pv 3) (aA aE (aA (cN G_most_to_pour hr (aA (pv 1) (aA (pv 2) aC))) aC)))))))),?_⟩;obtain⟨na,nb,nc,xs,ys,rfl,q,q1,l1,q2,l2⟩:=g6 hx;have exl:xs.length=net.vs.length:=by rw[l1.length,aad]
  have pl:=mok.pl;unfold pE at k;refine⟨_,rfl,_,rfl,.inr (.inl ⟨na,_,0,_,rfl,rfl,q,rfl,nb,xs,rfl,.inr q1,_,_,rfl,rfl,z,a,0,_,rfl,ha,_,rfl,?_⟩)⟩;rw[exl];cases e:cA 0 ((net.vs.length:Int) - 1) a with
  | false=>rw[e] at k;exact cT k
  | true=>
   refine cR ?_;rw[e,Bool.true_and] at k;obtain⟨v,rfl,v0,v1⟩:=eA e;obtain rfl:=ha.ui;exact⟨_,rfl,_,rfl,_,rfl,y,m,v,rfl,hy,v0,by omega,u,b,0,_,rfl,hb,k⟩
def oE (K:aaa):Sp:=λ vs H Q _=>∃ (z:V) (b:Addr) (ys:List V) (g:G) (us:List (Int×Nat)),vs=[z,.ref b]/\aL K H g z/\bH K H b ys/\IsL K H (us.map fH) ys/\us.length<=1000000/\∀ H',aG H H'->Q (.bl (gM g us)) H'
theorem tV {f f1 f2:Addr}{fd fd1 fd2:FuncData} (F:Fun K "is_just" "is_just" (bO 26) f fd) (T:Txt mg) (G_is_tuple:Callee P w K mg base "is_tuple" ["thing","least","most"] 1 (rN K) f1 fd1)
  (G_is_whole:Callee P w K mg base "is_whole" ["thing","least","most"] 1 (eU K) f2 fd2):FnOk P w K mg base gQ 2 f fd ["thing","tipped"] (oE K):=by
 refine F.ok pB (λ vs H Q E h=>?_) (λ cdv A outer s H vs Q E hr h=>?_)
 ·obtain⟨z,b,ys,g,us,rfl,_⟩:=h;rfl
 ·obtain⟨z,b,ys,g,us,rfl,hg,qb,lb,hus,k⟩:=h;have sc:=pB;refine⟨_,(aJ (aY (gK (cN G_is_tuple hr (aA (pv 0) (aA (mS K T.b_len (pv 1)) (aA (mS K T.b_len (pv 1)) aC)))) (jH (bF (yY (K:=K) rfl rfl) rfl T.b_all PyProof.Rows.boot_all (aA (i6 (λ _ _ h=>h) rfl (LcOk.mk (N':=["pair","tick","number"]) (fr:=[none,none,none]) rfl trivial rfl rfl rfl rfl rfl trivial) (pF (K:=K) rfl rfl T.b_zip (aA (pv 0) (aA (pv 1) aC))) (λ _ _ _=>(bC (K:=K) (n:=2) rfl rfl (aH (gC 0 ["pair","tick","number"]) (aH (bC (K:=K) (n:=2) rfl rfl (aH (gC 1 ["pair","tick","number"]) (aH (gC 2 ["pair","tick","number"]) bA))) bA)))) (λ _ _ _=>dN) (λ _ _ _=>(gK (cN G_is_tuple hr (aA (pv 0) (aA aE (aA aE aC)))) (gK (cN G_is_whole hr (aA (px K (pv 0) aE) (aA (pv 1) (aA (pv 1) aC)))) (jH (cN G_is_whole hr (aA (px K (pv 0) aE) (aA (pv 2) (aA (pv 2) aC))))))))) aC)))))),?_⟩;have eyl:ys.length=us.length:=by rw[lb.length,aad]
  refine⟨_,rfl,_,rfl,b,ys,rfl,.inr qb,_,rfl,b,ys,rfl,.inr qb,z,g,_,_,rfl,hg,_,rfl,?_⟩;rw[eyl];unfold gM at k;cases e:gF us.length us.length g with
  | false=>refine cT ?_;have:=k H (aG.refl H);rw[e] at this;exact this
  | true=>
   refine cR ?_;rw[e] at k;simp only [Bool.true_and] at k;cases g with
   | tup gs=>
    obtain⟨a,xs,rfl,qa,la⟩:=hg.ut;have exl:=la.length;have hl:gs.length=us.length:=by simp only [gF,Bool.and_eq_true,decide_eq_true_eq] at e;omega
    dsimp only [FI] at k;refine⟨_,rfl,_,rfl,true,true,a,b,rfl,⟨_,qa⟩,⟨_,qb⟩,x9 (K:=K) (t1:=true) (t2:=true) (xs:=xs) (ys:=ys) (n:=us.length) (by omega) eyl
     (λ D i r Z H'=>H D=none/\aG H H'/\H' D=some (.lst r)/\r=(dI (gs.take i) (us.take i)).map V.bl/\∃ u1 u2 u3,Z=[u1,u2,u3])
     (λ D i r Z H' p=>⟨p.2.1.tup qa,p.2.1.tup qb⟩) (λ D hD=>⟨hD,aG.new hD,aD,rfl,none,none,none,rfl⟩) ?_ ?_⟩
    rotate_left
    ·rintro D i x y r Z H2 Tt hx hy ⟨hD,sm,hDl,rfl,u1,u2,u3,rfl⟩ hT;obtain⟨g,hg',ix⟩:=la.get' hx;obtain⟨d,hd,iy⟩:=lb.get' hy;rw[aah] at hd;obtain⟨u,hu,rfl⟩:=aba.mp hd;obtain⟨ya,rfl,qy⟩:=zP iy;have hil:=(aag.mp hu).1;have mT:=aG.new (o:=HO.tup [x,.ref ya]) hT;have smT:=sm.trans mT;have D6:=aL.same smT ix;have qy2:=smT.tup qy;refine⟨Tt,_,rfl,bH.of aD,rfl,_,_,rfl,_,_,rfl,ya,_,rfl,qy2,rfl,_,_,rfl,_,_,rfl,rfl,rfl,?_⟩;refine mU ?_;have hs:dI (gs.take (i+1)) (us.take (i+1))=dI (gs.take i) (us.take i)++[lQ u g]:=by
      rw[List.take_succ,List.take_succ,hg',hu];exact oT _ _ g u (by rw[aau,aau];omega)
     have hlen:((dI (gs.take i) (us.take i)).map V.bl).length < sizeLine:=by
      rw[aad];have:=qR (gs.take i) (us.take i);rw[aau] at this;exact iF (by omega)
     generalize hH3:upd H2 Tt (.tup [x,.ref ya])=H3 at mT smT D6 qy2 ⊢;have fin:∀ c:Bool,c=lQ u g->H3 D=some (.lst ((dI (gs.take i) (us.take i)).map V.bl))/\((dI (gs.take i) (us.take i)).map V.bl).length < sizeLine/\H D=none/\aG H (upd H3 D (.lst ((dI (gs.take i) (us.take i)).map V.bl++[.bl c])))/\upd H3 D (.lst ((dI (gs.take i) (us.take i)).map V.bl++[.bl c])) D=some (.lst ((dI (gs.take i) (us.take i)).map V.bl++[.bl c]))/\(dI (gs.take i) (us.take i)).map V.bl++[.bl c]=(dI (gs.take (i+1)) (us.take (i+1))).map V.bl/\∃ v1 v2 v3,[some x,some (.int u.1),some (.int (u.2:Int))]=[v1,v2,v3]:=λ c hc=>by
      subst hc;exact⟨mT _ _ hDl,hlen,hD,smT.put hD,aD,by rw[hs,aal];rfl,_,_,_,rfl⟩
     refine⟨_,rfl,x,g,2,2,rfl,D6,_,rfl,?_⟩;cases e2:gF 2 2 g with
     | false=>
      refine cT (fin _ ?_);symm;unfold lQ;split
      ·simp [gF] at e2
      ·rfl
     | true=>
      refine cR ?_;obtain⟨p1,p2,rfl⟩:=zO e2;obtain⟨xa,xx,rfl,qx,lx⟩:=D6.ut;obtain⟨y1,r1,rfl,i1,lx⟩:=lx.un;obtain⟨y2,r2,rfl,i2,lx⟩:=lx.un;obtain rfl:=lx.un0;refine⟨_,rfl,.inr (.inl ⟨xa,_,0,_,rfl,rfl,qx,rfl,_,rfl,_,rfl,y1,p1,_,_,rfl,i1,_,rfl,?_⟩)⟩;cases e3:cA u.1 u.1 p1 with
      | false=>exact cT (fin _ (by dsimp only [lQ];rw[e3];rfl))
      | true=>
       refine cR ⟨_,rfl,.inr (.inl ⟨xa,_,1,_,rfl,rfl,qx,rfl,_,rfl,_,rfl,y2,p2,_,_,rfl,i2,fin _ (by dsimp only [lQ];rw[e3];rfl)⟩)⟩
    ·rintro D r Z H2 ⟨hD,sm,hDl,rfl,_⟩;rw[abj (Nat.le_of_eq hl),abj (aak _)] at hDl;exact⟨false,D,_,rfl,bV.of hDl,k _ sm⟩
   | _=>simp [gF] at e
def kX (K:aaa):Sp:=λ vs H Q _=>∃ (x y z:V) (net:Net) (m:Mom) (g:G),vs=[x,y,z]/\Is K H (gZ net) x/\Is K H (jK m) y/\aL K H g z/\cP g<=20/\NetOk net/\MomOk net m/\0<=m.tick/\
 (rowG net m g=none->∀ H',aG H H'->Q .non H')/\∀ m',rowG net m g=some m'->∀ p H',aG H H'->Is K H' (jK m') (.ref p)->Q (.ref p) H'
theorem o8 {f f1 f2 f3 f4 f5 f6 f7:Addr}{fd fd1 fd2 fd3 fd4 fd5 fd6 fd7:FuncData} (F:Fun K "moment_told" "moment_told" (bO 24) f fd) (T:Txt mg) (G_is_tuple:Callee P w K mg base "is_tuple" ["thing","least","most"] 1 (rN K) f1 fd1)
  (G_may_pour:Callee P w K mg base "may_pour" ["net","moment","vessel","amount"] 2 (kY K) f2 fd2) (G_moment_poured:Callee P w K mg base "moment_poured" ["moment","vessel","amount"] 1 (mW K) f3 fd3) (G_is_whole:Callee P w K mg base "is_whole" ["thing","least","most"] 1 (eU K) f4 fd4)
  (G_most_to_go:Callee P w K mg base "most_to_go" ["moment"] 1 (lT K) f5 fd5) (G_moment_gone:Callee P w K mg base "moment_gone" ["net","moment","many"] 6 (oD K) f6 fd6) (G_is_just:Callee P w K mg base "is_just" ["thing","tipped"] 2 (oE K) f7 fd7) :
  FnOk P w K mg base gQ 7 f fd ["net","moment","row"] (kX K):=by
 refine F.ok jA (λ vs H Q E h=>?_) (λ cdv A outer s H vs Q E hr h=>?_)
 ·obtain⟨x,y,z,net,m,g,rfl,_⟩:=h;rfl
 ·obtain⟨x,y,z,net,m,g,rfl,hx,hy,hz,hdp,nok,mok,t0,k0,k1⟩:=h;have sc:=jA;refine⟨_,(aF (cQ (gJ (dF (cN G_is_tuple hr (aA (pv 2) (aA aE (aA aE aC)))))) (aJ (aY dO)) bK)
   (aF (cG (pv 2) (bC (K:=K) (n:=3) rfl rfl (aH (gL 3 sc.nd) (aH (gL 4 sc.nd) (aH (gL 5 sc.nd) bA)))))
   (aF (cQ (PW.pt (sB (bN (sC (K:=K) rfl hr.units) (pv 3) cI (bQ _)) (oF (dF (cN G_may_pour hr (aA (pv 0) (aA (pv 1) (aA (pv 4) (aA (pv 5) aC))))))))) (aJ (aY (cN G_moment_poured hr (aA (pv 1) (aA (pv 4) (aA (pv 5) aC)))))) bK)
   (aF (cQ (PW.pt (sB (bN (sC (K:=K) rfl hr.units) (pv 3) cI (bQ _)) (oF (dF (cN G_is_whole hr (aA (pv 4) (aA aE (aA (cN G_most_to_go hr (aA (pv 1) aC)) aC)))))))) (aF (cG (cN G_moment_gone hr (aA (pv 0) (aA (pv 1) (aA (pv 4) aC)))) (bC (K:=K) (n:=2) rfl rfl (aH (gL 6 sc.nd) (aH (gL 7 sc.nd) bA))))
   (aJ (aY (A7 (dF (cN G_is_just hr (aA (pv 5) (aA (pv 7) aC)))) (pv 6) dO)))) bK)
   (aJ (aY dO)))))),?_⟩
  refine⟨_,rfl,z,g,3,3,rfl,hz,_,rfl,?_⟩;cases e3:gF 3 3 g with
  | false=>exact cR (k0 (tN e3) _ (aG.refl _))
  | true=>
  refine cT ?_;obtain⟨wd,a,b,rfl⟩:=tI e3;obtain⟨ra,xs,rfl,q,l⟩:=hz.ut;obtain⟨xw,r,rfl,iw,l⟩:=l.un;obtain⟨xa,r,rfl,ia,l⟩:=l.un;obtain⟨xb,r,rfl,ib,l⟩:=l.un;obtain rfl:=l.un0;have dw:cP wd<=30:=by have:=(HP (n:=19) hdp).1;omega
  refine⟨_,rfl,ra,_,rfl,q,rfl,_,_,rfl,_,_,rfl,_,_,rfl,rfl,?_⟩;refine⟨_,rfl,wd,.str "pour",dw,iw,.s _,_,rfl,?_⟩;dsimp only [rowG] at k0 k1;have rest:∀ (h:(aS wd (.str "pour") && pE net m a b)=false),fA (y8 (GF (tJ (eZ (EM K) (aZ 3) (tC (.str "go")))) (tB (iS (eU K) [] E0 (bE (aZ 4) (bE (tC (.int 0)) (bE (iS (lT K) [] E0 (bE (aZ 1) eD)) eD)))))) (fA (fI (iS (oD K) [] E0 (bE (aZ 0) (bE (aZ 1) (bE (aZ 4) eD)))) (FM K 2 (B9 (cB 6) (B9 (cB 7) HD)))) (CC (tIf (tB (iS (oE K) [] E0 (bE (aZ 5) (bE (aZ 7) eD)))) (aZ 6) (tC .non)))) j7) (CC (tC .non)) { nx:=λ _ H'=>Q .non H',rt:=Q } [some x,some y,some (.ref ra),some xw,some xa,some xb,none,none] H:=λ hp=>by
   rw[if_neg (by rw[hp];exact aaj)] at k0;rw[if_neg (by rw[hp];exact aaj)] at k1;refine⟨_,rfl,wd,.str "go",dw,iw,.s _,_,rfl,?_⟩;cases eg:aS wd (.str "go") with
   | false=>
    refine cT (cT ?_);exact k0 (by rw[eg];rfl) _ (aG.refl _)
   | true=>
   refine cR ?_;refine⟨_,rfl,_,rfl,y,m,rfl,hy,xa,a,0,_,rfl,ia,_,rfl,?_⟩;cases ew:cA 0 (3000 - m.tick) a with
   | false=>
    refine cT ?_;exact k0 (by unfold G2;rw[eg,ew];rfl) _ (aG.refl _)
   | true=>
   refine cR ?_;obtain⟨n,rfl,n0,n1⟩:=eA ew;obtain rfl:=ia.ui;obtain⟨nn,rfl⟩:=Int.eq_ofNat_of_zero_le n0;refine⟨_,rfl,_,rfl,_,rfl,x,y,net,m,nn,rfl,hx,hy,nok,mok,by omega,λ p p1 p2 tvs H1 s1 qp ip qt lt=>?_⟩;refine⟨p,_,rfl,qp,rfl,_,_,rfl,_,_,rfl,rfl,?_⟩;have htl:=gG (m:=m) nok nn;refine⟨_,rfl,_,rfl,xb,p2,tvs,b,_,rfl,aL.same s1 ib,qt,lt,by omega,λ H2 s2=>⟨_,rfl,?_⟩⟩;have eG:G2 net m (.int (nn:Int)) b=gM b (cM net m nn):=by unfold G2;rw[ew];rfl
   rw[eG,eg] at k0 k1;cases ej:gM b (cM net m nn) with
   | false=>
    refine cT ?_;exact k0 (by rw[ej];rfl) _ (s1.trans s2)
   | true=>
    refine cR ?_;obtain⟨pa,_,_,rfl,_⟩:=nI ip;exact⟨_,rfl,k1 _ (by rw[ej];rfl) pa _ (s1.trans s2) (Is.mono s2.ts _ _ ip)⟩
  cases ep:aS wd (.str "pour") with
  | false=>
   refine cT (cT ?_);exact rest (by rw[ep];rfl)
  | true=>
   refine cR ?_;refine⟨_,rfl,_,rfl,_,rfl,_,rfl,x,y,xa,xb,net,m,a,b,rfl,hx,hy,mok,ia,ib,_,rfl,?_⟩;cases eq:pE net m a b with
   | false=>
    refine cT ?_;exact rest (by rw[ep,eq];rfl)
   | true=>
    refine cR ?_;have eq':=eq;unfold pE at eq';rw[Bool.and_eq_true] at eq';obtain⟨v,rfl,v0,v1⟩:=eA eq'.1;obtain⟨am,rfl,a0,a1⟩:=eA eq'.2;obtain rfl:=ia.ui;obtain rfl:=ib.ui;exact⟨_,rfl,_,rfl,_,rfl,y,_,m,v,am,rfl,hy,mok.pl,nok.hi,v0,by omega,λ p H' s ip=>k1 _ (by rw[ep,eq];rfl) p H' s ip⟩
theorem yA {net:Net}{m m':Mom}{g:G} (h:0<=m.tick) (e:rowG net m g=some m'):0<=m'.tick:=by
 unfold rowG at e
 split at e
 ·split at e
  ·cases e;exact h
  ·split at e
   ·cases e;rw[gB];omega
   ·cases e
 ·cases e
def vA (K:aaa):Sp:=λ vs H Q _=>∃ (x:V) (l:Addr) (net:Net) (gs:List G) (xs:List V),vs=[x,.ref l]/\Is K H (gZ net) x/\NetOk net/\H l=some (.lst xs)/\aQ K H gs xs/\(∀ g∈gs,cP g<=20)/\
 ∀ H',aG H H'->Q (AJ (gO net (jL net) gs)) H'
theorem qI {f f1 f2:Addr}{fd fd1 fd2:FuncData} (F:Fun K "first_lie" "first_lie" (bO 23) f fd) (T:Txt mg) (G_first_moment:Callee P w K mg base "first_moment" ["net"] 2 (kZ K) f1 fd1)
  (G_moment_told:Callee P w K mg base "moment_told" ["net","moment","row"] 7 (kX K) f2 fd2):FnOk P w K mg base gQ 8 f fd ["net","book"] (vA K):=by
 refine F.ok lV (λ vs H Q E h=>?_) (λ cdv A outer s H vs Q E hr h=>?_)
 ·obtain⟨x,l,net,gs,xs,rfl,_⟩:=h;rfl
 ·obtain⟨x,l,net,gs,xs,rfl,hx,nok,hl,lx,hdp,k⟩:=h;have sc:=lV;refine⟨_,(aF (pL 2 sc.nd (cN G_first_moment hr (aA (pv 0) aC)))
   (aF (dM PassesOwn.never rfl (tQ (K:=K) rfl rfl T.b_enumerate (aA (pv 1) aC)) (bC (K:=K) (n:=2) rfl rfl (aH (gL 3 sc.nd) (aH (gL 4 sc.nd) bA))) (aF (pL 2 sc.nd (cN G_moment_told hr (aA (pv 0) (aA (pv 2) (aA (pv 4) aC)))))
   (aJ (cQ (bN AB (pv 2) dO (bQ _)) (aJ (aY (pv 3))) bK))))
   (aJ (aY dO)))),?_⟩
  have exl:=lx.length;refine⟨_,rfl,x,net,rfl,hx,nok,λ p H1 s1 ip=>?_⟩;refine⟨_,rfl,false,l,rfl,⟨_,bV.of (s1 _ _ hl)⟩,uG (K:=K) (t:=false) (a:=l) (xs:=xs)
   (λ i Z H'=>aG H H'/\∃ (m:Mom) (p:Addr),MomOk net m/\0<=m.tick/\gO net (jL net) gs=(gO net m (gs.drop i)).map (· + i)/\Is K H' (jK m) (.ref p)/\∃ v3 v4,Z=[some x,some (.ref l),some (.ref p),v3,v4])
   (λ i Z H' p=>bV.of (p.1 _ _ hl)) ⟨s1,jL net,p,wX net,(show (0:Int)<=0 by decide),by rw[List.drop_zero];cases gO net (jL net) gs <;> rfl,ip,none,none,rfl⟩ ?_ ?_⟩
  rotate_left
  ·rintro i y Z H2 Tt hy ⟨sm,m,p,mok,t0,el,ip,v3,v4,rfl⟩ hT;obtain⟨g,hg,iy⟩:=lx.get' hy;have hil:=(aag.mp hg).1;have hdr:gs.drop i=g::gs.drop (i+1):=by
    rw[List.drop_eq_getElem_cons hil];congr 1;rw[aax hil] at hg;cases hg;rfl
   rw[hdr] at el;have mT:=aG.new (o:=HO.tup [.int (i:Int),y]) hT;have sm2:=sm.trans mT;refine⟨Tt,_,rfl,bH.of aD,rfl,_,_,rfl,_,_,rfl,rfl,?_⟩;refine⟨_,rfl,_,rfl,_,rfl,x,_,y,net,m,g,rfl,Is.mono sm2.ts _ _ hx,Is.mono mT.ts _ _ ip,aL.same sm2 iy,hdp g (aao hg),nok,mok,t0,λ e0 H3 s3=>?_,λ m' e1 p' H3 s3 ip'=>?_⟩
   ·refine⟨_,rfl,rfl,_,rfl,cR ?_⟩;have:gO net (jL net) gs=some i:=by
     rw[el,wY e0];simp
    have kk:=k H3 (sm2.trans s3);rw[this] at kk;exact⟨_,rfl,kk⟩
   ·refine⟨_,rfl,rfl,_,rfl,cT ?_⟩;refine⟨sm2.trans s3,m',p',mok.rowG e1,yA t0 e1,?_,ip',_,_,rfl⟩;rw[el,u5 e1,Option.map_map];cases gO net m' (gs.drop (i+1)) with
    | none=>rfl
    | some j=>show some (j+1+i)=some (j+(i+1));congr 1;omega
  ·rintro Z H2 ⟨sm,m,p,mok,t0,el,ip,v3,v4,rfl⟩;rw[exl,List.drop_length] at el;have kk:=k H2 sm;rw[el] at kk;exact kk
section
variable {aw:Addr}
theorem sP (g:G):D7 g "tuple" = (match g with | .tup _=>true | _=>false):=by cases g <;> rfl
theorem FT {q:G->Bool}{gs:List G}{g:G} (h:g∈gs) (e:q g=false):gs.all q=false:=by
 cases z:gs.all q with
 | false=>rfl
 | true=>rw[abu.mp z g h] at e;cases e
end
end Tw
namespace L2
open PySem PySem.Spec PyProof.Rows TwZ
section
variable {prog:Program}
end
noncomputable instance decD:DecidableEq D:=λ a b=>Classical.propDecidable (a=b)
section
variable {prog:Program}
end
section
variable {X:Cx}{pins:List (Addr×Obj)}{σ:St}{H:Hp}{s:Shared}
end
section
variable {H H':Hp}{a:Addr}{S:D}{kvs:List (D×V)}
end
section
variable {X:Cx}{pins:List (Addr×Obj)}{σ:St}{H:Hp}{s:Shared}{a:Addr}{S:D}{kvs:List (D×V)}
end
end L2
namespace Tw
open PySem L2
section
variable {au:Type}(dD:au->L2.D)(nxt:au->Int->au)(fin:au->Int->Bool)(most lim:Nat)
variable {dD nxt fin most lim}
end
end Tw
namespace HT
open PySem PySem.Spec PyProof.Rows L2
section
variable {prog:Program}{A:Around}{E:Value->Shared->Prop}{s:Shared}
theorem getItem_tuple_whole {t sl:Addr}{items:Array Value}{vl vu:Value}{lo hi:Option Int}{Q:Value->Shared->Prop} (ht:IsTup s.heap t items) (hs:s.heap.IsSliceOf sl vl vu .none) (pl:IsPart vl lo) (pu:IsPart vu hi)
  (hw:sIx items.size 0 lo=0/\sIx items.size items.size hi=items.size) (h:Q (.ref t) s):wpAny (model prog w) A (getItem (.ref t) (.ref sl)) Q E s:=by
 obtain⟨os,hos,hcs,hds⟩:=id hs;have hTs:s.TypeIs (.ref sl) "slice" := ⟨os,hos,hcs⟩;unfold getItem
 try with_reducible refine abr ?_
 first | refine aab (aae ?_) | skip
 refine aab (wpAny_sequenceKey ht.typeIs (by decide) ?_);refine aab (wpAny_callSpecial?_slot (name:=Str.ofString "__getitem__") ht.typeIs PyProof.Rows.slot_tuple_getitem
  (wpAny_call_entry PyProof.Rows.slot_tuple_getitem ht.typeIs entry_tuple_getitem ?_ (args_tuple_getitem _ _)))
 show wpAny _ _ (Builtin.Tuple.tupleItemsOf (.ref t) >>= _) _ _ s;refine aab (tupleItemsOf_ ht ?_);refine aab (wpAny_typeOf hTs ?_);rw[if_pos (by decide)];refine aab (hV hs pl pu ?_);have hyes:(((sIx items.size 0 lo:Nat):Int) == 0 && (1:Int) == 1 && (sIx items.size items.size hi - sIx items.size 0 lo) == items.size)=true:=by
  rw[hw.1,hw.2];simp
 show wpAny _ _ (if (((sIx items.size 0 lo:Nat):Int) == 0 && (1:Int) == 1 && (sIx items.size items.size hi - sIx items.size 0 lo) == items.size)=true then _ else _) _ _ s;rw[if_pos hyes];refine aab ?_;refine aab (m:=Builtin.Tuple.tupleIsExact (.ref t)) ?_;unfold Builtin.Tuple.tupleIsExact;refine aab (wpAny_typeOf ht.typeIs (aae ?_));refine aae ?_;rw[if_pos (by decide)];refine aab (ack ?_);refine aae ?_;refine⟨_,rfl,aae ?_⟩;exact h
end
end HT
namespace L2
open PySem
section
variable {X:Cx}
def wP (K:aaa):V->Option Int->Option Int->Hp->VK->Prop:=λ x lo hi H Q=>∃ a xs,x=.ref a/\bH K H a xs/\
 ((HT.sIx xs.length 0 lo=0/\HT.sIx xs.length xs.length hi=xs.length)->Q (.ref a) H)/\
 (¬ (HT.sIx xs.length 0 lo=0/\HT.sIx xs.length xs.length hi=xs.length)->∀ p,H p=none->Q (.ref p) (upd H p (.tup (nO xs lo hi))))
theorem gS (hK:X.K=K):G6 X (wP K):=by
 subst hK;intro pins s σ H x v vl vu lo hi sl Q I rx hs pl pu h;obtain⟨a,xs,rfl,hx,q1,q2⟩:=h
 by_cases hw:HT.sIx xs.length 0 lo=0/\HT.sIx xs.length xs.length hi=xs.length
 ·have q1:=q1 hw;cases rx;obtain⟨its,r,ht,hz⟩:=I.tuple hx;have hlen:its.toArray.size=xs.length:=by rw[aaf];exact r.length.symm
  refine⟨"tuple",_,PyProof.Rows.slot_tuple_getitem.lookup,ht.typeIs,?_⟩;exact HT.getItem_tuple_whole ht hs pl pu (by rw[hlen];exact hw) ⟨.ref a,H,I,rfl,q1⟩
 ·exact zU pins s σ H _ v vl vu lo hi sl Q I rx hs pl pu ⟨a,xs,rfl,hx,hw,q2 hw⟩
end
end L2
namespace Tw
open PySem L2
theorem Ext.sm {t sl:Addr}{H H1 H2:Hp} (e:Ext t sl H H1) (s:aG H1 H2):Ext t sl H H2:=⟨e.bt.trans s.but,e.tp.same s⟩
theorem zV {K:aaa}{H:Hp}{a:Addr}{xs:List V}{n:Nat}{Q:VK} (q:bH K H a xs) (k:∀ b H',aG H H'->bH K H' b (xs.take n)->Q (.ref b) H'):wP K (.ref a) none (some (n:Int)) H Q:=by
 refine⟨a,xs,rfl,q,λ h=>?_,λ h p hp=>?_⟩
 ·have h2:=h.2;rw[HT.sIx_nat] at h2;have e:xs.take n=xs:=abj (by omega);exact k a H (aG.refl H) (by rw[e];exact q)
 ·have e:nO xs none (some (n:Int))=xs.take n:=by
   unfold nO;rw[HT.sIx_none,HT.sIx_nat,List.drop_zero,Nat.sub_zero];rcases Nat.le_total n xs.length with h | h
   ·rw[Nat.min_eq_left h]
   ·rw[Nat.min_eq_right h,aaq,abj h]
  rw[e];exact k p _ (aG.new hp) (bH.of aD)
end Tw
namespace HT
open PySem PySem.Spec PyProof.Rows L2
section
variable {prog:Program}{A:Around}{E:Value->Shared->Prop}{s:Shared}
theorem pick_rev (xs:Array Value):((List.range xs.size).filterMap λ (m:Nat)=>xs[(((xs.size:Nat):Int) - 1+(m:Int) * (-1)).toNat]?).toArray=xs.toList.reverse.toArray:=by
 congr 1;apply List.ext_getElem?;intro i;have e:(λ (m:Nat)=>xs[(((xs.size:Nat):Int) - 1+(m:Int) * (-1)).toNat]?)=λ m=>xs[(xs.size:Nat) - 1 - m]?:=by
  funext m;have:(((xs.size:Nat):Int) - 1+(m:Int) * (-1)).toNat=xs.size - 1 - m:=by omega
  rw[this]
 rw[e];have h:(List.range xs.size).filterMap (λ m=>xs[(xs.size:Nat) - 1 - m]?)=(List.range xs.size).map (λ m=>xs.toList.getD (xs.size - 1 - m) Value.none):=by
  have key:∀ l:List Nat,(∀ m∈l,m < xs.size)->l.filterMap (λ m=>xs[(xs.size:Nat) - 1 - m]?)=l.map (λ m=>xs.toList.getD (xs.size - 1 - m) Value.none):=by
   intro l
   induction l with
   | nil=>intro _;rfl
   | cons m l ih=>
    intro hl;have hm:=hl m abi;have h2:xs.size - 1 - m < xs.size:=by omega
    have h3:xs[(xs.size:Nat) - 1 - m]? = some (xs.toList.getD (xs.size - 1 - m) Value.none):=by simp [List.getD,h2]
    rw[List.filterMap_cons_some (f:=λ m=>xs[(xs.size:Nat) - 1 - m]?) h3,abk,ih λ a ha=>hl a (aay _ ha)]
  exact key _ λ m hm=>acj.1 hm
 rw[h,aah];rcases Nat.lt_or_ge i xs.size with c | c
 ·rw[List.getElem?_range c,List.getElem?_reverse (by simpa using c)];have:xs.size - 1 - i < xs.size:=by omega
  simp [List.getD,this]
 ·rw[acn (by simpa using c),acn (by simpa using c)];rfl
end
end HT
namespace L2
open PySem PySem.Spec PyProof.Rows
section
variable {X:Cx}{e st:Expr}{te:TE}{pos p2:Pos}
theorem zL:∀ {xs ys:List V}{us vs:List Value},bL xs us->bL ys vs->bL (xs++ys) (us++vs):=by
 intro xs ys us vs h h2
 induction h with
 | nil=>exact h2
 | cons a b ih=>exact .cons a ih
theorem zK:∀ {xs:List V}{us:List Value},bL xs us->bL xs.reverse us.reverse:=by
 intro xs us h
 induction h with
 | nil=>exact .nil
 | cons a b ih=>rw[List.reverse_cons,List.reverse_cons];exact zL ih (.cons a .nil)
end
end L2
namespace Tw
open PySem L2
section
variable {aw:Addr}
theorem iN {t:Addr}{H:Hp}{q:List V} (h:H t=some (.lst q)):bT K H (cO t H):=dU.ts (t:=t) (λ b o n e=>mJ e n) (by rw[h];exact trivial)
end
theorem mP:DF 10 60:=⟨by decide,by decide,by decide⟩
def oY (K:aaa):Sp:=λ vs H Q _=>∃ (x:V) (g:G),vs=[x]/\aL K H g x/\Q (.bl (nB g)) H
theorem hZ:FnScope ["thing","pair"] ["thing"] (aR (bO 40)):={}
theorem nG {f f1:Addr}{fd fd1:FuncData} (F:Fun K "_law_pairs_of" "_law_pairs_of" (bO 40) f fd) (T:Txt mg) (G__law_whole:Callee P w K mg base "_law_whole" ["thing","low","high"] 1 (eU K) f1 fd1):FnOk P w K mg base gQ 2 f fd ["thing"] (oY K):=by
 refine F.ok hZ (λ vs H Q E h=>?_) (λ cdv A outer s H vs Q E hr h=>?_)
 ·obtain⟨x,g,rfl,_⟩:=h;rfl
 ·obtain⟨x,g,rfl,hg,k⟩:=h;have sc:=hZ;refine⟨_,(aF (cQ (gJ (dF (bF (dS (K:=K) rfl) rfl T.b_isinstance fE (aA (pv 0) (aA (g8 (v:=.ty "tuple") rfl T.b_tuple bW rfl) aC))))) (aJ (aY fR)) bK)
   (aF (dM PassesOwn.never rfl (eX (K:=K) rfl (pv 0)) (gL 1 sc.nd) (aF (cQ (PW.pt (m7 (gJ (dF (bF (dS (K:=K) rfl) rfl T.b_isinstance fE (aA (pv 1) (aA (g8 (v:=.ty "tuple") rfl T.b_tuple bW rfl) aC))))) (lA (bN wV (mS K T.b_len (pv 1)) aE (bQ _))))) (aJ (aY fR)) bK)
   (aJ (cQ (PW.pt (m7 (gJ (dF (cN G__law_whole hr (aA (px K (pv 1) aE) (aA (aK d8 aE (aK lC aE aE)) (aA (aK lC aE aE) aC)))))) (lA (gJ (dF (cN G__law_whole hr (aA (px K (pv 1) aE) (aA (aK d8 aE (aK lC aE aE)) (aA (aK lC aE aE) aC))))))))) (aJ (aY fR)) bK))))
   (aJ (aY fR)))),?_⟩
  refine⟨_,rfl,x,"tuple",g,rfl,by decide,hg,_,rfl,?_⟩;rw[sP];cases g with
  | tup gs=>
   refine cT ?_;obtain⟨a,xs,rfl,q,l⟩:=hg.ut;have el:=l.length;dsimp only [nB] at k;refine⟨_,rfl,a,rfl,⟨_,q⟩,oI (K:=K) (a:=a) (xs:=xs) (λ t Z H'=>H=H'/\(∀ (j:Nat) g,j < t->gs[j]? = some g->fC g=true)/\∃ v1,Z=[some (.ref a),v1]) ⟨rfl,λ j g h=>absurd h (Nat.not_lt_zero _),_,rfl⟩ (λ t Z H' _ h=>by rw[<- h.1];exact q) ?_ ?_⟩
   ·rintro t y Z _ hy ⟨rfl,hall,v1,rfl⟩;dsimp only [cB];obtain⟨g,hg',ig⟩:=l.get' hy;have bad:fC g=false->Q (.bl false) H:=λ e=>by rw[FT (aao hg') e] at k;exact k
    have good:fC g=true->H=H/\(∀ (j:Nat) g,j < t+1->gs[j]? = some g->fC g=true)/\∃ v1,[some (V.ref a),some y]=[some (.ref a),v1]:=λ e=>by
     refine⟨rfl,λ j g' hj hg2=>?_,_,rfl⟩;rcases (show j < t\/j=t by omega) with z | rfl
     ·exact hall j g' z hg2
     ·rw[hg'] at hg2;cases hg2;exact e
    refine⟨_,rfl,y,"tuple",g,rfl,by decide,ig,_,rfl,?_⟩;rw[sP];cases g with
    | tup ps=>
     refine cT ?_;obtain⟨pa,pxs,rfl,qp,lp⟩:=ig.ut;have epl:=lp.length;refine⟨_,rfl,pa,pxs,rfl,.inr qp,rfl,_,rfl,?_⟩
     by_cases h2:ps.length=2
     rotate_left
     ·rw[show (!decide (V.int (pxs.length:Int)=V.int 2))=true by rw[epl];simp;omega];refine cR (bad ?_);unfold fC;split
      ·rename_i e;injection e with e;rw[e] at h2;simp at h2
      ·rfl
     rw[show (!decide (V.int (pxs.length:Int)=V.int 2))=false by rw[epl,h2];simp];refine cT ?_;obtain⟨p1,p2,e⟩:=zO (g:=.tup ps) (by simp [gF,h2]);injection e with e;subst e;obtain⟨y1,r1,rfl,i1,lp⟩:=lp.un;obtain⟨y2,r2,rfl,i2,lp⟩:=lp.un;obtain rfl:=lp.un0;dsimp only [fC] at bad good;refine⟨_,rfl,.inr (.inl ⟨pa,_,0,_,rfl,rfl,qp,rfl,10,60,rfl,rfl,mP,_,_,rfl,rfl,10,60,rfl,rfl,mP,y1,p1,_,_,rfl,i1,_,rfl,?_⟩)⟩;change if (!cA (0 - wD) wD p1)=true then _ else _
     cases e1:cA (0 - wD) wD p1 with
     | false=>exact cR (cR (bad (by rw[e1];rfl)))
     | true=>
     refine cT ⟨_,rfl,.inr (.inl ⟨pa,_,1,_,rfl,rfl,qp,rfl,10,60,rfl,rfl,mP,_,_,rfl,rfl,10,60,rfl,rfl,mP,y2,p2,_,_,rfl,i2,_,rfl,?_⟩)⟩;change if (!cA (0 - wD) wD p2)=true then _ else _
     cases e2:cA (0 - wD) wD p2 with
     | false=>exact cR (bad (by rw[e2];simp))
     | true=>exact cT (good (by rw[e1,e2];rfl))
    | _=>exact cR (cR (bad rfl))
   ·rintro Z _ ⟨rfl,hall,v1,rfl⟩;have:gs.all fC=true:=abu.mpr λ g hg=>by
     obtain⟨j,hj⟩:=List.mem_iff_getElem?.1 hg;exact hall j g (by have:=(aag.mp hj).1;omega) hj
    rw[this] at k;exact k
  | _=>exact cR k
def vB (K:aaa):Sp:=λ vs H Q _=>∃ (x:V) (l:Addr) (net:Net) (gs:List G) (xs:List V),vs=[x,.ref l]/\Is K H (gZ net) x/\NetOk net/\H l=some (.lst xs)/\aQ K H gs xs/\(∀ g∈gs,cP g<=20)/\gs.length<=1000/\
 ∀ H',aG H H'->Q (AJ (gO net (jL net) gs)) H'
theorem kP:FnScope ["net","book","kept","place","row"] ["net","book"] (aR (bO 41)):={}
theorem qK {f f1 f2 f3 f4:Addr}{fd fd1 fd2 fd3 fd4:FuncData} (F:Fun K "_law_due" "_law_due" (bO 41) f fd) (T:Txt mg) (G__law_whole:Callee P w K mg base "_law_whole" ["thing","low","high"] 1 (eU K) f1 fd1)
  (G__law_pairs_of:Callee P w K mg base "_law_pairs_of" ["thing"] 2 (oY K) f2 fd2) (G__law_book_first:Callee P w K mg base "_law_book_first" ["net"] 2 (gR K) f3 fd3) (G__law_book_gone:Callee P w K mg base "_law_book_gone" ["net","kept","deed"] 3 (rR K) f4 fd4) :
  FnOk P w K mg base gQ 4 f fd ["net","book"] (vB K):=by
 refine F.ok kP (λ vs H Q E h=>?_) (λ cdv A outer s H vs Q E hr h=>?_)
 ·obtain⟨x,l,net,gs,xs,rfl,_⟩:=h;rfl
 ·obtain⟨x,l,net,gs,xs,rfl,hx,nok,hl,lx,hdp,hn,k⟩:=h;have sc:=kP;refine⟨_,(aF (pL 2 sc.nd (cN G__law_book_first hr (aA (pv 0) aC)))
   (aF (dM PassesOwn.never rfl (cH rfl T.b_range (aA (mS K T.b_len (pv 1)) aC)) (gL 3 sc.nd) (aF (pL 4 sc.nd (px K (pv 1) (pv 3)))
   (aF (cQ (PW.pt (m7 (gJ (dF (bF (dS (K:=K) rfl) rfl T.b_isinstance fE (aA (pv 4) (aA (g8 (v:=.ty "tuple") rfl T.b_tuple bW rfl) aC))))) (m7 (bN wV (mS K T.b_len (pv 4)) aE (bQ _)) (lA (bN (AA (K:=K) rfl hr.units) (px K (pv 4) aE) (b9 (aA cI (aA cI aC))) (by rfl)))))) (aJ (aY (pv 3))) bK)
   (aJ (cQ (bN (sC (K:=K) rfl hr.units) (px K (pv 4) aE) cI (bQ _)) (aF (cQ (PW.pt (m7 (gJ (dF (cN G__law_whole hr (aA (px K (pv 4) aE) (aA aE (aA (aK d8 (mS K T.b_len (px K (pv 0) aE)) aE) aC)))))) (lA (gJ (dF (cN G__law_whole hr (aA (px K (pv 4) aE) (aA aE (aA (aK d8 aE (px K (px K (pv 2) aE) (px K (pv 4) aE))) aC))))))))) (aJ (aY (pv 3))) bK)
   (aJ (pL 2 sc.nd (cN G__law_book_gone hr (aA (pv 0) (aA (pv 2) (aA (pv 4) aC))))))) (aF (cQ (PW.pt (m7 (gJ (dF (cN G__law_whole hr (aA (px K (pv 4) aE) (aA aE (aA (aK d8 aE (px K (pv 2) aE)) aC)))))) (lA (gJ (dF (cN G__law_pairs_of hr (aA (px K (pv 4) aE) aC))))))) (aJ (aY (pv 3))) bK)
   (aF (pL 2 sc.nd (cN G__law_book_gone hr (aA (pv 0) (aA (pv 2) (aA (bS (gS (K:=K) rfl) (pv 4) cJ (bX aE)) aC)))))
   (aJ (cQ (bN (wU (K:=K) rfl hr.units) (px K (px K (pv 2) aE) (wR rM aE)) (pv 4) (bQ _)) (aJ (aY (pv 3))) bK)))))))))
   (aJ (aY dO)))),?_⟩
  have exl:=lx.length;refine⟨_,rfl,x,net,rfl,hx,nok,λ u0 H1 s1 hk0=>?_⟩;refine⟨_,rfl,l,_,rfl,.inl (bV.of (s1 _ _ hl)),_,rfl,by omega,by omega,?_⟩;rw[show ((xs.length:Nat):Int).toNat=xs.length from by simp];refine dW (lo:=0) (n:=xs.length) (λ i Z H'=>aG H H'/\∃ (S:RunS) (A:Addr->Prop) (B:Nat) (u:V),S.net=net/\RunOk S/\RunSz S B/\0<=S.cur.tick/\S.cur.tick<=3000/\(B:Int)<=i+12 * S.cur.tick/\kK K H' A S u/\gO net (jL net) gs=(gO net S.cur (gs.drop i)).map (· + i)/\∃ v3 v4,Z=[some x,some (.ref l),some u,v3,v4])
   ⟨s1,tM net,_,0,u0,rfl,wO nok,wN net,(show (0:Int)<=0 by decide),(show (0:Int)<=3000 by decide),(show (0:Int)<=0+12 * 0 by decide),hk0,by rw[List.drop_zero];show _=(gO net (jL net) gs).map _;cases gO net (jL net) gs <;> rfl,_,_,rfl⟩ ?_ ?_
  rotate_left
  ·rintro Z H2 ⟨s2,S,A,B,u,eN,rk,rz,t0,t1,bB,hk,el,v3,v4,rfl⟩;rw[exl,List.drop_length] at el;have kk:=k H2 s2;rw[el] at kk;exact kk
  rintro i Z H2 hi ⟨s2,S,A,B,u,eN,rk,rz,t0,t1,bB,hk,el,v3,v4,rfl⟩;rw[Int.zero_add];dsimp only [cB];obtain⟨g,hg⟩:∃ g,gs[i]? = some g:=⟨_,aax (by omega)⟩;obtain⟨y,hy,iy⟩:=lx.get hg;have iy2:=aL.same s2 iy;have dg:=hdp g (aao hg);have hil:=(aag.mp hg).1;have hdr:gs.drop i=g::gs.drop (i+1):=by
   rw[List.drop_eq_getElem_cons hil];congr 1;rw[aax hil] at hg;cases hg;rfl
  rw[hdr] at el;subst eN;have bad:rowG S.net S.cur g=none->∀ H3,aG H2 H3->Q (.int (i:Int)) H3:=λ e0 H3 s3=>by
   have:gO S.net (jL S.net) gs=some i:=by rw[el,wY e0];simp
   have kk:=k H3 (s2.trans s3);rw[this] at kk;exact kk
  have good:∀ m',rowG S.net S.cur g=some m'->gO S.net (jL S.net) gs=(gO S.net m' (gs.drop (i+1))).map (· + (i+1)):=λ m' e1=>by
   rw[el,u5 e1,Option.map_map];cases gO S.net m' (gs.drop (i+1)) with
   | none=>rfl
   | some j=>show some (j+1+i)=some (j+(i+1));congr 1;omega
  refine⟨_,rfl,_,rfl,.inl ⟨l,xs,(i:Int),y,rfl,rfl,bV.of (s2 _ _ hl),cE hy,?_⟩⟩;refine⟨_,rfl,y,"tuple",g,rfl,by decide,iy2,_,rfl,?_⟩;rw[sP];cases g with
  | tup ps=>
   refine cT ?_;obtain⟨ra,rxs,rfl,q,lr⟩:=iy2.ut;have erl:=lr.length;refine⟨_,rfl,ra,rxs,rfl,.inr q,rfl,_,rfl,?_⟩
   by_cases h3:ps.length=3
   rotate_left
   ·rw[show (!decide (V.int (rxs.length:Int)=V.int 3))=true by rw[erl];simp;omega];exact cR (cR ⟨_,rfl,bad (tN (by simp [gF];omega)) _ (aG.refl _)⟩)
   rw[show (!decide (V.int (rxs.length:Int)=V.int 3))=false by rw[erl,h3];simp];refine cT ?_;obtain⟨wd,a,b,e⟩:=tI (g:=.tup ps) (by simp [gF,h3]);injection e with e;subst e;obtain⟨xw,r,rfl,iw,lr⟩:=lr.un;obtain⟨xa,r,rfl,ia,lr⟩:=lr.un;obtain⟨xb,r,rfl,ib,lr⟩:=lr.un;obtain rfl:=lr.un0;have dw:cP wd<=30:=by have:=(HP (n:=19) dg).1;omega
   refine⟨_,rfl,.inr (.inl ⟨ra,_,0,_,rfl,rfl,q,rfl,(show 2<=sizeLine by decide),λ wl hwl=>?_⟩)⟩;have s3:=aG.new (o:=HO.lst [.str "pour",.str "go"]) hwl;refine⟨wd,wl,[.str "pour",.str "go"],_,rfl,.inl (bV.of aD),by decide,aL.same s3 iw,.cons (.s _) (.cons (.s _) .nil),_,rfl,?_⟩;generalize upd H2 wl _=H3 at s3 ⊢;have q3:=s3.tup q;have s23:=s2.trans s3;have hk3:=hk.same s3;have hx3:=Is.mono s23.ts _ _ hx;show if (if true=true then !DR wd [.str "pour",.str "go"] else DR wd [.str "pour",.str "go"])=true then _ else _
   rw[if_pos rfl,in2];dsimp only [rowG] at bad good;cases ep:aS wd (.str "pour") with
   | true=>
    refine cT ?_;obtain rfl:=BD ep;have eg:aS (.str "pour") (.str "go")=false:=by simp only [aS];decide
    rw[ep,eg] at bad good;simp only [Bool.true_and,Bool.false_and] at bad good;refine⟨_,rfl,.inr (.inl ⟨ra,_,0,_,rfl,rfl,q3,rfl,.str "pour",.str "pour",by decide,aL.same s3 iw,.s _,_,rfl,?_⟩)⟩;rw[ep];refine cR ?_;obtain⟨ka,st,ha,tl,bl,ts,bs,rfl,kc⟩:=id hk3;obtain⟨na,nb,nc,nxs,nys,rfl,qn,q1,l1,q2,l2⟩:=g6 hx3;have enl:nxs.length=S.net.vs.length:=by rw[l1.length,aad]
    have pl:=rk.cur.pl;have eP:pE S.net S.cur a b=(cA 0 ((S.net.vs.length:Int) - 1) a && cA 0 (1000 - S.cur.poured.getD (uA a).toNat 0) b):=rfl;refine⟨_,rfl,.inr (.inl ⟨ra,_,1,_,rfl,rfl,q3,rfl,_,rfl,.inr (.inl ⟨na,_,0,_,rfl,rfl,qn,rfl,nb,nxs,rfl,.inr q1,_,_,rfl,rfl,xa,a,0,_,rfl,aL.same s3 ia,_,rfl,?_⟩)⟩)⟩;rw[enl];cases e1:cA 0 ((S.net.vs.length:Int) - 1) a with
    | false=>exact cR (cR ⟨_,rfl,bad (by rw[eP,e1];rfl) _ s3⟩)
    | true=>
    refine cT ?_;obtain⟨v,rfl,v0,v1⟩:=eA e1;obtain rfl:=ia.ui;have hgv:(S.cur.poured.map V.int)[v.toNat]? = some (.int (S.cur.poured.getD v.toNat 0)):=by
     rw[aah,abd,aax (by omega)];rfl
    refine⟨_,rfl,.inr (.inl ⟨ra,_,2,_,rfl,rfl,q3,rfl,_,rfl,.inr (.inl ⟨ka,_,1,_,rfl,rfl,kc.tup,rfl,_,rfl,.inr (.inl ⟨ra,_,1,_,rfl,rfl,q3,rfl,.inr (.inl ⟨ha,_,v,_,rfl,rfl,kc.hha,gY v0 hgv,_,_,rfl,rfl,xb,b,0,_,rfl,aL.same s3 ib,_,rfl,?_⟩)⟩)⟩)⟩)⟩;cases e2:cA 0 (1000 - S.cur.poured.getD v.toNat 0) b with
    | false=>exact cR ⟨_,rfl,bad (by rw[eP,e1];show (if (true && cA 0 (1000 - S.cur.poured.getD v.toNat 0) b)=true then _ else _)=_;rw[e2];rfl) _ s3⟩
    | true=>
    refine cT ?_;obtain⟨am,rfl,a0,a1⟩:=eA e2;obtain rfl:=ib.ui;have hgood:=good (S.cur.pour v am) (by rw[eP,e1];show (if (true && cA 0 (1000 - S.cur.poured.getD v.toNat 0) (.int am))=true then _ else _)=_;rw[e2];rfl);obtain rfl:=iw.us;refine⟨_,rfl,_,rfl,_,rfl,.ref na,.ref ka,.ref ra,S,.pour v am,A,B,rfl,hx3,rk,hk3,rz,by omega,Is.tupOf (ds:=[.str "pour",.int v,.int am]) q3 (.cons (Is.s _) (.cons (Is.i _) (.cons (Is.i _) .nil))),⟨v0,by omega⟩,λ u' H4 s4 hk4=>?_⟩;exact⟨s23.trans s4,S.pour v am,_,B+1,u',rfl,rk.pour v am,rz.pour v am,t0,t1,(by show ((B+1:Nat):Int)<=((i+1:Nat):Int)+12 * S.cur.tick;omega),hk4,hgood,_,_,rfl⟩
   | false=>
    cases eg:aS wd (.str "go") with
    | false=>
     refine cR ⟨_,rfl,bad ?_ _ s3⟩;rw[ep,eg];rfl
    | true=>
    refine cT ?_;obtain rfl:=BD eg;rw[ep,eg] at bad good;simp only [Bool.true_and,Bool.false_and] at bad good;refine⟨_,rfl,.inr (.inl ⟨ra,_,0,_,rfl,rfl,q3,rfl,.str "go",.str "pour",by decide,aL.same s3 iw,.s _,_,rfl,?_⟩)⟩;rw[ep];refine cT ?_;obtain⟨ka,st,ha,tl,bl,ts,bs,rfl,kc⟩:=id hk3;have eGo:G2 S.net S.cur a b=(cA 0 (3000 - S.cur.tick) a && gM b (cM S.net S.cur (uA a).toNat)):=rfl;refine⟨_,rfl,.inr (.inl ⟨ra,_,1,_,rfl,rfl,q3,rfl,_,rfl,.inr (.inl ⟨ka,_,2,_,rfl,rfl,kc.tup,rfl,_,_,rfl,rfl,xa,a,0,_,rfl,aL.same s3 ia,_,rfl,?_⟩)⟩)⟩;cases e1:cA 0 (3000 - S.cur.tick) a with
    | false=>exact cR (cR ⟨_,rfl,bad (by rw[eGo,e1];rfl) _ s3⟩)
    | true=>
    refine cT ?_;obtain⟨n,rfl,n0,n1⟩:=eA e1;obtain rfl:=ia.ui;obtain⟨nn,rfl⟩:=Int.eq_ofNat_of_zero_le n0;have eGo2:G2 S.net S.cur (.int (nn:Int)) b=gM b (cM S.net S.cur nn):=by rw[eGo,e1];rfl
    rw[eGo2] at bad good;have bnd:∀ t∈cM S.net S.cur nn,0<=t.1/\t.1<=3000/\t.2<=12:=λ t ht=>by
     have h1:=wH nn t ht;have h2:=wG nn t ht;have h3:=nok.hi;omega
    refine⟨_,rfl,.inr (.inl ⟨ra,_,2,_,rfl,rfl,q3,rfl,xb,b,rfl,aL.same s3 ib,_,rfl,?_⟩)⟩;cases e2:nB b with
    | false=>
     have ej:gM b (cM S.net S.cur nn)=false:=by
      cases ej:gM b (cM S.net S.cur nn) with
      | false=>rfl
      | true=>rw[vV ej bnd] at e2;cases e2
     exact cR ⟨_,rfl,bad (by rw[ej];rfl) _ s3⟩
    | true=>
    refine cT ?_;obtain rfl:=iw.us;refine⟨_,rfl,_,rfl,_,rfl,2,rfl,zV (n:=2) q3 λ b4 H4 s4 q4=>?_⟩;refine⟨x,.ref ka,.ref b4,S,.go nn,A,B,rfl,Is.mono s4.ts _ _ hx3,rk,hk3.same s4,rz,by omega,Is.tupOf (ds:=[.str "go",.int (nn:Int)]) q4 (.cons (Is.s _) (.cons (Is.i _) .nil)),(by show nn<=10000;omega),λ u' H5 s5 hk5=>?_⟩;obtain⟨kb,st',hb',tl',bl',ts',bs',rfl,kd⟩:=id hk5;have lB:=kd.lB;have eR:(S.deed (.go nn)).rows.map iG=S.rows.map iG++[iG (.go (nn:Int) (cM S.net S.cur nn))]:=by show (S.rows++[Row.go (nn:Int) (cM S.net S.cur nn)]).map iG=_;rw[aal];rfl
    rw[eR] at lB;obtain⟨bs0,lv,rfl,_,ilv⟩:=lB.unsnoc;have s35:=s4.trans s5;refine⟨_,rfl,.inr (.inl ⟨kb,_,6,_,rfl,rfl,kd.tup,rfl,1,rfl,.inl ⟨bl',_,-1,lv,rfl,rfl,bV.of kd.hB,BL _ _,_,rfl,qE (iG (.go (nn:Int) (cM S.net S.cur nn))),.tup [.str "go",.int (nn:Int),b],by have:=uK (.go (nn:Int) (cM S.net S.cur nn));omega,ilv.g,aL.same (s3.trans s35) (aL.t q (.cons (.s _) (.cons (.i _) (.cons ib .nil)))),_,rfl,?_⟩⟩)⟩;have eE:aS (qE (iG (.go (nn:Int) (cM S.net S.cur nn)))) (.tup [.str "go",.int (nn:Int),b])=gM b (cM S.net S.cur nn):=by
     have:qE (iG (.go (nn:Int) (cM S.net S.cur nn)))=.tup [.str "go",.int (nn:Int),.tup (eY ((cM S.net S.cur nn).map fH))]:=by simp [iG,qE,eY]
     rw[this,aS,eK,eK,eK,eK,D3 e2];simp [aS]
    rw[eE];cases ej:gM b (cM S.net S.cur nn) with
    | false=>exact cR ⟨_,rfl,bad (by rw[ej];rfl) _ (s3.trans s35)⟩
    | true=>
     refine cT ?_;have hgood:=good (cZ S.net S.cur nn) (by rw[ej];rfl);have htk:(cZ S.net S.cur nn).tick=S.cur.tick+nn:=gB _ _ _;exact⟨s23.trans s35,S.go nn,_,B+12 * nn+1,.ref kb,rfl,rk.go nn,rz.go nok nn,(by show 0<=(cZ S.net S.cur nn).tick;omega),(by show (cZ S.net S.cur nn).tick<=3000;omega),(by show ((B+12 * nn+1:Nat):Int)<=((i+1:Nat):Int)+12 * (cZ S.net S.cur nn).tick;omega),hk5,hgood,_,_,rfl⟩
  | _=>exact cR (cR ⟨_,rfl,bad rfl _ (aG.refl _)⟩)
section
variable {aw t:Addr}
structure MkG (K:aaa) (t:Addr) (g:G) (te:TE):Prop where
 h:∀ σ H (Q:V->Hp->Prop),(∃ q,H t=some (.lst q))->(∀ v H',aG H H'->aL K (cO t H') g v->Q v H')->te σ H Q
structure MkGL (K:aaa) (t:Addr) (gs:List G) (ta:TA):Prop where
 h:∀ σ H (Q:List V->Hp->Prop),(∃ q,H t=some (.lst q))->(∀ vs H',aG H H'->aQ K (cO t H') gs vs->Q vs H')->ta σ H Q
theorem EZ {i:Int}:MkG K t (.int i) (tC (.int i)):=⟨λ σ H Q _ k=>k _ H (aG.refl _) (.i _)⟩
theorem FA {i:Bool}:MkG K t (.bl i) (tC (.bl i)):=⟨λ σ H Q _ k=>k _ H (aG.refl _) (.b _)⟩
theorem EX {i:Str}:MkG K t (.str i) (tC (.str i)):=⟨λ σ H Q _ k=>k _ H (aG.refl _) (.s _)⟩
theorem EY:MkG K t .non (tC .non):=⟨λ σ H Q _ k=>k _ H (aG.refl _) .n⟩
theorem vN {i:Int}:MkG K t (.int (-i)) (tUn (rU λ i=>.int (-i)) (tC (.int i))):=⟨λ σ H Q _ k=>⟨i,rfl,k _ H (aG.refl _) (.i _)⟩⟩
theorem vM:MkGL K t [] eD:=⟨λ σ H Q _ k=>k _ H (aG.refl _) .nil⟩
theorem sM {te:TE}{ta:TA}{g:G}{gs:List G} (h1:MkG K t g te) (h2:MkGL K t gs ta):MkGL K t (g::gs) (bE te ta):=⟨λ σ H Q ⟨q,ht⟩ k=>h1.h σ H _ ⟨q,ht⟩ λ v H1 s1 i1=>h2.h σ H1 _ ⟨q,s1 _ _ ht⟩ λ vs H2 s2 i2=>k _ H2 (s1.trans s2) (.cons (aL.same (cY s2) i1) i2)⟩
theorem vK {ta:TA}{gs:List G} (h:MkGL K t gs ta) (hl:gs.length<=100):MkG K t (.tup gs) (y4 ta):=⟨λ σ H Q ⟨q,ht⟩ k=>h.h σ H _ ⟨q,ht⟩ λ vs H1 s1 i1=>⟨by rw[i1.length,sizeLine_eq];omega,λ p hp=>by
 have s2:=aG.new (o:=HO.tup vs) hp;have np:p≠t:=λ z=>by rw[z,s1 _ _ ht] at hp;cases hp
 exact k _ _ (s1.trans s2) (aL.t (bH.of (mJ aD np)) (aQ.same (cY s2) i1))⟩⟩
theorem vL {ta:TA}{gs:List G}{σ:St}{H:Hp}{Q:V->Hp->Prop} (h:MkGL K t gs ta) (hl:gs.length<=100) (ht:∃ q,H t=some (.lst q)) (k:∀ l xs H',aG H H'->H' l=some (.lst xs)->l≠t->aQ K (cO t H') gs xs->Q (.ref l) H'):kJ ta σ H Q:=by
 obtain⟨q,ht⟩:=ht;refine h.h σ H _ ⟨q,ht⟩ λ vs H1 s1 i1=>⟨by rw[i1.length,sizeLine_eq];omega,λ p hp=>?_⟩;have s2:=aG.new (o:=HO.lst vs) hp;have np:p≠t:=λ z=>by rw[z,s1 _ _ ht] at hp;cases hp
 exact k _ _ _ (s1.trans s2) aD np (aQ.same (cY s2) i1)
theorem vO {ta:TA}{gs:List G} (h:MkGL K t gs ta) (hl:gs.length<=100):MkG K t (.lst gs) (kJ ta):=⟨λ σ H Q ht k=>vL h hl ht λ l xs H' s e n i=>k _ _ s (aL.l (bV.of (mJ e n)) i)⟩
theorem EW {ta:TA}{gs:List G}{i:Nat}{R:TS}{D:Ends}{σ:St}{H:Hp} (h:MkGL K t gs ta) (hl:gs.length<=100) (ht:∃ q,H t=some (.lst q)) (k:∀ l xs H',aG H H'->H' l=some (.lst xs)->l≠t->aQ K (cO t H') gs xs->R D (σ.set i (some (.ref l))) H'):fA (fI (kJ ta) (cB i)) R D σ H:=by
 dsimp only [fA,fI,cB];exact vL (K:=K) (t:=t) h hl ht λ l xs H' s e n i=>k l xs H' s e n i
theorem AI {ta:TA}{gs hs:List G}{i:Nat}{R:TS}{D:Ends}{σ:St}{H:Hp}{l:Addr}{xs:List V} (ao:σ[i]? = some (some (.ref l))) (hx:H l=some (.lst xs)) (gx:aQ K (cO t H) hs xs) (h:MkGL K t gs ta) (hl:gs.length<=100) (hl2:hs.length<=100) (ht:∃ q,H t=some (.lst q))
  (k:∀ l xs H',aG H H'->H' l=some (.lst xs)->l≠t->aQ K (cO t H') (hs++gs) xs->R D (σ.set i (some (.ref l))) H'):fA (fI (eZ pD (aZ i) (kJ ta)) (cB i)) R D σ H:=by
 refine⟨_,ao,vL h hl ht λ l2 xs2 H2 s2 hl2' n2 i2=>⟨l,l2,xs,xs2,rfl,rfl,s2 _ _ hx,hl2',by rw[gx.length,i2.length,sizeLine_eq];omega,λ l3 hl3=>?_⟩⟩;obtain⟨q,ht⟩:=ht;have n3:l3≠t:=λ z=>by rw[z,s2 _ _ ht] at hl3;cases hl3
 have s3:=aG.new (o:=HO.lst (xs++xs2)) hl3;exact k l3 _ _ (s2.trans s3) aD n3 ((aQ.same (cY (t:=t) (s2.trans s3)) gx).app (aQ.same (cY (t:=t) s3) i2))
theorem uL:DF 10 30:=⟨by decide,by decide,by decide⟩
theorem wS:(0:Int) < 10 ^ (30:Int).toNat/\(10:Int) ^ (30:Int).toNat < 2 ^ 200:=by decide
def w6:List G:=[.non,.bl true,.bl false,.int (-1),.int 0,.int 1,.int 12,.int 13,.int 60,.int 61,.int 200,.int 201,.str "",.str "open",.str "shut",.str "turn",.str "halt",.lst [],.tup []]
def pX:List G:=[.tup [.int 0],.tup [.int 0,.int 1],.tup [.non,.int 1],.tup [.int 1,.bl true],.tup [.str "open",.int 0],.lst [.str "open",.int 0],.tup [.tup [.int 0,.int 1]],.tup [.tup [.non,.int 1],.tup [.int 0,.int 2]]]
def pW:List G:=[.tup [.int 0,.int 1,.bl true],.tup [.int 0,.int 0,.int 0],.tup [.int 1,.int 1,.tup [.tup [.non,.int 1]],.bl true,.non,.tup []]]
theorem nX:FnScope ["tape","some"] ["tape"] (aR (bO 29)):={}
theorem dH.l {H:Hp}{t sl:Addr} (h:dH H t sl):∃ q,H t=Option.some (HO.lst q):=by obtain⟨ns,pos,cell,e,_⟩:=h;exact⟨_,e⟩
theorem CF {H:Hp}{a:Addr}{xs:List V}{lo hi:Option Int}{Q:VK} (q:bH K H a xs) (k:∀ b H' i j,aG H H'->bH K H' b ((xs.drop i).take j)->Q (.ref b) H'):wP K (.ref a) lo hi H Q:=by
 refine⟨a,xs,rfl,q,λ h=>?_,λ h p hp=>?_⟩
 ·exact k a H 0 xs.length (aG.refl H) (by rw[List.drop_zero,aaq];exact q)
 ·exact k p _ _ _ (aG.new hp) (bH.of aD)
end
structure View (K:aaa) (h:Hp->Hp) (C:Hp->Prop):Prop where
 mono:∀ {H H'},aG H H'->aG (h H) (h H')
 sub:∀ H,aG (h H) H
 ts:∀ {H},C H->bT K H (h H)
 keep:∀ {H H'},aG H H'->C H->C H'
 new:∀ {H p o},C H->H p=none->h (upd H p o) p=some o
def dJ (t l:Addr) (H:Hp):Hp:=λ b=>if b=t\/b=l then none else H b
theorem tG (K:aaa) (t:Addr):View K (cO t) λ H=>∃ q,H t=some (.lst q) where
 mono:=cY
 sub:=λ _=>rA
 ts:=λ ⟨q,h⟩=>iN h
 keep:=λ s ⟨q,h⟩=>⟨q,s _ _ h⟩
 new:=λ ⟨q,h⟩ hp=>mJ aD λ z=>by rw[z,h] at hp;cases hp
theorem zJ (K:aaa) (t l:Addr):View K (dJ t l) λ H=>(∃ q,H t=some (.lst q))/\∃ q,H l=some (.lst q) where
 mono:=λ s b o e=>by
  unfold dJ at e ⊢
  split at e
  ·cases e
  ·rename_i n;rw[if_neg n];exact s b o e
 sub:=λ _ b o e=>by
  unfold dJ at e
  split at e
  ·cases e
  ·exact e
 ts:=λ {H} ⟨⟨q,h⟩,q',h'⟩=>by
  have e:dJ t l H=cO l (cO t H):=by
   funext b;unfold dJ cO
   by_cases c1:b=t <;> by_cases c2:b=l <;> simp [c1,c2]
  rw[e]
  by_cases c:l=t
  ·subst c;have e2:cO l (cO l H)=cO l H:=by
    funext b;unfold cO
    by_cases c1:b=l <;> simp [c1]
   rw[e2];exact iN h
  ·exact (iN h).trans (iN (mJ h' c))
 keep:=λ s ⟨⟨q,h⟩,q',h'⟩=>⟨⟨q,s _ _ h⟩,q',s _ _ h'⟩
 new:=λ ⟨⟨q,h⟩,q',h'⟩ hp=>by
  unfold dJ;rw[if_neg (λ z=>by
   rcases z with z | z
   ·rw[z,h] at hp;cases hp
   ·rw[z,h'] at hp;cases hp)]
  exact aD
structure MkE (K:aaa) (h:Hp->Hp) (C:Hp->Prop) (σ:St) (H0:Hp) (d:Nat) (te:TE):Prop where
 r:∀ H (Q:V->Hp->Prop),aG H0 H->C H->(∀ v g H',aG H H'->aL K (h H') g v->cP g<=d->Q v H')->te σ H Q
structure MkEL (K:aaa) (h:Hp->Hp) (C:Hp->Prop) (σ:St) (H0:Hp) (d n:Nat) (ta:TA):Prop where
 r:∀ H (Q:List V->Hp->Prop),aG H0 H->C H->(∀ vs gs H',aG H H'->aQ K (h H') gs vs->cC gs<=d->gs.length=n->Q vs H')->ta σ H Q
structure MkT (K:aaa) (h:Hp->Hp) (C:Hp->Prop) (σ:St) (H0:Hp) (d n:Nat) (te:TE):Prop where
 r:∀ H (Q:V->Hp->Prop),aG H0 H->C H->(∀ a xs gs H',aG H H'->bH K H' a xs->aQ K (h H') gs xs->cC gs<=d->gs.length<=n->Q (.ref a) H')->te σ H Q
theorem aV {gs:List G}{d:Nat}:cC gs<=d↔∀ g∈gs,cP g<=d:=by
 induction gs with
 | nil=>rw[cC];simp
 | cons g gs ih=>
  rw[cC];constructor
  ·intro h x hx;rcases abl.mp hx with rfl | hx
   ·omega
   ·exact ih.mp (by omega) x hx
  ·intro h;have h1:=h g abi;have h2:=ih.mpr λ x hx=>h x (aay _ hx);omega
section
variable {h:Hp->Hp}{C:Hp->Prop}{σ:St}{H0:Hp}{d n m:Nat}{te te':TE}{ta:TA}
theorem G3 {i:Int}:MkE K h C σ H0 d (tC (.int i)):=⟨λ H Q _ _ k=>k _ (.int i) H (aG.refl _) (.i _) (aar _)⟩
theorem e_b {i:Bool}:MkE K h C σ H0 d (tC (.bl i)):=⟨λ H Q _ _ k=>k _ (.bl i) H (aG.refl _) (.b _) (aar _)⟩
theorem HH {i:Str}:MkE K h C σ H0 d (tC (.str i)):=⟨λ H Q _ _ k=>k _ (.str i) H (aG.refl _) (.s _) (aar _)⟩
theorem e_n:MkE K h C σ H0 d (tC .non):=⟨λ H Q _ _ k=>k _ .non H (aG.refl _) .n (aar _)⟩
theorem xI {i:Int}:MkE K h C σ H0 d (tUn (rU λ i=>.int (-i)) (tC (.int i))):=⟨λ H Q _ _ k=>⟨i,rfl,k _ (.int (-i)) H (aG.refl _) (.i _) (aar _)⟩⟩
theorem o4 (Vw:View K h C) {i:Nat}{v:V}{g:G} (ao:σ[i]? = some (some v)) (ig:aL K (h H0) g v) (hd:cP g<=d):MkE K h C σ H0 d (aZ i):=⟨λ H Q s _ k=>⟨v,ao,k v g H (aG.refl _) (aL.same (Vw.mono s) ig) hd⟩⟩
theorem nN {i:Nat}{a j:Int} (ao:σ[i]? = some (some (.int a))):MkE K h C σ H0 d (eZ (mY λ i j=>.int (i+j)) (aZ i) (tC (.int j))):=⟨λ H Q _ _ k=>⟨_,ao,a,j,rfl,rfl,k _ (.int (a+j)) H (aG.refl _) (.i _) (aar _)⟩⟩
theorem jR:MkEL K h C σ H0 d 0 eD:=⟨λ H Q _ _ k=>k _ [] H (aG.refl _) .nil (by rw[cC];exact aar _) rfl⟩
theorem eM (Vw:View K h C) (h1:MkE K h C σ H0 d te) (h2:MkEL K h C σ H0 d n ta):MkEL K h C σ H0 d (n+1) (bE te ta):=⟨λ H Q s c k=>h1.r H _ s c λ v g H1 s1 i1 d1=>h2.r H1 _ (s.trans s1) (Vw.keep s1 c) λ vs gs H2 s2 i2 d2 n2=>k _ (g::gs) H2 (s1.trans s2) (.cons (aL.same (Vw.mono s2) i1) i2) (by rw[cC];omega) (by rw[abf,n2])⟩
theorem zQ (Vw:View K h C) (hh:MkEL K h C σ H0 d n ta) (hn:n<=100):MkT K h C σ H0 d n (y4 ta):=⟨λ H Q s c k=>hh.r H _ s c λ vs gs H1 s1 i1 d1 n1=>⟨by rw[i1.length,sizeLine_eq];omega,λ p hp=>by
 have s2:=aG.new (o:=HO.tup vs) hp;exact k _ _ gs _ (s1.trans s2) (bH.of aD) (aQ.same (Vw.mono s2) i1) d1 (by omega)⟩⟩
theorem CB (Vw:View K h C) (hh:MkT K h C σ H0 d n te):MkE K h C σ H0 (d+1) te:=⟨λ H Q s c k=>hh.r H _ s c λ a xs gs H1 s1 q i1 d1 _=>k _ (.tup gs) H1 s1 (aL.t (Vw.ts (Vw.keep s1 c) _ _ q) i1) (by rw[cP];omega)⟩
theorem DG (Vw:View K h C) {i:Nat}{a:Addr}{xs:List V}{gs:List G} (ao:σ[i]? = some (some (.ref a))) (q:bH K H0 a xs) (ig:aQ K (h H0) gs xs) (hd:cC gs<=d) (hn:gs.length<=n):MkT K h C σ H0 d n (aZ i):=⟨λ H Q s _ k=>⟨_,ao,k a xs gs H (aG.refl _) (s.tup q) (aQ.same (Vw.mono s) ig) hd hn⟩⟩
theorem lR (Vw:View K h C) {lo hi:TO} (hh:MkT K h C σ H0 d n te) (hlo:∀ H (Q:Option Int->Hp->Prop),(∀ o,Q o H)->lo σ H Q) (hhi:∀ H (Q:Option Int->Hp->Prop),(∀ o,Q o H)->hi σ H Q):MkT K h C σ H0 d n (y6 (wP K) te lo hi):=⟨λ H Q s c k=>hh.r H _ s c λ a xs gs H1 s1 q i1 d1 n1=>hlo H1 _ λ l=>hhi H1 _ λ u=>CF q λ b H2 i j s2 q2=>
 k b _ ((gs.drop i).take j) H2 (s1.trans s2) q2 (aQ.take j (aQ.drop i (aQ.same (Vw.mono s2) i1))) (aV.mpr λ g hg=>aV.mp d1 g (List.mem_of_mem_drop (List.mem_of_mem_take hg))) (by rw[aau,List.length_drop];omega)⟩
theorem iZ:∀ H (Q:Option Int->Hp->Prop),(∀ o,Q o H)->fL σ H Q:=λ H Q k=>k none
theorem jI {i:Nat}{a:Int} (ao:σ[i]? = some (some (.int a))):∀ H (Q:Option Int->Hp->Prop),(∀ o,Q o H)->g7 (aZ i) σ H Q:=λ H Q k=>⟨_,ao,a,rfl,k _⟩
theorem m8 {i:Nat}{a j:Int} (ao:σ[i]? = some (some (.int a))):∀ H (Q:Option Int->Hp->Prop),(∀ o,Q o H)->g7 (eZ (mY λ i j=>.int (i+j)) (aZ i) (tC (.int j))) σ H Q:=λ H Q k=>⟨_,ao,a,j,rfl,rfl,_,rfl,k _⟩
theorem p_c {a:Int}:∀ H (Q:Option Int->Hp->Prop),(∀ o,Q o H)->g7 (tC (.int a)) σ H Q:=λ H Q k=>⟨a,rfl,k _⟩
theorem lS (Vw:View K h C) (h1:MkT K h C σ H0 d n te) (h2:MkT K h C σ H0 d m te') (hl:n+m<=1000000):MkT K h C σ H0 d (n+m) (eZ (vE K) te te'):=⟨λ H Q s c k=>h1.r H _ s c λ a xs gs H1 s1 q i1 d1 n1=>h2.r H1 _ (s.trans s1) (Vw.keep s1 c) λ b ys hs H2 s2 q2 i2 d2 n2=>
 ⟨a,b,xs,ys,rfl,rfl,s2.tup q,q2,by rw[i1.length,i2.length,sizeLine_eq];omega,λ p H3 s3 q3=>k p _ (gs++hs) H3 ((s1.trans s2).trans s3) q3 ((aQ.same (Vw.mono (s2.trans s3)) i1).app (aQ.same (Vw.mono s3) i2)) (aV.mpr λ g hg=>by
  rcases abg.mp hg with hg | hg
  ·exact aV.mp d1 g hg
  ·exact aV.mp d2 g hg) (by rw[aap];omega)⟩⟩
theorem DY (Vw:View K h C) {H:Hp}{Q:V->Hp->Prop} (hh:MkEL K h C σ H0 d n ta) (hn:n<=100) (s:aG H0 H) (c:C H) (k:∀ l xs gs Hm,aG H Hm->Hm l=none->aQ K (h Hm) gs xs->cC gs<=d->gs.length=n->Q (.ref l) (upd Hm l (.lst xs))):kJ ta σ H Q:=
 hh.r H _ s c λ vs gs H1 s1 i1 d1 n1=>⟨by rw[i1.length,sizeLine_eq];omega,λ p hp=>k p vs gs _ s1 hp i1 d1 n1⟩
theorem DZ (Vw:View K h C) {i:Nat}{R:TS}{D:Ends}{H:Hp} (hh:MkEL K h C σ H0 d n ta) (hn:n<=100) (s:aG H0 H) (c:C H) (k:∀ l xs gs Hm,aG H Hm->Hm l=none->aQ K (h Hm) gs xs->cC gs<=d->gs.length=n->R D (σ.set i (some (.ref l))) (upd Hm l (.lst xs))):fA (fI (kJ ta) (cB i)) R D σ H:=by
 dsimp only [fA,fI,cB];exact DY Vw hh hn s c λ l xs gs Hm a b e f g=>k l xs gs Hm a b e f g
theorem BF (Vw:View K h C) {i:Nat}{R:TS}{D:Ends}{H:Hp}{l:Addr}{xs:List V}{hs:List G} (ao:σ[i]? = some (some (.ref l))) (hx:H l=some (.lst xs)) (gx:aQ K (h H) hs xs) (dx:cC hs<=d) (hl:hs.length<=1000) (hh:MkEL K h C σ H0 d n ta) (hn:n<=100) (s:aG H0 H) (c:C H)
  (k:∀ l xs gs Hm,aG H Hm->Hm l=none->aQ K (h Hm) gs xs->cC gs<=d->gs.length=hs.length+n->R D (σ.set i (some (.ref l))) (upd Hm l (.lst xs))):fA (fI (eZ pD (aZ i) (kJ ta)) (cB i)) R D σ H:=by
 refine⟨_,ao,DY Vw hh hn s c λ l2 xs2 gs2 Hm s2 f2 i2 d2 n2=>?_⟩;have s3:=aG.new (o:=HO.lst xs2) f2;refine⟨l,l2,xs,xs2,rfl,rfl,s3 _ _ (s2 _ _ hx),aD,by rw[gx.length,i2.length,sizeLine_eq];omega,λ l3 hl3=>?_⟩;exact k l3 _ (hs++gs2) _ (s2.trans s3) hl3 ((aQ.same (Vw.mono (s2.trans s3)) gx).app (aQ.same (Vw.mono s3) i2)) (aV.mpr λ g hg=>by
  rcases abg.mp hg with hg | hg
  ·exact aV.mp dx g hg
  ·exact aV.mp d2 g hg) (by rw[aap];omega)
theorem HI (Vw:View K h C) (hh:MkEL K h C σ H0 d n ta) (hn:n<=100):MkE K h C σ H0 (d+1) (kJ ta):=⟨λ H Q s c k=>hh.r H _ s c λ vs gs H1 s1 i1 d1 n1=>⟨by rw[i1.length,sizeLine_eq];omega,λ p hp=>by
 have s2:=aG.new (o:=HO.lst vs) hp;exact k _ (.lst gs) _ (s1.trans s2) (aL.l (bV.of (Vw.new (Vw.keep s1 c) hp)) (aQ.same (Vw.mono s2) i1)) (by rw[cP];omega)⟩⟩
theorem FP (Vw:View K h C) {i:Nat}{a:Addr}{xs:List V}{gs:List G} (ao:σ[i]? = some (some (.ref a))) (q:bH K H0 a xs) (ig:aQ K (h H0) gs xs) (hd:cC gs<=d):MkE K h C σ H0 (d+1) (zE (vD K) (bE (aZ i) eD)):=⟨λ H Q s c k=>⟨_,ao,a,xs,rfl,.inr (s.tup q),λ p hp=>by
 have s2:=aG.new (o:=HO.lst xs) hp;exact k _ (.lst gs) _ s2 (aL.l (bV.of (Vw.new c hp)) (aQ.same (Vw.mono (s.trans s2)) ig)) (by rw[cP];omega)⟩⟩
theorem E1 {i:Nat}{a j:Int} (ao:σ[i]? = some (some (.int a))):MkE K h C σ H0 d (zE (λ xs H Q=>∃ i j,xs=[.int i,.int j]/\Q (.int (if j > i then j else i)) H) (bE (tC (.int 0)) (bE (eZ (mY λ i j=>.int (i - j)) (aZ i) (tC (.int j))) eD))):=⟨λ H Q _ _ k=>⟨_,ao,a,j,rfl,rfl,_,_,rfl,k _ (.int _) H (aG.refl _) (.i _) (aar _)⟩⟩
theorem HJ {i:Nat}{a b:Addr}{z:V}{xs:List V} (ao:σ[i]? = some (some (.ref a))) (q:bH K H0 a [.ref b,z]) (q':bH K H0 b xs):MkE K h C σ H0 d (zE (A2 K) (bE (eZ (rY K) (aZ i) (tC (.int 0))) eD)):=⟨λ H Q s _ k=>⟨_,ao,.inr (.inl ⟨a,_,0,_,rfl,rfl,s.tup q,rfl,b,xs,rfl,.inr (s.tup q'),k _ (.int _) H (aG.refl _) (.i _) (aar _)⟩)⟩⟩
theorem yP (Vw:View K h C) {a b c:TE} (h1:MkE K h C σ H0 d a) (h2:MkE K h C σ H0 d b) (h3:MkE K h C σ H0 d c):MkE K h C σ H0 (d+1) (y4 (bE a (bE b (bE c eD)))):=CB Vw (zQ Vw (eM Vw h1 (eM Vw h2 (eM Vw h3 jR))) (by decide))
theorem uJ (Vw:View K h C) {a b:TE} (h1:MkE K h C σ H0 d a) (h2:MkE K h C σ H0 d b):MkE K h C σ H0 (d+1) (y4 (bE a (bE b eD))):=CB Vw (zQ Vw (eM Vw h1 (eM Vw h2 jR)) (by decide))
theorem zR (Vw:View K h C) {a:TE} (h1:MkE K h C σ H0 d a):MkT K h C σ H0 d 1 (y4 (bE a eD)):=zQ Vw (eM Vw h1 jR) (by decide)
theorem HK (Vw:View K h C) {a b c:TE} (h1:MkE K h C σ H0 d a) (h2:MkE K h C σ H0 d b) (h3:MkE K h C σ H0 d c):MkE K h C σ H0 (d+1) (kJ (bE a (bE b (bE c eD)))):=HI Vw (eM Vw h1 (eM Vw h2 (eM Vw h3 jR))) (by decide)
end
theorem nJ {t l:Addr}{Hm H':Hp} (s:aG Hm H') (f:Hm l=none):aG (cO t Hm) (dJ t l H'):=λ b o e=>by
 unfold cO at e
 split at e
 ·cases e
 ·rename_i n
  unfold dJ;rw[if_neg (λ z=>by
   rcases z with z | z
   ·exact n z
   ·rw[z,f] at e;cases e)]
  exact s b o e
theorem AV {t l:Addr}{H:Hp}:aG (dJ t l H) (cO t H):=λ b o e=>by
 unfold dJ at e
 split at e
 ·cases e
 ·rename_i n
  unfold cO;rw[if_neg (λ z=>n (.inl z))];exact e
theorem rB {t l:Addr}{H:Hp}{o:HO}:dJ t l (upd H l o)=dJ t l H:=by
 funext b;unfold dJ
 by_cases c:b=t\/b=l
 ·rw[if_pos c,if_pos c]
 ·rw[if_neg c,if_neg c,aM (λ z=>c (.inr z))]
structure MoreAt (K:aaa) (t sl l:Addr) (H1 H:Hp) (n:Nat):Prop where
 sm:aG H1 H
 tp:dH H t sl
 ex:∃ xs gs,H l=some (.lst xs)/\aQ K (dJ t l H) gs xs/\cC gs<=6/\1<=gs.length/\gs.length<=n
theorem pV {t sl l:Addr}{H1 H:Hp}{n:Nat}{te:TE}{D:Ends}{σ:St} (nt:l≠t) (ns:l≠sl) (fl:H1 l=none) (ao:σ[6]? = some (some (.ref l))) (M:MoreAt K t sl l H1 H n) (hn:n<=1000)
  (he:MkE K (dJ t l) (λ H=>(∃ q,H t=some (.lst q))/\∃ q,H l=some (.lst q)) σ H 6 te) (k:∀ H',MoreAt K t sl l H1 H' (n+1)->D.nx σ H'):zT (tBM K "list" rZ (aZ 6) (bE te eD)) D σ H:=by
 obtain⟨xs,gs,hl,ig,hd,g1,g2⟩:=M.ex;have eg:=ig.length;refine⟨_,ao,.inl ⟨rfl,_,bV.of hl⟩,he.r H _ (aG.refl _) ⟨M.tp.l,_,hl⟩ λ v g H' s' iv dv=>⟨l,xs,v,rfl,rfl,s' _ _ hl,tL (by omega),?_⟩⟩;refine k _ ⟨(M.sm.trans s').put fl,(M.tp.same s').put nt ns,xs++[v],gs++[g],aD,?_,aV.mpr λ z hz=>?_,by rw[aap];omega,by rw[aap,abh];omega⟩
 ·rw[rB];exact (aQ.same ((zJ K t l).mono s') ig).app (.cons iv .nil)
 ·rcases abg.mp hz with hz | hz
  ·exact aV.mp hd z hz
  ·rw[abq.mp hz];exact dv
def oC (K:aaa):Sp:=λ vs H Q _=>∃ (t sl:Addr) (x z:V) (net:Net) (r:Row),vs=[.ref t,z,x]/\dH H t sl/\Is K H (gZ net) x/\NetOk net/\Is K H (iG r) z/\(∀ n ts,r=.go n ts->ts.length<=100000)/\
 ∀ p g H',Ext t sl H H'->aL K (cO t H') g p->cP g<=10->Q p H'
theorem gH:FnScope ["tape","row","net","word","one","other","more","at","tick","vessel"] ["tape","row","net"] (aR (bO 42)):={}
theorem lD {f f1:Addr}{fd fd1:FuncData} (F:Fun K "_law_row_spoilt" "_law_row_spoilt" (bO 42) f fd) (T:Txt mg) (G__law_draw:Callee P w K mg base "_law_draw" ["tape","many"] 1 fZ f1 fd1):FnOk P w K mg base gQ 2 f fd ["tape","row","net"] (oC K):=by
 refine F.ok gH (λ vs H Q E h=>?_) (λ cdv A outer s H vs Q E hr h=>?_)
 ·obtain⟨t,sl,x,z,net,r,rfl,_⟩:=h;rfl
 ·obtain⟨t,sl,x,z,net,r,rfl,tp,hx,nok,hz,hts,k⟩:=h;have sc:=gH;refine⟨_,(aF (cG (pv 1) (bC (K:=K) (n:=3) rfl rfl (aH (gL 3 sc.nd) (aH (gL 4 sc.nd) (aH (gL 5 sc.nd) bA)))))
   (aF (cQ (bN iW (pv 3) cI (bQ _)) (aF (pL 6 sc.nd (b9 (aA (aO (aA (pv 3) (aA (aK bG (pv 4) aE) (aA (pv 5) aC)))) (aA (aO (aA (pv 3) (aA (pv 4) (aA (aK bG (pv 5) aE) aC)))) (aA (aO (aA (pv 3) (aA (pv 4) (aA aE aC)))) (aA (aO (aA (pv 3) (aA (pv 4) (aA aE aC)))) (aA (aO (aA (pv 3) (aA (wR rM aE) (aA (pv 5) aC)))) aC)))))))
   (aF (pL 6 sc.nd (aK dP (pv 6) (b9 (aA (aO (aA (pv 3) (aA (mS K T.b_len (px K (pv 2) aE)) (aA (pv 5) aC)))) (aA (b9 (aA cI (aA (pv 4) (aA (pv 5) aC)))) (aA (aO (aA (pv 3) (aA fR (aA (pv 5) aC)))) (aA (aO (aA (pv 3) (aA (pv 4) (aA dO aC)))) aC)))))))
   (aJ (aY (px K (pv 6) (cN G__law_draw hr (aA (pv 0) (aA aE aC)))))))) bK)
   (aF (pL 7 sc.nd (cN G__law_draw hr (aA (pv 0) (aA (aK bG (mS K T.b_len (pv 5)) aE) aC))))
   (aF (pL 6 sc.nd (b9 (aA (aO (aA (pv 3) (aA (aK bG (pv 4) aE) (aA (pv 5) aC)))) (aA (aO (aA (pv 3) (aA (bF (nP rfl) rfl T.b_max PyProof.Rows.boot_max (aA aE (aA (aK d8 (pv 4) aE) aC))) (aA (pv 5) aC)))) (aA (aO (aA (pv 3) (aA (pv 4) (aA (b0 (gE (K:=K) rfl) rfl T.b_list kG (aA (pv 5) aC)) aC)))) (aA (aO (aA (pv 3) (aA aE (aA (pv 5) aC)))) aC))))))
   (aF (pL 6 sc.nd (aK dP (pv 6) (b9 (aA (aO (aA (pv 3) (aA (pv 4) (aA (aK (eJ (K:=K) rfl) (bS (gS (K:=K) rfl) (pv 5) cJ (bX (pv 7))) (bS (gS (K:=K) rfl) (pv 5) (bX (aK bG (pv 7) aE)) cJ)) aC)))) (aA (aO (aA (pv 3) (aA (pv 4) (aA (aK (eJ (K:=K) rfl) (pv 5) (aO (aA (aO (aA (pv 4) (aA aE aC))) aC))) aC)))) (aA (aO (aA (pv 3) (aA (pv 4) aC))) aC))))))
   (aF (cV (eS (K:=K) rfl aas aav aaw cD (pv 6) (aA (aK (eJ (K:=K) rfl) (aO (aA cI aC)) (bS (gS (K:=K) rfl) (pv 1) (bX aE) cJ)) aC)))
   (aF (cQ (bN qW (pv 7) (mS K T.b_len (pv 5)) (bQ _)) (aF (cG (px K (pv 5) (pv 7)) (bC (K:=K) (n:=2) rfl rfl (aH (gL 8 sc.nd) (aH (gL 9 sc.nd) bA))))
   (aF (cV (eS (K:=K) rfl aas aav aaw cD (pv 6) (aA (aO (aA (pv 3) (aA (pv 4) (aA (aK (eJ (K:=K) rfl) (aK (eJ (K:=K) rfl) (bS (gS (K:=K) rfl) (pv 5) cJ (bX (pv 7))) (aO (aA (aO (aA (aK bG (pv 8) aE) (aA (pv 9) aC))) aC))) (bS (gS (K:=K) rfl) (pv 5) (bX (aK bG (pv 7) aE)) cJ)) aC)))) aC)))
   (aJ (cV (eS (K:=K) rfl aas aav aaw cD (pv 6) (aA (aO (aA (pv 3) (aA (pv 4) (aA (aK (eJ (K:=K) rfl) (aK (eJ (K:=K) rfl) (bS (gS (K:=K) rfl) (pv 5) cJ (bX (pv 7))) (aO (aA (aO (aA (pv 8) (aA (aK bG (pv 9) aE) aC))) aC))) (bS (gS (K:=K) rfl) (pv 5) (bX (aK bG (pv 7) aE)) cJ)) aC)))) aC)))))) bK)
   (aJ (aY (px K (pv 6) (cN G__law_draw hr (aA (pv 0) (aA (mS K T.b_len (pv 6)) aC))))))))))))),?_⟩
  obtain⟨ra,wd,n,u,rfl,q,hr'⟩:=EI hz;obtain⟨na,nb,nc,nxs,nys,rfl,qn,q1,l1,q2,l2⟩:=g6 hx;refine⟨_,rfl,ra,_,rfl,q,rfl,_,_,rfl,_,_,rfl,_,_,rfl,rfl,?_⟩;dsimp only [cB,j7];rcases hr' with ⟨am,rfl,rfl,rfl⟩ | ⟨ts,b,ys,rfl,rfl,rfl,qb,lb⟩
  ·refine⟨_,rfl,rfl,_,rfl,iteD rfl ?_⟩;have V1:=tG K t;obtain⟨σ,ao⟩:∃ σ:St,σ=[some (V.ref t),some (.ref ra),some (.ref na),some (.str "pour"),some (.int n),some (.int am),none,none,none,none]:=⟨_,rfl⟩;have base:∀ (σ:St) (H1:Hp),aG H H1->σ.take 6=[some (V.ref t),some (.ref ra),some (.ref na),some (.str "pour"),some (.int n),some (.int am)]->(∀ d,MkE K (cO t) (λ H=>∃ q,H t=some (.lst q)) σ H1 d (aZ 3))/\(∀ d,MkE K (cO t) (λ H=>∃ q,H t=some (.lst q)) σ H1 d (aZ 4))/\(∀ d,MkE K (cO t) (λ H=>∃ q,H t=some (.lst q)) σ H1 d (aZ 5))/\σ[4]? = some (some (.int n))/\σ[5]? = some (some (.int am))/\∀ d,MkE K (cO t) (λ H=>∃ q,H t=some (.lst q)) σ H1 d (zE (A2 K) (bE (eZ (rY K) (aZ 2) (tC (.int 0))) eD)):=λ σ H1 s1 e=>by
    have g:∀ i v,i < 6->([some (V.ref t),some (.ref ra),some (.ref na),some (.str "pour"),some (.int n),some (.int am)]:St)[i]? = some v->σ[i]? = some v:=λ i v hi hv=>by
     rw[<- e,List.getElem?_take_of_lt hi] at hv;exact hv
    exact⟨λ d=>o4 V1 (v:=.str "pour") (g:=.str "pour") (g 3 _ (by decide) rfl) (.s _) (aar _),λ d=>o4 V1 (v:=.int n) (g:=.int n) (g 4 _ (by decide) rfl) (.i _) (aar _),λ d=>o4 V1 (v:=.int am) (g:=.int am) (g 5 _ (by decide) rfl) (.i _) (aar _),g 4 _ (by decide) rfl,g 5 _ (by decide) rfl,λ d=>HJ (g 2 _ (by decide) rfl) (s1.tup qn) (s1.tup q1)⟩
   clear ao σ;obtain⟨e3,e4,e5,h4,h5,eL⟩:=base [some (V.ref t),some (.ref ra),some (.ref na),some (.str "pour"),some (.int n),some (.int am),none,none,none,none] H (aG.refl _) rfl;refine DZ V1 (d:=6) (n:=5) (H0:=H) ?hh (by decide) (aG.refl _) tp.l λ l1 xs1 gs1 H1 s1 f1 i1 d1 n1=>?_
   case hh=>repeat (first | exact jR | exact G3 | exact e_b | exact HH | exact e_n | exact xI | exact e3 _ | exact e4 _ | exact e5 _ | exact nN rfl | exact eL _ | refine eM V1 ?_ ?_ | refine yP V1 ?_ ?_ ?_ | refine HK V1 ?_ ?_ ?_ | refine uJ V1 ?_ ?_)
   have s2:=aG.new (o:=HO.lst xs1) f1;have h1l:upd H1 l1 (.lst xs1) l1=some (.lst xs1):=aD;have i2:=aQ.same (cY (t:=t) s2) i1;have s12:=s1.trans s2;generalize upd H1 l1 (.lst xs1)=H2 at s2 h1l i2 s12 ⊢;obtain⟨e3,e4,e5,h4,h5,eL⟩:=base ([some (V.ref t),some (.ref ra),some (.ref na),some (.str "pour"),some (.int n),some (.int am),none,none,none,none].set 6 (some (.ref l1))) H2 s12 rfl;refine BF V1 (d:=6) (n:=4) (H0:=H2) rfl h1l i2 d1 (by omega) ?hh (by decide) (aG.refl _) (tp.same s12).l λ l3 xs3 gs3 H3 s3 f3 i3 d3 n3=>?_
   case hh=>repeat (first | exact jR | exact G3 | exact e_b | exact HH | exact e_n | exact xI | exact e3 _ | exact e4 _ | exact e5 _ | exact nN rfl | exact eL _ | refine eM V1 ?_ ?_ | refine yP V1 ?_ ?_ ?_ | refine HK V1 ?_ ?_ ?_ | refine uJ V1 ?_ ?_)
   have s4:=aG.new (o:=HO.lst xs3) f3;have h3l:upd H3 l3 (.lst xs3) l3=some (.lst xs3):=aD;have i4:=aQ.same (cY (t:=t) s4) i3;have s14:=(s12.trans s3).trans s4;generalize upd H3 l3 (.lst xs3)=H4 at s4 h3l i4 s14 ⊢;have tp4:=tp.same s14;have n3t:l3≠t:=λ z=>by obtain⟨q',e'⟩:=(tp.same (s12.trans s3)).l;rw[z,e'] at f3;cases f3
   refine⟨_,rfl,_,rfl,t,sl,9,rfl,tp4,by decide,by decide,λ rr H5 b5 tp5 r0 r1=>?_⟩;obtain⟨j,rfl⟩:=Int.eq_ofNat_of_zero_le r0;obtain⟨g,hg⟩:∃ g,gs3[j]? = some g:=⟨_,aax (by omega)⟩;obtain⟨y,hy,iy⟩:=i4.get hg;refine .inl ⟨l3,xs3,(j:Int),y,rfl,rfl,bV.of (b5 _ _ n3t h3l),cE hy,?_⟩;exact k y g H5 ⟨s14.but.trans b5,tp5⟩ (aL.same (d0 b5) iy) (by have:=aV.mp d3 g (aao hg);omega)
  ·refine⟨_,rfl,rfl,_,rfl,gP (λ z=>absurd (abp z) (by decide)) λ _=>?_⟩;have hlt:=hts _ _ rfl;have eyl:ys.length=ts.length:=by rw[lb.length,aad]
   refine⟨_,rfl,_,rfl,b,ys,rfl,.inr qb,_,_,rfl,rfl,t,sl,_,rfl,tp,by omega,by omega,λ rr H1 b1 tp1 r0 r1=>?_⟩;have ts1:=b1.ts (K:=K) tp.mut;have qb1:=ts1 _ _ qb;have q_1:=ts1 _ _ q;obtain⟨tq,htq⟩:=tp1.l;have lg1:aQ K (cO t H1) (eY (ts.map fH)) ys:=(L2.IsL.mono (ts1.trans (iN htq)) _ _ lb).g;have dT:=lI ts;have lgl:(eY (ts.map fH)).length=ts.length:=by rw[oR,aad]
   have lr1:aQ K (cO t H1) [.str "go",.int n,.tup (eY (ts.map fH))] [.str "go",.int n,.ref b]:=.cons (.s _) (.cons (.i _) (.cons (aL.t (iN htq _ _ qb1) lg1) .nil));have dR:cC [.str "go",.int n,.tup (eY (ts.map fH))]<=2:=aV.mpr λ g hg=>by
    simp only [abl,aco,or_false] at hg;rcases hg with rfl | rfl | rfl
    ·simp [cP]
    ·simp [cP]
    ·rw[cP];omega
   have V1:=tG K t;have base:∀ {h:Hp->Hp}{C:Hp->Prop} (Vw:View K h C) (σ:St) (H2:Hp),aG H1 H2->aG (cO t H1) (h H2)->σ.take 6=[some (V.ref t),some (.ref ra),some (.ref na),some (.str "go"),some (.int n),some (.ref b)]->(∀ d,MkE K h C σ H2 d (aZ 3))/\(∀ d,MkE K h C σ H2 d (aZ 4))/\(∀ d,MkE K h C σ H2 (d+2) (aZ 5))/\σ[4]? = some (some (.int n))/\(∀ d,MkT K h C σ H2 (d+1) 100000 (aZ 5))/\(∀ d,MkE K h C σ H2 (d+2) (zE (vD K) (bE (aZ 5) eD)))/\∀ d,MkT K h C σ H2 (d+2) 3 (aZ 1):=λ {h C} Vw σ H2 s2 sh e=>by
    have g:∀ i v,i < 6->([some (V.ref t),some (.ref ra),some (.ref na),some (.str "go"),some (.int n),some (.ref b)]:St)[i]? = some v->σ[i]? = some v:=λ i v hi hv=>by
     rw[<- e,List.getElem?_take_of_lt hi] at hv;exact hv
    have lg2:=aQ.same sh lg1;exact⟨λ d=>o4 Vw (v:=.str "go") (g:=.str "go") (g 3 _ (by decide) rfl) (.s _) (aar _),λ d=>o4 Vw (v:=.int n) (g:=.int n) (g 4 _ (by decide) rfl) (.i _) (aar _),λ d=>o4 Vw (v:=.ref b) (g:=.tup (eY (ts.map fH))) (g 5 _ (by decide) rfl) (aL.same sh (aL.t (iN htq _ _ qb1) lg1)) (by rw[cP];omega),g 4 _ (by decide) rfl,
     λ d=>DG Vw (g 5 _ (by decide) rfl) (s2.tup qb1) lg2 (by omega) (by omega),λ d=>FP Vw (g 5 _ (by decide) rfl) (s2.tup qb1) lg2 (by omega),λ d=>DG Vw (g 1 _ (by decide) rfl) (s2.tup q_1) (aQ.same sh lr1) (by omega) (by simp)⟩
   obtain⟨e3,e4,e5,h4,tO,eO,tR⟩:=base V1 [some (V.ref t),some (.ref ra),some (.ref na),some (.str "go"),some (.int n),some (.ref b),none,some (.int rr),none,none] H1 (aG.refl _) (aG.refl _) rfl;have h7:([some (V.ref t),some (.ref ra),some (.ref na),some (.str "go"),some (.int n),some (.ref b),none,some (.int rr),none,none]:St)[7]? = some (some (.int rr)):=rfl;dsimp only [cB,j7];refine DZ V1 (d:=6) (n:=4) (H0:=H1) ?hh (by decide) (aG.refl _) tp1.l λ l1 xs1 gs1 H2 s2 f1 i1 d1 n1=>?_
   case hh=>repeat (first | exact jR | exact G3 | exact e_b | exact HH | exact e_n | exact xI | exact e3 _ | exact e4 _ | exact e5 _ | exact nN h4 | exact E1 h4 | exact eO _ | exact CB V1 (lS V1 (lR V1 (tO _) iZ (jI h7)) (lR V1 (tO _) (m8 h7) iZ) (by decide)) | exact CB V1 (lS V1 (tO _) (zR V1 (uJ V1 (e4 _) G3)) (by decide)) | refine eM V1 ?_ ?_ | refine yP V1 ?_ ?_ ?_ | refine uJ V1 ?_ ?_)
   have s3:=aG.new (o:=HO.lst xs1) f1;have h1l:upd H2 l1 (.lst xs1) l1=some (.lst xs1):=aD;have i2:=aQ.same (cY (t:=t) s3) i1;have s13:=s2.trans s3;generalize upd H2 l1 (.lst xs1)=H3 at s3 h1l i2 s13 ⊢;clear e3 e4 e5 h4 tO eO tR h7;obtain⟨e3,e4,e5,h4,tO,eO,tR⟩:=base V1 ([some (V.ref t),some (.ref ra),some (.ref na),some (.str "go"),some (.int n),some (.ref b),none,some (.int rr),none,none].set 6 (some (.ref l1))) H3 s13 (cY s13) rfl;have h7:([some (V.ref t),some (.ref ra),some (.ref na),some (.str "go"),some (.int n),some (.ref b),none,some (.int rr),none,none].set 6 (some (.ref l1)):St)[7]? = some (some (.int rr)):=rfl;refine BF V1 (d:=6) (n:=3) (H0:=H3) rfl h1l i2 d1 (by omega) ?hh (by decide) (aG.refl _) (tp1.same s13).l λ l xs gs H4 s4 f4 i4 d4 n4=>?_
   case hh=>repeat (first | exact jR | exact G3 | exact e_b | exact HH | exact e_n | exact xI | exact e3 _ | exact e4 _ | exact e5 _ | exact nN h4 | exact E1 h4 | exact eO _ | exact CB V1 (lS V1 (lR V1 (tO _) iZ (jI h7)) (lR V1 (tO _) (m8 h7) iZ) (by decide)) | exact CB V1 (lS V1 (tO _) (zR V1 (uJ V1 (e4 _) G3)) (by decide)) | refine eM V1 ?_ ?_ | refine yP V1 ?_ ?_ ?_ | refine uJ V1 ?_ ?_)
   have s5:=aG.new (o:=HO.lst xs) f4;have hl5:upd H4 l (.lst xs) l=some (.lst xs):=aD;have s15:=(s13.trans s4).trans s5;have i5:=aQ.same (nJ (t:=t) s5 f4) i4;have sh5:aG (cO t H1) (dJ t l (upd H4 l (.lst xs))):=λ bb o e=>nJ (t:=t) s5 f4 bb o (cY (t:=t) (s13.trans s4) bb o e);have nlt:l≠t:=λ z=>by obtain⟨q',e'⟩:=(tp1.same (s13.trans s4)).l;rw[z,e'] at f4;cases f4
   have nls:l≠sl:=(tp1.same (s13.trans s4)).ne_sl f4;have fl:H1 l=none:=(s13.trans s4).free f4;have tp5:=tp1.same s15;generalize upd H4 l (.lst xs)=H5 at s5 hl5 s15 i5 sh5 tp5 ⊢;clear e3 e4 e5 h4 tO eO tR h7;have V2:=zJ K t l;have M5:MoreAt K t sl l H1 H5 20:=⟨s15,tp5,xs,gs,hl5,i5,d4,by omega,by omega⟩;clear hl5 s15 i5 sh5 tp5 s5 s4 f4 i4 d4 n4 s13 s3 h1l i2 i1 d1 n1 f1 s2;refine p9 (λ Z H'=>MoreAt K t sl l H1 H' 21/\Z=[some (V.ref t),some (.ref ra),some (.ref na),some (.str "go"),some (.int n),some (.ref b),some (.ref l),some (.int rr),none,none]) (λ D' hD=>?_) ?_
   ·obtain⟨e3,e4,e5,h4,tO,eO,tR⟩:=base V2 [some (V.ref t),some (.ref ra),some (.ref na),some (.str "go"),some (.int n),some (.ref b),some (.ref l),some (.int rr),none,none] H5 M5.sm (nJ M5.sm fl) rfl;exact pV nlt nls fl rfl M5 (by decide) (CB V2 (lS V2 (zR V2 HH) (lR V2 (tR 3) p_c iZ) (by decide))) λ H' M'=>hD _ _ ⟨M',rfl⟩
   clear M5;rintro Z H6 ⟨M6,rfl⟩;refine p9 (λ Z H'=>MoreAt K t sl l H1 H' 23/\∃ v8 v9,Z=[some (V.ref t),some (.ref ra),some (.ref na),some (.str "go"),some (.int n),some (.ref b),some (.ref l),some (.int rr),v8,v9]) (λ D' hD=>?_) ?_
   ·refine⟨_,rfl,_,rfl,b,ys,rfl,.inr (M6.sm.tup qb1),_,_,rfl,rfl,_,rfl,gP (λ hT=>?_) (λ hN=>?_)⟩;rotate_left
    ·obtain⟨a1,a2,xs',gs',a3,a4,a5,a6,a7⟩:=M6;exact hD _ _ ⟨⟨a1,a2,xs',gs',a3,a4,a5,a6,by omega⟩,_,_,rfl⟩
    have hT:rr < ys.length:=by simpa using hT
    obtain⟨y,hy⟩:∃ y,ys[rr.toNat]? = some y:=⟨_,aax (by omega)⟩;obtain⟨dd,hdd,iy⟩:=lb.get' hy;rw[aah] at hdd;obtain⟨tt,htt,rfl⟩:=aba.mp hdd;obtain⟨ta,rfl,qt⟩:=zP iy;refine⟨_,rfl,_,rfl,.inr (.inl ⟨b,ys,rr,.ref ta,rfl,rfl,M6.sm.tup qb1,gY r0 hy,?_⟩)⟩;refine⟨ta,_,rfl,M6.sm.tup (ts1 _ _ qt),rfl,_,_,rfl,_,_,rfl,rfl,?_⟩;have h7:([some (V.ref t),some (.ref ra),some (.ref na),some (.str "go"),some (.int n),some (.ref b),some (.ref l),some (.int rr),some (.int tt.1),some (.int (tt.2:Int))]:St)[7]? = some (some (.int rr)):=rfl;have h8:([some (V.ref t),some (.ref ra),some (.ref na),some (.str "go"),some (.int n),some (.ref b),some (.ref l),some (.int rr),some (.int tt.1),some (.int (tt.2:Int))]:St)[8]? = some (some (.int tt.1)):=rfl;have h9:([some (V.ref t),some (.ref ra),some (.ref na),some (.str "go"),some (.int n),some (.ref b),some (.ref l),some (.int rr),some (.int tt.1),some (.int (tt.2:Int))]:St)[9]? = some (some (.int (tt.2:Int))):=rfl;dsimp only [cB,j7];refine p9 (λ Z H'=>MoreAt K t sl l H1 H' 22/\Z=[some (V.ref t),some (.ref ra),some (.ref na),some (.str "go"),some (.int n),some (.ref b),some (.ref l),some (.int rr),some (.int tt.1),some (.int (tt.2:Int))]) (λ D'' hD''=>?_) ?_
    ·obtain⟨e3,e4,e5,h4,tO,eO,tR⟩:=base V2 [some (V.ref t),some (.ref ra),some (.ref na),some (.str "go"),some (.int n),some (.ref b),some (.ref l),some (.int rr),some (.int tt.1),some (.int (tt.2:Int))] H6 M6.sm (nJ M6.sm fl) rfl;exact pV nlt nls fl rfl M6 (by decide) (yP V2 (e3 _) (e4 _) (CB V2 (lS V2 (lS V2 (lR V2 (tO 3) iZ (jI h7)) (zR V2 (uJ V2 (nN h8) (o4 V2 (g:=.int (tt.2:Int)) h9 (.i _) (aar _)))) (by decide)) (lR V2 (tO 3) (m8 h7) iZ) (by decide)))) λ H' M'=>hD'' _ _ ⟨M',rfl⟩
    ·rintro Z H7 ⟨M7,rfl⟩;obtain⟨e3,e4,e5,h4,tO,eO,tR⟩:=base V2 [some (V.ref t),some (.ref ra),some (.ref na),some (.str "go"),some (.int n),some (.ref b),some (.ref l),some (.int rr),some (.int tt.1),some (.int (tt.2:Int))] H7 M7.sm (nJ M7.sm fl) rfl;exact pV nlt nls fl rfl M7 (by decide) (yP V2 (e3 _) (e4 _) (CB V2 (lS V2 (lS V2 (lR V2 (tO 3) iZ (jI h7)) (zR V2 (uJ V2 (o4 V2 (g:=.int tt.1) h8 (.i _) (aar _)) (nN h9))) (by decide)) (lR V2 (tO 3) (m8 h7) iZ) (by decide)))) λ H' M'=>hD _ _ ⟨M',_,_,rfl⟩
   clear M6;rintro Z H7 ⟨M7,v8,v9,rfl⟩;obtain⟨xs',gs',hl7,i7,d7,g1,g2⟩:=M7.ex;have e7:=i7.length;refine⟨_,rfl,_,rfl,_,rfl,l,xs',rfl,.inl (bV.of hl7),t,sl,_,rfl,M7.tp,by omega,by omega,λ r8 H8 b8 tp8 a0 a1=>?_⟩;obtain⟨j,rfl⟩:=Int.eq_ofNat_of_zero_le a0;obtain⟨g,hg⟩:∃ g,gs'[j]? = some g:=⟨_,aax (by omega)⟩;obtain⟨y,hy,iy⟩:=i7.get hg;refine .inl ⟨l,xs',(j:Int),y,rfl,rfl,bV.of (b8 _ _ nlt hl7),cE hy,?_⟩;exact k y g H8 ⟨(b1.trans M7.sm.but).trans b8,tp8⟩ (aL.same (d0 b8) (aL.same AV iy)) (by have:=aV.mp d7 g (aao hg);omega)
end Tw
namespace L2
open PySem PySem.Spec PyProof.Rows
section
variable {X:Cx}{e st:Expr}{te:TE}{pos p2:Pos}
theorem qF (its:List Value):slicePick its.toArray none none (some (-1))=its.reverse.toArray:=by
 have h:=HT.pick_rev its.toArray;rw[List.toList_toArray] at h;rw[<- h];unfold slicePick sliceRange sliceBounds;congr 1;simp [List.filterMap_map,Function.comp_def];have:(if -1 < (its.length:Int) - 1 then (its.length:Int) else 0).toNat=its.length:=by split <;> omega
 rw[this]
def zS (K:aaa) (te:TE):TE:=λ σ H Q=>te σ H λ x H1=>∃ a xs,x=.ref a/\bV K H1 a xs/\∀ p,H1 p=none->Q (.ref p) (upd H1 p (.lst xs.reverse))
theorem CP (hK:X.K=K) (he:PE X e te) {tst:TE} (hst:PE X st tst) (hm:∀ σ H (Q:VK),Q (.int (-1)) H->tst σ H Q):PE X (.Subscript e (.Slice none none (some st) p2) pos) (zS K te):=by
 subst hK;intro pins s σ H Q I h;refine Subscript_ (d5 (he pins s σ H _ I h) λ v s1 ⟨x,H1,I1,r1,q1⟩=>?_);refine wpAny_Slice ?_;rw[evalPart_none];refine aae (aae ?_);rw[evalPart_some];refine d5 (hst pins s1 σ H1 (λ v H'=>v=V.int (-1)/\H'=H1) I1 (hm _ _ _ ⟨rfl,rfl⟩)) λ u s2 ⟨z,H2,I2,r2,ez,eH⟩=>?_;subst ez eH;obtain⟨t,rfl⟩:=r2;obtain⟨a,xs,rfl,hx,q⟩:=q1;cases r1;have I4:Inv X pins σ H2 { s2 with heap:=s2.heap.push { cls:=.type "slice",data:=.fields #[.none,.none,.int (-1) t] } }:=I2.kept (t':=s2.toks) λ b ob q=>aac _ q;obtain⟨its,r,ht,hz⟩:=I4.list hx;refine tail_any (ops:=[.ref a,.ref s2.heap.objs.size]) ht.isList.typeIs slot_list_getitem.lookup (wpAny_getItem_list_slice ht.isList (Heap.IsSliceOf.new ..) .none .none (.int (-1) t) (by decide) ?_ (by rw[aaf,<- r.length];exact hz)) (by with_unfolding_all rfl);rw[qF];refine⟨.ref _,_,I4.laid (t':=s2.toks) (o:=.lst xs.reverse) (λ b ob q=>aac _ q) (aak _) ?_,rfl,q _ (I4.hok.fresh (aak _))⟩;exact⟨by rw[List.length_reverse];exact hz,_,0,zK r,aai _ rfl⟩
end
end L2
namespace Tw
open PySem L2
section
variable {H H':Hp}{t sl:Addr}{p kv:V}{net:Net}{S:RunS}{n:Nat}
structure L30 (K:aaa) (H:Hp) (t sl:Addr) (p kv:V) (net:Net) (S:RunS) (n:Nat):Prop where
 tp:dH H t sl
 hp:Is K H (gZ net) p
 en:S.net=net
 ok:RunOk S
 kp:kK K H (λ b=>b≠t) S kv
 sz:RunSz S (600 * n)
 t0:0<=S.cur.tick
 t1:S.cur.tick<=3000
 rl:S.rows.length=n
 rt:∀ r∈S.rows,∀ m ts,r=.go m ts->ts.length<=100000
theorem L30.draw (h:L30 K H t sl p kv net S n) (b:dU t H H') (tp':dH H' t sl):L30 K H' t sl p kv net S n:=
 { h with tp:=tp',hp:=Is.mono (b.ts h.tp.mut) _ _ h.hp,kp:=h.kp.keep (b.ts h.tp.mut) λ c o hc e=>b _ _ hc e }
theorem L30.step {d:Deed}{H2:Hp}{kv':V} (I:L30 K H t sl p kv net S n) (dok:match d with | .pour v _=>0<=v/\v < net.vs.length | .go k=>k<=41/\(k:Int)<=3000 - S.cur.tick) (s:aG H H2) (kp:kK K H2 (λ b=>b≠t\/H b=none) (S.deed d) kv'):L30 K H2 t sl p kv' net (S.deed d) (n+1):=by
 have kp':kK K H2 (λ b=>b≠t) (S.deed d) kv':=kp.imp λ b hb=>by
  rcases hb with hb | hb
  ·exact hb
  ·exact λ z=>(by obtain⟨o,e⟩:=I.tp.some;rw[z,e] at hb;cases hb)
 refine { tp:=I.tp.same s,hp:=Is.mono s.ts _ _ I.hp,en:=?_,ok:=?_,kp:=kp',sz:=?_,t0:=?_,t1:=?_,rl:=?_,rt:=?_ }
 ·rw[<- I.en];cases d <;> rfl
 ·cases d with
  | pour v am=>exact I.ok.pour v am
  | go kk=>exact I.ok.go kk
 ·cases d with
  | pour v am=>
   have:=I.sz.pour v am;exact⟨abo this.rows (by omega),abo this.pre (by omega),λ l hl=>abo (this.tips l hl) (by omega)⟩
  | go kk=>
   have k41:=dok.1;have:=I.sz.go I.ok.nok kk;exact⟨abo this.rows (by omega),abo this.pre (by omega),λ l hl=>abo (this.tips l hl) (by omega)⟩
 ·have:=I.t0;cases d with
  | pour v am=>exact this
  | go kk=>show 0<=(cZ S.net S.cur kk).tick;rw[gB];omega
 ·cases d with
  | pour v am=>exact I.t1
  | go kk=>show (cZ S.net S.cur kk).tick<=3000;rw[gB];have:=dok.2;omega
 ·have:=I.rl;cases d with
  | pour v am=>show (S.rows++[_]).length=_;rw[aap,this];rfl
  | go kk=>show (S.rows++[_]).length=_;rw[aap,this];rfl
 ·intro r hr m ts' e;subst e;cases d with
  | pour v am=>
   rcases abg.mp hr with hr | hr
   ·exact I.rt _ hr _ _ rfl
   ·cases abq.mp hr
  | go kk=>
   rcases abg.mp hr with hr | hr
   ·exact I.rt _ hr _ _ rfl
   ·cases abq.mp hr;have:=gG (m:=S.cur) I.ok.nok kk;have:=dok.1;omega
end
section
variable {h:Hp->Hp}{t sl:Addr}{σ:St}{H0:Hp}{n m:Nat}{te te':TE}
structure MkB (K:aaa) (h:Hp->Hp) (t sl:Addr) (σ:St) (H0:Hp) (n:Nat) (te:TE):Prop where
 r:∀ H (Q:V->Hp->Prop),Ext t sl H0 H->(∀ l xs gs H',Ext t sl H H'->l≠t->H' l=some (.lst xs)->aQ K (h H') gs xs->cC gs<=12->gs.length<=n->Q (.ref l) H')->te σ H Q
structure MkN (K:aaa) (h:Hp->Hp) (t sl:Addr) (σ:St) (H0:Hp) (n:Nat) (te:TE):Prop where
 r:∀ H (Q:V->Hp->Prop),Ext t sl H0 H->(∀ l xs gs H',Ext t sl H H'->H l=none->H' l=some (.lst xs)->aQ K (h H') gs xs->cC gs<=12->gs.length<=n->Q (.ref l) H')->te σ H Q
structure MkO (K:aaa) (h:Hp->Hp) (t sl:Addr) (σ:St) (H0:Hp) (te:TE):Prop where
 r:∀ H (Q:V->Hp->Prop),Ext t sl H0 H->(∀ v g H',Ext t sl H H'->aL K (h H') g v->cP g<=12->Q v H')->te σ H Q
theorem Ext.free {H H1:Hp}{p:Addr} (e:Ext t sl H H1) (hp:H1 p=none):H p=none:=by
 cases hc:H p with
 | none=>rfl
 | some o=>rw[e.bt _ _ (e.ne hp) hc] at hp;cases hp
theorem MkN.b (x:MkN K h t sl σ H0 n te):MkB K h t sl σ H0 n te:=⟨λ H Q e k=>x.r H _ e λ l xs gs H1 e1 f hl ig dg ng=>k l xs gs H1 e1 (λ z=>by obtain⟨o,eo⟩:=e.tp.some;rw[z,eo] at f;cases f) hl ig dg ng⟩
theorem E2 (hm:∀ {H H'},dU t H H'->aG (h H) (h H')) {i:Nat}{l:Addr}{xs:List V}{gs:List G} (ao:σ[i]? = some (some (.ref l))) (nt:l≠t) (hl:H0 l=some (.lst xs)) (ig:aQ K (h H0) gs xs) (hd:cC gs<=12) (hn:gs.length<=n):MkB K h t sl σ H0 n (aZ i):=
 ⟨λ H Q e k=>⟨_,ao,k l xs gs H ⟨dU.refl _,e.tp⟩ nt (e.bt _ _ nt hl) (aQ.same (hm e.bt) ig) hd hn⟩⟩
theorem jS (hm:∀ {H H'},dU t H H'->aG (h H) (h H')) {lo hi:TO} (h1:MkB K h t sl σ H0 n te) (hlo:∀ H (Q:Option Int->Hp->Prop),(∀ o,Q o H)->lo σ H Q) (hhi:∀ H (Q:Option Int->Hp->Prop),(∀ o,Q o H)->hi σ H Q):MkN K h t sl σ H0 n (y6 (mX K) te lo hi):=
 ⟨λ H Q e k=>h1.r H _ e λ l xs gs H1 e1 nt hl ig dg ng=>hlo H1 _ λ o=>hhi H1 _ λ u=>⟨l,xs,rfl,bV.of hl,λ p hp=>
  k p _ ((gs.drop (HT.sIx xs.length 0 o)).take (HT.sIx xs.length xs.length u - HT.sIx xs.length 0 o)) _ (e1.new hp) (e1.free hp) aD (aQ.take _ (aQ.drop _ (aQ.same (hm (aG.new hp).but) ig))) (aV.mpr λ g hg=>aV.mp dg g (List.mem_of_mem_drop (List.mem_of_mem_take hg))) (by rw[aau,List.length_drop];omega)⟩⟩
theorem pU (hm:∀ {H H'},dU t H H'->aG (h H) (h H')) (h1:MkB K h t sl σ H0 n te) (h2:MkB K h t sl σ H0 m te') (hl:n+m<=1000000):MkN K h t sl σ H0 (n+m) (eZ pD te te'):=
 ⟨λ H Q e k=>h1.r H _ e λ l xs gs H1 e1 nt hx ig dg ng=>h2.r H1 _ (e.trans e1) λ l2 ys hs H2 e2 nt2 hy ig2 dg2 ng2=>⟨l,l2,xs,ys,rfl,rfl,e2.bt _ _ nt hx,hy,by rw[ig.length,ig2.length,sizeLine_eq];omega,λ p hp=>
  k p _ (gs++hs) _ ((e1.trans e2).new hp) ((e1.trans e2).free hp) aD ((aQ.same (hm (e2.bt.trans (aG.new hp).but)) ig).app (aQ.same (hm (aG.new hp).but) ig2)) (aV.mpr λ g hg=>by
   rcases abg.mp hg with hg | hg
   ·exact aV.mp dg g hg
   ·exact aV.mp dg2 g hg) (by rw[aap];omega)⟩⟩
theorem aQ.rev {H:Hp}:∀ {gs:List G}{xs:List V},aQ K H gs xs->aQ K H gs.reverse xs.reverse:=by
 intro gs
 induction gs with
 | nil=>intro xs i;obtain rfl:=i.un0;exact .nil
 | cons g gs ih=>
  intro xs i;obtain⟨x,r,rfl,ix,ir⟩:=i.un;rw[List.reverse_cons,List.reverse_cons];exact (ih ir).app (.cons ix .nil)
theorem HQ (hm:∀ {H H'},dU t H H'->aG (h H) (h H')) (h1:MkB K h t sl σ H0 n te):MkN K h t sl σ H0 n (zS K te):=
 ⟨λ H Q e k=>h1.r H _ e λ l xs gs H1 e1 nt hl ig dg ng=>⟨l,xs,rfl,bV.of hl,λ p hp=>
  k p _ gs.reverse _ (e1.new hp) (e1.free hp) aD (aQ.rev (aQ.same (hm (aG.new hp).but) ig)) (aV.mpr λ g hg=>aV.mp dg g (List.mem_reverse.mp hg)) (by rw[List.length_reverse];exact ng)⟩⟩
theorem HR (hm:∀ {H H'},dU t H H'->aG (h H) (h H')) (h1:MkO K h t sl σ H0 te):MkN K h t sl σ H0 1 (kJ (bE te eD)):=
 ⟨λ H Q e k=>h1.r H _ e λ v g H1 e1 iv dv=>⟨(show 1<=sizeLine by decide),λ p hp=>
  k p _ [g] _ (e1.new hp) (e1.free hp) aD (.cons (aL.same (hm (aG.new hp).but) iv) .nil) (aV.mpr λ z hz=>by rw[abq.mp hz];exact dv) (aak _)⟩⟩
theorem iB {l:Addr}{H H':Hp} (b:dU t H H'):aG (dJ t l H) (dJ t l H'):=λ c o e=>by
 unfold dJ at e ⊢
 split at e
 ·cases e
 ·rename_i n
  rw[if_neg n];exact b _ _ (λ z=>n (.inl z)) e
end
inductive Few2:G->Prop where
 | n:Few2 .non
 | b (x):Few2 (.bl x)
 | i (x):Few2 (.int x)
 | s (x):Few2 (.str x)
 | l {gs}:gs.length<=2->(∀ g∈gs,Few2 g)->Few2 (.lst gs)
 | t {gs}:(∀ g∈gs,Few2 g)->Few2 (.tup gs)
theorem DA:∀ g∈([]:List G),Few2 g:=λ _ h=>nomatch h
theorem BC {x:G}{xs:List G} (h:Few2 x) (k:∀ g∈xs,Few2 g):∀ g∈x::xs,Few2 g:=λ g hg=>by
 rcases abl.mp hg with rfl | hg
 ·exact h
 ·exact k g hg
theorem BN:∀ g∈w6++pX++pW,Few2 g:=by
 show ∀ g∈([_,_,_,_,_,_,_,_,_,_,_,_,_,_,_,_,_,_,_,_,_,_,_,_,_,_,_,_,_,_]:List G),Few2 g
 repeat (first | exact DA | exact Few2.n | exact Few2.b _ | exact Few2.i _ | exact Few2.s _ | refine BC ?_ ?_ | refine Few2.t ?_ | refine Few2.l (by decide) ?_)
def rV (K:aaa):Sp:=λ vs H Q _=>∃ (t sl:Addr),vs=[.ref t]/\dH H t sl/\∀ p g H',Ext t sl H H'->aL K (cO t H') g p->Few2 g->cP g<=12->Q p H'
theorem DC:∀ g∈w6++pX++pW,cP g<=12:=aV.mp (by simp [w6,pX,pW,cC,cP])
theorem sL {f f1:Addr}{fd fd1:FuncData} (F:Fun K "_law_any" "_law_any" (bO 29) f fd) (T:Txt mg) (G__law_draw:Callee P w K mg base "_law_draw" ["tape","many"] 1 rS f1 fd1):FnOk P w K mg base gQ 2 f fd ["tape"] (rV K):=by
 refine F.ok nX (λ vs H Q E h=>?_) (λ cdv A outer s H vs Q E hr h=>?_)
 ·obtain⟨t,sl,rfl,_⟩:=h;rfl
 ·obtain⟨t,sl,rfl,tp,k⟩:=h;have sc:=nX;refine⟨_,(aF (pL 1 sc.nd (@b9 _ _ _ _ (@aA _ _ _ _ _ dO (@aA _ _ _ _ _ fR (@aA _ _ _ _ _ fR (@aA _ _ _ _ _ (wR rM aE) (@aA _ _ _ _ _ aE (@aA _ _ _ _ _ aE (@aA _ _ _ _ _ aE (@aA _ _ _ _ _ aE (@aA _ _ _ _ _ aE (@aA _ _ _ _ _ aE (@aA _ _ _ _ _ aE (@aA _ _ _ _ _ aE (@aA _ _ _ _ _ cI (@aA _ _ _ _ _ cI (@aA _ _ _ _ _ cI (@aA _ _ _ _ _ cI (@aA _ _ _ _ _ cI (@aA _ _ _ _ _ (@b9 _ _ _ _ aC) (@aA _ _ _ _ _ (@aO _ _ _ _ _ aC) aC rfl) rfl) rfl) rfl) rfl) rfl) rfl) rfl) rfl) rfl) rfl) rfl) rfl) rfl) rfl) rfl) rfl) rfl) rfl)))
   (aF (pL 1 sc.nd (aK dP (pv 1) (@b9 _ _ _ _ (@aA _ _ _ _ _ (@aO _ _ _ _ _ (@aA _ _ _ _ _ aE aC rfl)) (@aA _ _ _ _ _ (@aO _ _ _ _ _ (@aA _ _ _ _ _ aE (@aA _ _ _ _ _ aE aC rfl) rfl)) (@aA _ _ _ _ _ (@aO _ _ _ _ _ (@aA _ _ _ _ _ dO (@aA _ _ _ _ _ aE aC rfl) rfl)) (@aA _ _ _ _ _ (@aO _ _ _ _ _ (@aA _ _ _ _ _ aE (@aA _ _ _ _ _ fR aC rfl) rfl)) (@aA _ _ _ _ _ (@aO _ _ _ _ _ (@aA _ _ _ _ _ cI (@aA _ _ _ _ _ aE aC rfl) rfl)) (@aA _ _ _ _ _ (@b9 _ _ _ _ (@aA _ _ _ _ _ cI (@aA _ _ _ _ _ aE aC rfl) rfl)) (@aA _ _ _ _ _ (@aO _ _ _ _ _ (@aA _ _ _ _ _ (@aO _ _ _ _ _ (@aA _ _ _ _ _ aE (@aA _ _ _ _ _ aE aC rfl) rfl)) aC rfl)) (@aA _ _ _ _ _ (@aO _ _ _ _ _ (@aA _ _ _ _ _ (@aO _ _ _ _ _ (@aA _ _ _ _ _ dO (@aA _ _ _ _ _ aE aC rfl) rfl)) (@aA _ _ _ _ _ (@aO _ _ _ _ _ (@aA _ _ _ _ _ aE (@aA _ _ _ _ _ aE aC rfl) rfl)) aC rfl) rfl)) aC rfl) rfl) rfl) rfl) rfl) rfl) rfl) rfl))))
   (aF (pL 1 sc.nd (aK dP (pv 1) (@b9 _ _ _ _ (@aA _ _ _ _ _ (@aO _ _ _ _ _ (@aA _ _ _ _ _ aE (@aA _ _ _ _ _ aE (@aA _ _ _ _ _ fR aC rfl) rfl) rfl)) (@aA _ _ _ _ _ (@aO _ _ _ _ _ (@aA _ _ _ _ _ aE (@aA _ _ _ _ _ aE (@aA _ _ _ _ _ aE aC rfl) rfl) rfl)) (@aA _ _ _ _ _ (@aO _ _ _ _ _ (@aA _ _ _ _ _ aE (@aA _ _ _ _ _ aE (@aA _ _ _ _ _ (@aO _ _ _ _ _ (@aA _ _ _ _ _ (@aO _ _ _ _ _ (@aA _ _ _ _ _ dO (@aA _ _ _ _ _ aE aC rfl) rfl)) aC rfl)) (@aA _ _ _ _ _ fR (@aA _ _ _ _ _ dO (@aA _ _ _ _ _ (@aO _ _ _ _ _ aC) aC rfl) rfl) rfl) rfl) rfl) rfl)) aC rfl) rfl) rfl))))
   (aJ (aY (px K (aK dP (pv 1) (@b9 _ _ _ _ (@aA _ _ _ _ _ (cN G__law_draw hr (@aA _ _ _ _ _ (pv 0) (@aA _ _ _ _ _ (aK lC aE aE) aC rfl) rfl)) (@aA _ _ _ _ _ (aK d8 aE (cN G__law_draw hr (@aA _ _ _ _ _ (pv 0) (@aA _ _ _ _ _ (aK lC aE aE) aC rfl) rfl))) aC rfl) rfl))) (cN G__law_draw hr (@aA _ _ _ _ _ (pv 0) (@aA _ _ _ _ _ aE aC rfl) rfl)))))))),?_⟩
  refine EW (K:=K) (t:=t) (gs:=w6) ?hh (by decide) tp.l λ l1 xs1 H1 s1 hl1 n1 i1=>?_
  case hh=>unfold w6;repeat (first | exact vM | exact EZ | exact FA | exact EX | exact EY | exact vN | refine sM ?_ ?_ | refine vK ?_ (by decide) | refine vO ?_ (by decide))
  have tp1:=tp.same s1;refine AI (K:=K) (t:=t) (gs:=pX) rfl hl1 i1 ?hh (by decide) (by decide) tp1.l λ l2 xs2 H2 s2 hl2 n2 i2=>?_
  case hh=>unfold pX;repeat (first | exact vM | exact EZ | exact FA | exact EX | exact EY | exact vN | refine sM ?_ ?_ | refine vK ?_ (by decide) | refine vO ?_ (by decide))
  have tp2:=tp1.same s2;refine AI (K:=K) (t:=t) (gs:=pW) rfl hl2 i2 ?hh (by decide) (by decide) tp2.l λ l5 xs5 H5 s5 hl55 n5 i5=>?_
  case hh=>unfold pW;repeat (first | exact vM | exact EZ | exact FA | exact EX | exact EY | exact vN | refine sM ?_ ?_ | refine vK ?_ (by decide) | refine vO ?_ (by decide))
  have tp5:=tp2.same s5;have s05:=(s1.trans s2).trans s5;clear s1 s2 s5 hl1 hl2 i1 i2 tp1 tp2;refine⟨_,rfl,_,rfl,10,30,rfl,rfl,uL,t,sl,_,rfl,tp5,wS.1,wS.2,λ r1 H6 b6 tp6 a1 a2=>?_⟩;refine⟨_,rfl,10,30,rfl,rfl,uL,t,sl,_,rfl,tp6,wS.1,wS.2,λ r2 H7 b7 tp7 c1 c2=>⟨_,_,rfl,rfl,(show 2<=sizeLine by decide),λ l8 hl8=>?_⟩⟩;have hl57:=b7 _ _ n5 (b6 _ _ n5 hl55);have i7:=aQ.same (d0 (t:=t) (b6.trans b7)) i5;have n8:l8≠t:=λ z=>by obtain⟨q,e⟩:=tp7.l;rw[z,e] at hl8;cases hl8
  have s8:=aG.new (o:=HO.lst [.int r1,.int (0 - r2)]) hl8;have hl88:upd H7 l8 (.lst [.int r1,.int (0 - r2)]) l8=some (.lst [.int r1,.int (0 - r2)]):=aD;have tp8:=tp7.same s8;generalize upd H7 l8 (.lst [.int r1,.int (0 - r2)])=H8 at s8 hl88 tp8 ⊢;have e5:=i5.length;refine⟨l5,l8,_,_,rfl,rfl,s8 _ _ hl57,hl88,by rw[e5];show 30+2<=sizeLine;decide,λ l9 hl9=>?_⟩;have n9:l9≠t:=λ z=>by obtain⟨q,e⟩:=tp8.l;rw[z,e] at hl9;cases hl9
  have s9:=aG.new (o:=HO.lst (xs5++[.int r1,.int (0 - r2)])) hl9;have hl99:upd H8 l9 (.lst (xs5++[.int r1,.int (0 - r2)])) l9=some (.lst (xs5++[.int r1,.int (0 - r2)])):=aD;have i9:=(aQ.same (cY (t:=t) (s8.trans s9)) i7).app (.cons (.i r1) (.cons (.i (0 - r2)) .nil));have tp9:=tp8.same s9;generalize upd H8 l9 (.lst (xs5++[.int r1,.int (0 - r2)]))=H9 at s9 hl99 i9 tp9 ⊢;refine⟨_,rfl,t,sl,32,rfl,tp9,by decide,by decide,λ r H10 b10 tp10 r0 r1'=>?_⟩;obtain⟨n,rfl⟩:=Int.eq_ofNat_of_zero_le r0;have e9:=i9.length;have el:(w6++pX++pW++[G.int r1,.int (0 - r2)]).length=32:=rfl;obtain⟨g,hg⟩:∃ g,(w6++pX++pW++[G.int r1,.int (0 - r2)])[n]? = some g:=⟨_,aax (by omega)⟩;obtain⟨y,hy,iy⟩:=i9.get hg;refine .inl ⟨l9,_,(n:Int),y,rfl,rfl,bV.of (b10 _ _ n9 hl99),cE hy,?_⟩;refine k y g H10 ⟨(((s05.but.trans (b6.trans b7)).trans s8.but).trans s9.but).trans b10,tp10⟩ (aL.same (d0 b10) iy) ?_ ?_
  ·rcases abg.mp (aao hg) with hm | hm
   ·exact BN g hm
   ·simp only [abl,aco,or_false] at hm;rcases hm with rfl | rfl <;> exact Few2.i _
  rcases abg.mp (aao hg) with hm | hm
  ·exact DC g hm
  ·simp only [abl,aco,or_false] at hm;rcases hm with rfl | rfl <;> exact aar _
section
variable {H:Hp}{t bd:Addr}{ys:List V}
theorem mK {a:Addr}{o:HO} (h:cO t H a=some o) (n:a≠bd):dJ t bd H a=some o:=by
 unfold cO at h
 split at h
 ·cases h
 ·rename_i n1
  unfold dJ;rw[if_neg (λ z=>by rcases z with z | z;exact n1 z;exact n z)];exact h
theorem mI {a:Addr}{o:HO} (h:cO t H a=some o):H a=some o:=by
 unfold cO at h
 split at h
 ·cases h
 ·exact h
mutual
theorem uI (hb:H bd=some (.lst ys)) (hy:3<=ys.length):∀ {g:G}{v:V},aL K (cO t H) g v->Few2 g->aL K (dJ t bd H) g v
 | .non,v,h,_=>by rw[aL] at h ⊢;exact h
 | .bl b,v,h,_=>by rw[aL] at h ⊢;exact h
 | .int i,v,h,_=>by rw[aL] at h ⊢;exact h
 | .str z,v,h,_=>by rw[aL] at h ⊢;exact h
 | .tup gs,v,h,f=>by
  rw[aL] at h ⊢;obtain⟨a,xs,e,q,l⟩:=h;refine⟨a,xs,e,?_,nL hb hy l (by cases f with | t k=>exact k)⟩;rcases q with (q | ⟨o,q⟩) | q
  ·exact .inl (.inl (mK q λ z=>by have:=mI q;rw[z,hb] at this;cases this))
  ·exact .inl (.inr ⟨o,mK q λ z=>by have:=mI q;rw[z,hb] at this;cases this⟩)
  ·exact .inr q
 | .lst gs,v,h,f=>by
  rw[aL] at h ⊢;obtain⟨a,xs,e,q,l⟩:=h;have el:=l.length;have f2:gs.length<=2:=by cases f with | l k _=>exact k
  refine⟨a,xs,e,?_,nL hb hy l (by cases f with | l _ k=>exact k)⟩;rcases q with (q | ⟨o,q⟩) | q
  ·exact .inl (.inl (mK q λ z=>by have:=mI q;rw[z,hb] at this;cases this;omega))
  ·exact .inl (.inr ⟨o,mK q λ z=>by have:=mI q;rw[z,hb] at this;cases this⟩)
  ·exact .inr q
theorem nL (hb:H bd=some (.lst ys)) (hy:3<=ys.length):∀ {gs:List G}{vs:List V},aQ K (cO t H) gs vs->(∀ g∈gs,Few2 g)->aQ K (dJ t bd H) gs vs
 | [],vs,h,_=>by rw[aQ] at h ⊢;exact h
 | g::gs,vs,h,f=>by
  rw[aQ] at h ⊢;obtain⟨x,r,e,h1,h2⟩:=h;exact⟨x,r,e,uI hb hy h1 (f g abi),nL hb hy h2 λ z hz=>f z (aay _ hz)⟩
end
theorem GW {sl:Addr}{σ:St}{i:Nat} (ao:σ[i]? = some (some (.ref t))) (nb:bd≠t) (hb:H bd=some (.lst ys)) (hy:3<=ys.length):MkO K (dJ t bd) t sl σ H (iS (rV K) [] E0 (bE (aZ i) eD)):=
 ⟨λ H1 Q e k=>⟨_,ao,t,sl,rfl,e.tp,λ p g H2 e2 ig f d=>k p g H2 e2 (uI (e2.bt _ _ nb (e.bt _ _ nb hb)) hy ig f) d⟩⟩
end
section
variable {H H':Hp}{t sl l:Addr}
def fG (K:aaa) (t:Addr) (H:Hp) (l:Addr):Prop:=∃ xs gs,l≠t/\H l=some (.lst xs)/\aQ K (cO t H) gs xs/\cC gs<=12/\gs.length<=1000
theorem fG.ext (h:fG K t H l) (e:Ext t sl H H'):fG K t H' l:=by
 obtain⟨xs,gs,n,hl,ig,d,g⟩:=h;exact⟨xs,gs,n,e.bt _ _ n hl,aQ.same (d0 e.bt) ig,d,g⟩
def kS (K:aaa) (t bd:Addr) (H:Hp) (l:Addr):Prop:=∃ xs gs,l≠t/\l≠bd/\H l=some (.lst xs)/\aQ K (dJ t bd H) gs xs/\cC gs<=12/\gs.length<=1000
theorem kS.ext {bd:Addr} (h:kS K t bd H l) (e:Ext t sl H H'):kS K t bd H' l:=by
 obtain⟨xs,gs,n,nb,hl,ig,d,g⟩:=h;exact⟨xs,gs,n,nb,e.bt _ _ n hl,aQ.same (iB e.bt) ig,d,g⟩
theorem kS.put {bd:Addr}{o:HO} (h:kS K t bd H l):kS K t bd (upd H bd o) l:=by
 obtain⟨xs,gs,n,nb,hl,ig,d,g⟩:=h;exact⟨xs,gs,n,nb,by rw[aM nb];exact hl,by rw[rB];exact ig,d,g⟩
theorem kS.toL {bd:Addr} (h:kS K t bd H l):fG K t H l:=by
 obtain⟨xs,gs,n,nb,hl,ig,d,g⟩:=h;exact⟨xs,gs,n,hl,aQ.same AV ig,d,g⟩
theorem fG.b {bd:Addr}{o:HO} (h:fG K t H l) (f:H bd=none):kS K t bd (upd H bd o) l:=by
 obtain⟨xs,gs,n,hl,ig,d,g⟩:=h;have nb:l≠bd:=λ z=>by rw[z,f] at hl;cases hl
 exact⟨xs,gs,n,nb,by rw[aM nb];exact hl,aQ.same (nJ (aG.new f) f) ig,d,g⟩
end
section
variable {h:Hp->Hp}{C:Hp->Prop}{H6 H:Hp}{t sl bl bd:Addr}{σ:St}{n m:Nat}{te te':TE}{bs ys:List V}{rs:List Row}{R:TS}{D:Ends}{i:Nat}{x:Int}
theorem fG.of {l:Addr}{xs:List V}{gs:List G} (hx:H l=some (.lst xs)) (nt:l≠t) (ig:aQ K (cO t H) gs xs) (d:cC gs<=12) (hn:gs.length<=1000):fG K t H l:=⟨xs,gs,nt,hx,ig,d,hn⟩
theorem GX (hA:MkN K (cO t) t sl σ H n te) (hB:MkN K (cO t) t sl σ H m te') (hn:n<=1000) (hm:m<=1000) (tp:dH H t sl)
  (k:∀ l1 l2 H' bd,Ext t sl H H'->fG K t H' l1->fG K t H' l2->H' bd=none->R D (σ.set i (some (.ref bd))) (upd H' bd (.lst [.ref l1,.ref l2]))):fA (fI (kJ (bE te (bE te' eD))) (cB i)) R D σ H:=by
 dsimp only [fA,fI,cB];refine hA.r H _ ⟨dU.refl _,tp⟩ λ l1 xs1 gs1 H1 e1 f1 x1 i1 d1 n1=>hB.r H1 _ e1 λ l2 xs2 gs2 H2 e2 f2 x2 i2 d2 n2=>⟨(show 2<=sizeLine by decide),λ bd hbd=>?_⟩;have t1:l1≠t:=λ z=>by obtain⟨o,e⟩:=tp.some;rw[z,e] at f1;cases f1
 have t2:l2≠t:=λ z=>by obtain⟨o,e⟩:=e1.tp.some;rw[z,e] at f2;cases f2
 exact k l1 l2 H2 bd (e1.trans e2) (fG.of (e2.bt _ _ t1 x1) t1 (aQ.same (d0 e2.bt) i1) d1 (by omega)) (fG.of x2 t2 i2 d2 (by omega)) hbd
theorem E3 (hC:MkN K (dJ t bd) t sl σ H n te) (hn:n<=1000) (ao:σ[i]? = some (some (.ref bd))) (hb:H bd=some (.lst ys)) (hy:ys.length<=10) (nb:bd≠t) (tp:dH H t sl)
  (k:∀ l H',Ext t sl H H'->kS K t bd H' l->R D σ (upd H' bd (.lst (ys++[.ref l])))):fA (zT (tBM K "list" rZ (aZ i) (bE te eD))) R D σ H:=by
 refine⟨_,ao,.inl ⟨rfl,_,bV.of hb⟩,hC.r H _ ⟨dU.refl _,tp⟩ λ l xs gs H1 e1 f x1 i1 d1 n1=>⟨bd,ys,.ref l,rfl,rfl,e1.bt _ _ nb hb,tL (by omega),?_⟩⟩;refine k l H1 e1 ⟨xs,gs,λ z=>?_,λ z=>?_,x1,i1,d1,by omega⟩
 ·obtain⟨o,e⟩:=tp.some;rw[z,e] at f;cases f
 ·rw[z,hb] at f;cases f
theorem DQ (hA:MkN K (cO t) t sl σ H n te) (hn:n<=1000) (tp:dH H t sl) (k:∀ l H',Ext t sl H H'->fG K t H' l->R D (σ.set i (some (.ref l))) H'):fA (fI te (cB i)) R D σ H:=by
 dsimp only [fA,fI,cB];refine hA.r H _ ⟨dU.refl _,tp⟩ λ l1 xs1 gs1 H1 e1 f1 x1 i1 d1 n1=>k l1 H1 e1 (fG.of x1 (λ z=>?_) i1 d1 (by omega));obtain⟨o,e⟩:=tp.some;rw[z,e] at f1;cases f1
theorem bkI (Vw:View K h C) (c:C H) (e:Ext t sl H6 H) (tp6:dH H6 t sl) (lb:IsL K H6 (rs.map iG) bs):aQ K (h H) (eY (rs.map iG)) bs:=(L2.IsL.mono ((e.ts tp6).trans (Vw.ts c)) _ _ lb).g
theorem bkD:cC (eY (rs.map iG))<=12:=aV.mpr λ g hg=>by
 rw[oQ,acf] at hg;obtain⟨r,_,rfl⟩:=acm.mp hg;have:=uK r;simp only [Function.comp];omega
theorem bkV (Vw:View K h C) (hm:∀ {H H'},dU t H H'->aG (h H) (h H')) (c:C H) (e:Ext t sl H6 H) (tp6:dH H6 t sl) (lb:IsL K H6 (rs.map iG) bs) (hb:H6 bl=some (.lst bs)) (nbt:bl≠t) (hl:rs.length<=201) (h5:σ[5]? = some (some (.ref bl))):MkB K h t sl σ H 201 (aZ 5):=
 E2 hm h5 nbt (e.bt _ _ nbt hb) (bkI Vw c e tp6 lb) bkD (by rw[oR,aad];exact hl)
theorem bkA (hm:∀ {H H'},dU t H H'->aG (h H) (h H')) (bv:MkB K h t sl σ H 201 (aZ 5)) (h6:σ[6]? = some (some (.int x))):MkN K h t sl σ H 402 (eZ pD (y6 (mX K) (aZ 5) fL (g7 (aZ 6))) (y6 (mX K) (aZ 5) (g7 (eZ (mY λ i j=>.int (i+j)) (aZ 6) (tC (.int 1)))) fL)):=
 pU hm (jS hm bv iZ (jI h6)).b (jS hm bv (m8 h6) iZ).b (by decide)
theorem bkB (hm:∀ {H H'},dU t H H'->aG (h H) (h H')) (bv:MkB K h t sl σ H 201 (aZ 5)) (h6:σ[6]? = some (some (.int x))):MkN K h t sl σ H 603 (eZ pD (eZ pD (y6 (mX K) (aZ 5) fL (g7 (aZ 6))) (y6 (mX K) (aZ 5) (g7 (aZ 6)) (g7 (eZ (mY λ i j=>.int (i+j)) (aZ 6) (tC (.int 1)))))) (y6 (mX K) (aZ 5) (g7 (aZ 6)) fL)):=
 pU hm (pU hm (jS hm bv iZ (jI h6)).b (jS hm bv (jI h6) (m8 h6)).b (by decide)).b (jS hm bv (jI h6) iZ).b (by decide)
theorem bkC (hm:∀ {H H'},dU t H H'->aG (h H) (h H')) (bv:MkB K h t sl σ H 201 (aZ 5)) (h6:σ[6]? = some (some (.int x))):MkN K h t sl σ H 603 (eZ pD (eZ pD (y6 (mX K) (aZ 5) fL (g7 (aZ 6))) (zS K (y6 (mX K) (aZ 5) (g7 (aZ 6)) (g7 (eZ (mY λ i j=>.int (i+j)) (aZ 6) (tC (.int 2))))))) (y6 (mX K) (aZ 5) (g7 (eZ (mY λ i j=>.int (i+j)) (aZ 6) (tC (.int 2)))) fL)):=
 pU hm (pU hm (jS hm bv iZ (jI h6)).b (HQ hm (jS hm bv (jI h6) (m8 h6)).b).b (by decide)).b (jS hm bv (m8 h6) iZ).b (by decide)
theorem bkE (hm:∀ {H H'},dU t H H'->aG (h H) (h H')) (bv:MkB K h t sl σ H 201 (aZ 5)) (h6:σ[6]? = some (some (.int x))) (ho:MkO K h t sl σ H te):MkN K h t sl σ H 403 (eZ pD (eZ pD (y6 (mX K) (aZ 5) fL (g7 (aZ 6))) (kJ (bE te eD))) (y6 (mX K) (aZ 5) (g7 (eZ (mY λ i j=>.int (i+j)) (aZ 6) (tC (.int 1)))) fL)):=
 pU hm (pU hm (jS hm bv iZ (jI h6)).b (HR hm ho).b (by decide)).b (jS hm bv (m8 h6) iZ).b (by decide)
theorem GV {p:V}{net:Net}{j:Nat} (e:Ext t sl H6 H) (tp6:dH H6 t sl) (lb:IsL K H6 (rs.map iG) bs) (hb:H6 bl=some (.lst bs)) (nbt:bl≠t) (hp:Is K H6 (gZ net) p) (nok:NetOk net) (rt:∀ r∈rs,∀ m ts,r=.go m ts->ts.length<=100000) (hj:j < rs.length)
  (h1:σ[1]? = some (some (.ref t))) (h2:σ[2]? = some (some p)) (h5:σ[5]? = some (some (.ref bl))) (h6:σ[6]? = some (some (.int (j:Int)))):MkO K (cO t) t sl σ H (iS (oC K) [] E0 (bE (aZ 1) (bE (eZ (rY K) (aZ 5) (aZ 6)) (bE (aZ 2) eD)))):=by
 have lg:=lb.length;rw[aad] at lg;obtain⟨z,hz⟩:∃ z,bs[j]? = some z:=⟨_,aax (by omega)⟩;obtain⟨dd,hdd,iz⟩:=lb.get' hz;rw[aah] at hdd;obtain⟨r,hr,rfl⟩:=aba.mp hdd;refine⟨λ H1 Q e1 k=>?_⟩;have e6:=e.trans e1;exact⟨_,h1,_,h5,_,h6,.inl ⟨bl,bs,(j:Int),z,rfl,rfl,bV.of (e6.bt _ _ nbt hb),cE hz,_,h2,t,sl,p,z,net,r,rfl,e1.tp,Is.mono (e6.ts tp6) _ _ hp,nok,Is.mono (e6.ts tp6) _ _ iz,rt r (aao hr),λ v g H2 e2 ig dg=>k v g H2 e2 ig (by omega)⟩⟩
end
theorem zW:FnScope ["script","tape","net","kept","turn","book","at","bad","some","way","handed","found"] ["script"] (aR (bO 43)):={}
theorem EV {f f1 f2 f3 f4 f5 f6 f7 f8 f9:Addr}{fd fd1 fd2 fd3 fd4 fd5 fd6 fd7 fd8 fd9:FuncData} (F:Fun K "law" "law" (bO 43) f fd) (T:Txt mg)
  (G__law_draw:Callee P w K mg base "_law_draw" ["tape","many"] 1 fZ f1 fd1)
  (G__law_net:Callee P w K mg base "_law_net" ["tape","most","small"] 4 (uZ K) f2 fd2)
  (G__law_book_first:Callee P w K mg base "_law_book_first" ["net"] 2 (gR K) f3 fd3)
  (G__law_book_deed:Callee P w K mg base "_law_book_deed" ["tape","net","hand","left"] 2 (vC K) f4 fd4)
  (G__law_book_gone:Callee P w K mg base "_law_book_gone" ["net","kept","deed"] 3 (rR K) f5 fd5)
  (G__law_any:Callee P w K mg base "_law_any" ["tape"] 2 (rV K) f6 fd6)
  (G__law_row_spoilt:Callee P w K mg base "_law_row_spoilt" ["tape","row","net"] 2 (oC K) f7 fd7)
  (G_first_lie:Callee P w K mg base "first_lie" ["net","book"] 8 (vA K) f8 fd8)
  (G__law_due:Callee P w K mg base "_law_due" ["net","book"] 4 (vB K) f9 fd9):FnOk P w K mg base gQ 9 f fd ["script"] (wK K):=by
 refine F.ok zW (λ vs H Q E h=>?_) (λ cdv A outer s H vs Q E hr h=>?_)
 ·obtain⟨a,ns,rfl,_⟩:=h;rfl
 ·obtain⟨a,ns,rfl,hS,hlen,k⟩:=h;have sc:=zW;refine⟨_,(aF (pL 1 sc.nd (b9 (aA (b0 (gE (K:=K) rfl) rfl T.b_list kG (aA (pv 0) aC)) (aA aE (aA aE aC)))))
   (aF (pL 2 sc.nd (cN G__law_net hr (aA (pv 1) (aA aE (aA (iK iW (cN G__law_draw hr (aA (pv 1) (aA aE aC))) aE (bQ _)) aC)))))
   (aF (pL 3 sc.nd (cN G__law_book_first hr (aA (pv 2) aC)))
   (aF (dM PassesOwn.never rfl (cH rfl T.b_range (aA (aK bG aE (cN G__law_draw hr (aA (pv 1) (aA (px K (b9 (aA aE (aA aE aC))) (aK fM (cN G__law_draw hr (aA (pv 1) (aA aE aC))) aE)) aC)))) aC)) (gL 4 sc.nd) (aJ (pL 3 sc.nd (cN G__law_book_gone hr (aA (pv 2) (aA (pv 3) (aA (cN G__law_book_deed hr (aA (pv 1) (aA (pv 2) (aA (px K (pv 3) aE) (aA (bF (kF rfl) rfl T.b_min PyProof.Rows.boot_min (aA aE (aA (aK d8 aE (px K (pv 3) aE)) aC))) aC))))) aC)))))))
   (aF (pL 5 sc.nd (px K (pv 3) aE))
   (aF (dM PassesOwn.never rfl (cH rfl T.b_range (aA aE aC)) (gL 4 sc.nd) (aF (pL 6 sc.nd (cN G__law_draw hr (aA (pv 1) (aA (mS K T.b_len (pv 5)) aC))))
   (aF (pL 7 sc.nd (b9 (aA (aK dP (bS (dC (K:=K) rfl) (pv 5) cJ (bX (pv 6))) (bS (dC (K:=K) rfl) (pv 5) (bX (aK bG (pv 6) aE)) cJ)) (aA (aK dP (aK dP (bS (dC (K:=K) rfl) (pv 5) cJ (bX (pv 6))) (bS (dC (K:=K) rfl) (pv 5) (bX (pv 6)) (bX (aK bG (pv 6) aE)))) (bS (dC (K:=K) rfl) (pv 5) (bX (pv 6)) cJ)) aC))))
   (aF (cV (eS (K:=K) rfl aas aav aaw cD (pv 7) (aA (aK dP (aK dP (bS (dC (K:=K) rfl) (pv 5) cJ (bX (pv 6))) (CP (K:=K) rfl (bS (dC (K:=K) rfl) (pv 5) (bX (pv 6)) (bX (aK bG (pv 6) aE))) (wR rM aE) (λ _ _ _ h=>⟨1,rfl,h⟩))) (bS (dC (K:=K) rfl) (pv 5) (bX (aK bG (pv 6) aE)) cJ)) aC)))
   (aF (cV (eS (K:=K) rfl aas aav aaw cD (pv 7) (aA (aK dP (aK dP (bS (dC (K:=K) rfl) (pv 5) cJ (bX (pv 6))) (b9 (aA (cN G__law_any hr (aA (pv 1) aC)) aC))) (bS (dC (K:=K) rfl) (pv 5) (bX (aK bG (pv 6) aE)) cJ)) aC)))
   (aF (pL 8 sc.nd (aK dP (aK dP (bS (dC (K:=K) rfl) (pv 5) cJ (bX (pv 6))) (b9 (aA (cN G__law_row_spoilt hr (aA (pv 1) (aA (px K (pv 5) (pv 6)) (aA (pv 2) aC)))) aC))) (bS (dC (K:=K) rfl) (pv 5) (bX (aK bG (pv 6) aE)) cJ)))
   (aF (pL 9 sc.nd (cN G__law_draw hr (aA (pv 1) (aA aE aC))))
   (aF (cQ (bN qW (pv 9) aE (bQ _)) (aJ (pL 8 sc.nd (px K (pv 7) (pv 9)))) bK)
   (aF (cQ (bN iW (pv 4) aE (bQ _)) (aJ (pL 8 sc.nd (pv 5))) bK)
   (aF (pL 8 sc.nd (bS (dC (K:=K) rfl) (pv 8) cJ (bX aE)))
   (aF (pL 10 sc.nd (b0 (gE (K:=K) rfl) rfl T.b_list kG (aA (pv 8) aC)))
   (aF (pL 11 sc.nd (cN G_first_lie hr (aA (pv 2) (aA (pv 10) aC))))
   (aJ (cQ (PW.pt (m7 (bN wV (pv 11) (cN G__law_due hr (aA (pv 2) (aA (pv 8) aC))) (bQ _)) (m7 (dF (bF (dS (K:=K) rfl) rfl T.b_isinstance fE (aA (pv 11) (aA (g8 (v:=.ty "bool") rfl T.b_bool sZ rfl) aC)))) (lA (bN (wU (K:=K) rfl hr.units) (pv 10) (pv 8) (bQ _)))))) (aJ (aY fR)) bK))))))))))))))
   (aJ (aY fR)))))))),?_⟩
  refine⟨_,rfl,a,_,rfl,.inl hS,λ sl hsl=>⟨(show 3<=sizeLine by decide),λ t ht=>?_⟩⟩;have nst:sl≠t:=aN (show upd H sl (.lst (ns.map V.int)) sl=_ from aD) ht;have tp0:dH (upd (upd H sl (.lst (ns.map V.int))) t (.lst [.ref sl,.int 0,.int 0])) t sl:=⟨ns,0,0,aD,by rw[aM nst];exact aD,by omega⟩;generalize upd (upd H sl (.lst (ns.map V.int))) t (.lst [.ref sl,.int 0,.int 0])=H0 at tp0;refine⟨_,rfl,?_⟩;refine sS (t:=t) (sl:=sl) (H0:=H0) (bD rfl (by decide) (by decide)) _ _ ⟨dU.refl _,tp0⟩ ?_;rintro v H1 e1 _ ⟨small,rfl⟩;refine⟨t,sl,6,small,rfl,by decide,by decide,e1.tp,λ net p H2 e2 nok nfu _ hp=>?_⟩;have tp2:=e2.tp;have n1:=nok.lo;have n2:=nok.hi;refine⟨_,rfl,p,net,rfl,hp,nok,λ kv H4 s4 kp4=>?_⟩;have i0:L30 K H4 t sl p kv net (tM net) 0:={
   tp:=tp2.same s4
   hp:=Is.mono s4.ts _ _ hp
   en:=rfl
   ok:=wO nok
   kp:=kp4.imp λ b hb z=>(by obtain⟨o,e⟩:=tp2.some;rw[z,e] at hb;cases hb)
   sz:=wN net
   t0:=(show (0:Int)<=0 by decide)
   t1:=(show (0:Int)<=3000 by decide)
   rl:=rfl
   rt:=λ r hr=>nomatch hr }
  refine pS (t:=t) (sl:=sl) (H0:=H4) (x:=1) (y:=2) (mM ⟨1,rfl,by decide,by decide⟩) (iC (lo:=40) (hi:=201) rfl (by decide) (by decide) (eW (P:=cU 40 201) (mM ⟨40,rfl,by decide,by decide⟩) (mM ⟨200,rfl,by decide,by decide⟩) (iO (bD rfl (by decide) (by decide))))) _ _ ⟨dU.refl _,i0.tp⟩ ?_;rintro v H5 e5 _ ⟨c,rfl,c0,c1⟩;have i5:=i0.draw e5.bt e5.tp;refine⟨_,rfl,by omega,by omega,?_⟩;refine dW (lo:=0) (n:=c.toNat) (λ i Z H'=>∃ (S:RunS) (kv:V),L30 K H' t sl p kv net S i/\
   ∃ v4,Z=[some (.ref a),some (.ref t),some p,some kv,v4,none,none,none,none,none,none,none]) ⟨tM net,kv,i5,_,rfl⟩ ?_ ?_
  ·rintro i Z H6 hi ⟨S,kv,I,v4,rfl⟩;dsimp only [cB];have hk:=I.kp;obtain⟨ka,st,ha,tl,bl,ts,bs,rfl,kc⟩:=hk;have ipl:S.cur.poured.length=net.vs.length:=by have:=I.ok.cur.pl;rw[I.en] at this;exact this
   have itk:=I.t1;refine⟨_,rfl,_,rfl,_,rfl,_,rfl,_,rfl,.inr (.inl ⟨ka,_,1,_,rfl,rfl,kc.tup,rfl,_,rfl,.inr (.inl ⟨ka,_,2,_,rfl,rfl,kc.tup,rfl,_,_,rfl,rfl,_,_,rfl,t,sl,ha,p,net,S.cur.poured,_,rfl,I.tp,I.hp,nok,kc.hha,ipl,by split <;> omega,λ d u H8 e8 iu dok=>?_⟩)⟩)⟩;have I8:=I.draw e8.bt e8.tp;have dk:BR S d:=by
    cases d with
    | pour v am=>exact⟨dok.1,by rw[I8.en];exact dok.2⟩
    | go kk=>show kk<=10000;have:=dok.1;omega
   refine⟨p,.ref ka,u,S,d,(λ b=>b≠t),600 * i,rfl,by rw[I8.en];exact I8.hp,I8.ok,I8.kp,I8.sz,by omega,iu,dk,λ kv' H10 s10 kp10=>?_⟩;exact⟨S.deed d,kv',I8.step (by cases d with | pour v am=>exact dok | go kk=>exact⟨by have:=dok.1;omega,by have:=dok.2;split at this <;> omega⟩) s10 kp10,_,rfl⟩
  ·rintro Z H6 ⟨S,kv,I,v4,rfl⟩;dsimp only [cB,j7];obtain⟨ka,st,ha,tl,bl,ts,bs,rfl,kc⟩:=I.kp;refine⟨_,rfl,.inr (.inl ⟨ka,_,6,_,rfl,rfl,kc.tup,rfl,?_⟩)⟩;have hb0:=kc.hB;have nbt:bl≠t:=kc.aB;have lb0:=kc.lB;have blen:bs.length=c.toNat:=by rw[lb0.length,aad,I.rl]
   have rlen:=I.rl;have tp6:=I.tp;have hp6:=I.hp;have rt6:=I.rt;have c201:c.toNat<=201:=by omega
   have c1:1<=c.toNat:=by omega
   clear kc I e5 i5 i0;dsimp only [cB,j7];refine⟨9,rfl,by decide,by decide,?_⟩;refine dW (lo:=0) (n:=9) (λ i Z H'=>Ext t sl H6 H'/\∃ v4 v6 v7 v8 v9 v10 v11,Z=[some (.ref a),some (.ref t),some p,some (.ref ka),v4,some (.ref bl),v6,v7,v8,v9,v10,v11]) ⟨⟨dU.refl _,tp6⟩,_,_,_,_,_,_,_,rfl⟩ ?_ ?_
   ·rintro i Z H7 hi ⟨e7,v4,v6,v7,v8,v9,v10,v11,rfl⟩;dsimp only [cB];refine⟨_,rfl,_,rfl,bl,bs,rfl,.inl (bV.of (e7.bt _ _ nbt hb0)),t,sl,_,rfl,e7.tp,by omega,by omega,λ at' H8 b8 tp8 a0 a1=>?_⟩;have e8:Ext t sl H6 H8:=⟨e7.bt.trans b8,tp8⟩;obtain⟨j,rfl⟩:=Int.eq_ofNat_of_zero_le a0;have hj:j < S.rows.length:=by omega
    have hl201:S.rows.length<=201:=by omega
    clear b8 e7;have bv:=bkV (K:=K) (σ:=[some (.ref a),some (.ref t),some p,some (.ref ka),some (.int (0+(i:Int))),some (.ref bl),some (.int (j:Int)),v7,v8,v9,v10,v11]) (tG K t) d0 tp8.l e8 tp6 lb0 hb0 nbt hl201 rfl;dsimp only [cB,j7];refine GX (bkA d0 bv rfl) (bkB d0 bv rfl) (by decide) (by decide) tp8 λ l1 l2 H9 bd e9 S1 S2 hbd=>?_;clear bv;have e69:=e8.trans e9;have nbd:bd≠t:=e69.ne hbd;have fbd:H6 bd=none:=e69.free hbd;have B1:=S1.b (o:=.lst [.ref l1,.ref l2]) hbd;have B2:=S2.b (o:=.lst [.ref l1,.ref l2]) hbd;have e10:=e69.put (o:=.lst [.ref l1,.ref l2]) tp6 fbd;have hb10:upd H9 bd (.lst [.ref l1,.ref l2]) bd=some (.lst [.ref l1,.ref l2]):=aD;generalize upd H9 bd (.lst [.ref l1,.ref l2])=H10 at B1 B2 e10 hb10 ⊢;clear e9 S1 S2 hbd e69 e8 tp8;have V2:=zJ K t bd;have bv:=bkV (K:=K) (σ:=[some (.ref a),some (.ref t),some p,some (.ref ka),some (.int (0+(i:Int))),some (.ref bl),some (.int (j:Int)),some (.ref bd),v8,v9,v10,v11]) V2 iB ⟨e10.tp.l,_,hb10⟩ e10 tp6 lb0 hb0 nbt hl201 rfl;refine E3 (bkC iB bv rfl) (by decide) rfl hb10 (Nat.le_of_ble_eq_true rfl) nbd e10.tp λ l3 H11 e11 B3=>?_;have B1:=(B1.ext e11).put (o:=.lst ([.ref l1,.ref l2]++[.ref l3]));have B2:=(B2.ext e11).put (o:=.lst ([.ref l1,.ref l2]++[.ref l3]));have B3:=B3.put (o:=.lst ([.ref l1,.ref l2]++[.ref l3]));have e12:=(e10.trans e11).put (o:=.lst ([.ref l1,.ref l2]++[.ref l3])) tp6 fbd;have hb12:upd H11 bd (.lst ([.ref l1,.ref l2]++[.ref l3])) bd=some (.lst [.ref l1,.ref l2,.ref l3]):=aD;generalize upd H11 bd (.lst ([.ref l1,.ref l2]++[.ref l3]))=H12 at B1 B2 B3 e12 hb12 ⊢;clear e11 e10 hb10 bv;have bv:=bkV (K:=K) (σ:=[some (.ref a),some (.ref t),some p,some (.ref ka),some (.int (0+(i:Int))),some (.ref bl),some (.int (j:Int)),some (.ref bd),v8,v9,v10,v11]) V2 iB ⟨e12.tp.l,_,hb12⟩ e12 tp6 lb0 hb0 nbt hl201 rfl;refine E3 (bkE iB bv rfl (GW rfl nbd hb12 (Nat.le_of_ble_eq_true rfl))) (by decide) rfl hb12 (Nat.le_of_ble_eq_true rfl) nbd e12.tp λ l4 H13 e13 B4=>?_;have S1:=((B1.ext e13).put (o:=.lst ([.ref l1,.ref l2,.ref l3]++[.ref l4]))).toL;have S2:=((B2.ext e13).put (o:=.lst ([.ref l1,.ref l2,.ref l3]++[.ref l4]))).toL;have S3:=((B3.ext e13).put (o:=.lst ([.ref l1,.ref l2,.ref l3]++[.ref l4]))).toL;have S4:=(B4.put (o:=.lst ([.ref l1,.ref l2,.ref l3]++[.ref l4]))).toL;have e14:=(e12.trans e13).put (o:=.lst ([.ref l1,.ref l2,.ref l3]++[.ref l4])) tp6 fbd;have hb14:upd H13 bd (.lst ([.ref l1,.ref l2,.ref l3]++[.ref l4])) bd=some (.lst [.ref l1,.ref l2,.ref l3,.ref l4]):=aD;generalize upd H13 bd (.lst ([.ref l1,.ref l2,.ref l3]++[.ref l4]))=H14 at S1 S2 S3 S4 e14 hb14 ⊢;clear e13 e12 hb12 bv B1 B2 B3 B4 V2;have bv:=bkV (K:=K) (σ:=[some (.ref a),some (.ref t),some p,some (.ref ka),some (.int (0+(i:Int))),some (.ref bl),some (.int (j:Int)),some (.ref bd),v8,v9,v10,v11]) (tG K t) d0 e14.tp.l e14 tp6 lb0 hb0 nbt hl201 rfl;refine DQ (bkE d0 bv rfl (GV e14 tp6 lb0 hb0 nbt hp6 nok rt6 hj rfl rfl rfl rfl)) (by decide) e14.tp λ ls H15 e15 S5=>?_;clear bv;refine⟨_,rfl,t,sl,8,rfl,e15.tp,by decide,by decide,λ w H16 b16 tp16 w0 w1=>?_⟩;have e16:Ext t sl H15 H16:=⟨b16,tp16⟩;have e616:=(e14.trans e15).trans e16;have S1:=S1.ext (e15.trans e16);have S2:=S2.ext (e15.trans e16);have S3:=S3.ext (e15.trans e16);have S4:=S4.ext (e15.trans e16);have S5:=S5.ext e16;have hb16:=(e15.trans e16).bt _ _ nbd hb14;have SB:fG K t H16 bl:=fG.of (e616.bt _ _ nbt hb0) nbt (bkI (tG K t) tp16.l e616 tp6 lb0) bkD (by rw[oR,aad];omega);clear e14 e15 e16 b16 hb14;dsimp only [cB,j7];refine p9 (λ Z H'=>H'=H16/\∃ l,fG K t H16 l/\Z=[some (.ref a),some (.ref t),some p,some (.ref ka),some (.int (0+(i:Int))),some (.ref bl),some (.int (j:Int)),some (.ref bd),some (.ref l),some (.int w),v10,v11]) (λ D' hD=>?_) ?_
    ·refine⟨_,rfl,w,4,rfl,rfl,_,rfl,gP (λ hT=>?_) (λ _=>?_)⟩
     ·have hT:w < 4:=by simpa using hT
      obtain⟨m,rfl⟩:=Int.eq_ofNat_of_zero_le w0;have:m=0\/m=1\/m=2\/m=3:=by omega
      rcases this with rfl | rfl | rfl | rfl
      ·exact⟨_,rfl,_,rfl,.inl ⟨bd,_,_,_,rfl,rfl,bV.of hb16,rfl,hD _ _ ⟨rfl,l1,S1,rfl⟩⟩⟩
      ·exact⟨_,rfl,_,rfl,.inl ⟨bd,_,_,_,rfl,rfl,bV.of hb16,rfl,hD _ _ ⟨rfl,l2,S2,rfl⟩⟩⟩
      ·exact⟨_,rfl,_,rfl,.inl ⟨bd,_,_,_,rfl,rfl,bV.of hb16,rfl,hD _ _ ⟨rfl,l3,S3,rfl⟩⟩⟩
      ·exact⟨_,rfl,_,rfl,.inl ⟨bd,_,_,_,rfl,rfl,bV.of hb16,rfl,hD _ _ ⟨rfl,l4,S4,rfl⟩⟩⟩
     ·exact hD _ _ ⟨rfl,ls,S5,rfl⟩
    clear S1 S2 S3 S4 S5 hb16;rintro Z H' ⟨rfl,l,S5,rfl⟩;refine p9 (λ Z H''=>H''=H'/\∃ l,fG K t H' l/\Z=[some (.ref a),some (.ref t),some p,some (.ref ka),some (.int (0+(i:Int))),some (.ref bl),some (.int (j:Int)),some (.ref bd),some (.ref l),some (.int w),v10,v11]) (λ D' hD=>?_) ?_
    ·refine⟨_,rfl,rfl,_,rfl,gP (λ hT=>?_) (λ _=>?_)⟩
     ·exact⟨_,rfl,hD _ _ ⟨rfl,bl,SB,rfl⟩⟩
     ·exact hD _ _ ⟨rfl,l,S5,rfl⟩
    clear S5 SB;rintro Z H'' ⟨rfl,l,S5,rfl⟩;obtain⟨xs,gs,nl,hl,ig,dg,ng⟩:=S5;refine DQ (jS d0 (E2 d0 rfl nl hl ig dg ng) iZ p_c) (by decide) tp16 λ l5 H17 e17 S6=>?_;obtain⟨xs5,gs5,nl5,hl5,ig5,dg5,ng5⟩:=S6;refine⟨_,rfl,l5,xs5,rfl,.inl (bV.of hl5),λ hd hhd=>?_⟩;have s18:=aG.new (o:=HO.lst xs5) hhd;have e618:=(e616.trans e17).new (o:=HO.lst xs5) hhd;have hd18:upd H17 hd (.lst xs5) hd=some (.lst xs5):=aD;have hl18:=s18 _ _ hl5;have ig18:=aQ.same s18 (aQ.same rA ig5);generalize upd H17 hd (.lst xs5)=H18 at s18 e618 hd18 hl18 ig18 ⊢;have dd:∀ g∈gs5,cP g<=20:=λ g hg=>by have:=aV.mp dg5 g hg;omega
    refine⟨_,rfl,_,rfl,p,hd,net,gs5,xs5,rfl,Is.mono (e618.ts tp6) _ _ hp6,nok,hd18,ig18,dd,λ H19 s19=>?_⟩;dsimp only [cB,j7];refine⟨_,rfl,_,rfl,_,rfl,p,l5,net,gs5,xs5,rfl,Is.mono s19.ts _ _ (Is.mono (e618.ts tp6) _ _ hp6),nok,s19 _ _ hl18,aQ.same s19 ig18,dd,ng5,λ H20 s20=>?_⟩;have s1820:=s19.trans s20;have fin:Ext t sl H6 H20:=e618.sm s1820;have hd20:=s1820 _ _ hd18;have hl20:=s1820 _ _ hl18;have ig20:=aQ.same s1820 ig18;have dgl:cP (.lst gs5)<=30:=by rw[cP];omega
    generalize gO net (jL net) gs5=ln;clear s19 s20 s1820 hd18 hl18 ig18 e618 s18;refine⟨by cases ln <;> rfl,_,rfl,?_⟩;rw[show (!decide (AJ ln=AJ ln))=false by simp];refine cT ?_;have nb:∃ g,aL K H20 g (AJ ln)/\D7 g "bool" = false:=by
     cases ln with
     | none=>exact⟨.non,.n,by decide⟩
     | some i=>exact⟨.int i,.i _,by show (("int" : String) == "bool" || ("int" == "bool" && "bool" == "int"))=false;decide⟩
    obtain⟨g,ig,eg⟩:=nb;refine⟨_,rfl,_,"bool",g,rfl,by decide,ig,_,rfl,?_⟩;rw[eg];refine cT ?_;refine⟨_,rfl,_,rfl,.lst gs5,.lst gs5,dgl,aL.l (bV.of hd20) ig20,aL.l (bV.of hl20) ig20,_,rfl,?_⟩;rw[mN];refine cT ?_;exact⟨fin,_,_,_,_,_,_,_,rfl⟩
   ·rintro Z H7 ⟨e7,v4,v6,v7,v8,v9,v10,v11,rfl⟩;exact k _
theorem iR {au:Type}{p:List au->Prop} (h:∀ a0,p [a0]):∀ us:List au,us.length=1->p us
 | [a0],_=>h a0
theorem gX {au:Type}{p:List au->Prop} (h:∀ a0 a1,p [a0,a1]):∀ us:List au,us.length=2->p us
 | [a0,a1],_=>h a0 a1
theorem cW {au:Type}{p:List au->Prop} (h:∀ a0 a1 a2,p [a0,a1,a2]):∀ us:List au,us.length=3->p us
 | [a0,a1,a2],_=>h a0 a1 a2
theorem sY {au:Type}{p:List au->Prop} (h:∀ a0 a1 a2 a3,p [a0,a1,a2,a3]):∀ us:List au,us.length=4->p us
 | [a0,a1,a2,a3],_=>h a0 a1 a2 a3
theorem DB {au:Type}{p:List au->Prop} (h:∀ a0 a1 a2 a3 a4,p [a0,a1,a2,a3,a4]):∀ us:List au,us.length=5->p us
 | [a0,a1,a2,a3,a4],_=>h a0 a1 a2 a3 a4
abbrev Na (K:aaa) (x:Str) (f:Addr):Prop:=PySem.W.nsIn K mainGlobals x=some (some (.ref f))
abbrev Nn (K:aaa) (x:Str):Prop:=PySem.W.nsIn K mainGlobals x=some none
abbrev Kp (K:aaa) (f:Addr):Prop:=PySem.W.keepIn K (.ref f)=true
abbrev Cd (K:aaa) (c:Value) (q:Str):Prop:=PySem.W.codeIn K c q=true
abbrev Lk (K:aaa) (f:Addr) (m q:Str) (s:Stmt) (oc:Value) (od:Option Addr) (kV dc pm:Value) (an:Option Addr) (cd ct:Value) (sl:Array (Option Value)):Prop:=K.lookup f=some ⟨oc,od,.func (PySem.W.fnOf m q (kE s) (iQ s) (aR s) .none kV dc pm an cd ct),sl⟩
theorem all_mk {l:PySem.W.OpenLaw}{w:World}{K:aaa}{h:Heap}{mg:Str->Option Value}{fa f0 f1 f2 f3 f4 f5 f6 f7 f8 f9 f10 f11 f12 f13 f14 f15 f16 f17 f18 f19 f20 f21 f22 f23 f24 f25 f26 f27 f28 f29 f30 f31 f32 f33 f34 f35 f36:Addr} (X:K.In h) (G:h.Ns mainGlobals mg) (hfa:mg "law" = some (.ref fa))
  {od0 an0 od1 an1 od2 an2 od3 an3 od4 an4 od5 an5 od6 an6 od7 an7 od8 an8 od9 an9 od10 an10 od11 an11 od12 an12 od13 an13 od14 an14 od15 an15 od16 an16 od17 an17 od18 an18 od19 an19 od20 an20 od21 an21 od22 an22 od23 an23 od24 an24 od25 an25 od26 an26 od27 an27 od28 an28 od29 an29 od30 an30 od31 an31 od32 an32 od33 an33 od34 an34 od35 an35 od36 an36:Option Addr}{sl0 sl1 sl2 sl3 sl4 sl5 sl6 sl7 sl8 sl9 sl10 sl11 sl12 sl13 sl14 sl15 sl16 sl17 sl18 sl19 sl20 sl21 sl22 sl23 sl24 sl25 sl26 sl27 sl28 sl29 sl30 sl31 sl32 sl33 sl34 sl35 sl36:Array (Option Value)}{oc0 kV0 dc0 pm0 ct0 cd0 oc1 kV1 dc1 pm1 ct1 cd1 oc2 kV2 dc2 pm2 ct2 cd2 oc3 kV3 dc3 pm3 ct3 cd3 oc4 kV4 dc4 pm4 ct4 cd4 oc5 kV5 dc5 pm5 ct5 cd5 oc6 kV6 dc6 pm6 ct6 cd6 oc7 kV7 dc7 pm7 ct7 cd7 oc8 kV8 dc8 pm8 ct8 cd8 oc9 kV9 dc9 pm9 ct9 cd9 oc10 kV10 dc10 pm10 ct10 cd10 oc11 kV11 dc11 pm11 ct11 cd11 oc12 kV12 dc12 pm12 ct12 cd12 oc13 kV13 dc13 pm13 ct13 cd13 oc14 kV14 dc14 pm14 ct14 cd14 oc15 kV15 dc15 pm15 ct15 cd15 oc16 kV16 dc16 pm16 ct16 cd16 oc17 kV17 dc17 pm17 ct17 cd17 oc18 kV18 dc18 pm18 ct18 cd18 oc19 kV19 dc19 pm19 ct19 cd19 oc20 kV20 dc20 pm20 ct20 cd20 oc21 kV21 dc21 pm21 ct21 cd21 oc22 kV22 dc22 pm22 ct22 cd22 oc23 kV23 dc23 pm23 ct23 cd23 oc24 kV24 dc24 pm24 ct24 cd24 oc25 kV25 dc25 pm25 ct25 cd25 oc26 kV26 dc26 pm26 ct26 cd26 oc27 kV27 dc27 pm27 ct27 cd27 oc28 kV28 dc28 pm28 ct28 cd28 oc29 kV29 dc29 pm29 ct29 cd29 oc30 kV30 dc30 pm30 ct30 cd30 oc31 kV31 dc31 pm31 ct31 cd31 oc32 kV32 dc32 pm32 ct32 cd32 oc33 kV33 dc33 pm33 ct33 cd33 oc34 kV34 dc34 pm34 ct34 cd34 oc35 kV35 dc35 pm35 ct35 cd35 oc36 kV36 dc36 pm36 ct36 cd36:Value}
  {tkB1 tkB2:Tok}
  (a0:Na K "_law_draw" f0)
  (l0:Lk K f0 "_law_draw" "_law_draw" (bO 28) oc0 od0 kV0 dc0 pm0 an0 cd0 ct0 sl0)
  (c0:Cd K cd0 "_law_draw")
  (k0:Kp K f0)
  (a1:Na K "_law_outs" f1)
  (l1:Lk K f1 "_law_outs" "_law_outs" (bO 31) oc1 od1 kV1 dc1 pm1 an1 cd1 ct1 sl1)
  (c1:Cd K cd1 "_law_outs")
  (k1:Kp K f1)
  (a2:Na K "_law_vessel" f2)
  (l2:Lk K f2 "_law_vessel" "_law_vessel" (bO 32) oc2 od2 kV2 dc2 pm2 an2 cd2 ct2 sl2)
  (c2:Cd K cd2 "_law_vessel")
  (k2:Kp K f2)
  (a3:Na K "_law_net" f3)
  (l3:Lk K f3 "_law_net" "_law_net" (bO 33) oc3 od3 kV3 dc3 pm3 an3 cd3 ct3 sl3)
  (c3:Cd K cd3 "_law_net")
  (k3:Kp K f3)
  (a4:Na K "_law_first" f4)
  (l4:Lk K f4 "_law_first" "_law_first" (bO 34) oc4 od4 kV4 dc4 pm4 an4 cd4 ct4 sl4)
  (c4:Cd K cd4 "_law_first")
  (k4:Kp K f4)
  (a5:Na K "_law_book_first" f5)
  (l5:Lk K f5 "_law_book_first" "_law_book_first" (bO 39) oc5 od5 kV5 dc5 pm5 an5 cd5 ct5 sl5)
  (c5:Cd K cd5 "_law_book_first")
  (k5:Kp K f5)
  (a6:Na K "_law_book_deed" f6)
  (l6:Lk K f6 "_law_book_deed" "_law_book_deed" (bO 37) oc6 od6 kV6 dc6 pm6 an6 cd6 ct6 sl6)
  (c6:Cd K cd6 "_law_book_deed")
  (k6:Kp K f6)
  (a7:Na K "_law_filled" f7)
  (l7:Lk K f7 "_law_filled" "_law_filled" (bO 35) oc7 od7 kV7 dc7 pm7 an7 cd7 ct7 sl7)
  (c7:Cd K cd7 "_law_filled")
  (k7:Kp K f7)
  (a8:Na K "_law_tick" f8)
  (l8:Lk K f8 "_law_tick" "_law_tick" (bO 36) oc8 od8 kV8 dc8 pm8 an8 cd8 ct8 sl8)
  (c8:Cd K cd8 "_law_tick")
  (k8:Kp K f8)
  (a9:Na K "_law_book_gone" f9)
  (l9:Lk K f9 "_law_book_gone" "_law_book_gone" (bO 38) oc9 od9 kV9 dc9 pm9 an9 cd9 ct9 sl9)
  (c9:Cd K cd9 "_law_book_gone")
  (k9:Kp K f9)
  (a10:Na K "_law_any" f10)
  (l10:Lk K f10 "_law_any" "_law_any" (bO 29) oc10 od10 kV10 dc10 pm10 an10 cd10 ct10 sl10)
  (c10:Cd K cd10 "_law_any")
  (k10:Kp K f10)
  (a11:Na K "_law_row_spoilt" f11)
  (l11:Lk K f11 "_law_row_spoilt" "_law_row_spoilt" (bO 42) oc11 od11 kV11 dc11 pm11 an11 cd11 ct11 sl11)
  (c11:Cd K cd11 "_law_row_spoilt")
  (k11:Kp K f11)
  (a12:Na K "first_state" f12)
  (l12:Lk K f12 "first_state" "first_state" (bO 1) oc12 od12 kV12 dc12 pm12 an12 cd12 ct12 sl12)
  (c12:Cd K cd12 "first_state")
  (k12:Kp K f12)
  (a13:Na K "pouring" f13)
  (l13:Lk K f13 "pouring" "pouring" (bO 2) oc13 od13 kV13 dc13 pm13 an13 cd13 ct13 sl13)
  (c13:Cd K cd13 "pouring")
  (k13:Kp K f13)
  (a14:Na K "first_moment" f14)
  (l14:Lk K f14 "first_moment" "first_moment" (bO 13) oc14 od14 kV14 dc14 pm14 an14 cd14 ct14 sl14)
  (c14:Cd K cd14 "first_moment")
  (k14:Kp K f14)
  (a15:Na K "is_tuple" f15)
  (l15:Lk K f15 "is_tuple" "is_tuple" (bO 20) oc15 od15 kV15 dc15 pm15 an15 cd15 ct15 sl15)
  (c15:Cd K cd15 "is_tuple")
  (k15:Kp K f15)
  (a16:Na K "is_whole" f16)
  (l16:Lk K f16 "is_whole" "is_whole" (bO 21) oc16 od16 kV16 dc16 pm16 an16 cd16 ct16 sl16)
  (c16:Cd K cd16 "is_whole")
  (k16:Kp K f16)
  (a17:Na K "most_to_pour" f17)
  (l17:Lk K f17 "most_to_pour" "most_to_pour" (bO 17) oc17 od17 kV17 dc17 pm17 an17 cd17 ct17 sl17)
  (c17:Cd K cd17 "most_to_pour")
  (k17:Kp K f17)
  (a18:Na K "may_pour" f18)
  (l18:Lk K f18 "may_pour" "may_pour" (bO 25) oc18 od18 kV18 dc18 pm18 an18 cd18 ct18 sl18)
  (c18:Cd K cd18 "may_pour")
  (k18:Kp K f18)
  (a19:Na K "moment_poured" f19)
  (l19:Lk K f19 "moment_poured" "moment_poured" (bO 14) oc19 od19 kV19 dc19 pm19 an19 cd19 ct19 sl19)
  (c19:Cd K cd19 "moment_poured")
  (k19:Kp K f19)
  (a20:Na K "most_to_go" f20)
  (l20:Lk K f20 "most_to_go" "most_to_go" (bO 18) oc20 od20 kV20 dc20 pm20 an20 cd20 ct20 sl20)
  (c20:Cd K cd20 "most_to_go")
  (k20:Kp K f20)
  (a21:Na K "filled" f21)
  (l21:Lk K f21 "filled" "filled" (bO 5) oc21 od21 kV21 dc21 pm21 an21 cd21 ct21 sl21)
  (c21:Cd K cd21 "filled")
  (k21:Kp K f21)
  (a22:Na K "send" f22)
  (l22:Lk K f22 "send" "send" (bO 8) oc22 od22 kV22 dc22 pm22 an22 cd22 ct22 sl22)
  (c22:Cd K cd22 "send")
  (k22:Kp K f22)
  (a23:Na K "share_out" f23)
  (l23:Lk K f23 "share_out" "share_out" (bO 7) oc23 od23 kV23 dc23 pm23 an23 cd23 ct23 sl23)
  (c23:Cd K cd23 "share_out")
  (k23:Kp K f23)
  (a24:Na K "settle" f24)
  (l24:Lk K f24 "settle" "settle" (bO 6) oc24 od24 kV24 dc24 pm24 an24 cd24 ct24 sl24)
  (c24:Cd K cd24 "settle")
  (k24:Kp K f24)
  (a25:Na K "doors_behind" f25)
  (l25:Lk K f25 "doors_behind" "doors_behind" (bO 9) oc25 od25 kV25 dc25 pm25 an25 cd25 ct25 sl25)
  (c25:Cd K cd25 "doors_behind")
  (k25:Kp K f25)
  (a26:Na K "tick_behind" f26)
  (l26:Lk K f26 "tick_behind" "tick_behind" (bO 3) oc26 od26 kV26 dc26 pm26 an26 cd26 ct26 sl26)
  (c26:Cd K cd26 "tick_behind")
  (k26:Kp K f26)
  (a27:Na K "came_in" f27)
  (l27:Lk K f27 "came_in" "came_in" (bO 4) oc27 od27 kV27 dc27 pm27 an27 cd27 ct27 sl27)
  (c27:Cd K cd27 "came_in")
  (k27:Kp K f27)
  (a28:Na K "moment_behind" f28)
  (l28:Lk K f28 "moment_behind" "moment_behind" (bO 16) oc28 od28 kV28 dc28 pm28 an28 cd28 ct28 sl28)
  (c28:Cd K cd28 "moment_behind")
  (k28:Kp K f28)
  (a29:Na K "moment_gone" f29)
  (l29:Lk K f29 "moment_gone" "moment_gone" (bO 15) oc29 od29 kV29 dc29 pm29 an29 cd29 ct29 sl29)
  (c29:Cd K cd29 "moment_gone")
  (k29:Kp K f29)
  (a30:Na K "is_just" f30)
  (l30:Lk K f30 "is_just" "is_just" (bO 26) oc30 od30 kV30 dc30 pm30 an30 cd30 ct30 sl30)
  (c30:Cd K cd30 "is_just")
  (k30:Kp K f30)
  (a31:Na K "moment_told" f31)
  (l31:Lk K f31 "moment_told" "moment_told" (bO 24) oc31 od31 kV31 dc31 pm31 an31 cd31 ct31 sl31)
  (c31:Cd K cd31 "moment_told")
  (k31:Kp K f31)
  (a32:Na K "first_lie" f32)
  (l32:Lk K f32 "first_lie" "first_lie" (bO 23) oc32 od32 kV32 dc32 pm32 an32 cd32 ct32 sl32)
  (c32:Cd K cd32 "first_lie")
  (k32:Kp K f32)
  (a33:Na K "_law_whole" f33)
  (l33:Lk K f33 "_law_whole" "_law_whole" (bO 30) oc33 od33 kV33 dc33 pm33 an33 cd33 ct33 sl33)
  (c33:Cd K cd33 "_law_whole")
  (k33:Kp K f33)
  (a34:Na K "_law_pairs_of" f34)
  (l34:Lk K f34 "_law_pairs_of" "_law_pairs_of" (bO 40) oc34 od34 kV34 dc34 pm34 an34 cd34 ct34 sl34)
  (c34:Cd K cd34 "_law_pairs_of")
  (k34:Kp K f34)
  (a35:Na K "_law_due" f35)
  (l35:Lk K f35 "_law_due" "_law_due" (bO 41) oc35 od35 kV35 dc35 pm35 an35 cd35 ct35 sl35)
  (c35:Cd K cd35 "_law_due")
  (k35:Kp K f35)
  (a36:Na K "law" f36)
  (l36:Lk K f36 "law" "law" (bO 43) oc36 od36 kV36 dc36 pm36 an36 cd36 ct36 sl36)
  (c36:Cd K cd36 "law")
  (k36:Kp K f36)
  (mcB1:PySem.W.nsIn K mainGlobals "MOST_POURED" = some (some (.int 1000 tkB1)))
  (mcB2:PySem.W.nsIn K mainGlobals "MOST_TICKS" = some (some (.int 3000 tkB2)))
  (z0:Nn K "len")
  (z1:Nn K "sum")
  (z2:Nn K "all")
  (z3:Nn K "max")
  (z4:Nn K "min")
  (z5:Nn K "int")
  (z6:Nn K "tuple")
  (z7:Nn K "list")
  (z8:Nn K "bool")
  (z9:Nn K "range")
  (z10:Nn K "zip")
  (z11:Nn K "enumerate")
  (z12:Nn K "isinstance")
  (z13:Nn K "divmod")
  (z14:Nn K "set")
  (z15:Nn K "sorted") :
  ∃ fd:FuncData,(∀ (s:Shared) (v:Value),BindsTo s fd ⟨[v],[]⟩ [("script",v)])/\∀ base:Heap,K.In base->base.Ns mainGlobals mg->FnOk l.prog w K mg base gQ 9 fa fd ["script"] (wK K):=by
 have e:=hfa.symm.trans (aan X G a36);cases e;have T:Txt mg:=⟨abb X G z0,abb X G z1,abb X G z2,abb X G z3,abb X G z4,abb X G z5,abb X G z6,abb X G z7,abb X G z8,abb X G z9,abb X G z10,abb X G z11,abb X G z12,abb X G z13,abb X G z14,abb X G z15⟩;have UB:TxtB mg:=⟨⟨_,aan X G mcB1,_,rfl⟩,⟨_,aan X G mcB2,_,rfl⟩⟩;have F0:=bP (st:=(bO 28)) l0 c0 k0;have F1:=bP (st:=(bO 31)) l1 c1 k1;have F2:=bP (st:=(bO 32)) l2 c2 k2;have F3:=bP (st:=(bO 33)) l3 c3 k3;have F4:=bP (st:=(bO 34)) l4 c4 k4;have F5:=bP (st:=(bO 39)) l5 c5 k5;have F6:=bP (st:=(bO 37)) l6 c6 k6;have F7:=bP (st:=(bO 35)) l7 c7 k7;have F8:=bP (st:=(bO 36)) l8 c8 k8;have F9:=bP (st:=(bO 38)) l9 c9 k9;have F10:=bP (st:=(bO 29)) l10 c10 k10;have F11:=bP (st:=(bO 42)) l11 c11 k11;have F12:=bP (st:=(bO 1)) l12 c12 k12;have F13:=bP (st:=(bO 2)) l13 c13 k13;have F14:=bP (st:=(bO 13)) l14 c14 k14;have F15:=bP (st:=(bO 20)) l15 c15 k15;have F16:=bP (st:=(bO 21)) l16 c16 k16;have F17:=bP (st:=(bO 17)) l17 c17 k17;have F18:=bP (st:=(bO 25)) l18 c18 k18;have F19:=bP (st:=(bO 14)) l19 c19 k19;have F20:=bP (st:=(bO 18)) l20 c20 k20;have F21:=bP (st:=(bO 5)) l21 c21 k21;have F22:=bP (st:=(bO 8)) l22 c22 k22;have F23:=bP (st:=(bO 7)) l23 c23 k23;have F24:=bP (st:=(bO 6)) l24 c24 k24;have F25:=bP (st:=(bO 9)) l25 c25 k25;have F26:=bP (st:=(bO 3)) l26 c26 k26;have F27:=bP (st:=(bO 4)) l27 c27 k27;have F28:=bP (st:=(bO 16)) l28 c28 k28;have F29:=bP (st:=(bO 15)) l29 c29 k29;have F30:=bP (st:=(bO 26)) l30 c30 k30;have F31:=bP (st:=(bO 24)) l31 c31 k31;have F32:=bP (st:=(bO 23)) l32 c32 k32;have F33:=bP (st:=(bO 30)) l33 c33 k33;have F34:=bP (st:=(bO 40)) l34 c34 k34;have F35:=bP (st:=(bO 41)) l35 c35 k35;have F36:=bP (st:=(bO 43)) l36 c36 k36;refine⟨PySem.W.fnOf "law" "law" (kE (bO 43)) (iQ (bO 43)) (aR (bO 43)) .none kV36 dc36 pm36 an36 cd36 ct36,λ s v=>.of_eq rfl,λ base _ _=>?_⟩;have CB0:Callee l.prog w K mg base "_law_draw" ["tape","many"] 1 rS f0 _:=⟨kQ F0 T,aan X G a0,k0,F0.binds λ _ _ _ _ _ _=>gX λ _ _=>rfl⟩;have C0:Callee l.prog w K mg base "_law_draw" ["tape","many"] 1 fZ f0 _:=⟨sK F0 T,aan X G a0,k0,F0.binds λ _ _ _ _ _ _=>gX λ _ _=>rfl⟩;have C1:Callee l.prog w K mg base "_law_outs" ["tape","many","small"] 2 (uY K) f1 _:=⟨sI F1 T C0,aan X G a1,k1,F1.binds λ _ _ _ _ _ _=>cW λ _ _ _=>rfl⟩;have C2:Callee l.prog w K mg base "_law_vessel" ["tape","number","many","spouts","small"] 3 (oW K) f2 _:=⟨pN F2 T C0 C1,aan X G a2,k2,F2.binds λ _ _ _ _ _ _=>DB λ _ _ _ _ _=>rfl⟩;have C3:Callee l.prog w K mg base "_law_net" ["tape","most","small"] 4 (uZ K) f3 _:=⟨sJ F3 T C0 C2,aan X G a3,k3,F3.binds λ _ _ _ _ _ _=>cW λ _ _ _=>rfl⟩;have C4:Callee l.prog w K mg base "_law_first" ["net"] 1 (jX K) f4 _:=⟨qJ F4 T,aan X G a4,k4,F4.binds λ _ _ _ _ _ _=>iR λ _=>rfl⟩;have C5:Callee l.prog w K mg base "_law_book_first" ["net"] 2 (gR K) f5 _:=⟨lE F5 T C4,aan X G a5,k5,F5.binds λ _ _ _ _ _ _=>iR λ _=>rfl⟩;have C6:Callee l.prog w K mg base "_law_book_deed" ["tape","net","hand","left"] 2 (vC K) f6 _:=⟨mD F6 T C0,aan X G a6,k6,F6.binds λ _ _ _ _ _ _=>sY λ _ _ _ _=>rfl⟩;have C7:Callee l.prog w K mg base "_law_filled" ["net","state","poured"] 1 (jY K) f7 _:=⟨pO F7 T,aan X G a7,k7,F7.binds λ _ _ _ _ _ _=>cW λ _ _ _=>rfl⟩;have C8:Callee l.prog w K mg base "_law_tick" ["net","state","poured","fast"] 2 (rO K) f8 _:=⟨sH F8 T C7,aan X G a8,k8,F8.binds λ _ _ _ _ _ _=>sY λ _ _ _ _=>rfl⟩;have C9:Callee l.prog w K mg base "_law_book_gone" ["net","kept","deed"] 3 (rR K) f9 _:=⟨mC F9 T C7 C8,aan X G a9,k9,F9.binds λ _ _ _ _ _ _=>cW λ _ _ _=>rfl⟩;have C10:Callee l.prog w K mg base "_law_any" ["tape"] 2 (rV K) f10 _:=⟨sL F10 T CB0,aan X G a10,k10,F10.binds λ _ _ _ _ _ _=>iR λ _=>rfl⟩;have C11:Callee l.prog w K mg base "_law_row_spoilt" ["tape","row","net"] 2 (oC K) f11 _:=⟨lD F11 T C0,aan X G a11,k11,F11.binds λ _ _ _ _ _ _=>cW λ _ _ _=>rfl⟩;have C12:Callee l.prog w K mg base "first_state" ["net"] 1 (jX K) f12 _:=⟨pK F12 T,aan X G a12,k12,F12.binds λ _ _ _ _ _ _=>iR λ _=>rfl⟩;have C13:Callee l.prog w K mg base "pouring" ["net","amount"] 1 (jW K) f13 _:=⟨vH F13 T,aan X G a13,k13,F13.binds λ _ _ _ _ _ _=>gX λ _ _=>rfl⟩;have C14:Callee l.prog w K mg base "first_moment" ["net"] 2 (kZ K) f14 _:=⟨o9 F14 T C12 C13,aan X G a14,k14,F14.binds λ _ _ _ _ _ _=>iR λ _=>rfl⟩;have C15:Callee l.prog w K mg base "is_tuple" ["thing","least","most"] 1 (rN K) f15 _:=⟨sG F15 T,aan X G a15,k15,F15.binds λ _ _ _ _ _ _=>cW λ _ _ _=>rfl⟩;have C16:Callee l.prog w K mg base "is_whole" ["thing","least","most"] 1 (eU K) f16 _:=⟨sF F16 T,aan X G a16,k16,F16.binds λ _ _ _ _ _ _=>cW λ _ _ _=>rfl⟩;have C17:Callee l.prog w K mg base "most_to_pour" ["moment","vessel"] 1 (kW K) f17 _:=⟨o7 F17 T UB,aan X G a17,k17,F17.binds λ _ _ _ _ _ _=>gX λ _ _=>rfl⟩;have C18:Callee l.prog w K mg base "may_pour" ["net","moment","vessel","amount"] 2 (kY K) f18 _:=⟨sE F18 T C16 C17,aan X G a18,k18,F18.binds λ _ _ _ _ _ _=>sY λ _ _ _ _=>rfl⟩;have C19:Callee l.prog w K mg base "moment_poured" ["moment","vessel","amount"] 1 (mW K) f19 _:=⟨nE F19 T,aan X G a19,k19,F19.binds λ _ _ _ _ _ _=>cW λ _ _ _=>rfl⟩;have C20:Callee l.prog w K mg base "most_to_go" ["moment"] 1 (lT K) f20 _:=⟨qH F20 T UB,aan X G a20,k20,F20.binds λ _ _ _ _ _ _=>iR λ _=>rfl⟩;have C21:Callee l.prog w K mg base "filled" ["spouts","state","poured"] 1 (p6 K) f21 _:=⟨yE F21 T,aan X G a21,k21,F21.binds λ _ _ _ _ _ _=>cW λ _ _ _=>rfl⟩;have C22:Callee l.prog w K mg base "send" ["sent","target","amount"] 1 rQ f22 _:=⟨CY F22 T,aan X G a22,k22,F22.binds λ _ _ _ _ _ _=>cW λ _ _ _=>rfl⟩;have C23:Callee l.prog w K mg base "share_out" ["outs","has","sent"] 2 (rP K) f23 _:=⟨sD F23 T C22,aan X G a23,k23,F23.binds λ _ _ _ _ _ _=>cW λ _ _ _=>rfl⟩;have C24:Callee l.prog w K mg base "settle" ["vessel","has","sent"] 3 (oX K) f24 _:=⟨yD F24 T C22 C23,aan X G a24,k24,F24.binds λ _ _ _ _ _ _=>cW λ _ _ _=>rfl⟩;have C25:Callee l.prog w K mg base "doors_behind" ["vessels","doors","tipped"] 1 (rT K) f25 _:=⟨oA F25 T,aan X G a25,k25,F25.binds λ _ _ _ _ _ _=>cW λ _ _ _=>rfl⟩;have C26:Callee l.prog w K mg base "tick_behind" ["net","state","poured"] 4 (uX K) f26 _:=⟨pI F26 T C21 C24 C25,aan X G a26,k26,F26.binds λ _ _ _ _ _ _=>cW λ _ _ _=>rfl⟩;have C27:Callee l.prog w K mg base "came_in" ["net","state","poured"] 1 (p7 K) f27 _:=⟨vI F27 T,aan X G a27,k27,F27.binds λ _ _ _ _ _ _=>cW λ _ _ _=>rfl⟩;have C28:Callee l.prog w K mg base "moment_behind" ["net","moment"] 5 (oZ K) f28 _:=⟨nF F28 T C26 C27 C13,aan X G a28,k28,F28.binds λ _ _ _ _ _ _=>gX λ _ _=>rfl⟩;have C29:Callee l.prog w K mg base "moment_gone" ["net","moment","many"] 6 (oD K) f29 _:=⟨pJ F29 T C28,aan X G a29,k29,F29.binds λ _ _ _ _ _ _=>cW λ _ _ _=>rfl⟩;have C30:Callee l.prog w K mg base "is_just" ["thing","tipped"] 2 (oE K) f30 _:=⟨tV F30 T C15 C16,aan X G a30,k30,F30.binds λ _ _ _ _ _ _=>gX λ _ _=>rfl⟩;have C31:Callee l.prog w K mg base "moment_told" ["net","moment","row"] 7 (kX K) f31 _:=⟨o8 F31 T C15 C18 C19 C16 C20 C29 C30,aan X G a31,k31,F31.binds λ _ _ _ _ _ _=>cW λ _ _ _=>rfl⟩;have C32:Callee l.prog w K mg base "first_lie" ["net","book"] 8 (vA K) f32 _:=⟨qI F32 T C14 C31,aan X G a32,k32,F32.binds λ _ _ _ _ _ _=>gX λ _ _=>rfl⟩;have C33:Callee l.prog w K mg base "_law_whole" ["thing","low","high"] 1 (eU K) f33 _:=⟨pM F33 T,aan X G a33,k33,F33.binds λ _ _ _ _ _ _=>cW λ _ _ _=>rfl⟩;have C34:Callee l.prog w K mg base "_law_pairs_of" ["thing"] 2 (oY K) f34 _:=⟨nG F34 T C33,aan X G a34,k34,F34.binds λ _ _ _ _ _ _=>iR λ _=>rfl⟩;have C35:Callee l.prog w K mg base "_law_due" ["net","book"] 4 (vB K) f35 _:=⟨qK F35 T C33 C34 C5 C9,aan X G a35,k35,F35.binds λ _ _ _ _ _ _=>gX λ _ _=>rfl⟩;exact EV F36 T C0 C3 C5 C6 C9 C10 C11 C32 C35
theorem walk {l:PySem.W.OpenLaw}{q:Program}{loose:List Str}{XP:(Str->Option Value)->Heap->Prop}{YP:World->Heap->Prop}{d:DefRec}{K:Params->aaa} (hn:l.most=some 63) (hdf:d.params.defaults=[])
  (hY:∀ (w:World) (h:Heap),YP w h->(K w.params).In h)
  (F:∀ (w:World) (mg:Str->Option Value) (fa:Addr) (h:Heap),(K w.params).In h->h.Ns mainGlobals mg->mg d.name=some (.ref fa)->
   ∃ fd:FuncData,(∀ (s:Shared) (u:Value),BindsTo s fd ⟨[u],[]⟩ [("script",u)])/\∀ base:Heap,(K w.params).In base->base.Ns mainGlobals mg->FnOk l.prog w (K w.params) mg base gQ 9 fa fd ["script"] (wK (K w.params))) :
  PySem.W.WalkO q loose XP YP l.row.toRowW d [] (λ f vs=>PySem.call f vs):=
 L2.walk_of (n:=63) (k:=9) (x := "script") (CX:=λ _=>gQ) (sp:=λ w=>wK (K w.params)) hn (by decide) hdf ⟨rfl,by decide,by decide⟩ hY F (λ _ _ a ns hl _ hS=>⟨a,ns,rfl,hS,hl,λ _=>rfl⟩) λ _ _ _ _ _ z=>z
end Tw
def PySem.W.Fast.tw14150537937002615557:Nat:=0
theorem PySem.W.Fast.te14150537937002615557:PySem.W.Fast.tw14150537937002615557=PySem.W.Fast.tw14150537937002615557:=rfl
def PySem.W.Fast.tw4387568082108439479:PySem.Program:=PySem.Challenge.pw_tipwell_k30_first_lies
theorem PySem.W.Fast.te4387568082108439479:PySem.Challenge.pw_tipwell_k30_first_lies=PySem.W.Fast.tw4387568082108439479:=rfl
namespace PySem.W.Fast
def tw1098730719661176839:=0
def tw7629040291141521092:=0
def tw17049691815428367243:=0
def tw5371868919931739621:=0
def tw16381955691618679207:=0
def tw10368130970645195334:=0
def tw10875365229757690841:=0
def tw10074329459061527701:=0
def tw2934203538676138284:=0
def tw5890995385885559271:=0
def tw13866315545924913301:=0
def tw15581280888854003912:=0
def tw14528845199308231906:=0
def tw6745080035639454770:=0
def tw9870955901231325013:=0
def tw11090242078674332778:=0
def tw7065243790070801783:=0
def tw1374347616177532269:=0
def tw3569772272139458577:=0
def tw14400681077710995795:=0
def tw7968229887167212654:=0
def tw14204280848285248817:=0
def tw1508664527725830718:=0
def tw17628136120895705451:=0
def tw11455098055279812419:=0
def tw235783427275563814:=0
def tw7495787759696401562:=0
def tw200189548229539309:=0
def tw1653111169300943947:=0
def tw500985363459346187:=0
def tw15917556792434426332:=0
def tw3820152003022327312:=0
def tw3109326430816695272:=0
def tw7836626742643033343:=0
def tw11208302021112187070:=0
def tw10444930861845624534:=0
def tw15396990082865987436:=0
def tw4317756815769757864:=0
def tw5940941425681956111:=0
def tw5669375306842715438:=0
def tw5064286656102205124:=0
def tw1932084455268477044:=0
def tw10194356668078065330:=0
def tw12267212347450542414:=0
def tw15927863601770504515:=0
def tw15440489712974856133:=0
def tw1907882101326122529:=0
def tw11671769640619840990:=0
def tw18107292998598872532:=0
def tw6170742629840174217:=0
def tw16401524189753993345:=0
def tw8680534783367499293:=0
def tw15639323790028228076:=0
def tw11993507485147094840:=0
def tw14452888685208009849:=0
def tw5290095706514652071:=0
def tw12286653166521993037:=0
def tw13169389104586226758:=0
def tw18223952140511109623:=0
def tw2447746740225737160:=0
def tw112491958191219554:=0
def tw12763610615001212011:=0
def tw14329154674443374656:=0
def tw4055816565660547870:=0
def tw18169528266453341962:=0
def tw16916615990939906829:=0
def tw14435122276760388944:=0
def tw10696060426962938496:=0
def tw18343579438237761327:=0
def tw2706189618728206212:=0
def tw284874509813456109:=0
def tw6433300320554858477:=0
def tw18021972775643191259:=0
def tw1960204232768753188:=0
def tw172540969910016182:=0
def tw17067594028592750373:=0
def tw2558575304033252328:=0
def tw1121931642840071074:=0
def tw15634982120055741844:=0
def tw14274623958705381001:=0
def tw11571872241617489842:=0
def tw15771571717104866335:=0
def tw6987955153895276779:=0
end PySem.W.Fast
open PySem PySem.W PyProof.Rows
set_option maxRecDepth 100000 in
set_option maxHeartbeats 0 in
theorem PySem.Challenge.cw_tipwell_k30_first_lies_holds : PySem.Challenge.rw_tipwell_k30_first_lies.Holds := by
 w_on;o_law;k_head;(case hw=>w_witness2)
 k_fill
 refine Tw.walk (l:=PySem.Challenge.rw_tipwell_k30_first_lies) rfl rfl (λ w h Y=>by first | exact PySem.W.kIn_of Y | exact PySem.W.km_in_of Y) ?F
 case F=>
  intro w mg fa h KX G hmg;refine' Tw.all_mk KX G hmg ?_ ?_ ?_ ?_ ?_ ?_ ?_ ?_ ?_ ?_ ?_ ?_ ?_ ?_ ?_ ?_ ?_ ?_ ?_ ?_ ?_ ?_ ?_ ?_ ?_ ?_ ?_ ?_ ?_ ?_ ?_ ?_ ?_ ?_ ?_ ?_ ?_ ?_ ?_ ?_ ?_ ?_ ?_ ?_ ?_ ?_ ?_ ?_ ?_ ?_ ?_ ?_ ?_ ?_ ?_ ?_ ?_ ?_ ?_ ?_ ?_ ?_ ?_ ?_ ?_ ?_ ?_ ?_ ?_ ?_ ?_ ?_ ?_ ?_ ?_ ?_ ?_ ?_ ?_ ?_ ?_ ?_ ?_ ?_ ?_ ?_ ?_ ?_ ?_ ?_ ?_ ?_ ?_ ?_ ?_ ?_ ?_ ?_ ?_ ?_ ?_ ?_ ?_ ?_ ?_ ?_ ?_ ?_ ?_ ?_ ?_ ?_ ?_ ?_ ?_ ?_ ?_ ?_ ?_ ?_ ?_ ?_ ?_ ?_ ?_ ?_ ?_ ?_ ?_ ?_ ?_ ?_ ?_ ?_ ?_ ?_ ?_ ?_ ?_ ?_ ?_ ?_ ?_ ?_ ?_ ?_ ?_ ?_ ?_ ?_ ?_ ?_ ?_ ?_ ?_ ?_ ?_ ?_ ?_ ?_ ?_ ?_ ?_ ?_ ?_ ?_
  all_goals (try delta Tw.Na)
  all_goals (try delta Tw.Nn)
  all_goals (try delta Tw.Kp)
  all_goals (try delta Tw.Cd)
  all_goals (try delta Tw.Lk)
  all_goals try k_is
#print axioms PySem.Challenge.cw_tipwell_k30_first_lies_holds