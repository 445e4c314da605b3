import PyProof.Rows.All
import Wide.All
import OpenK.AllK
import Wide.FinOn
import Lean
import PyProof.EqAt
import PyProof.EqKinds
import PyProof.TupleCall
import PyProof.FactsAll.NoneType
import PyProof.ZipIter
import PyProof.EnumMake
import KE.KUnpack
import KE.KIntText
import PyProof.StrCalls2
import PyProof.CollectIter
import PyProof.Walks
import PyProof.Rows.StrPartPair
import PyProof.Rows.StrSplit
import KE.KTryMore
import PyProof.NsDelKeeps
import PyProof.TupleKey
import PyProof.FactsAll.bool_1
import PyProof.NeKinds
import KE.KIsAll
import PyProof.Rows.IntBool
import KE.RegKIsAll
import KE.RegKTryMore
import PySem.Challenge.RW_tipwell_k14_nets_written_and_read
set_option Elab.async false
set_option linter.all false
set_option maxRecDepth 100000
noncomputable section
abbrev aaa:=PySem.W.Frag
def aab:=@List.length_map
def aac:=@PySem.wpAny_bind
def aad:=@List.size_toArray
def aae:=@Nat.le_refl
def aaf:=@PySem.Heap.get?_push_of_some
def aag:=@PySem.W.mg_of
def aah:=@List.map_append
def aai:=@PySem.Heap.lt_size
def aaj:=@Bool.false_ne_true
def aak:=@List.mem_of_getElem?
def aal:=@List.mem_cons_of_mem
def aam:=@Nat.lt_of_lt_of_le
def aan:=@List.getElem?_eq_some_iff
def aao:=@PySem.W.mg_none_of
def aap:=@PySem.Heap.get?_push_size
def aaq:=@List.mem_cons
def aar:=@List.take_of_length_le
def aas:=@List.length_append
def aat:=@List.mem_map
def aau:=@PySem.wpAny_pure
def aav:=@List.mem_append_right
def aaw:=@List.getElem?_map
def aax:=@PySem.F.slot_list_append
def aay:=@PySem.F.type_list_append
def aaz:=@PySem.F.plainAttrs_list
def aba:=@of_decide_eq_true
def abb:=@Option.map_eq_some_iff
def abc:=@Nat.ne_of_lt
def abd:=@List.mem_append
def abe:=@Option.some.inj
def abf:=@decide_eq_false
def abg:=@List.map_cons
def abh:=@decide_eq_true
def abi:=@Nat.zero_le
def abj:=@List.length_cons
def abk:=@List.length_take
def abl:=@List.not_mem_nil
def abm:=@List.mem_cons_self
def abn:=@Nat.le_trans
def abo:=@List.all_eq_true
def abp:=@PySem.wpAny_mono
def abq:=@PySem.mem_of_lookup
def abr:=@List.mem_singleton
def abt:=@List.mem_append_left
def abu:=@Nat.lt_irrefl
def abv:=@List.getElem?_append_right
def abw:=@List.getElem?_append_left
def abx:=@PySem.wpAny_field
def aby:=@PySem.wpAny_holding
def abz:=@List.take_succ
def aca:=@List.append_nil
def acb:=@List.mem_range
def acd:=@List.length_singleton
def ace:=@List.getElem_mem
def acf:=@List.nodup_cons
def acg:=@Nat.le_of_lt
variable {P:PySem.Program}{w:PySem.World}{K:aaa}{mg:PySem.Str->Option PySem.Value}{base:PySem.Heap}{C c_TipError c_NoNet c_NoVessel c_TooLong c_TooMany c_TooMuch c_Nothing c_NoText c_NoRow:PySem.Addr}
namespace L2
open PySem PySem.Spec PyProof.Rows
abbrev lR:=Sum Int (Option Str)
def vE:Value->Bool
 | .none=>true
 | _=>false
theorem pH {v:Value} (h:vE v=true):v=Value.none:=by
 cases v <;> simp_all [vE]
def y9:lR->Value->Bool
 | .inl k,v=>Value.isInt k v
 | .inr (some x),v=>Value.isStrOf x v
 | .inr none,v=>vE v
def j9:Int:=0xFCA86420
def keyH (w:World):lR->Int
 | .inl k=>hashInt k
 | .inr (some x)=>hashStr w x
 | .inr none=>j9
theorem bM:∀ {k:lR}{v:Value},y9 k v=true->(∃ i t,k=Sum.inl i/\v=Value.int i t)\/(∃ x t,k=Sum.inr (some x)/\v=Value.str x t)\/(k=Sum.inr none/\v=Value.none)
 | .inl i,v,h=>by
  obtain⟨t,e⟩:=Value.isInt_shape (k:=i) (v:=v) h;exact .inl ⟨i,t,rfl,e⟩
 | .inr (some x),v,h=>by
  obtain⟨t,e⟩:=Value.isStrOf_shape (x:=x) (v:=v) h;exact .inr (.inl ⟨x,t,rfl,e⟩)
 | .inr none,v,h=>.inr (.inr ⟨rfl,pH h⟩)
theorem A0 (a b:Int):decide ((Sum.inl a:lR)=Sum.inl b)=(a == b):=by
 by_cases e:a=b
 ·subst e;simp
 ·have h:¬ (Sum.inl a:lR)=Sum.inl b:=λ q=>e (Sum.inl.inj q);rw[abf h];exact (beq_eq_false_iff_ne.mpr e).symm
theorem zY (a b:Str):decide ((Sum.inr (some a):lR)=Sum.inr (some b))=decide (a=b):=by
 by_cases e:a=b
 ·subst e;simp
 ·have h:¬ (Sum.inr (some a):lR)=Sum.inr (some b):=λ q=>e (abe (Sum.inr.inj q));rw[abf h,abf e]
theorem uY (i:Int) (o:Option Str):decide ((Sum.inl i:lR)=Sum.inr o)=false:=abf (λ q=>nomatch q)
theorem uZ (i:Int) (o:Option Str):decide ((Sum.inr o:lR)=Sum.inl i)=false:=abf (λ q=>nomatch q)
theorem zX (x:Str):decide ((Sum.inr (some x):lR)=Sum.inr none)=false:=abf (λ q=>nomatch (Sum.inr.inj q))
theorem zZ (x:Str):decide ((Sum.inr none:lR)=Sum.inr (some x))=false:=abf (λ q=>nomatch (Sum.inr.inj q))
theorem vL {prog:Program}{w:World}{A:Around}{E:Value->Shared->Prop}{s:Shared}{Q:Int->Shared->Prop} (h:Q j9 { s with toks:=s.toks+1 }) :
  wpAny (model prog w) A (pyHash .none) Q E s:=by
 have hT:s.TypeIs .none "NoneType" := rfl;unfold pyHash;have hv:[Value.none].any Value.onHeap=false:=rfl;refine aac ?_;rw[cRoomFor,if_neg (by rw[hv];exact aaj)];refine aau ?_;refine aac (wpAny_specialOf hT F.slot_NoneType_hash.lookup ?_);show wpAny _ _ (if (some (Value.builtin "NoneType.__hash__") == some Value.none)=true then _ else _) Q E s;rw[if_neg (by rw[beq_builtin_none];exact aaj)];refine aac (wpAny_specialOf hT F.slot_NoneType_hash.lookup ?_);show wpAny _ _ (callSpecialIfBoundUnlessNone? .none "__hash__" _ >>= _) Q E s;refine aac (wpAny_callSpecialIfBoundUnlessNone?_slot hT F.slot_NoneType_hash
  (wpAny_call_entry F.slot_NoneType_hash hT F.entry_NoneType_hash
   (show wpAny _ _ (do ret (<- mkInt j9)) _ _ s from wpAny_ret_mkInt ?_) (F.args_NoneType_hash_1 _)))
 show wpAny _ _ (if (decide (-(2:Int) ^ 63<=j9) && decide (j9 < 2 ^ 63))=true then _ else _) Q E _;rw[if_pos (by decide)];exact aau h
def o4 (prog:Program) (w:World):PySem.KeyKind prog w lR where
 is:=y9
 hash:=keyH w
 inj:=λ v a b ha hb=>by
  rcases bM ha with ⟨i,t,rfl,rfl⟩ | ⟨x,t,rfl,rfl⟩ | ⟨rfl,rfl⟩
  ·rcases bM hb with ⟨j,u,rfl,e⟩ | ⟨y,u,rfl,e⟩ | ⟨rfl,e⟩
   ·injection e with e1 _;rw[e1]
   ·exact nomatch e
   ·exact nomatch e
  ·rcases bM hb with ⟨j,u,rfl,e⟩ | ⟨y,u,rfl,e⟩ | ⟨rfl,e⟩
   ·exact nomatch e
   ·injection e with e1 _;rw[e1]
   ·exact nomatch e
  ·rcases bM hb with ⟨j,u,rfl,e⟩ | ⟨y,u,rfl,e⟩ | ⟨rfl,e⟩
   ·exact nomatch e
   ·exact nomatch e
   ·rfl
 byValue:=λ k v h=>by
  rcases bM h with ⟨i,t,rfl,rfl⟩ | ⟨x,t,rfl,rfl⟩ | ⟨rfl,rfl⟩ <;> rfl
 pyHash:=λ hv h=>by
  rcases bM hv with ⟨i,t,rfl,rfl⟩ | ⟨x,t,rfl,rfl⟩ | ⟨rfl,rfl⟩
  ·exact wpAny_pyHash_int h
  ·exact wpAny_pyHash_str h
  ·exact vL h
 eqBool:=λ hu hv h=>by
  rcases bM hu with ⟨i,t,rfl,rfl⟩ | ⟨x,t,rfl,rfl⟩ | ⟨rfl,rfl⟩
  ·rcases bM hv with ⟨j,u,rfl,rfl⟩ | ⟨y,u,rfl,rfl⟩ | ⟨rfl,rfl⟩
   ·rw[A0] at h;exact wpAny_eqBool_int h
   ·rw[uY] at h;exact SeqAt.EqAt.int_str i t y u _ _ _ _ h
   ·rw[uY] at h;exact SeqAt.EqAt.int_none i t _ _ _ _ h
  ·rcases bM hv with ⟨j,u,rfl,rfl⟩ | ⟨y,u,rfl,rfl⟩ | ⟨rfl,rfl⟩
   ·rw[uZ] at h;exact SeqAt.EqAt.str_int x t j u _ _ _ _ h
   ·rw[zY] at h;exact wpAny_eqBool_str h
   ·rw[zX] at h;exact SeqAt.EqAt.str_none x t _ _ _ _ h
  ·rcases bM hv with ⟨j,u,rfl,rfl⟩ | ⟨y,u,rfl,rfl⟩ | ⟨rfl,rfl⟩
   ·rw[uZ] at h;exact SeqAt.EqAt.none_int j u _ _ _ _ h
   ·rw[zZ] at h;exact SeqAt.EqAt.none_str y u _ _ _ _ h
   ·rw[abh rfl] at h;exact SeqAt.EqAt.same Value.none _ _ _ _ h
 «strs»:=λ k x t v h=>by
  rcases bM h with ⟨i,u,rfl,e⟩ | ⟨y,u,rfl,e⟩ | ⟨rfl,e⟩
  ·exact nomatch e
  ·injection e with e1 _;subst e1;cases v <;> rfl
  ·exact nomatch e
inductive V where
 | non | bl (b:Bool) | int (i:Int) | str (x:Str) | byt (b:Array UInt8) | flt (b:UInt64) | ref (a:Addr) | ty (n:String)
 deriving DecidableEq
def aX:V->Value->Prop
 | .non,u=>u=Value.none
 | .bl b,u=>u=Value.bool b
 | .int i,u=>∃ t,u=Value.int i t
 | .str x,u=>∃ t,u=Value.str x t
 | .byt b,u=>∃ t,u=Value.bytes b t
 | .flt b,u=>∃ t,u=Value.float b t
 | .ref a,u=>u=Value.ref a
 | .ty n,u=>u=Value.type n
abbrev aZ:List V->List Value->Prop:=Paired aX
theorem aZ.length {xs:List V}{us:List Value} (r:aZ xs us):xs.length=us.length:=Paired.length r
theorem aZ.get:∀ {xs:List V}{us:List Value}{i:Nat}{x:V},aZ xs us->xs[i]? = some x->∃ u,us[i]? = some u/\aX x u
 | _,_,_,_,.nil,e=>by simp at e
 | _,_,0,_,.cons r _,e=>by simp at e;subst e;exact⟨_,rfl,r⟩
 | _,_,i+1,x,.cons _ t,e=>by
  obtain⟨u,h1,h2⟩:=aZ.get (i:=i) (x:=x) t (by simpa using e);exact⟨u,by simpa using h1,h2⟩
theorem aZ.set {x:V}{u:Value} (r:aX x u):∀ {xs:List V}{us:List Value} (i:Nat),aZ xs us->aZ (xs.set i x) (us.set i u)
 | _,_,_,.nil=>.nil
 | _,_,0,.cons _ t=>.cons r t
 | _,_,i+1,.cons q t=>.cons q (aZ.set r i t)
theorem aZ.append:∀ {xs ys:List V}{us ws:List Value},aZ xs us->aZ ys ws->aZ (xs++ys) (us++ws)
 | _,_,_,_,.nil,s=>s
 | _,_,_,_,.cons r t,s=>.cons r (aZ.append t s)
def AF:Option V->Option Value->Prop
 | some v,some u=>aX v u
 | none,none=>True
 | _,_=>False
def KV {bo:Type}:List (bo×V)->List (bo×Value)->Prop:=Paired λ (p:bo×V) (q:bo×Value)=>p.1=q.1/\aX p.2 q.2
def kV:lR->V
 | .inl i=>.int i
 | .inr (some x)=>.str x
 | .inr none=>.non
inductive HO where
 | lst (xs:List V)
 | tup (xs:List V)
 | dK (kvs:List (lR×V)) | dT (kvs:List (List lR×V))
 | set (S:Int->Bool) (n:Nat)
 | ins (C dx:Addr) (fs:List (Str×V))
 | own (x:Addr)
 | xd (fs:List (Str×V))
 | met (f x:Addr)
 | rng (lo hi:Int)
 | frz (o:Obj) (u:HO)
 | tbl (ps:Array Value)
 | ext (ck:Heap->Prop)
abbrev Hp:=Addr->Option HO
def upd (H:Hp) (a:Addr) (o:HO):Hp:=λ b=>if b=a then some o else H b
theorem aD {H:Hp}{a:Addr}{o:HO}:upd H a o a=some o:=by unfold upd;rw[if_pos rfl]
theorem aP {H:Hp}{a b:Addr}{o:HO} (h:b≠a):upd H a o b=H b:=by unfold upd;rw[if_neg h]
theorem BI {H:Hp}{a b:Addr}{o u:HO} (h:H a=some o) (h':H b=some u) (d:o≠u):a≠b:=by
 intro e;subst e;rw[h] at h';exact d (abe h')
theorem aO {H:Hp}{a b:Addr}{o:HO} (h:H a=some o) (h':H b=none):a≠b:=by
 intro e;subst e;rw[h] at h';cases h'
section
variable (P:Program)(w:World)
def d5 (H:Hp) (h:Heap) (a:Addr):HO->Prop
 | .lst xs=>xs.length<=sizeLine/\∃ (its:List Value) (n:Nat),aZ xs its/\h.get? a=some { cls:=.type "list",data:=.seq its.toArray n }
 | .tup xs=>xs.length<=sizeLine/\∃ its:List Value,aZ xs its/\IsTup h a its.toArray
 | .dK kvs=>kvs.length<=sizeLine/\(a == sysModules)=false/\∃ vs,KV kvs vs/\h.DictOf (o4 P w) a vs
 | .dT kvs=>kvs.length<=sizeLine/\(a == sysModules)=false/\∃ xs:List (List lR×Addr×Value),
   Paired (λ (p:List lR×V) (q:List lR×Addr×Value)=>p.1=q.1/\H q.2.1=some (.tup (p.1.map kV))/\aX p.2 q.2.2) kvs xs/\
   ∃ o es ep,h.get? a=some o/\o.ExactDict/\o.data=.dict es ep/\es.toList=xs.map (entryOfKey (tupleKind (o4 P w)))/\(xs.map (·.1)).Nodup
 | .set S n=>h.SetOf (intKind P w) a S n
 | .ins C dx fs=>H dx=some (.own a)/\fs.length<=1000/\dx≠a/\h.get? a=some (PySem.W.instObj C dx)/\
   ∃ mA,h.Ns1 dx mA/\(∀ f,AF (fs.lookup f) (mA f))/\PySem.Within mA (fs.map (·.1))
 | .own _=>∃ o,h.get? a=some o
 | .xd fs=>∃ mA,h.Ns1 a mA/\∀ f,AF (fs.lookup f) (mA f)
 | .rng lo hi=>∃ t u v,h.get? a=some { cls:=.type "range",data:=.fields #[.int lo t,.int hi u,.int 1 v] }
 | .frz o u=>h.get? a=some o/\d5 H h a u
 | .tbl ps=>h.get? a=some { cls:=.none,data:=.fields ps }
 | .met f x=>h.get? a=some (PySem.W.methodObj (.ref f) (.ref x))
 | .ext ck=>ck h/\(∃ o,h.get? a=some o)/\∀ h1 h2:Heap,ck h1->(∀ o,h1.get? a=some o->h2.get? a=some o)->ck h2
def jY (H:Hp) (h:Heap):Prop:=∀ a o,H a=some o->d5 P w H h a o
end
section
variable {H H':Hp}{h h':Heap}{a:Addr}{o:HO}
theorem d5.lt (x:d5 P w H h a o):a < h.objs.size:=by
 cases o with
 | lst xs=>obtain⟨_,_,_,_,e⟩:=x;exact aai e
 | tup xs=>obtain⟨_,_,_,p⟩:=x;exact p.lt
 | dK kvs=>obtain⟨_,_,_,_,o,_,_,e,_⟩:=x;exact aai e
 | dT kvs=>obtain⟨_,_,_,_,o,_,_,e,_⟩:=x;exact aai e
 | set S n=>obtain⟨o,_,_,_,e,_⟩:=x;exact aai e
 | ins C dx fs=>obtain⟨_,_,_,e,_⟩:=x;exact aai e
 | own y=>obtain⟨_,e⟩:=x;exact aai e
 | xd fs=>obtain⟨_,⟨_,_,_,e,_⟩,_⟩:=x;exact aai e
 | rng lo hi=>obtain⟨_,_,_,e⟩:=x;exact aai e
 | frz ob u=>obtain⟨e,_⟩:=x;exact aai e
 | tbl ps=>exact aai (show h.get? a=some _ from x)
 | met f y=>exact aai (show h.get? a=some _ from x)
 | ext ck=>obtain⟨_,⟨_,e⟩,_⟩:=x;exact aai e
theorem Paired.mapP {ae cm:Type}{F G:ae->cm->Prop}:∀ {cn:List ae}{cp:List cm},Paired F cn cp->(∀ a b,F a b->G a b)->Paired G cn cp
 | _,_,.nil,_=>.nil
 | _,_,.cons r t,f=>.cons (f _ _ r) (Paired.mapP t f)
theorem d5.stay (x:d5 P w H h a o) (k:∀ b u,(b=a\/H b=some (.own a))->h.get? b=some u->h'.get? b=some u)
  (ho:∀ b,H b=some (.own a)->H' b=some (.own a)) (ht:∀ b xs,H b=some (.tup xs)->H' b=some (.tup xs)):d5 P w H' h' a o:=by
 induction o with
 | lst xs=>obtain⟨z,its,n,r,e⟩:=x;exact⟨z,its,n,r,k _ _ (.inl rfl) e⟩
 | tup xs=>obtain⟨z,its,r,ob,e,c⟩:=x;exact⟨z,its,r,ob,k _ _ (.inl rfl) e,c⟩
 | dK kvs=>obtain⟨z,y,vs,r,ob,es,ep,e,c⟩:=x;exact⟨z,y,vs,r,ob,es,ep,k _ _ (.inl rfl) e,c⟩
 | dT kvs=>
  obtain⟨z,y,xs,r,ob,es,ep,e,c⟩:=x;exact⟨z,y,xs,Paired.mapP r λ p q z=>⟨z.1,ht _ _ z.2.1,z.2.2⟩,ob,es,ep,k _ _ (.inl rfl) e,c⟩
 | set S n=>obtain⟨ob,es,ep,t,e,c⟩:=x;exact⟨ob,es,ep,t,k _ _ (.inl rfl) e,c⟩
 | ins C dx fs=>
  obtain⟨d,z,ne,e,mA,⟨od,es,ep,e2,c⟩,r⟩:=x;exact⟨ho _ d,z,ne,k _ _ (.inl rfl) e,mA,⟨od,es,ep,k _ _ (.inr d) e2,c⟩,r⟩
 | own y=>obtain⟨ob,e⟩:=x;exact⟨ob,k _ _ (.inl rfl) e⟩
 | xd fs=>obtain⟨mA,⟨od,es,ep,e,c⟩,r⟩:=x;exact⟨mA,⟨od,es,ep,k _ _ (.inl rfl) e,c⟩,r⟩
 | rng lo hi=>obtain⟨t,u,v,e⟩:=x;exact⟨t,u,v,k _ _ (.inl rfl) e⟩
 | frz ob u ih=>obtain⟨e,q⟩:=x;exact⟨k _ _ (.inl rfl) e,ih q⟩
 | tbl ps=>
  have e:h.get? a=some { cls:=.none,data:=.fields ps }:=x;show h'.get? a=some { cls:=.none,data:=.fields ps };exact k a _ (.inl rfl) e
 | met f y=>
  have e:h.get? a=some (PySem.W.methodObj (.ref f) (.ref y)):=x;show h'.get? a=some (PySem.W.methodObj (.ref f) (.ref y));exact k a _ (.inl rfl) e
 | ext ck=>obtain⟨p,⟨o,e⟩,st⟩:=x;exact⟨st _ _ p λ o q=>k _ _ (.inl rfl) q,⟨o,k _ _ (.inl rfl) e⟩,st⟩
theorem jY.lt (x:jY P w H h) (e:H a=some o):a < h.objs.size:=(x a o e).lt
theorem jY.fresh (x:jY P w H h) (e:h.objs.size<=a):H a=none:=by
 cases q:H a with
 | none=>rfl
 | some u=>exact absurd (aam (x.lt q) e) (abu _)
theorem jY.kept (x:jY P w H h) (k:∀ b u,h.get? b=some u->h'.get? b=some u):jY P w H h':=λ a o e=>
 (x a o e).stay (λ b u _ q=>k b u q) (λ _ q=>q) λ _ _ q=>q
theorem jY.laid (x:jY P w H h) (k:∀ b u,h.get? b=some u->h'.get? b=some u) (hp:h.objs.size<=a) (new:d5 P w (upd H a o) h' a o):jY P w (upd H a o) h':=λ b u e=>by
 have hn:=x.fresh hp
 by_cases hb:b=a
 ·subst hb;rw[aD] at e;cases e;exact new
 ·rw[aP hb] at e;exact (x b u e).stay (λ c v _ q=>k c v q) (λ c q=>by rw[aP (aO q hn)];exact q) λ c xs q=>by rw[aP (aO q hn)];exact q
end
def Rd (H:Hp) (a:Addr) (u:HO):Prop:=H a=some u\/∃ o,H a=some (.frz o u)
theorem Rd.ok {P:Program}{w:World}{H:Hp}{h:Heap}{a:Addr}{u:HO} (r:Rd H a u) (x:jY P w H h):d5 P w H h a u:=by
 rcases r with r | ⟨o,r⟩
 ·exact x a u r
 ·obtain⟨_,q⟩:=x a _ r;exact q
def wA:Option HO->Prop
 | some (.lst _)=>True
 | some (.dK _)=>True
 | some (.dT _)=>True
 | some (.set _ _)=>True
 | some (.ins _ _ _)=>True
 | some (.ext _)=>True
 | _=>False
section
variable {H:Hp}{h h':Heap}{x e:Addr}{o':HO}
theorem jY.write (ok:jY P w H h) (mu:wA (H x)) (he:e=x\/H e=some (.own x)) (k:∀ b u,b≠e->h.get? b=some u->h'.get? b=some u) (heo:∃ u,h'.get? e=some u)
  (new:d5 P w (upd H x o') h' x o'):jY P w (upd H x o') h':=λ b u q=>by
 have nown:∀ c y,H c=some (.own y)->c≠x:=λ c y r z=>by subst z;rw[r] at mu;exact mu
 have ntup:∀ c xs,H c=some (.tup xs)->c≠x:=λ c xs r z=>by subst z;rw[r] at mu;exact mu
 by_cases hb:b=x
 ·subst hb;rw[aD] at q;cases q;exact new
 ·rw[aP hb] at q
  by_cases hbe:b=e
  ·have q':H b=some (.own x):=by
    rcases he with z | z
    ·exact absurd (hbe.trans z) hb
    ·rw[hbe];exact z
   rw[q] at q';cases q';obtain⟨v,hv⟩:=heo;exact⟨v,by rw[hbe];exact hv⟩
  ·refine (ok b u q).stay (λ c v hc r=>k c v ?_ r) (λ c r=>by rw[aP (nown c b r)];exact r) λ c xs r=>by rw[aP (ntup c xs r)];exact r
   rcases hc with rfl | hc
   ·exact hbe
   ·rintro rfl;rcases he with z | z
    ·exact nown c b hc z
    ·rw[hc] at z;cases z;exact hb rfl
end
structure Un (fs ex:List Addr) (H H':Hp) (h h':Heap):Prop where
 keep:∀ b o,h.get? b=some o->H b=none->b∉fs->b∉ex->h'.get? b=some o
 slot:∀ b o,h.get? b=some o->H b=none->b∈fs->b∉ex->∃ sl,h'.get? b=some { o with slots:=sl }
 free:∀ b o,h.get? b=some o->H b=none->b∉ex->H' b=none
 there:∀ b o,h.get? b=some o->b∉ex->∃ o',h'.get? b=some o'
 tups:∀ b xs,H b=some (.tup xs)->H' b=some (.tup xs)
 frzs:∀ b o u,H b=some (.frz o u)->H' b=some (.frz o u)
 tbls:∀ b ps,H b=some (.tbl ps)->∃ more,H' b=some (.tbl (ps++more))
section
variable {fs fs' ex ex':List Addr}{H H1 H2:Hp}{h h1 h2 h':Heap}{a x e:Addr}{o:HO}
theorem Un.any (u:Un fs ex H H1 h h1) {b:Addr}{ob:Obj} (q:h.get? b=some ob) (n:H b=none) (hx:b∉ex):∃ sl,h1.get? b=some { ob with slots:=sl }:=by
 by_cases hb:b∈fs
 ·exact u.slot b ob q n hb hx
 ·exact⟨ob.slots,u.keep b ob q n hb hx⟩
theorem Un.kept (k:∀ b u,h.get? b=some u->h'.get? b=some u):Un fs ex H H h h':=
 ⟨λ b ob q _ _ _=>k b ob q,λ b ob q _ _ _=>⟨ob.slots,k b ob q⟩,λ _ _ _ n _=>n,λ b ob q _=>⟨ob,k b ob q⟩,λ _ _ q=>q,λ _ _ _ q=>q,λ _ ps q=>⟨#[],by rw[q];simp⟩⟩
theorem Un.refl:Un fs ex H H h h:=Un.kept λ _ _ q=>q
theorem Un.laid (k:∀ b u,h.get? b=some u->h'.get? b=some u) (hp:h.objs.size<=a) (hn:H a=none):Un fs ex H (upd H a o) h h' where
 keep:=λ b u q _ _ _=>k b u q
 slot:=λ b u q _ _ _=>⟨u.slots,k b u q⟩
 free:=λ b u q n _=>by rw[aP (abc (aam (aai q) hp))];exact n
 there:=λ b u q _=>⟨u,k b u q⟩
 tups:=λ b xs q=>by rw[aP (aO q hn)];exact q
 frzs:=λ b u xs q=>by rw[aP (aO q hn)];exact q
 tbls:=λ b ps q=>⟨#[],by rw[aP (aO q hn),q];simp⟩
theorem Un.write (mu:wA (H x)) (he:e=x\/H e=some (.own x)) (k:∀ b u,b≠e->h.get? b=some u->h'.get? b=some u) (heo:∃ u,h'.get? e=some u):Un fs ex H (upd H x o) h h':=by
 have hx:∀ b,H b=none->b≠x:=λ b n z=>by subst z;rw[n] at mu;exact mu
 have hb:∀ b,H b=none->b≠e:=λ b n z=>by
  subst z;rcases he with r | r
  ·exact hx b n r
  ·rw[n] at r;cases r
 have hm:∀ b u,H b=some u->¬ wA (some u)->b≠x:=λ b u q nm z=>by subst z;rw[q] at mu;exact nm mu
 refine⟨λ b u q n _ _=>k b u (hb b n) q,λ b u q n _ _=>⟨u.slots,k b u (hb b n) q⟩,λ b u q n _=>by rw[aP (hx b n)];exact n,λ b u q _=>?_,
  λ b xs q=>by rw[aP (hm b _ q λ z=>z)];exact q,λ b u xs q=>by rw[aP (hm b _ q λ z=>z)];exact q,λ b ps q=>⟨#[],by rw[aP (hm b _ q λ z=>z),q];simp⟩⟩
 by_cases hbe:b=e
 ·subst hbe;exact heo
 ·exact⟨u,k b u hbe q⟩
end
def trk (h:Heap) (H:Hp):List Addr:=(List.range h.objs.size).filter λ a=>(H a).isSome
def oC (h:Heap) (H:Hp):Heap:=PySem.W.hideAll h (trk h H)
theorem sZ (h:Heap) (H:Hp):(oC h H).objs.size=h.objs.size:=PySem.W.hideAll_size _ _
theorem vK {h:Heap}{H:Hp}{b:Addr}{o:Obj} (e:h.get? b=some o) (n:H b=none):(oC h H).get? b=some o:=
 PySem.W.hideAll_get _ e λ hm=>by
  have q:(H b).isSome=true:=(List.mem_filter.mp hm).2;rw[n] at q;simp at q
theorem x0 {h:Heap}{H:Hp}{b:Addr}{o:Obj} (e:(oC h H).get? b=some o):h.get? b=some o/\H b=none:=by
 have e':h.get? b=some o:=PySem.W.of_hideAll (trk h H) e;refine⟨e',?_⟩;cases q:H b with
 | none=>rfl
 | some x=>
  have hm:b∈trk h H:=List.mem_filter.mpr ⟨acb.mpr (aai e'),by simp [q]⟩;have z:(oC h H).get? b=none:=PySem.W.hideAll_none (trk h H) hm;rw[z] at e;cases e
structure Mod (K:aaa) (mg:Str->Option Value) (base:Heap):Prop where
 kin:K.In base
 glob:base.Ns mainGlobals mg
 blt:∃ mb,base.Ns builtinsNs mb/\∀ x:Str,x ≠ "__name__" -> mb x=bootBuiltins x
 nolimit:base.NoLimit
structure Cx where
 prog:Program
 w:World
 K:aaa
 mg:Str->Option Value
 base:Heap
 A:Around
 N:List Str
 s₀:Shared
 H₀:Hp
 env:Env
 outer:List Env
 stack:List Env
 ex:List Addr
 fn:Str->Bool
 calm:Bool
 pn:List (Addr×Obj)
 xe:Value->Shared->Prop
def jK (l:List Env):List Addr:=l.filterMap (·.frame)
abbrev Cx.fs (X:Cx):List Addr:=jK X.outer
def Vis (sc:Scope) (x:Str):Prop:=sc.names.lookup x=some .local\/sc.names.lookup x=some .cell\/sc.names.lookup x=some .free
def AH (sc:Scope) (x:Str):Prop:=sc.names.lookup x=some .local\/sc.names.lookup x=some .cell
def Look (env:Env) (h:Heap) (m:Str->Option Value) (x:Str) (u:Value):Prop:=
 (env.kindOf x=some .local/\m x=some u)\/((env.kindOf x=some .cell\/env.kindOf x=some .free)/\∃ c,env.cells.lookup x=some c/\h.IsCell c (some u))
structure Cx.Ok (X:Cx):Prop where
 mod:Mod X.K X.mg X.base
 kind:X.env.scope.kind=.function
 glob:X.env.globals=mainGlobals
 blt:X.env.builtins=builtinsNs
 above:X.s₀.heap.objs.size<=X.env.locals
 inj:∀ x y c,X.env.cells.lookup x=some c->X.env.cells.lookup y=some c->x=y
 has:∀ x,(X.env.kindOf x=some .cell\/X.env.kindOf x=some .free)->∃ c,X.env.cells.lookup x=some c
 cab:∀ x c,X.fn x=true->X.env.cells.lookup x=some c->X.s₀.heap.objs.size<=c
 hd:X.calm=true->X.A.handled=none
 frames:X.A.frames=some X.stack
 stk:X.stack=X.outer\/(X.stack=X.env::X.outer/\X.env.frame=some X.env.locals)
 exf:∀ b∈X.ex,b≠X.env.locals/\∀ x c,X.env.cells.lookup x=some c->c≠b
 bs:∀ b o,X.base.get? b=some o->X.s₀.heap.get? b=some o/\X.H₀ b=none
 bsz:X.base.objs.size<=X.s₀.heap.objs.size
 noex:∀ b o,X.base.get? b=some o->b∉X.ex
 exfs:∀ b∈X.ex,b∉X.fs
 funs:X.s₀.heap.FunFrames X.base X.outer
 frf:∀ b∈X.fs,X.H₀ b=none
structure Inv (X:Cx) (pins:List (Addr×Obj)) (σ:List (Option V)) (H:Hp) (s:Shared):Prop where
 ok:X.Ok
 os:s.os=X.s₀.os
 bare:AllBare s.gens
 base:Un X.fs X.ex X.H₀ H X.s₀.heap s.heap
 loc:∃ m,s.heap.Ns X.env.locals m/\∀ (i:Nat) (x:Str) (v:V),X.N[i]? = some x->σ[i]? = some (some v)->Vis X.env.scope x->∃ u,aX v u/\Look X.env s.heap m x u
 cell:∀ x c,X.env.cells.lookup x=some c->∃ v,s.heap.IsCell c v
 free:H X.env.locals=none
 freeC:∀ x c,X.env.cells.lookup x=some c->H c=none
 pin:∀ p∈X.pn++pins,s.heap.get? p.1=some p.2/\H p.1=none/\p.1≠X.env.locals/\p.1∉X.fs/\∀ v,p.2.data≠.cell v
 hok:jY X.prog X.w H s.heap
 len:σ.length=X.N.length
section
variable {X:Cx}{pins:List (Addr×Obj)}{σ:List (Option V)}{H H':Hp}{s:Shared}{h':Heap}
theorem Cx.Ok.nofr (ok:X.Ok) {b:Addr}{o:Obj} (e:X.base.get? b=some o):b∉X.fs:=λ hb=>by
 have:=(ok.funs.mem hb).1;rw[e] at this;cases this
theorem Inv.bs (I:Inv X pins σ H s):∀ b o,X.base.get? b=some o->s.heap.get? b=some o/\H b=none:=λ b o e=>
 ⟨I.base.keep b o (I.ok.bs b o e).1 (I.ok.bs b o e).2 (I.ok.nofr e) (I.ok.noex b o e),I.base.free b o (I.ok.bs b o e).1 (I.ok.bs b o e).2 (I.ok.noex b o e)⟩
theorem Inv.bk (I:Inv X pins σ H s):∀ b o,X.base.get? b=some o->s.heap.get? b=some o:=λ b o e=>(I.bs b o e).1
theorem Inv.mod (I:Inv X pins σ H s):Mod X.K X.mg X.base:=I.ok.mod
theorem Inv.kIn (I:Inv X pins σ H s):X.K.In s.heap:=I.ok.mod.kin.keeps I.bk
theorem Inv.lt (I:Inv X pins σ H s):X.env.locals < s.heap.objs.size:=let ⟨_,hn,_⟩:=I.loc;hn.lt
theorem Inv.sz (I:Inv X pins σ H s):X.s₀.heap.objs.size<=s.heap.objs.size:=abn I.ok.above (acg I.lt)
theorem Inv.nofs (I:Inv X pins σ H s) {a:Addr} (h:s.heap.objs.size<=a):a∉X.fs:=λ hb=>by
 obtain⟨_,o,ho,_⟩:=I.ok.funs.mem hb;exact absurd (aam (aai ho) (abn I.sz h)) (abu _)
theorem Inv.cne (I:Inv X pins σ H s):∀ x c,X.env.cells.lookup x=some c->c≠X.env.locals:=λ x c e z=>by
 obtain⟨v,o,ho,hd⟩:=I.cell x c e;obtain⟨m,⟨o',es,ep,ho',hd',_⟩,_⟩:=I.loc;rw[z,ho'] at ho;cases ho;rw[hd'] at hd;cases hd
theorem Inv.funs (I:Inv X pins σ H s):s.heap.FunFrames X.base X.outer:=by
 have all:∀ (l:List Env),(∀ b∈jK l,b∈X.fs)->X.s₀.heap.FunFrames X.base l->s.heap.FunFrames X.base l:=by
  intro l
  induction l with
  | nil=>intro _ _;trivial
  | cons env r ih=>
   intro hs hl;obtain⟨hk,⟨L,o,hf,hn,ho,hd⟩,hr⟩:=hl;have hL:L∈X.fs:=hs L (by unfold jK;rw[List.filterMap_cons,hf];exact abm);obtain⟨sl,e⟩:=I.base.slot L o ho (I.ok.frf L hL) hL λ z=>I.ok.exfs L z hL;exact⟨hk,⟨L,_,hf,hn,e,hd⟩,ih (λ b hb=>hs b (by unfold jK;rw[List.filterMap_cons,hf];exact aal _ hb)) hr⟩
 exact all X.outer (λ _ hb=>hb) I.ok.funs
theorem Inv.stack (I:Inv X pins σ H s):s.heap.FunFrames X.base X.stack:=by
 rcases I.ok.stk with e | ⟨e,hf⟩
 ·rw[e];exact I.funs
 ·rw[e];obtain⟨m,hn,_⟩:=I.loc;refine .cons (by rw[I.ok.kind];decide) hf hn ?_ I.funs;exact Heap.get?_none_of_le (abn I.ok.bsz I.ok.above)
theorem Inv.stkSub (I:Inv X pins σ H s):∀ b∈jK X.stack,b∈X.env.locals::X.fs:=λ b hb=>by
 rcases I.ok.stk with e | ⟨e,hf⟩
 ·rw[e] at hb;exact aal _ hb
 ·rw[e] at hb;unfold jK at hb;rw[List.filterMap_cons,hf] at hb;exact hb
theorem Inv.stkFree (I:Inv X pins σ H s):∀ b∈jK X.stack,H b=none:=λ b hb=>by
 rcases aaq.mp (I.stkSub b hb) with e | hb
 ·rw[e];exact I.free
 ·obtain⟨_,o,ho,_⟩:=I.ok.funs.mem hb;exact I.base.free b o ho (I.ok.frf b hb) λ z=>I.ok.exfs b z hb
theorem Inv.step {g':Array GenState}{t':Nat}{d':Drawn}{ch:List Addr} (I:Inv X pins σ H s)
  (hch:∀ b∈ch,(b∈X.ex\/X.s₀.heap.objs.size<=b)/\b≠X.env.locals/\(∀ x c,X.env.cells.lookup x=some c->c≠b)/\∀ p∈X.pn++pins,p.1≠b)
  (keep:∀ b o,b≠X.env.locals->b∉X.fs->b∉ch->s.heap.get? b=some o->H b=none->h'.get? b=some o)
  (slot:∀ b o,b≠X.env.locals->b∈X.fs->b∉ch->s.heap.get? b=some o->H b=none->∃ sl,h'.get? b=some { o with slots:=sl }) (free:∀ b o,b∉ch->s.heap.get? b=some o->H b=none->H' b=none)
  (there:∀ b o,b∉ch->s.heap.get? b=some o->∃ o',h'.get? b=some o')
  (tups:∀ b xs,H b=some (.tup xs)->H' b=some (.tup xs)) (frzs:∀ b o u,H b=some (.frz o u)->H' b=some (.frz o u)) (tbls:∀ b ps,H b=some (.tbl ps)->∃ more,H' b=some (.tbl (ps++more)))
  (ns:∀ m,s.heap.Ns X.env.locals m->h'.Ns X.env.locals m) (hok:jY X.prog X.w H' h') (hg:AllBare g') :
  Inv X pins σ H' { s with heap:=h',gens:=g',drawn:=d',toks:=t' }:=by
 have neL:∀ b o,X.s₀.heap.get? b=some o->b≠X.env.locals:=λ b o e=>abc (aam (aai e) I.ok.above);have neC:∀ b o,X.s₀.heap.get? b=some o->b∉X.ex->b∉ch:=λ b o e hx hb=>by
  rcases (hch b hb).1 with z | z
  ·exact hx z
  ·exact absurd (aam (aai e) z) (abu _)
 have cellK:∀ x c,X.env.cells.lookup x=some c->∀ v,s.heap.IsCell c v->h'.IsCell c v:=λ x c e v ⟨o,ho,hd⟩=>by
  have nch:c∉ch:=λ z=>(hch c z).2.2.1 x c e rfl
  by_cases hc:c∈X.fs
  ·obtain⟨sl,q⟩:=slot c o (I.cne x c e) hc nch ho (I.freeC x c e);exact⟨_,q,hd⟩
  ·exact⟨o,keep c o (I.cne x c e) hc nch ho (I.freeC x c e),hd⟩
 refine⟨I.ok,I.os,hg,⟨λ b o e n hb hx=>?_,λ b o e n hb hx=>?_,λ b o e n hx=>?_,λ b o e hx=>?_,λ b xs e=>tups b xs (I.base.tups b xs e),λ b o xs e=>frzs b o xs (I.base.frzs b o xs e),λ b ps e=>?_⟩,?_,λ x c e=>?_,?_,λ x c e=>?_,λ p hp=>?_,hok,I.len⟩
 ·exact keep b o (neL b o e) hb (neC b o e hx) (I.base.keep b o e n hb hx) (I.base.free b o e n hx)
 ·obtain⟨sl,e1⟩:=I.base.slot b o e n hb hx;obtain⟨sl',e2⟩:=slot b _ (neL b o e) hb (neC b o e hx) e1 (I.base.free b o e n hx);exact⟨sl',e2⟩
 ·obtain⟨o',e1⟩:=I.base.there b o e hx;exact free b o' (neC b o e hx) e1 (I.base.free b o e n hx)
 ·obtain⟨o',e1⟩:=I.base.there b o e hx;exact there b o' (neC b o e hx) e1
 ·obtain⟨m1,e1⟩:=I.base.tbls b ps e;obtain⟨m2,e2⟩:=tbls b _ e1;exact⟨m1++m2,by rw[e2,Array.append_assoc]⟩
 ·obtain⟨m,hn,hl⟩:=I.loc;refine⟨m,ns m hn,λ i x v e1 e2 e3=>?_⟩;obtain⟨u,r,l⟩:=hl i x v e1 e2 e3;refine⟨u,r,?_⟩;rcases l with l | ⟨k,c,e,z⟩
  ·exact .inl l
  ·exact .inr ⟨k,c,e,cellK x c e _ z⟩
 ·obtain⟨v,z⟩:=I.cell x c e;exact⟨v,cellK x c e v z⟩
 ·obtain⟨m,⟨o,_,_,ho,_⟩,_⟩:=I.loc;exact free _ o (λ z=>(hch _ z).2.1 rfl) ho I.free
 ·obtain⟨v,o,ho,hd⟩:=I.cell x c e;exact free c o (λ z=>(hch c z).2.2.1 x c e rfl) ho (I.freeC x c e)
 ·obtain⟨e,n,ne,nf,d⟩:=I.pin p hp;have nch:p.1∉ch:=λ z=>(hch p.1 z).2.2.2 p hp rfl;exact⟨keep p.1 p.2 ne nf nch e n,free p.1 p.2 nch e n,ne,nf,d⟩
theorem Inv.un {t':Nat} (I:Inv X pins σ H s) (u:Un X.fs [] H H' s.heap h') (hok:jY X.prog X.w H' h'):Inv X pins σ H' { s with heap:=h',toks:=t' }:=by
 obtain⟨m,⟨o,es,ep,ho,r⟩,_⟩:=id I.loc;obtain⟨sl,hL⟩:=u.any ho I.free (by simp);exact I.step (g':=s.gens) (d':=s.drawn) (ch:=[]) (λ _ z=>nomatch z) (λ b o _ hb _ e n=>u.keep b o e n hb (by simp)) (λ b o _ hb _ e n=>u.slot b o e n hb (by simp)) (λ b o _ e n=>u.free b o e n (by simp)) (λ b o _ e=>u.there b o e (by simp)) u.tups u.frzs u.tbls (λ m' hm=>by
  obtain⟨o',es',ep',ho',r'⟩:=hm;rw[ho] at ho';cases ho';exact⟨_,es',ep',hL,r'⟩) hok I.bare
theorem Inv.call {g':Array GenState}{t':Nat}{d':Drawn}{ch:List Addr} (I:Inv X pins σ H s) (u:Un (jK X.stack) ch H H' s.heap h') (hok:jY X.prog X.w H' h') (hg:AllBare g')
  (hch:∀ b∈ch,(b∈X.ex\/X.s₀.heap.objs.size<=b)/\b≠X.env.locals/\(∀ x c,X.env.cells.lookup x=some c->c≠b)/\∀ p∈X.pn++pins,p.1≠b) :
  Inv X pins σ H' { s with heap:=h',gens:=g',drawn:=d',toks:=t' }:=by
 obtain⟨m,⟨o,es,ep,ho,r⟩,_⟩:=id I.loc;obtain⟨sl,hL⟩:=u.any ho I.free λ z=>(hch _ z).2.1 rfl;exact I.step (ch:=ch) hch (λ b o hL hb hc e n=>u.keep b o e n (λ z=>(aaq.mp (I.stkSub b z)).elim hL hb) hc) (λ b o _ _ hc e n=>u.any e n hc) (λ b o hc e n=>u.free b o e n hc) (λ b o hc e=>u.there b o e hc) u.tups u.frzs u.tbls (λ m' hm=>by
  obtain⟨o',es',ep',ho',r'⟩:=hm;rw[ho] at ho';cases ho';exact⟨_,es',ep',hL,r'⟩) hok hg
theorem Inv.turned {t':Nat}{it:Addr} (I:Inv X pins σ H s) (k:∀ b o,b≠it->s.heap.get? b=some o->h'.get? b=some o) (hn:H it=none) (hL:it≠X.env.locals)
  (h1:it∈X.ex\/X.s₀.heap.objs.size<=it) (h2:∀ x c,X.env.cells.lookup x=some c->c≠it) (h3:∀ p∈X.pn++pins,p.1≠it):Inv X pins σ H { s with heap:=h',toks:=t' }:=by
 have nit:∀ b u,H b=some u->b≠it:=λ b u e z=>by rw[z,hn] at e;cases e
 refine I.step (g':=s.gens) (d':=s.drawn) (ch:=[it]) (λ b hb=>?_) (λ b o _ _ hc e _=>k b o (λ z=>hc (by simp [z])) e) (λ b o _ _ hc e _=>⟨o.slots,k b o (λ z=>hc (by simp [z])) e⟩) (λ _ _ _ _ n=>n)
  (λ b o hc e=>⟨o,k b o (λ z=>hc (by simp [z])) e⟩) (λ _ _ e=>e) (λ _ _ _ e=>e) (λ b ps e=>⟨#[],by rw[e];simp⟩) (λ m hm=>?_) (λ b u e=>?_) I.bare
 ·have e:b=it:=by simpa using hb
  subst e;exact⟨h1,hL,h2,h3⟩
 ·obtain⟨o,es,ep,ho,r⟩:=hm;exact⟨o,es,ep,k _ o (Ne.symm hL) ho,r⟩
 ·refine (I.hok b u e).stay (λ c v hc q=>k c v ?_ q) (λ _ q=>q) λ _ _ q=>q;rcases hc with z | z
  ·rw[z];exact nit b u e
  ·exact nit c _ z
theorem Inv.tok (I:Inv X pins σ H s) (t:Nat):Inv X pins σ H { s with toks:=t }:=I.un (h':=s.heap) (t':=t) Un.refl I.hok
theorem Inv.kept {t':Nat} (I:Inv X pins σ H s) (k:∀ b u,s.heap.get? b=some u->h'.get? b=some u):Inv X pins σ H { s with heap:=h',toks:=t' }:=I.un (Un.kept k) (I.hok.kept k)
theorem Inv.laid {a:Addr}{o:HO}{t':Nat} (I:Inv X pins σ H s) (k:∀ b u,s.heap.get? b=some u->h'.get? b=some u) (hp:s.heap.objs.size<=a) (new:d5 X.prog X.w (upd H a o) h' a o) :
  Inv X pins σ (upd H a o) { s with heap:=h',toks:=t' }:=I.un (Un.laid k hp (I.hok.fresh hp)) (I.hok.laid k hp new)
theorem Inv.write {x e:Addr}{o:HO}{t':Nat} (I:Inv X pins σ H s) (mu:wA (H x)) (he:e=x\/H e=some (.own x)) (k:∀ b u,b≠e->s.heap.get? b=some u->h'.get? b=some u) (heo:∃ u,h'.get? e=some u)
  (new:d5 X.prog X.w (upd H x o) h' x o):Inv X pins σ (upd H x o) { s with heap:=h',toks:=t' }:=I.un (Un.write mu he k heo) (I.hok.write mu he k heo new)
theorem Inv.pins_of {pins':List (Addr×Obj)} (I:Inv X pins σ H s) (h:∀ p∈pins',s.heap.get? p.1=some p.2/\H p.1=none/\p.1≠X.env.locals/\p.1∉X.fs/\∀ v,p.2.data≠.cell v):Inv X pins' σ H s:=
 ⟨I.ok,I.os,I.bare,I.base,I.loc,I.cell,I.free,I.freeC,λ p hp=>(abd.mp hp).elim (λ z=>I.pin p (abt _ z)) (h p),I.hok,I.len⟩
theorem p3 {N:List Str} (hN:N.Nodup) {i j:Nat}{x:Str} (a:N[i]? = some x) (b:N[j]? = some x):i=j:=by
 obtain⟨h1,e1⟩:=aan.mp a;obtain⟨h2,e2⟩:=aan.mp b;exact (List.getElem_inj hN).mp (e1.trans e2.symm)
theorem mD {M:Model}{A:Around}{E:Value->Shared->Prop}{i:Nat}{x:Str}{v:V}{u:Value}{Q:Unit->Shared->Prop} (I:Inv X pins σ H s) (hN:X.N.Nodup) (hi:X.N[i]? = some x) (hx:AH X.env.scope x) (r:aX v u)
  (h:∀ s',Inv X pins (σ.set i (some v)) H s'->(∃ a,Heap.SameBut a s.heap s'.heap/\(a=X.env.locals\/X.env.cells.lookup x=some a))->Q () s') (hf:X.fn x=true\/X.env.scope.names.lookup x=some .local:=by first | exact .inl rfl | exact .inr rfl | assumption):wpAny M A (storeName X.env x u) Q E s:=by
 obtain⟨m,hn,hl⟩:=id I.loc;have hcls:(X.env.scope.kind == .class || (X.env.scope.kind == .module && X.env.locals != X.env.globals))=false:=by rw[I.ok.kind];rfl
 have cq:i < σ.length:=by rw[I.len];exact (aan.mp hi).1
 have cne:=I.cne;have tracked:∀ {a:Addr}{h':Heap},(∃ o,s.heap.get? a=some o/\H a=none)->Heap.SameBut a s.heap h'->jY X.prog X.w H h':=λ {a h'} ha hs b ob e=>by
  obtain⟨_,_,hfree⟩:=ha;refine (I.hok b ob e).stay (λ c w' hc q=>(hs.2 c ?_).trans q) (λ _ q=>q) λ _ _ q=>q;rintro rfl;rcases hc with rfl | hc
  ·rw[hfree] at e;cases e
  ·rw[hfree] at hc;cases hc
 rcases hx with hk | hk
 ·refine wpAny_storeName_local hk hn (λ h' hn' hs=>?_) hcls;obtain⟨oL,_,_,hoL,_⟩:=id hn;refine h _ ⟨I.ok,I.os,I.bare,⟨λ b o e n hb hx=>?_,λ b o e n hb hx=>?_,I.base.free,λ b o e hx=>?_,I.base.tups,I.base.frzs,I.base.tbls⟩,⟨_,hn',λ j y v' e1 e2 e3=>?_⟩,λ y c e=>?_,I.free,I.freeC,λ p hp=>?_,tracked ⟨oL,hoL,I.free⟩ hs,by simpa using I.len⟩ ⟨_,hs,.inl rfl⟩
  ·exact (hs.2 b (abc (aam (aai e) I.ok.above))).trans (I.base.keep b o e n hb hx)
  ·obtain⟨sl,e1⟩:=I.base.slot b o e n hb hx;exact⟨sl,(hs.2 b (abc (aam (aai e) I.ok.above))).trans e1⟩
  ·obtain⟨o',e1⟩:=I.base.there b o e hx;exact⟨o',(hs.2 b (abc (aam (aai e) I.ok.above))).trans e1⟩
  ·by_cases hj:j=i
   ·subst hj;rw[hi] at e1;cases e1;rw[List.getElem?_set_self cq] at e2;cases e2;exact⟨u,r,.inl ⟨hk,by simp⟩⟩
   ·rw[List.getElem?_set_ne (Ne.symm hj)] at e2;obtain⟨u',r',q⟩:=hl j y v' e1 e2 e3;refine⟨u',r',?_⟩;rcases q with ⟨k,e⟩ | ⟨k,c,e,z⟩
    ·refine .inl ⟨k,?_⟩;have:y≠x:=λ e=>hj (p3 hN e1 (e ▸ hi));simp [this,e]
    ·exact .inr ⟨k,c,e,z.sameBut hs (cne y c e)⟩
  ·obtain⟨w',z⟩:=I.cell y c e;exact⟨w',z.sameBut hs (cne y c e)⟩
  ·obtain⟨e,n,ne,nf,d⟩:=I.pin p hp;exact⟨(hs.2 p.1 ne).trans e,n,ne,nf,d⟩
 ·have hfn:X.fn x=true:=by
   rcases hf with z | z
   ·exact z
   ·rw[z] at hk;cases hk
  obtain⟨c,hc⟩:=I.ok.has x (.inl hk);obtain⟨w',z⟩:=I.cell x c hc;refine wpAny_storeName_cell I.ok.kind hk hc z (λ h' hc' hs=>?_);obtain⟨oc,hoc,hocd⟩:=id z;refine h { s with heap:=h' } ⟨I.ok,I.os,I.bare,⟨λ b o e n hb hx=>?_,λ b o e n hb hx=>?_,I.base.free,λ b o e hx=>?_,I.base.tups,I.base.frzs,I.base.tbls⟩,⟨m,hn.sameBut hs (Ne.symm (cne x c hc)),λ j y v' e1 e2 e3=>?_⟩,λ y c' e=>?_,I.free,I.freeC,λ p hp=>?_,tracked ⟨oc,hoc,I.freeC x c hc⟩ hs,by simpa using I.len⟩ ⟨c,hs,.inr hc⟩
  ·exact (hs.2 b (abc (aam (aai e) (I.ok.cab x c hfn hc)))).trans (I.base.keep b o e n hb hx)
  ·obtain⟨sl,e1⟩:=I.base.slot b o e n hb hx;exact⟨sl,(hs.2 b (abc (aam (aai e) (I.ok.cab x c hfn hc)))).trans e1⟩
  ·obtain⟨o',e1⟩:=I.base.there b o e hx;exact⟨o',(hs.2 b (abc (aam (aai e) (I.ok.cab x c hfn hc)))).trans e1⟩
  ·by_cases hj:j=i
   ·subst hj;rw[hi] at e1;cases e1;rw[List.getElem?_set_self cq] at e2;cases e2;exact⟨u,r,.inr ⟨.inl hk,c,hc,hc'⟩⟩
   ·rw[List.getElem?_set_ne (Ne.symm hj)] at e2;obtain⟨u',r',q⟩:=hl j y v' e1 e2 e3;refine⟨u',r',?_⟩;rcases q with q | ⟨k,c',e,z'⟩
    ·exact .inl q
    ·refine .inr ⟨k,c',e,z'.sameBut hs ?_⟩;rintro rfl;exact hj (p3 hN e1 (I.ok.inj _ _ _ e hc ▸ hi))
  ·by_cases hcc:c'=c
   ·subst hcc;exact⟨_,hc'⟩
   ·obtain⟨w2,z2⟩:=I.cell y c' e;exact⟨w2,z2.sameBut hs hcc⟩
  ·obtain⟨e,n,ne,nf,d⟩:=I.pin p hp;refine⟨(hs.2 p.1 ?_).trans e,n,ne,nf,d⟩;intro q;rw[q,hoc] at e;have q':oc=p.2:=abe e;exact d w' (by rw[<- q'];exact hocd)
theorem iL {M:Model}{A:Around}{E:Value->Shared->Prop}{i:Nat}{x:Str}{v:V}{u:Value}{Q:Unit->Shared->Prop} (I:Inv X pins σ H s) (hN:X.N.Nodup) (hi:X.N[i]? = some x) (hx:AH X.env.scope x) (r:aX v u)
  (h:∀ s',Inv X pins (σ.set i (some v)) H s'->Q () s') (hf:X.fn x=true\/X.env.scope.names.lookup x=some .local:=by first | exact .inl rfl | exact .inr rfl | assumption):wpAny M A (storeName X.env x u) Q E s:=
 mD I hN hi hx r (λ s' I' _=>h s' I') hf
theorem Inv.call' {s':Shared}{ch:List Addr} (I:Inv X pins σ H s) (ho:s'.os=s.os) (u:Un (jK X.stack) ch H H' s.heap s'.heap) (hok:jY X.prog X.w H' s'.heap) (hg:AllBare s'.gens)
  (hch:∀ b∈ch,(b∈X.ex\/X.s₀.heap.objs.size<=b)/\b≠X.env.locals/\(∀ x c,X.env.cells.lookup x=some c->c≠b)/\∀ p∈X.pn++pins,p.1≠b):Inv X pins σ H' s':=by
 obtain⟨h',g',d',t',o'⟩:=s';have e:o'=s.os:=ho;subst e;exact I.call (g':=g') (t':=t') (d':=d') u hok hg hch
end
abbrev XK:=Value->Option Addr->Hp->Prop
abbrev St:=List (Option V)
abbrev VK:=V->Hp->Prop
abbrev TE:=St->Hp->VK->Prop
abbrev TT:=St->Hp->(Bool->Hp->Prop)->Prop
abbrev TA:=St->Hp->(List V->Hp->Prop)->Prop
structure Ends where
 nx:St->Hp->Prop
 rt:VK
 bk:St->Hp->Prop:=λ _ _=>False
 ct:St->Hp->Prop:=λ _ _=>False
abbrev TS:=Ends->St->Hp->Prop
def EP (X:Cx) (pins:List (Addr×Obj)) (σ:St) (Q:VK) (u:Value) (s':Shared):Prop:=∃ v H',Inv X pins σ H' s'/\aX v u/\Q v H'
def TP (X:Cx) (pins:List (Addr×Obj)) (σ:St) (Q:Bool->Hp->Prop) (b:Bool) (s':Shared):Prop:=∃ H',Inv X pins σ H' s'/\Q b H'
def AP (X:Cx) (pins:List (Addr×Obj)) (σ:St) (Q:List V->Hp->Prop) (us:List Value) (s':Shared):Prop:=∃ vs H',Inv X pins σ H' s'/\aZ vs us/\Q vs H'
def SP (X:Cx) (pins:List (Addr×Obj)) (D:Ends) (f:Flow) (s':Shared):Prop:=
 match f with
 | .next=>∃ Z H',Inv X pins Z H' s'/\D.nx Z H'
 | .brk=>∃ Z H',Inv X pins Z H' s'/\D.bk Z H'
 | .cont=>∃ Z H',Inv X pins Z H' s'/\D.ct Z H'
 | .ret u=>∃ v Z H',Inv X pins Z H' s'/\aX v u/\D.rt v H'
def PE (X:Cx) (e:Expr) (t:TE):Prop:=
 ∀ (pins:List (Addr×Obj)) (s:Shared) (σ:St) (H:Hp) (Q:VK),Inv X pins σ H s->t σ H Q->wpAny (model X.prog X.w) X.A (eval e X.env) (EP X pins σ Q) X.xe s
def PT (X:Cx) (e:Expr) (t:TT):Prop:=
 ∀ (pins:List (Addr×Obj)) (s:Shared) (σ:St) (H:Hp) (Q:Bool->Hp->Prop),Inv X pins σ H s->t σ H Q->wpAny (model X.prog X.w) X.A (isTrue e X.env (eval e X.env)) (TP X pins σ Q) X.xe s
def PW (X:Cx) (e:Expr) (t:TT):Prop:=
 ∀ (whole:Sem Value) (pins:List (Addr×Obj)) (s:Shared) (σ:St) (H:Hp) (Q:Bool->Hp->Prop),Inv X pins σ H s->t σ H Q->wpAny (model X.prog X.w) X.A (isTrue e X.env whole) (TP X pins σ Q) X.xe s
theorem PW.pt {X:Cx}{e:Expr}{t:TT} (h:PW X e t):PT X e t:=h _
def PA (X:Cx) (es:List Expr) (t:TA):Prop:=
 ∀ (pos:Pos) (pins:List (Addr×Obj)) (s:Shared) (σ:St) (H:Hp) (Q:List V->Hp->Prop),Inv X pins σ H s->t σ H Q->wpAny (model X.prog X.w) X.A (spliced (backTo pos (starEach es X.env))) (AP X pins σ Q) X.xe s
def PS (X:Cx) (st:Stmt) (t:TS):Prop:=
 ∀ (pins:List (Addr×Obj)) (s:Shared) (σ:St) (H:Hp) (D:Ends),Inv X pins σ H s->t D σ H->wpAny (model X.prog X.w) X.A (exec st X.env) (SP X pins D) X.xe s
def tJ (X:Cx) (st:List Stmt) (t:TS):Prop:=
 ∀ (pins:List (Addr×Obj)) (s:Shared) (σ:St) (H:Hp) (D:Ends),Inv X pins σ H s->t D σ H->wpAny (model X.prog X.w) X.A (execs st X.env) (SP X pins D) X.xe s
theorem cR {ae:Type}{t:Sem ae}{Q Q':ae->Shared->Prop}{M:Model}{A:Around}{E:Value->Shared->Prop}{s:Shared} (h:wpAny M A t Q E s) (hQ:∀ a s,Q a s->Q' a s):wpAny M A t Q' E s:=abp h hQ λ _ _ x=>x
section
variable {X:Cx}
def bW (i:Nat):TE:=λ σ H Q=>∃ v,σ[i]? = some (some v)/\Q v H
def tC (v:V):TE:=λ _ H Q=>Q v H
theorem zH {i:Nat}{x:Str}{pos:Pos} (hN:X.N[i]? = some x) (hv:Vis X.env.scope x) (hd:(x == ("__debug__" : Str))=false:=by decide) (hcd:(x == ("__classdict__" : Str))=false:=by decide):PE X (.Name x pos) (bW i):=by
 intro pins s σ H Q I h;obtain⟨v,e,h⟩:=h;obtain⟨m,hn,hl⟩:=I.loc;obtain⟨u,r,l⟩:=hl i x v hN e hv;have fin:EP X pins σ Q u s:=⟨v,H,I,r,h⟩;rcases l with ⟨hk,hm⟩ | ⟨hk,c,hc,hcell⟩
 ·exact wpAny_Name (wpAny_loadName_local I.ok.kind hk hn hm fin) hd
 ·rcases hk with hk | hk
  ·exact wpAny_Name (wpAny_loadName_cell I.ok.kind hk hc hcell fin) hd
  ·exact wpAny_Name (wpAny_loadName_free I.ok.kind hk hc hcell fin hcd) hd
theorem aC {i j pos}:PE X (.Constant (.int i) j pos) (tC (.int i)):=λ _ _ _ H _ I h=>wpAny_Constant_int ⟨.int i,H,I.tok _,⟨_,rfl⟩,h⟩
theorem cM {b j pos}:PE X (.Constant (.bool b) j pos) (tC (.bl b)):=λ _ _ _ H _ I h=>Constant_bool ⟨.bl b,H,I,rfl,h⟩
theorem fI {j pos}:PE X (.Constant .none j pos) (tC .non):=λ _ _ _ H _ I h=>Constant_none ⟨.non,H,I,rfl,h⟩
theorem aK {x j pos}:PE X (.Constant (.str x) j pos) (tC (.str x)):=λ _ _ _ H _ I h=>Calls.Constant_str ⟨.str x,H,I.tok _,⟨_,rfl⟩,h⟩
def Gl (X:Cx) (x:Str):Prop:=X.env.kindOf x=some .globalImplicit
theorem o7 {E:Value->Shared->Prop}{pins:List (Addr×Obj)}{s:Shared}{σ:St}{H:Hp}{x:Str}{u:Value}{pos:Pos}{Q:Value->Shared->Prop} (I:Inv X pins σ H s) (hg:Gl X x) (hm:X.mg x=some u) (h:Q u s)
  (hd:(x == ("__debug__" : Str))=false:=by decide):wpAny (model X.prog X.w) X.A (eval (.Name x pos) X.env) Q E s:=
 Calls.Name_function_global I.ok.kind hg (Calls.loadGlobal_global (by rw[I.ok.glob];exact I.mod.glob.keeps I.bk) hm h) hd
theorem lJ {E:Value->Shared->Prop}{pins:List (Addr×Obj)}{s:Shared}{σ:St}{H:Hp}{x:Str}{u:Value}{pos:Pos}{Q:Value->Shared->Prop} (I:Inv X pins σ H s) (hg:Gl X x) (hm:X.mg x=none) (hv:bootBuiltins x=some u) (h:Q u s)
  (hn:x ≠ "__name__" := by decide) (hd:(x == ("__debug__" : Str))=false:=by decide):wpAny (model X.prog X.w) X.A (eval (.Name x pos) X.env) Q E s:=by
 obtain⟨mb,h1,h2⟩:=I.mod.blt;exact Calls.Name_function_global I.ok.kind hg (Calls.loadGlobal_builtin (by rw[I.ok.glob];exact I.mod.glob.keeps I.bk) hm (by rw[I.ok.blt];exact h1.keeps I.bk) ((h2 x hn).trans hv) h) hd
theorem wS {x:Str}{v:V}{u:Value}{pos:Pos} (hg:Gl X x) (hm:X.mg x=some u) (r:aX v u) (hd:(x == ("__debug__" : Str))=false:=by decide):PE X (.Name x pos) (tC v):=
 λ _ _ _ H _ I h=>o7 I hg hm ⟨v,H,I,r,h⟩ hd
theorem bU {x:Str}{v:V}{u:Value}{pos:Pos} (hg:Gl X x) (hm:X.mg x=none) (hv:bootBuiltins x=some u) (r:aX v u) (hn:x ≠ "__name__" := by decide) (hd:(x == ("__debug__" : Str))=false:=by decide):PE X (.Name x pos) (tC v):=
 λ _ _ _ H _ I h=>lJ I hg hm hv ⟨v,H,I,r,h⟩ hn hd
variable {a b:Expr}{ta tb:TE}{pos:Pos}
def tB (t:TE):TT:=λ σ H Q=>t σ H λ x H1=>∃ c,x=.bl c/\Q c H1
theorem aV {e:Expr}{t:TE} (h:PE X e t) (he:∀ whole,isTrue e X.env whole=(do let v <- whole;standAt e.pos;holding [v] (truthy v)):=by intro _;rfl):PT X e (tB t):=by
 intro pins s σ H Q I hw;refine isTrue_plain (cR (h pins s σ H _ I hw) λ v s1 ⟨x,H1,I1,r1,q1⟩=>?_) (he _);obtain⟨d,rfl,q⟩:=q1;cases r1;exact wpAny_truthy_bool ⟨H1,I1,q⟩
variable {tA tB':TT}{rest:List Expr}
def AX (t u:TT):TT:=λ σ H Q=>t σ H λ c H1=>if c=true then u σ H1 Q else Q false H1
def tOr (t u:TT):TT:=λ σ H Q=>t σ H λ c H1=>if c=true then Q true H1 else u σ H1 Q
def tNot (t:TT):TT:=λ σ H Q=>t σ H λ c H1=>Q (!c) H1
theorem kD (ha:PT X a tA):PW X (.BoolOp .And [a] pos) tA:=by
 intro wh pins s σ H Q I h;refine isTrue_and (cR (ha pins s σ H Q I h) λ c s1 e=>?_);cases c with
 | true=>exact isTrue_and_nil e
 | false=>exact e
theorem cO (ha:PT X a tA):PW X (.BoolOp .Or [a] pos) tA:=by
 intro wh pins s σ H Q I h;refine isTrue_or (cR (ha pins s σ H Q I h) λ c s1 e=>?_);cases c with
 | false=>exact isTrue_or_nil e
 | true=>exact e
theorem nG (ha:PT X a tA) (hb:PW X (.BoolOp .And (b::rest) pos) tB'):PW X (.BoolOp .And (a::b::rest) pos) (AX tA tB'):=by
 intro wh pins s σ H Q I h;refine isTrue_and (cR (ha pins s σ H _ I h) λ c s1 ⟨H1,I1,q1⟩=>?_);cases c with
 | true=>exact hb wh pins s1 σ H1 Q I1 q1
 | false=>exact⟨H1,I1,q1⟩
theorem cU (ha:PT X a tA) (hb:PW X (.BoolOp .Or (b::rest) pos) tB'):PW X (.BoolOp .Or (a::b::rest) pos) (tOr tA tB'):=by
 intro wh pins s σ H Q I h;refine isTrue_or (cR (ha pins s σ H _ I h) λ c s1 ⟨H1,I1,q1⟩=>?_);cases c with
 | true=>exact⟨H1,I1,q1⟩
 | false=>exact hb wh pins s1 σ H1 Q I1 q1
theorem aW (ha:PT X a tA):PT X (.UnaryOp .Not a pos) (tNot tA):=by
 intro pins s σ H Q I h;exact isTrue_not (ha pins s σ H (λ c H1=>Q (!c) H1) I h)
def AW (ta tb:TE):TE:=λ σ H Q=>ta σ H λ x H1=>∃ c,x=.bl c/\if c=true then tb σ H1 Q else Q (.bl false) H1
def tOrV (ta tb:TE):TE:=λ σ H Q=>ta σ H λ x H1=>∃ c,x=.bl c/\if c=true then Q (.bl true) H1 else tb σ H1 Q
def y4 (ta:TE):TE:=λ σ H Q=>ta σ H λ x H1=>∃ c,x=.bl c/\Q (.bl (!c)) H1
theorem eF {op}{t:TE} (h:PE X a t):PE X (.BoolOp op [a] pos) t:=λ pins s σ H Q I hw=>BoolOp_one (h pins s σ H Q I hw)
theorem d0 (ha:PE X a ta) (hb:PE X (.BoolOp .And (b::rest) pos) tb):PE X (.BoolOp .And (a::b::rest) pos) (AW ta tb):=by
 intro pins s σ H Q I h;refine BoolOp_and (cR (ha pins s σ H _ I h) λ v s1 ⟨x,H1,I1,r1,q1⟩=>?_);obtain⟨c,rfl,q1⟩:=q1;cases r1;refine wpAny_truthy_bool ?_;cases c with
 | true=>exact hb pins s1 σ H1 Q I1 q1
 | false=>exact⟨.bl false,H1,I1,rfl,q1⟩
theorem uE (ha:PE X a ta) (hb:PE X (.BoolOp .Or (b::rest) pos) tb):PE X (.BoolOp .Or (a::b::rest) pos) (tOrV ta tb):=by
 intro pins s σ H Q I h;refine BoolOp_or (cR (ha pins s σ H _ I h) λ v s1 ⟨x,H1,I1,r1,q1⟩=>?_);obtain⟨c,rfl,q1⟩:=q1;cases r1;refine wpAny_truthy_bool ?_;cases c with
 | false=>exact hb pins s1 σ H1 Q I1 q1
 | true=>exact⟨.bl true,H1,I1,rfl,q1⟩
theorem qN (ha:PE X a ta):PE X (.UnaryOp .Not a pos) (y4 ta):=by
 intro pins s σ H Q I h;refine UnaryOp_ (cR (ha pins s σ H _ I h) λ v s1 ⟨x,H1,I1,r1,q1⟩=>?_);obtain⟨c,rfl,q1⟩:=q1;cases r1;exact not_of (wpAny_truthy_bool ⟨.bl (!c),H1,I1,rfl,q1⟩)
def tIf (t:TT) (ta tb:TE):TE:=λ σ H Q=>t σ H λ c H1=>if c=true then ta σ H1 Q else tb σ H1 Q
theorem gF {c:Expr} (hc:PT X c tA) (ha:PE X a ta) (hb:PE X b tb):PE X (.IfExp c a b pos) (tIf tA ta tb):=by
 intro pins s σ H Q I h;refine wpAny_IfExp (cR (hc pins s σ H _ I h) λ d s1 ⟨H1,I1,q1⟩=>?_);cases d with
 | true=>exact ha pins s1 σ H1 Q I1 q1
 | false=>exact hb pins s1 σ H1 Q I1 q1
end
def bV (K:aaa) (H:Hp) (a:Addr) (xs:List V):Prop:=
 Rd H a (.lst xs)\/
  ∃ (o:Obj) (its:Array Value) (n:Nat),K.lookup a=some o/\o.cls=.type "list" /\ o.dict=none/\o.data=.seq its n/\its.size<=sizeLine/\aZ xs its.toList
def cG (K:aaa) (H:Hp) (a:Addr) (xs:List V):Prop:=
 Rd H a (.tup xs)\/
  ∃ (o:Obj) (its:Array Value) (n:Nat),K.lookup a=some o/\o.cls=.type "tuple" /\ o.data=.seq its n/\its.size<=sizeLine/\aZ xs its.toList
def absV:Value->Option V
 | .none=>some .non
 | .bool b=>some (.bl b)
 | .int i _=>some (.int i)
 | .str x _=>some (.str x)
 | .bytes b _=>some (.byt b)
 | .float b _=>some (.flt b)
 | .ref a=>some (.ref a)
 | .type n=>some (.ty n)
 | _=>none
theorem aX.abs {x:V}{u:Value} (r:aX x u):absV u=some x:=by
 cases x with
 | non=>cases r;rfl
 | bl _=>cases r;rfl
 | int _=>obtain⟨t,rfl⟩:=r;rfl
 | str _=>obtain⟨t,rfl⟩:=r;rfl
 | byt _=>obtain⟨t,rfl⟩:=r;rfl
 | flt _=>obtain⟨t,rfl⟩:=r;rfl
 | ref _=>cases r;rfl
 | ty _=>cases r;rfl
theorem aX.inj {x y:V}{u:Value} (r:aX x u) (q:aX y u):x=y:=abe (r.abs.symm.trans q.abs)
theorem aZ.inj:∀ {xs ys:List V}{us:List Value},aZ xs us->aZ ys us->xs=ys
 | _,_,_,.nil,.nil=>rfl
 | _,_,_,.cons r t,.cons r' t'=>by rw[r.inj r',aZ.inj t t']
section
variable {X:Cx}{pins:List (Addr×Obj)}{σ:St}{H:Hp}{s:Shared}{a:Addr}{xs ys:List V}
theorem bV.of {K:aaa} (h:H a=some (.lst xs)):bV K H a xs:=.inl (.inl h)
theorem cG.of {K:aaa} (h:H a=some (.tup xs)):cG K H a xs:=.inl (.inl h)
theorem Inv.list (I:Inv X pins σ H s) (h:bV X.K H a xs):∃ its:List Value,aZ xs its/\PlainL s.heap a its.toArray/\xs.length<=sizeLine:=by
 rcases h with h | ⟨o,its,n,hk,hc,hd,hs,hz,r⟩
 ·obtain⟨z,its,n,r,e⟩:=h.ok I.hok;exact⟨its,r,⟨_,n,e,rfl,rfl,rfl⟩,z⟩
 ·refine⟨its.toList,r,⟨o,n,I.kIn a o hk,hc,hd,by simpa using hs⟩,?_⟩;have e:=r.length;simp only [Array.length_toList] at e;omega
theorem Inv.tuple (I:Inv X pins σ H s) (h:cG X.K H a xs):∃ its:List Value,aZ xs its/\IsTup s.heap a its.toArray/\xs.length<=sizeLine:=by
 rcases h with h | ⟨o,its,n,hk,hc,hs,hz,r⟩
 ·obtain⟨z,its,r,p⟩:=h.ok I.hok;exact⟨its,r,p,z⟩
 ·refine⟨its.toList,r,⟨o,I.kIn a o hk,hc,n,by simpa using hs⟩,?_⟩;have e:=r.length;simp only [Array.length_toList] at e;omega
theorem Inv.list_inj (I:Inv X pins σ H s) (h:bV X.K H a xs) (h':bV X.K H a ys):xs=ys:=by
 obtain⟨its,r,⟨o,n,e,_,_,d⟩,_⟩:=I.list h;obtain⟨its',r',⟨o',n',e',_,_,d'⟩,_⟩:=I.list h';rw[e] at e';cases e';rw[d] at d';injection d' with d1 _;have:its=its':=by simpa using congrArg Array.toList d1
 subst this;exact r.inj r'
theorem Inv.tuple_inj (I:Inv X pins σ H s) (h:cG X.K H a xs) (h':cG X.K H a ys):xs=ys:=by
 obtain⟨its,r,⟨o,e,_,n,d⟩,_⟩:=I.tuple h;obtain⟨its',r',⟨o',e',_,n',d'⟩,_⟩:=I.tuple h';rw[e] at e';cases e';rw[d] at d';injection d' with d1 _;have:its=its':=by simpa using congrArg Array.toList d1
 subst this;exact r.inj r'
end
abbrev Cx.wish (X:Cx) (E:Value->Shared->Prop):Cx:={ X with xe:=E }
abbrev Cx.nox (X:Cx):Cx:=X.wish λ _ _=>False
theorem Cx.Ok.wish {X:Cx} (ok:X.Ok) (E:Value->Shared->Prop):(X.wish E).Ok:=
 ⟨ok.mod,ok.kind,ok.glob,ok.blt,ok.above,ok.inj,ok.has,ok.cab,ok.hd,ok.frames,ok.stk,ok.exf,ok.bs,ok.bsz,ok.noex,ok.exfs,ok.funs,ok.frf⟩
theorem Cx.Ok.unwish {X:Cx}{E:Value->Shared->Prop} (ok:(X.wish E).Ok):X.Ok:=
 ⟨ok.mod,ok.kind,ok.glob,ok.blt,ok.above,ok.inj,ok.has,ok.cab,ok.hd,ok.frames,ok.stk,ok.exf,ok.bs,ok.bsz,ok.noex,ok.exfs,ok.funs,ok.frf⟩
section
variable {X:Cx}{pins:List (Addr×Obj)}{σ:St}{H:Hp}{s:Shared}{E:Value->Shared->Prop}
theorem Inv.wish (I:Inv X pins σ H s) (E:Value->Shared->Prop):Inv (X.wish E) pins σ H s:=⟨I.ok.wish E,I.os,I.bare,I.base,I.loc,I.cell,I.free,I.freeC,I.pin,I.hok,I.len⟩
theorem Inv.unwish (I:Inv (X.wish E) pins σ H s):Inv X pins σ H s:=⟨I.ok.unwish,I.os,I.bare,I.base,I.loc,I.cell,I.free,I.freeC,I.pin,I.hok,I.len⟩
theorem SP.unwish {D:Ends}{f:Flow}{s':Shared} (h:SP (X.wish E) pins D f s'):SP X pins D f s':=by
 cases f with
 | next=>obtain⟨Z,H',I,q⟩:=h;exact⟨Z,H',I.unwish,q⟩
 | brk=>obtain⟨Z,H',I,q⟩:=h;exact⟨Z,H',I.unwish,q⟩
 | cont=>obtain⟨Z,H',I,q⟩:=h;exact⟨Z,H',I.unwish,q⟩
 | ret u=>obtain⟨v,Z,H',I,r,q⟩:=h;exact⟨v,Z,H',I.unwish,r,q⟩
theorem tJ.nox {st:List Stmt}{t:TS} (h:tJ X.nox st t):tJ X st t:=λ pins s σ H D I hw=>
 abp (h pins s σ H D (I.wish _) hw) (λ _ _ q=>q.unwish) λ _ _ z=>False.elim z
end
section
variable {X:Cx}{st:Stmt}{rest:List Stmt}{t u:TS}{e:Expr}{te:TE}{pos:Pos}
def d7:TS:=λ D σ H=>D.nx σ H
def jC (t u:TS):TS:=λ D σ H=>t { D with nx:=u D } σ H
theorem aQ:tJ X [] d7:=λ _ _ σ H _ I h=>wpAny_execs_nil ⟨σ,H,I,h⟩
theorem aE (h1:PS X st t) (h2:tJ X rest u):tJ X (st::rest) (jC t u):=by
 intro pins s σ H D I h;refine wpAny_execs_cons (cR (h1 pins s σ H { D with nx:=u D } I h) λ f s1 q=>?_);cases f with
 | next=>
  obtain⟨Z,H',I',q⟩:=q;exact h2 pins s1 Z H' D I' q
 | ret v=>exact q
 | brk=>exact q
 | cont=>exact q
theorem aF (h1:PS X st t):tJ X [st] t:=by
 intro pins s σ H D I h;refine wpAny_execs_cons (cR (h1 pins s σ H D I h) λ f s1 q=>?_);cases f with
 | next=>exact wpAny_execs_nil q
 | ret v=>exact q
 | brk=>exact q
 | cont=>exact q
theorem Inv.quiet {pins:List (Addr×Obj)}{σ:St}{H:Hp}{s:Shared} (I:Inv X pins σ H s):interactive X.env=false:=by simp [interactive,I.ok.kind]
def AU (te:TE):TS:=λ D σ H=>te σ H λ _ H1=>D.nx σ H1
theorem dL (he:PE X e te) (hs:swapsWith e none pos.line X.env=pure false:=by rfl):PS X (.Expr e pos) (AU te):=by
 intro pins s σ H D I h;exact wpAny_Expr_any (cR (he pins s σ H _ I h) λ v s1 ⟨x,H1,I1,r1,q1⟩=>⟨σ,H1,I1,q1⟩) I.quiet hs
def AT (te:TE):TS:=λ D σ H=>te σ H D.rt
theorem aL (he:PE X e te):PS X (.Return (some e) pos) (AT te):=by
 intro pins s σ H D I h;exact wpAny_Return_some (cR (he pins s σ H _ I h) λ v s1 ⟨x,H1,I1,r1,q1⟩=>⟨x,σ,H1,I1,r1,q1⟩)
def tR (c:TT) (t u:TS):TS:=λ D σ H=>c σ H λ b H1=>if b=true then t D σ H1 else u D σ H1
theorem bL {c:Expr}{a b:List Stmt}{tc:TT} (hc:PT X c tc) (ha:tJ X a t) (hb:tJ X b u):PS X (.If c a b pos) (tR tc t u):=by
 intro pins s σ H D I h;refine wpAny_If (cR (hc pins s σ H _ I h) λ d s1 ⟨H1,I1,q1⟩=>?_);cases d with
 | true=>exact ha pins s1 σ H1 D I1 q1
 | false=>exact hb pins s1 σ H1 D I1 q1
end
abbrev TG:=V->St->Hp->(St->Hp->Prop)->Prop
abbrev sE:=List V->St->Hp->(St->Hp->Prop)->Prop
def PG (X:Cx) (target:Expr) (t:TG):Prop:=
 ∀ (pins:List (Addr×Obj)) (s:Shared) (σ:St) (H:Hp) (v:V) (u:Value) (Q:St->Hp->Prop),Inv X pins σ H s->aX v u->t v σ H Q->
  wpAny (model X.prog X.w) X.A (assign target X.env u) (λ _ s'=>∃ Z H',Inv X pins Z H' s'/\Q Z H') X.xe s
def wD (X:Cx) (ts:List Expr) (t:sE):Prop:=
 ∀ (pins:List (Addr×Obj)) (s:Shared) (σ:St) (H:Hp) (vs:List V) (us:List Value) (Q:St->Hp->Prop),Inv X pins σ H s->aZ vs us->t vs σ H Q->
  wpAny (model X.prog X.w) X.A (assignInOrder ((assignEach ts X.env).map (·.2)) us) (λ _ s'=>∃ Z H',Inv X pins Z H' s'/\Q Z H') X.xe s
abbrev AE:=V->V->V->Hp->(Hp->Prop)->Prop
def BS (X:Cx) (t:AE):Prop:=
 ∀ (pins:List (Addr×Obj)) (s:Shared) (σ:St) (H:Hp) (o i v:V) (ov iv u:Value) (Q:Hp->Prop),Inv X pins σ H s->aX o ov->aX i iv->aX v u->t o i v H Q->
  wpAny (model X.prog X.w) X.A (setItem ov iv u) (λ _ s'=>∃ H',Inv X pins σ H' s'/\Q H') X.xe s
section
variable {X:Cx}{pos:Pos}
def bS (i:Nat):TG:=λ v σ H Q=>Q (σ.set i (some v)) H
theorem nJ {i:Nat}{x:Str} (hN:X.N.Nodup) (hi:X.N[i]? = some x) (hx:AH X.env.scope x) (hf:X.fn x=true\/X.env.scope.names.lookup x=some .local:=by first | exact .inl rfl | exact .inr rfl | assumption):PG X (.Name x pos) (bS i):=by
 intro pins s σ H v u Q I r h;exact wpAny_assign_Name (iL I hN hi hx r (λ s' I'=>⟨_,H,I',h⟩) hf)
def BO:sE:=λ vs σ H Q=>vs=[]/\Q σ H
def yD (t:TG) (u:sE):sE:=λ vs σ H Q=>∃ v r,vs=v::r/\t v σ H λ Z H'=>u r Z H' Q
theorem bJ:wD X [] BO:=by
 intro pins s σ H vs us Q I r h;obtain⟨e,h⟩:=h;subst e;cases r;exact assignInOrder_nil ⟨σ,H,I,h⟩
theorem aG {e:Expr}{es:List Expr}{t:TG}{u:sE} (h1:PG X e t) (h2:wD X es u)
  (hs:(assignEach (e::es) X.env).map (·.2)=assign e X.env::(assignEach es X.env).map (·.2):=by rfl):wD X (e::es) (yD t u):=by
 intro pins s σ H vs us Q I r h;obtain⟨v,vr,e1,h⟩:=h;subst e1;cases r with
 | cons r rr=>
  rw[hs];refine assignInOrder_cons (cR (h1 pins s σ H _ _ _ I r h) λ _ s1 ⟨cr,H1,I1,q1⟩=>?_);exact h2 pins s1 cr H1 _ _ Q I1 rr q1
def BN (K:aaa) (n:Nat) (t:sE):TG:=λ v σ H Q=>∃ a xs,v=.ref a/\cG K H a xs/\xs.length=n/\t xs σ H Q
theorem zF {es:List Expr}{k:Nat}{t:sE}{n:Nat} (hc:X.calm=true) (h:wD X es t)
  (hn:(assignEach es X.env).length=n:=by rfl) (hst:(assignEach es X.env).findIdx? (·.1)=none:=by rfl):PG X (.Tuple es k pos) (BN X.K n t):=by
 intro pins s σ H v u Q I r hw;obtain⟨a,xs,e1,hq,hl,hw⟩:=hw;subst e1;cases r;obtain⟨its,rv,ht,hz⟩:=I.tuple hq;refine assign_Tuple_tuple (I.ok.hd hc) ht (by simp [hn,<- hl,rv.length]) hst λ h' hx=>?_;have I1:Inv X pins σ H { s with heap:=h' }:=I.kept (t':=s.toks) λ b o e=>hx b o (abc (aai e)) e;exact h pins _ σ H xs _ Q I1 (by simpa using rv) hw
def xQ (to ti:TE) (t:AE):TG:=λ v σ H Q=>to σ H λ o H1=>ti σ H1 λ i H2=>t o i v H2 λ H3=>Q σ H3
theorem nI {o i:Expr}{to ti:TE}{t:AE} (ho:PE X o to) (hi:PE X i ti) (hs:BS X t)
  (ha:∀ v,assign (.Subscript o i pos) X.env v=(do
   let ov <- holding [v] (eval o X.env);let iv <- holding [v,ov] (eval i X.env)
   standAt pos
   holding [v,ov,iv] (setItem ov iv v)
   release [v,ov,iv] []):=by intro _;rfl):PG X (.Subscript o i pos) (xQ to ti t):=by
 intro pins s σ H v u Q I r h;rw[ha];refine aac (aby (cR (ho pins s σ H _ I h) λ ov s1 ⟨x,H1,I1,r1,q1⟩=>?_));refine aac (aby (cR (hi pins s1 σ H1 _ I1 q1) λ iv s2 ⟨y,H2,I2,r2,q2⟩=>?_));refine aac (wpAny_standAt (aac (aby (cR (hs pins s2 σ H2 x y v ov iv u _ I2 r1 r2 r q2) λ _ s3 ⟨H3,I3,q3⟩=>?_))));exact wpAny_release ⟨σ,H3,I3,q3⟩
def iK (te:TE) (g:TG):TS:=λ D σ H=>te σ H λ x H1=>g x σ H1 D.nx
theorem cP {tg e:Expr}{te:TE}{g:TG} (he:PE X e te) (hg:PG X tg g) (hs:swapsWithSole [tg] e pos.line X.env=pure false:=by rfl) (hw:swappedStores [tg] e X.env=pure none:=by rfl)
  (h1:(assignEach [tg] X.env).map (·.2)=[assign tg X.env]:=by rfl):PS X (.Assign [tg] e pos) (iK te g):=by
 intro pins s σ H D I h;refine wpAny_Assign_stores (cR (he pins s σ H _ I h) λ v s1 ⟨x,H1,I1,r1,q1⟩=>?_) hs hw;rw[h1];exact cR (hg pins s1 σ H1 x v _ I1 r1 q1) λ _ s2 q=>q
theorem qM {i:Nat}{x:Str}{e:Expr}{te:TE}{pos':Pos} (hN:X.N.Nodup) (hi:X.N[i]? = some x) (hx:AH X.env.scope x) (he:PE X e te) (hs:swapsWith e (some (.Name x pos')) pos.line X.env=pure false:=by rfl) (hf:X.fn x=true\/X.env.scope.names.lookup x=some .local:=by first | exact .inl rfl | exact .inr rfl | assumption) :
  PS X (.Assign [.Name x pos'] e pos) (iK te (bS i)):=by
 intro pins s σ H D I h;refine wpAny_Assign_Name (cR (he pins s σ H _ I h) λ v s1 ⟨y,H1,I1,r1,q1⟩=>?_) hs;exact iL I1 hN hi hx r1 (λ s2 I2=>⟨_,H1,I2,q1⟩) hf
def tPar (i j:Nat) (ta:TA):TS:=λ D σ H=>ta σ H λ vs H1=>∃ v w,vs=[v,w]/\D.nx ((σ.set i (some v)).set j (some w)) H1
theorem zD {i j:Nat}{x y:Str}{a b:Expr}{ta:TA}{px py pt:Pos}{kt k2 pt2} (hc:X.calm=true) (hN:X.N.Nodup) (hi:X.N[i]? = some x) (hj:X.N[j]? = some y) (hij:i≠j)
  (hx:X.env.scope.names.lookup x=some .local) (hy:X.env.scope.names.lookup y=some .local) (ha:PA X [a,b] ta)
  (hw:swappedStores [.Tuple [.Name x px,.Name y py] kt pt] (.Tuple [a,b] k2 pt2) X.env=pure (some [x,y]))
  (hs:swapsWithSole [.Tuple [.Name x px,.Name y py] kt pt] (.Tuple [a,b] k2 pt2) pos.line X.env=pure false:=by rfl) :
  PS X (.Assign [.Tuple [.Name x px,.Name y py] kt pt] (.Tuple [a,b] k2 pt2) pos) (tPar i j ta):=by
 intro pins s σ H D I h;rw[exec_Assign_arm];refine aac (wpAny_standAt ?_);rw[hs];refine aac (aau ?_);rw[if_neg (by decide)];refine aac (Tuple_ (cR (ha _ pins s σ H _ I h) λ us s1 ⟨vs,H1,I1,r1,q1⟩=>?_));obtain⟨v,w,e1,q1⟩:=q1;subst e1;obtain⟨u1,u2,rfl,rv,rw'⟩:∃ u1 u2,us=[u1,u2]/\aX v u1/\aX w u2:=by
  cases r1 with
  | cons p q=>
   cases q with
   | cons p' q'=>
    cases q';exact⟨_,_,rfl,p,p'⟩
 refine wpAny_newObj_type ?_ (by show 2<=sizeLine;decide);have I2:Inv X pins σ H1 { s1 with heap:=s1.heap.push { cls:=.type "tuple",data:=.seq [u1,u2].toArray } }:=I1.kept (t':=s1.toks) λ b o e=>aaf _ e;rw[hw];refine aac (aau ?_);show wpAny (model X.prog X.w) X.A (do rule "assign.swapped-stores";let items <- unpackItems (.ref s1.heap.objs.size) 2 none;assignInOrder [λ v=>bindName X.env y v,λ v=>bindName X.env x v] items.reverse;pure Flow.next) _ _ _;refine aac (wpAny_rule (aac (unpackItems_tuple (items:=#[u1,u2]) (I.ok.hd hc) (IsTup.new s1.heap _) λ h' hx'=>?_)));have I3:=I2.kept (h':=h') (t':=s1.toks) λ b o e=>hx' b o (abc (aai e)) e;show wpAny _ _ (assignInOrder [λ v=>bindName X.env y v,λ v=>bindName X.env x v] [u2,u1] >>= λ _=>pure Flow.next) _ _ _;refine aac (assignInOrder_cons (wpAny_bindName (iL I3 hN hj (.inl hy) rw' (λ s2 I4=>?_) (.inr hy))));refine assignInOrder_cons (wpAny_bindName (iL I4 hN hi (.inl hx) rv (λ s3 I5=>assignInOrder_nil (aau ?_)) (.inr hx)));rw[List.set_comm _ _ (Ne.symm hij)] at I5;exact⟨_,H1,I5,q1⟩
end
structure It where
 go:Nat->Hp->Prop
 yld:Nat->Hp->V->Hp->Prop
 stop:Nat->Hp->Prop
def iD (X:Cx) (pins:List (Addr×Obj)) (H:Hp) (b:Addr):Prop:=
 H b=none/\b≠X.env.locals/\b∉X.fs/\(b∈X.ex\/X.s₀.heap.objs.size<=b)/\(∀ x c,X.env.cells.lookup x=some c->c≠b)/\∀ p∈X.pn++pins,p.1≠b
theorem Inv.fpOk {X:Cx}{pins:List (Addr×Obj)}{σ:St}{H H':Hp}{s:Shared}{b:Addr} (I:Inv X pins σ H s) (hb:s.heap.objs.size<=b) (hn:H' b=none):iD X pins H' b:=by
 refine⟨hn,Nat.ne_of_gt (aam I.lt hb),I.nofs hb,.inr (abn I.sz hb),λ x c e z=>?_,λ p hp z=>?_⟩
 ·obtain⟨v,q⟩:=I.cell x c e;exact absurd (aam q.lt (by rw[z];exact hb)) (abu _)
 ·exact absurd (aam (aai (I.pin p hp).1) (by rw[z];exact hb)) (abu _)
structure Turn (P:Program) (w:World) (K:aaa) (tg:Expr) (J:It) (fp:List Addr) (it:Addr) (tn:Nat->Heap->Prop):Prop where
 mem:it∈fp
 obj:∀ i h,tn i h->∀ b∈fp,∃ o,h.get? b=some o/\∀ v,o.data≠.cell v
 keep:∀ i h h',tn i h->(∀ b∈fp,∀ o,h.get? b=some o->h'.get? b=some o)->tn i h'
 item:∀ (X:Cx),X.prog=P->X.w=w->X.K=K->X.calm=true->∀ (i:Nat) (pins:List (Addr×Obj)) (s:Shared) (σ:St) (H:Hp) (E:Value->Shared->Prop),Inv X pins σ H s->(∀ b∈fp,iD X pins H b)->tn i s.heap->J.go i H->
  wpAny (model P w) X.A (pyNext (.ref it)) (λ r s1=>∃ u,r=some u/\
   wpAny (model P w) X.A (letOwnedTupleGo tg (.ref it) u) (λ _ s2=>∃ x H',Inv X pins σ H' s2/\aX x u/\J.yld i H x H'/\tn (i+1) s2.heap/\∀ b∈fp,H' b=none) E s1) E s
 done:∀ (X:Cx),X.prog=P->X.w=w->X.K=K->X.calm=true->∀ (i:Nat) (pins:List (Addr×Obj)) (s:Shared) (σ:St) (H:Hp) (E:Value->Shared->Prop),Inv X pins σ H s->(∀ b∈fp,iD X pins H b)->tn i s.heap->J.stop i H->
  wpAny (model P w) X.A (pyNext (.ref it)) (λ r s1=>r=none/\Inv X pins σ H s1) E s
 self:∀ (A:Around) (i:Nat) (s:Shared) (Q:Value->Shared->Prop) (E:Value->Shared->Prop),tn i s.heap->Q (.ref it) s->wpAny (model P w) A (pyIter (.ref it)) Q E s
abbrev TI:=St->Hp->(It->Hp->Prop)->Prop
def PIE (X:Cx) (pins:List (Addr×Obj)) (σ:St) (tg:Expr) (R:It->Hp->Prop) (itv:Value) (s2:Shared):Prop:=
 ∃ (it:Addr) (fp:List Addr) (tn:Nat->Heap->Prop) (J:It) (H':Hp),itv=.ref it/\Inv X pins σ H' s2/\Turn X.prog X.w X.K tg J fp it tn/\tn 0 s2.heap/\(∀ b∈fp,iD X pins H' b)/\R J H'
def PI (X:Cx) (tg iter:Expr) (wi:TI):Prop:=
 ∀ (pins:List (Addr×Obj)) (s:Shared) (σ:St) (H:Hp) (R:It->Hp->Prop),Inv X pins σ H s->wi σ H R->
  wpAny (model X.prog X.w) X.A (eval iter X.env) (λ v s1=>wpAny (model X.prog X.w) X.A (pyIter v) (PIE X pins σ tg R) X.xe s1) X.xe s
theorem vN {M:Model}{A:Around}{E:Value->Shared->Prop}{s:Shared}{tg:Expr}{it:Addr}{u:Value}{o:Obj}{n:String}{vs:Array Value}{Q:Unit->Shared->Prop} (ho:s.heap.get? it=some o) (hc:o.cls=.type n) (hd:o.data=.fields vs)
  (hn:["enumerate","zip","dict_itemiterator","dict_reverseitemiterator","odict_iterator","itertools.zip_longest","itertools.pairwise"].contains n=false) (hQ:Q () s):wpAny M A (letOwnedTupleGo tg (.ref it) u) Q E s:=by
 unfold letOwnedTupleGo;cases tg <;> first
  | exact aau hQ
  | (cases u <;> first
    | exact aau hQ
    | (refine aac (wpAny_load ho ?_)
       rw[hc,hd];show wpAny M A (if (["enumerate","zip","dict_itemiterator","dict_reverseitemiterator","odict_iterator","itertools.zip_longest","itertools.pairwise"].contains n && vs[0]? == some (rawInt _))=true then _ else _) Q E s;rw[if_neg (by intro h;rw[hn,Bool.false_and] at h;cases h)];exact aau hQ))
def BT (K:aaa) (a:Addr):It:=
 ⟨λ i H=>∃ xs x,bV K H a xs/\xs[i]? = some x,λ i H x H'=>H'=H/\∀ xs,bV K H a xs->xs[i]? = some x,λ i H=>∃ xs,bV K H a xs/\xs.length<=i⟩
def AI (K:aaa) (a:Addr):It:=
 ⟨λ i H=>∃ xs x,cG K H a xs/\xs[i]? = some x,λ i H x H'=>H'=H/\∀ xs,cG K H a xs->xs[i]? = some x,λ i H=>∃ xs,cG K H a xs/\xs.length<=i⟩
def AJ (lo:Int) (n:Nat):It:=⟨λ i _=>i < n,λ i H x H'=>H'=H/\x=.int (lo+i),λ i _=>n<=i⟩
theorem sI {P:Program}{w:World}{K:aaa}{tg:Expr} (a it:Addr):Turn P w K tg (BT K a) [it] it (λ i h=>h.IsListIter it a i) where
 mem:=by simp
 obj:=λ i h st b hb=>by
  have e:b=it:=by simpa using hb
  subst e;obtain⟨o,e,c,d⟩:=st;exact⟨o,e,λ v z=>by rw[d] at z;cases z⟩
 keep:=λ i h h' st k=>st.at λ o e=>k it (by simp) o e
 item:=by
  intro X hP hw hK hc i pins s σ H E I hf st hg;subst hP hw hK;obtain⟨xs,x,hq,hx⟩:=hg;obtain⟨its,rv,p,hz⟩:=I.list hq;obtain⟨u,hu,ru⟩:=rv.get hx;obtain⟨f0,f1,f2,f3,f4,f5⟩:=hf it (by simp);refine wpAny_pyNext_list_item st p.isList (x:=u) (by simpa using hu) λ h' st' sb=>?_;have I1:Inv X pins σ H { s with heap:=h' }:=I.turned (t':=s.toks) (λ b o hb e=>(sb.2 b hb).trans e) f0 f1 f3 f4 f5;obtain⟨o,e,c,d⟩:=id st';exact⟨u,rfl,vN (s:={ s with heap:=h' }) e c d (by decide) ⟨x,H,I1,ru,⟨rfl,λ ys hy=>by rw[I.list_inj hy hq];exact hx⟩,st',λ b hb=>(hf b hb).1⟩⟩
 done:=by
  intro X hP hw hK hc i pins s σ H E I hf st hg;subst hP hw hK;obtain⟨xs,hq,hx⟩:=hg;obtain⟨its,rv,p,hz⟩:=I.list hq;obtain⟨f0,f1,f2,f3,f4,f5⟩:=hf it (by simp);have hl:=rv.length;exact wpAny_pyNext_list_end (I.ok.hd hc) st p.isList (by simp;omega) λ h' eb=>⟨rfl,I.turned (t':=s.toks) (λ b o hb e=>eb b o hb e) f0 f1 f3 f4 f5⟩
 self:=λ _ _ _ _ _ st h=>wpAny_pyIter_listiter st h
theorem pZ {P:Program}{w:World}{K:aaa}{tg:Expr} (a it:Addr):Turn P w K tg (AI K a) [it] it (λ i h=>h.IsTupleIter it a i) where
 mem:=by simp
 obj:=λ i h st b hb=>by
  have e:b=it:=by simpa using hb
  subst e;obtain⟨o,e,c,d⟩:=st;exact⟨o,e,λ v z=>by rw[d] at z;cases z⟩
 keep:=λ i h h' st k=>st.at λ o e=>k it (by simp) o e
 item:=by
  intro X hP hw hK hc i pins s σ H E I hf st hg;subst hP hw hK;obtain⟨xs,x,hq,hx⟩:=hg;obtain⟨its,rv,p,hz⟩:=I.tuple hq;obtain⟨u,hu,ru⟩:=rv.get hx;obtain⟨f0,f1,f2,f3,f4,f5⟩:=hf it (by simp);refine wpAny_pyNext_tuple_item st (show s.heap.IsTuple a its.toArray from p) (x:=u) (by simpa using hu) λ h' st' sb=>?_;have I1:Inv X pins σ H { s with heap:=h' }:=I.turned (t':=s.toks) (λ b o hb e=>(sb.2 b hb).trans e) f0 f1 f3 f4 f5;obtain⟨o,e,c,d⟩:=id st';exact⟨u,rfl,vN (s:={ s with heap:=h' }) e c d (by decide) ⟨x,H,I1,ru,⟨rfl,λ ys hy=>by rw[I.tuple_inj hy hq];exact hx⟩,st',λ b hb=>(hf b hb).1⟩⟩
 done:=by
  intro X hP hw hK hc i pins s σ H E I hf st hg;subst hP hw hK;obtain⟨xs,hq,hx⟩:=hg;obtain⟨its,rv,p,hz⟩:=I.tuple hq;obtain⟨f0,f1,f2,f3,f4,f5⟩:=hf it (by simp);have hl:=rv.length;exact wpAny_pyNext_tuple_end (I.ok.hd hc) st (show s.heap.IsTuple a its.toArray from p) (by simp;omega) λ h' eb=>⟨rfl,I.turned (t':=s.toks) (λ b o hb e=>eb b o hb e) f0 f1 f3 f4 f5⟩
 self:=λ _ _ _ _ _ st h=>wpAny_pyIter_tupleiter st h
theorem q0 {P:Program}{w:World}{K:aaa}{tg:Expr} (it:Addr) (lo:Int) (n:Nat):Turn P w K tg (AJ lo n) [it] it (λ i h=>IsRangeIter h it (lo+(i:Nat) * 1) ((n:Int) - (i:Nat)) 1) where
 mem:=by simp
 obj:=λ i h st b hb=>by
  have e:b=it:=by simpa using hb
  subst e;exact⟨_,st,λ v z=>by
   have z':Data.fields _=Data.cell v:=z;cases z'⟩
 keep:=λ i h h' st k=>k it (by simp) _ st
 item:=by
  intro X hP hw hK hc i pins s σ H E I hf st hg;subst hP hw hK;obtain⟨f0,f1,f2,f3,f4,f5⟩:=hf it (by simp);have W:=Walks.range (prog:=X.prog) (w:=X.w) (I.ok.hd hc) it lo 1 n;refine W.item i s _ _ hg st λ v h' tk hv st' kk=>?_;obtain⟨t,rfl⟩:=hv;have I1:Inv X pins σ H { s with heap:=h',toks:=tk }:=I.turned (λ b o hb e=>kk b o (by simpa using hb) e) f0 f1 f3 f4 f5;refine⟨_,rfl,vN (s:={ s with heap:=h',toks:=tk }) (n := "range_iterator") st' rfl rfl (by decide) ⟨.int (lo+i),H,I1,⟨t,?_⟩,⟨rfl,rfl⟩,st',λ b hb=>(hf b hb).1⟩⟩;rw[Int.mul_one]
 done:=by
  intro X hP hw hK hc i pins s σ H E I hf st hg;subst hP hw hK;obtain⟨f0,f1,f2,f3,f4,f5⟩:=hf it (by simp);exact wpAny_pyNext_range_end (I.ok.hd hc) st (by have:n<=i:=hg;omega) λ h' eb=>⟨rfl,I.turned (t':=s.toks) (λ b o hb e=>eb b o hb e) f0 f1 f3 f4 f5⟩
 self:=λ _ _ _ _ _ st h=>wpAny_pyIter_rangeiter st h
section
variable {X:Cx}{tg:Expr}
def yA (K:aaa) (tl:TE):TI:=λ σ H R=>tl σ H λ x H1=>∃ a,x=.ref a/\(∃ xs,bV K H1 a xs)/\R (BT K a) H1
def A5 (K:aaa) (tl:TE):TI:=λ σ H R=>tl σ H λ x H1=>∃ a,x=.ref a/\(∃ xs,cG K H1 a xs)/\R (AI K a) H1
theorem wP {l:Expr}{tl:TE} (hl:PE X l tl):PI X tg l (yA X.K tl):=by
 intro pins s σ H R I h;refine cR (hl pins s σ H _ I h) λ v s1 ⟨x,H1,I1,r1,q1⟩=>?_;obtain⟨a,e,⟨xs,hq⟩,q⟩:=q1;subst e;cases r1;obtain⟨its,rv,p,hz⟩:=I1.list hq;refine wpAny_pyIter_list p.isList ?_;refine⟨s1.heap.objs.size,[s1.heap.objs.size],_,_,H1,rfl,I1.kept (t':=s1.toks) λ b o e=>aaf _ e,sI a _,⟨_,aap _ rfl,rfl,rfl⟩,λ b hb=>?_,q⟩;have e:b=s1.heap.objs.size:=by simpa using hb
 subst e;exact I1.fpOk (aae _) (I1.hok.fresh (aae _))
theorem zE {l:Expr}{tl:TE} (hl:PE X l tl):PI X tg l (A5 X.K tl):=by
 intro pins s σ H R I h;refine cR (hl pins s σ H _ I h) λ v s1 ⟨x,H1,I1,r1,q1⟩=>?_;obtain⟨a,e,⟨xs,hq⟩,q⟩:=q1;subst e;cases r1;obtain⟨its,rv,p,hz⟩:=I1.tuple hq;refine wpAny_pyIter_tuple (show s1.heap.IsTuple a its.toArray from p) ?_;refine⟨s1.heap.objs.size,[s1.heap.objs.size],_,_,H1,rfl,I1.kept (t':=s1.toks) λ b o e=>aaf _ e,pZ a _,⟨_,aap _ rfl,rfl,rfl⟩,λ b hb=>?_,q⟩;have e:b=s1.heap.objs.size:=by simpa using hb
 subst e;exact I1.fpOk (aae _) (I1.hok.fresh (aae _))
theorem u5 {pins:List (Addr×Obj)}{σ:St}{H:Hp}{s:Shared}{R:It->Hp->Prop}{E:Value->Shared->Prop}{lo hi:Int}{t u v:Tok}{tk:Nat} (I:Inv X pins σ H s) (h1 : -(2 ^ 62)<=lo) (h2:lo < 2 ^ 62) (h3 : -(2 ^ 62)<=hi) (h4:hi < 2 ^ 62)
  (q:R (AJ lo (hi - lo).toNat) H):wpAny (model X.prog X.w) X.A (pyIter (.ref s.heap.objs.size)) (PIE X pins σ tg R) E { s with heap:=s.heap.push { cls:=.type "range",data:=.fields #[.int lo t,.int hi u,.int 1 v] },toks:=tk }:=by
 refine wpAny_pyIter_range (IsRange.new ..) (small_one h1 h2 h3 h4) ?_;have I1:Inv X pins σ H { s with heap:=s.heap.push { cls:=.type "range",data:=.fields #[.int lo t,.int hi u,.int 1 v] },toks:=tk }:=I.kept λ b o e=>aaf _ e;refine⟨(s.heap.push { cls:=.type "range",data:=.fields #[.int lo t,.int hi u,.int 1 v] }).objs.size,[(s.heap.push { cls:=.type "range",data:=.fields #[.int lo t,.int hi u,.int 1 v] }).objs.size],_,_,H,rfl,
  I1.kept (t':=tk) λ b o e=>aaf _ e,q0 _ lo (hi - lo).toNat,?_,λ b hb=>?_,q⟩
 ·have e1:lo+((0:Nat):Int) * 1=lo:=by simp
  have e2:(((hi - lo).toNat:Nat):Int) - ((0:Nat):Int)=Builtin.Range.rangeSize lo hi 1:=by rw[rangeSize_one];split <;> omega
  show IsRangeIter _ _ (lo+((0:Nat):Int) * 1) ((((hi - lo).toNat:Nat):Int) - ((0:Nat):Int)) 1;rw[e1,e2];exact aap _ rfl
 ·have e:b=(s.heap.push { cls:=.type "range",data:=.fields #[.int lo t,.int hi u,.int 1 v] }).objs.size:=by simpa using hb
  subst e;exact I1.fpOk (aae _) (I1.hok.fresh (aae _))
def BL (ta:TA):TI:=λ σ H R=>ta σ H λ vs H1=>∃ j:Int,vs=[.int j]/\-(2 ^ 62)<=j/\j < 2 ^ 62/\R (AJ 0 j.toNat) H1
theorem dY {a:Expr}{ta:TA}{p pos:Pos} (hg:Gl X "range") (hm:X.mg "range" = none) (ha:PA X [a] ta) (hs:starEach [a] X.env=[(false,eval a X.env)]:=by rfl):PI X tg (.Call (.Name "range" p) [a] [] pos) (BL ta):=by
 intro pins s σ H R I h;refine Call_ (lJ I hg hm boot_range (PyProof.Rows.callWith_type1 (cR (ha pos pins s σ H _ I h) λ us s1 ⟨vs,H1,I1,r1,q1⟩=>?_) hs rfl));obtain⟨j,e,q1,q2,q⟩:=q1;subst e;cases r1 with
 | cons r rr=>
  cases rr;obtain⟨t,rfl⟩:=r;exact call_range_1 (u5 I1 (by omega) (by omega) q1 q2 (by simpa using q))
def tFor (wi:TI) (g:TG) (tb:TS):TS:=λ D σ H=>wi σ H λ J H1=>∃ W:Nat->Nat->St->Hp->Prop,(∃ m,W 0 m σ H1)/\∀ i m σ H,W i m σ H->
 (J.stop i H/\D.nx σ H)\/(J.go i H/\∃ N:St->Hp->Prop,(∀ Z H',N Z H'->∃ m',m' < m/\W (i+1) m' Z H')/\∀ x H',J.yld i H x H'->g x σ H' λ ak H2=>tb { D with nx:=N,ct:=N,bk:=D.nx } ak H2)
def kS (fp:List Addr) (h:Heap):List (Addr×Obj):=fp.filterMap λ b=>(h.get? b).map λ o=>(b,o)
theorem fK {fp:List Addr}{h:Heap}{b:Addr}{o:Obj} (hb:b∈fp) (e:h.get? b=some o):(b,o)∈kS fp h:=List.mem_filterMap.mpr ⟨b,hb,by rw[e];rfl⟩
theorem sV {fp:List Addr}{h:Heap}{p:Addr×Obj} (hp:p∈kS fp h):p.1∈fp/\h.get? p.1=some p.2:=by
 obtain⟨b,hb,e⟩:=List.mem_filterMap.mp hp;cases q:h.get? b with
 | none=>rw[q] at e;cases e
 | some o=>
  rw[q] at e;have e':(b,o)=p:=abe e;subst e';exact⟨hb,q⟩
theorem Inv.pinned {pins:List (Addr×Obj)}{σ:St}{H:Hp}{s:Shared}{fp:List Addr} (I:Inv X pins σ H s) (hf:∀ b∈fp,iD X pins H b) (ho:∀ b∈fp,∃ o,s.heap.get? b=some o/\∀ v,o.data≠.cell v):Inv X (pins++kS fp s.heap) σ H s:=
 I.pins_of λ p hp=>(abd.mp hp).elim (λ z=>I.pin p (aav _ z)) λ z=>by
  obtain⟨hb,e⟩:=sV z;obtain⟨f0,f1,f2,_⟩:=hf p.1 hb;obtain⟨o,e',d⟩:=ho p.1 hb;rw[e] at e';cases e';exact⟨e,f0,f1,f2,d⟩
theorem Inv.unpinned {pins pl:List (Addr×Obj)}{σ:St}{H:Hp}{s:Shared} (I:Inv X (pins++pl) σ H s):Inv X pins σ H s:=I.pins_of λ p hp=>I.pin p (aav _ (abt _ hp))
theorem cZ {iter:Expr}{body:List Stmt}{wi:TI}{g:TG}{tb:TS}{pos:Pos} (hp:PassesOwn (model X.prog X.w) X.A X.env X.xe) (hc:X.calm=true) (hi:PI X tg iter wi) (hg:PG X tg g) (hb:tJ X body tb)
  (hs:∀ x,foldedSetIterable iter X.env x=pure x:=by intro _;rfl):PS X (.For tg iter body [] pos) (tFor wi g tb):=by
 intro pins s σ H D I h;refine wpAny_For (cR (hi pins s σ H _ I h) λ v s1 h1=>cR h1 λ itv s2 h2=>?_) hs;obtain⟨it,fp,tn,J,H2,e,I2,T,st2,f2,W,⟨m0,w0⟩,turn⟩:=h2;subst e;have stat:∀ {H':Hp},(∀ b∈fp,H' b=none)->∀ b∈fp,iD X pins H' b:=λ hn b hb=>⟨hn b hb,(f2 b hb).2⟩;refine codeAny_forLoop_any (λ n s'=>∃ i Z H',Inv X pins Z H' s'/\tn i s'.heap/\(∀ b∈fp,H' b=none)/\W i n Z H') ?_ m0 ⟨0,σ,H2,I2,st2,λ b hb=>(f2 b hb).1,w0⟩;rintro n s3 ⟨i,af,H3,I3,st3,fr3,w3⟩;rcases turn i n af H3 w3 with ⟨stop,qn⟩ | ⟨go,N,hN,step⟩
 ·refine wpAny_passesOwn hp (cR (T.done X rfl rfl rfl hc i pins s3 af H3 X.xe I3 (stat fr3) st3 stop) λ r s4 ⟨hr,I4⟩=>?_);subst hr;exact wpAny_execs_nil ⟨af,H3,I4,qn⟩
 ·refine wpAny_passesOwn hp (cR (T.item X rfl rfl rfl hc i pins s3 af H3 X.xe I3 (stat fr3) st3 go) λ r s4 ⟨u,hr,h4⟩=>?_);subst hr;refine wpAny_passesOwn hp (cR h4 λ _ s5 ⟨x,H5,I5,r5,y5,st5,fr5⟩=>?_);have I5':=I5.pinned (stat fr5) (T.obj _ _ st5);refine wpAny_passesOwn hp (cR (hg _ s5 af H5 x u _ I5' r5 (step x H5 y5)) λ _ s6 ⟨σ6,H6,I6,q6⟩=>?_);refine wpAny_passesOwn hp (cR (hb _ s6 σ6 H6 _ I6 q6) λ f s7 q7=>?_);have again:∀ {ar:St}{H7:Hp},Inv X (pins++kS fp s5.heap) ar H7 s7->N ar H7->∃ m,m < n/\∃ i Z H',Inv X pins Z H' s7/\tn i s7.heap/\(∀ b∈fp,H' b=none)/\W i m Z H':=λ {ar H7} I7 n7=>by
   obtain⟨m',hm,w7⟩:=hN ar H7 n7;refine⟨m',hm,i+1,ar,H7,I7.unpinned,T.keep _ _ _ st5 λ b hb o e=>(I7.pin (b,o) (aav _ (aav _ (fK hb e)))).1,λ b hb=>?_,w7⟩;obtain⟨o,e,d⟩:=T.obj _ _ st5 b hb;exact (I7.pin (b,o) (aav _ (aav _ (fK hb e)))).2.1
  cases f with
  | next=>obtain⟨ar,H7,I7,n7⟩:=q7;exact again I7 n7
  | cont=>obtain⟨ar,H7,I7,n7⟩:=q7;exact again I7 n7
  | brk=>obtain⟨ar,H7,I7,q7⟩:=q7;exact⟨ar,H7,I7.unpinned,q7⟩
  | ret v=>obtain⟨x7,ar,H7,I7,r7,q7⟩:=q7;exact⟨x7,ar,H7,I7.unpinned,r7,q7⟩
end
theorem lM {K:aaa}{a:Addr}{xs:List V}{g:TG}{tb:TS}{D:Ends}{σ:St}{H:Hp} (Pv:Nat->St->Hp->Prop) (h0:Pv 0 σ H) (hl:∀ i σ H,i<=xs.length->Pv i σ H->bV K H a xs)
  (hs:∀ i x σ H,xs[i]? = some x->Pv i σ H->g x σ H λ ak H2=>tb { D with nx:=Pv (i+1),ct:=Pv (i+1),bk:=D.nx } ak H2) (hd:∀ σ H,Pv xs.length σ H->D.nx σ H) :
  ∃ W:Nat->Nat->St->Hp->Prop,(∃ m,W 0 m σ H)/\∀ i m σ H,W i m σ H->
   ((BT K a).stop i H/\D.nx σ H)\/((BT K a).go i H/\∃ N:St->Hp->Prop,(∀ Z H',N Z H'->∃ m',m' < m/\W (i+1) m' Z H')/\∀ x H',(BT K a).yld i H x H'->g x σ H' λ ak H2=>tb { D with nx:=N,ct:=N,bk:=D.nx } ak H2):=by
 refine⟨λ i m σ H=>m=xs.length - i/\i<=xs.length/\Pv i σ H,⟨xs.length,by simp,abi _,h0⟩,?_⟩;rintro i m σ H ⟨rfl,hi,p⟩;have q:=hl i σ H hi p
 by_cases hlt:i < xs.length
 ·refine .inr ⟨⟨xs,xs[i],q,by simp [hlt]⟩,Pv (i+1),λ Z H' p'=>⟨xs.length - (i+1),by omega,rfl,hlt,p'⟩,λ x H' y=>?_⟩;obtain⟨e,y⟩:=y;subst e;exact hs i x σ _ (y xs q) p
 ·have e:i=xs.length:=by omega
  subst e;exact .inl ⟨⟨xs,q,aae _⟩,hd σ H p⟩
theorem gS {K:aaa}{a:Addr}{xs:List V}{g:TG}{tb:TS}{D:Ends}{σ:St}{H:Hp} (Pv:Nat->St->Hp->Prop) (h0:Pv 0 σ H) (hl:∀ i σ H,i<=xs.length->Pv i σ H->cG K H a xs)
  (hs:∀ i x σ H,xs[i]? = some x->Pv i σ H->g x σ H λ ak H2=>tb { D with nx:=Pv (i+1),ct:=Pv (i+1),bk:=D.nx } ak H2) (hd:∀ σ H,Pv xs.length σ H->D.nx σ H) :
  ∃ W:Nat->Nat->St->Hp->Prop,(∃ m,W 0 m σ H)/\∀ i m σ H,W i m σ H->
   ((AI K a).stop i H/\D.nx σ H)\/((AI K a).go i H/\∃ N:St->Hp->Prop,(∀ Z H',N Z H'->∃ m',m' < m/\W (i+1) m' Z H')/\∀ x H',(AI K a).yld i H x H'->g x σ H' λ ak H2=>tb { D with nx:=N,ct:=N,bk:=D.nx } ak H2):=by
 refine⟨λ i m σ H=>m=xs.length - i/\i<=xs.length/\Pv i σ H,⟨xs.length,by simp,abi _,h0⟩,?_⟩;rintro i m σ H ⟨rfl,hi,p⟩;have q:=hl i σ H hi p
 by_cases hlt:i < xs.length
 ·refine .inr ⟨⟨xs,xs[i],q,by simp [hlt]⟩,Pv (i+1),λ Z H' p'=>⟨xs.length - (i+1),by omega,rfl,hlt,p'⟩,λ x H' y=>?_⟩;obtain⟨e,y⟩:=y;subst e;exact hs i x σ _ (y xs q) p
 ·have e:i=xs.length:=by omega
  subst e;exact .inl ⟨⟨xs,q,aae _⟩,hd σ H p⟩
theorem fA {lo:Int}{n:Nat}{g:TG}{tb:TS}{D:Ends}{σ:St}{H:Hp} (Pv:Nat->St->Hp->Prop) (h0:Pv 0 σ H)
  (hs:∀ i σ H,i < n->Pv i σ H->g (.int (lo+i)) σ H λ ak H2=>tb { D with nx:=Pv (i+1),ct:=Pv (i+1),bk:=D.nx } ak H2) (hd:∀ σ H,Pv n σ H->D.nx σ H) :
  ∃ W:Nat->Nat->St->Hp->Prop,(∃ m,W 0 m σ H)/\∀ i m σ H,W i m σ H->
   ((AJ lo n).stop i H/\D.nx σ H)\/((AJ lo n).go i H/\∃ N:St->Hp->Prop,(∀ Z H',N Z H'->∃ m',m' < m/\W (i+1) m' Z H')/\∀ x H',(AJ lo n).yld i H x H'->g x σ H' λ ak H2=>tb { D with nx:=N,ct:=N,bk:=D.nx } ak H2):=by
 refine⟨λ i m σ H=>m=n - i/\i<=n/\Pv i σ H,⟨n,by simp,abi _,h0⟩,?_⟩;rintro i m σ H ⟨rfl,hi,p⟩
 by_cases hlt:i < n
 ·refine .inr ⟨hlt,Pv (i+1),λ Z H' p'=>⟨n - (i+1),by omega,rfl,hlt,p'⟩,λ x H' y=>?_⟩;obtain⟨e,y⟩:=y;subst e y;exact hs i σ _ hlt p
 ·have e:i=n:=by omega
  subst e;exact .inl ⟨aae _,hd σ H p⟩
abbrev R2:=V->V->Hp->VK->Prop
def fM (X:Cx) (f:Value->Value->Sem Value) (r:R2):Prop:=
 ∀ (pins:List (Addr×Obj)) (s:Shared) (σ:St) (H:Hp) (x y:V) (v u:Value) (Q:VK),Inv X pins σ H s->aX x v->aX y u->r x y H Q->
  wpAny (model X.prog X.w) X.A (f v u) (EP X pins σ Q) X.xe s
def UnR (X:Cx) (f:Value->Sem Value) (r:V->Hp->VK->Prop):Prop:=
 ∀ (pins:List (Addr×Obj)) (s:Shared) (σ:St) (H:Hp) (x:V) (v:Value) (Q:VK),Inv X pins σ H s->aX x v->r x H Q->
  wpAny (model X.prog X.w) X.A (f v) (EP X pins σ Q) X.xe s
def dC (X:Cx) (f:Value) (r:List V->Hp->VK->Prop):Prop:=
 ∀ (pins:List (Addr×Obj)) (s:Shared) (σ:St) (H:Hp) (xs:List V) (us:List Value) (Q:VK),Inv X pins σ H s->aZ xs us->r xs H Q->
  wpAny (model X.prog X.w) X.A (call f us) (EP X pins σ Q) X.xe s
def TruR (X:Cx) (r:V->Hp->(Bool->Hp->Prop)->Prop):Prop:=
 ∀ (pins:List (Addr×Obj)) (s:Shared) (σ:St) (H:Hp) (x:V) (v:Value) (Q:Bool->Hp->Prop),Inv X pins σ H s->aX x v->r x H Q->
  wpAny (model X.prog X.w) X.A (truthy v) (TP X pins σ Q) X.xe s
def eQ (r:R2) (ta tb:TE):TE:=λ σ H Q=>ta σ H λ x H1=>tb σ H1 λ y H2=>r x y H2 Q
def tUn (r:V->Hp->VK->Prop) (ta:TE):TE:=λ σ H Q=>ta σ H λ x H1=>r x H1 Q
def rI (C:Int->Int->Prop) (g:Int->Int->V):R2:=λ x y H Q=>∃ i j,x=.int i/\y=.int j/\C i j/\Q (g i j) H
def nF (g:Int->Int->V):R2:=λ x y H Q=>∃ i j,x=.int i/\y=.int j/\Q (g i j) H
def rU (g:Int->V):V->Hp->VK->Prop:=λ x H Q=>∃ i,x=.int i/\Q (g i) H
section
variable {X:Cx}{a b c:Expr}{ta tb tc:TE}{pos:Pos}
theorem A9 (ha:PE X a ta) (hb:PE X b tb) {pins:List (Addr×Obj)}{s:Shared}{σ:St}{H:Hp}{R:V->V->Hp->Prop} (I:Inv X pins σ H s)
  (h:ta σ H λ x H1=>tb σ H1 λ y H2=>R x y H2) {Q:Value->Shared->Prop}{f:Value->Value->Sem Value}
  (hf:∀ v u s2 x y H2,Inv X pins σ H2 s2->aX x v->aX y u->R x y H2->wpAny (model X.prog X.w) X.A (f v u) Q X.xe s2) :
  wpAny (model X.prog X.w) X.A (eval a X.env) (λ v ad=>wpAny (model X.prog X.w) X.A (eval b X.env) (λ u be=>wpAny (model X.prog X.w) X.A (f v u) Q X.xe be) X.xe ad) X.xe s:=by
 refine cR (ha pins s σ H _ I h) λ v s1 ⟨x,H1,I1,r1,q1⟩=>?_;refine cR (hb pins s1 σ H1 _ I1 q1) λ u s2 ⟨y,H2,I2,r2,q2⟩=>?_;exact hf v u s2 x y H2 I2 r1 r2 q2
theorem aT {op:Operator}{r:R2} (ho:fM X (binaryOp op) r) (ha:PE X a ta) (hb:PE X b tb):PE X (.BinOp a op b pos) (eQ r ta tb):=by
 intro pins s σ H Q I h;exact wpAny_BinOp (A9 ha hb I h λ v u s2 x y H2 I2 rx ry q=>ho pins s2 σ H2 x y v u Q I2 rx ry q)
theorem BC {op:UnaryOp}{r:V->Hp->VK->Prop} (ho:UnR X (unaryOp op) r) (ha:PE X a ta):PE X (.UnaryOp op a pos) (tUn r ta):=by
 intro pins s σ H Q I h;exact UnaryOp_ (cR (ha pins s σ H _ I h) λ v s1 ⟨x,H1,I1,r1,q1⟩=>ho pins s1 σ H1 x v Q I1 r1 q1)
theorem BH {f:Value->Value->Sem Value}{C:Int->Int->Prop}{g:Int->Int->Int}
  (rule:∀ (i j:Int) (t u:Tok) (s:Shared) (Q:Value->Shared->Prop) (E:Value->Shared->Prop),C i j->Q (.int (g i j) s.toks) { s with toks:=s.toks+1 }->wpAny (model X.prog X.w) X.A (f (.int i t) (.int j u)) Q E s) :
  fM X f (rI C λ i j=>.int (g i j)):=by
 intro pins s σ H x y v u Q I rx ry h;obtain⟨i,j,rfl,rfl,hc,q⟩:=h;obtain⟨t,rfl⟩:=rx;obtain⟨t',rfl⟩:=ry;exact rule i j t t' s _ _ hc ⟨.int (g i j),H,I.tok _,⟨_,rfl⟩,q⟩
theorem BG {f:Value->Value->Sem Value}{g:Int->Int->Int}
  (rule:∀ (i j:Int) (t u:Tok) (s:Shared) (Q:Value->Shared->Prop) (E:Value->Shared->Prop),Q (.int (g i j) s.toks) { s with toks:=s.toks+1 }->wpAny (model X.prog X.w) X.A (f (.int i t) (.int j u)) Q E s) :
  fM X f (nF λ i j=>.int (g i j)):=by
 intro pins s σ H x y v u Q I rx ry h;obtain⟨i,j,rfl,rfl,q⟩:=h;obtain⟨t,rfl⟩:=rx;obtain⟨t',rfl⟩:=ry;exact rule i j t t' s _ _ ⟨.int (g i j),H,I.tok _,⟨_,rfl⟩,q⟩
theorem wZ {f:Value->Value->Sem Value}{g:Int->Int->Bool}
  (rule:∀ (i j:Int) (t u:Tok) (s:Shared) (Q:Value->Shared->Prop) (E:Value->Shared->Prop),Q (.bool (g i j)) s->wpAny (model X.prog X.w) X.A (f (.int i t) (.int j u)) Q E s) :
  fM X f (nF λ i j=>.bl (g i j)):=by
 intro pins s σ H x y v u Q I rx ry h;obtain⟨i,j,rfl,rfl,q⟩:=h;obtain⟨t,rfl⟩:=rx;obtain⟨t',rfl⟩:=ry;exact rule i j t t' s _ _ ⟨.bl (g i j),H,I,rfl,q⟩
def AL (i j:Int):Prop:=0 < j/\j < 1073741824
def BU (i j:Int):Prop:=0<=j/\j<=1000000/\i.natAbs < 2 ^ 64
def pU (i j:Int):Prop:=(-(2 ^ 64) < i/\i < 2 ^ 64)\/(-(2 ^ 64) < j/\j < 2 ^ 64)
theorem pU.ok {i j:Int} (h:pU i j):IntMulOk i j:=by
 rcases h with ⟨h1,h2⟩ | ⟨h1,h2⟩
 ·exact .of_left (intBits_le_64 h1 h2)
 ·exact .of_right (intBits_le_64 h1 h2)
theorem cW:fM X (binaryOp .Add) (nF λ i j=>.int (i+j)):=BG λ _ _ _ _ _ _ _ q=>add_int q
theorem eG:fM X (binaryOp .Sub) (nF λ i j=>.int (i - j)):=BG λ _ _ _ _ _ _ _ q=>sub_int q
theorem kU:fM X (binaryOp .Mult) (rI pU λ i j=>.int (i * j)):=BH λ _ _ _ _ _ _ _ hc q=>mul_int q hc.ok
theorem iZ:fM X (binaryOp .FloorDiv) (rI AL λ i j=>.int (i / j)):=BH λ i j _ _ _ _ _ hc q=>by
 have h1:(0:Int) < j:=hc.1;have h2:j < 1073741824:=hc.2;exact floordiv_int (by omega) (by rw[Int.fdiv_eq_ediv_of_nonneg i (by omega)];exact q) (.inl (PyProof.noPylong_small (by omega)))
theorem kW:fM X (binaryOp .Mod) (rI (λ _ j=>0 < j) λ i j=>.int (i % j)):=BH λ i j _ _ _ _ _ hc q=>by
 have h1:(0:Int) < j:=hc;exact mod_int' (by omega) (by rw[Int.fmod_eq_emod_of_nonneg i (by omega)];exact q)
theorem zO:fM X (binaryOp .Pow) (rI BU λ i j=>.int (i ^ j.toNat)):=BH λ _ _ _ _ _ _ _ hc q=>pow_int_small hc.1 hc.2.1 hc.2.2 q
theorem unI {f:Value->Sem Value}{g:Int->Int}
  (rule:∀ (i:Int) (t:Tok) (s:Shared) (Q:Value->Shared->Prop) (E:Value->Shared->Prop),Q (.int (g i) s.toks) { s with toks:=s.toks+1 }->wpAny (model X.prog X.w) X.A (f (.int i t)) Q E s) :
  UnR X f (rU λ i=>.int (g i)):=by
 intro pins s σ H x v Q I rx h;obtain⟨i,rfl,q⟩:=h;obtain⟨t,rfl⟩:=rx;exact rule i t s _ _ ⟨.int (g i),H,I.tok _,⟨_,rfl⟩,q⟩
theorem yN:UnR X (unaryOp .USub) (rU λ i=>.int (-i)):=unI λ _ _ _ _ _ q=>neg_int q
end
def AZ:V->V->Bool
 | .non,.non=>true | .non,.int _=>true | .int _,.non=>true | .non,.bl _=>true | .bl _,.non=>true | .non,.str _=>true | .str _,.non=>true
 | .int _,.int _=>true | .bl _,.bl _=>true | .str _,.str _=>true | .byt _,.byt _=>true
 | .int _,.str _=>true | .str _,.int _=>true | .bl _,.str _=>true | .str _,.bl _=>true
 | _,_=>false
def B9:R2:=λ x y H Q=>AZ x y=true/\Q (.bl (decide (x=y))) H
def rNe:R2:=λ x y H Q=>AZ x y=true/\Q (.bl (!decide (x=y))) H
theorem rY {i j:Int}:decide (V.int i=V.int j)=(i == j):=by
 rw[Bool.eq_iff_iff];simp
theorem vX {i j:Bool}:decide (V.bl i=V.bl j)=(i == j):=by
 rw[Bool.eq_iff_iff];simp
theorem rX {i j:Str}:decide (V.str i=V.str j)=(i == j):=by
 rw[Bool.eq_iff_iff];simp
theorem rZ {i j:Array UInt8}:decide (V.byt i=V.byt j)=(i.toList == j.toList):=by
 rw[Bool.eq_iff_iff];cases i;cases j;simp
section
variable {X:Cx}{a b c:Expr}{ta tb tc:TE}{pos:Pos}
theorem b9 {pins:List (Addr×Obj)}{σ:St}{H:Hp}{s:Shared}{Q:VK}{k k':Bool} (I:Inv X pins σ H s) (q:Q (.bl k) H) (e:k=k'):EP X pins σ Q (.bool k') s:=by
 subst e;exact⟨.bl k,H,I,rfl,q⟩
theorem eV:fM X (compareOp .Eq) B9:=by
 intro pins s σ H x y v u Q I rx ry h;obtain⟨hs,q⟩:=h;cases x with
 | non=>
  cases rx;cases y with
  | non=>cases ry;exact PySem.EqNone.eq_none_none (b9 I q (by simp))
  | bl j=>cases ry;exact PySem.EqNone.eq_none_bool (b9 I q (by simp))
  | int j=>obtain⟨t',rfl⟩:=ry;exact PySem.EqNone.eq_none_int (b9 I q (by simp))
  | str j=>obtain⟨t',rfl⟩:=ry;exact PySem.EqNone.eq_none_str (b9 I q (by simp))
  | _=>exact absurd (show false=true from hs) aaj
 | bl i=>
  cases rx;cases y with
  | non=>cases ry;exact PySem.EqNone.eq_bool_none (b9 I q (by simp))
  | bl j=>cases ry;exact eq_bool (b9 I q vX)
  | str j=>obtain⟨t',rfl⟩:=ry;exact PySem.EqMixed.eq_bool_str (b9 I q (by simp))
  | _=>exact absurd (show false=true from hs) aaj
 | int i=>
  obtain⟨t,rfl⟩:=rx;cases y with
  | non=>cases ry;exact PySem.EqNone.eq_int_none (b9 I q (by simp))
  | int j=>obtain⟨t',rfl⟩:=ry;exact eq_int (b9 I q rY)
  | str j=>obtain⟨t',rfl⟩:=ry;exact PySem.EqMixed.eq_int_str (b9 I q (by simp))
  | _=>exact absurd (show false=true from hs) aaj
 | str i=>
  obtain⟨t,rfl⟩:=rx;cases y with
  | non=>cases ry;exact PySem.EqNone.eq_str_none (b9 I q (by simp))
  | bl j=>cases ry;exact PySem.EqMixed.eq_str_bool (b9 I q (by simp))
  | int j=>obtain⟨t',rfl⟩:=ry;exact PySem.EqMixed.eq_str_int (b9 I q (by simp))
  | str j=>obtain⟨t',rfl⟩:=ry;exact eq_str (b9 I q rX)
  | _=>exact absurd (show false=true from hs) aaj
 | byt i=>
  obtain⟨t,rfl⟩:=rx;cases y with
  | byt j=>obtain⟨t',rfl⟩:=ry;exact PySem.W.eq_bytes (b9 I q rZ)
  | _=>exact absurd (show false=true from hs) aaj
 | _=>cases y <;> exact absurd (show false=true from hs) aaj
theorem mI:fM X (compareOp .NotEq) rNe:=by
 intro pins s σ H x y v u Q I rx ry h;obtain⟨hs,q⟩:=h;cases x with
 | non=>
  cases rx;cases y with
  | non=>cases ry;exact PySem.EqNone.ne_none_none (b9 I q (by simp))
  | bl j=>cases ry;exact PySem.EqNone.ne_none_bool (b9 I q (by simp))
  | int j=>obtain⟨t',rfl⟩:=ry;exact PySem.EqNone.ne_none_int (b9 I q (by simp))
  | str j=>obtain⟨t',rfl⟩:=ry;exact PySem.EqNone.ne_none_str (b9 I q (by simp))
  | _=>exact absurd (show false=true from hs) aaj
 | bl i=>
  cases rx;cases y with
  | non=>cases ry;exact PySem.EqNone.ne_bool_none (b9 I q (by simp))
  | bl j=>cases ry;exact ne_bool (b9 I q (congrArg not vX))
  | str j=>obtain⟨t',rfl⟩:=ry;exact PySem.EqMixed.ne_bool_str (b9 I q (by simp))
  | _=>exact absurd (show false=true from hs) aaj
 | int i=>
  obtain⟨t,rfl⟩:=rx;cases y with
  | non=>cases ry;exact PySem.EqNone.ne_int_none (b9 I q (by simp))
  | int j=>obtain⟨t',rfl⟩:=ry;exact ne_int (b9 I q (congrArg not rY))
  | str j=>obtain⟨t',rfl⟩:=ry;exact PySem.EqMixed.ne_int_str (b9 I q (by simp))
  | _=>exact absurd (show false=true from hs) aaj
 | str i=>
  obtain⟨t,rfl⟩:=rx;cases y with
  | non=>cases ry;exact PySem.EqNone.ne_str_none (b9 I q (by simp))
  | bl j=>cases ry;exact PySem.EqMixed.ne_str_bool (b9 I q (by simp))
  | int j=>obtain⟨t',rfl⟩:=ry;exact PySem.EqMixed.ne_str_int (b9 I q (by simp))
  | str j=>obtain⟨t',rfl⟩:=ry;exact ne_str (b9 I q (congrArg not rX))
  | _=>exact absurd (show false=true from hs) aaj
 | byt i=>
  obtain⟨t,rfl⟩:=rx;cases y with
  | byt j=>obtain⟨t',rfl⟩:=ry;exact PySem.W.ne_bytes (b9 I q (congrArg not rZ))
  | _=>exact absurd (show false=true from hs) aaj
 | _=>cases y <;> exact absurd (show false=true from hs) aaj
theorem uF:fM X (compareOp .Lt) (nF λ i j=>.bl (decide (i < j))):=wZ λ _ _ _ _ _ _ _ q=>lt_int q
theorem gH:fM X (compareOp .LtE) (nF λ i j=>.bl (decide (i<=j))):=wZ λ _ _ _ _ _ _ _ q=>le_int q
theorem oX:fM X (compareOp .Gt) (nF λ i j=>.bl (decide (j < i))):=wZ λ _ _ _ _ _ _ _ q=>gt_int q
theorem BF:fM X (compareOp .GtE) (nF λ i j=>.bl (decide (j<=i))):=wZ λ _ _ _ _ _ _ _ q=>ge_int q
theorem kX:fM X (compareOp .Is) (λ x y H Q=>y=.non/\Q (.bl (decide (x=.non))) H):=by
 intro pins s σ H x y v u Q I rx ry h;obtain⟨rfl,q⟩:=h;cases ry;refine is_none_gen (b9 I q ?_);cases x <;> first
  | (cases rx;rfl)
  | (obtain⟨t,rfl⟩:=rx;rfl)
theorem wU:fM X (compareOp .IsNot) (λ x y H Q=>y=.non/\Q (.bl (!decide (x=.non))) H):=by
 intro pins s σ H x y v u Q I rx ry h;obtain⟨rfl,q⟩:=h;cases ry;refine isnot_none_gen (b9 I q ?_);cases x <;> first
  | (cases rx;rfl)
  | (obtain⟨t,rfl⟩:=rx;rfl)
theorem aR (b:Expr) {op:CmpOp} (h:op≠.In:=by decide) (h2:op≠.NotIn:=by decide):behindInMarks op b=false:=by
 have e1:(op == CmpOp.In)=false:=by cases op <;> first | rfl | exact absurd rfl h
 have e2:(op == CmpOp.NotIn)=false:=by cases op <;> first | rfl | exact absurd rfl h2
 cases b <;> simp [behindInMarks,e1,e2]
theorem cK {op:CmpOp}{r:R2} (ho:fM X (compareOp op) r) (ha:PE X a ta) (hb:PE X b tb) (hm:behindInMarks op b=false):PE X (.Compare a [op] [b] pos) (eQ r ta tb):=by
 intro pins s σ H Q I h;exact wpAny_Compare1 (A9 ha hb I h λ v u s2 x y H2 I2 rx ry q=>ho pins s2 σ H2 x y v u Q I2 rx ry q) hm
def kN (t:TE):TT:=λ σ H Q=>t σ H λ x H'=>∃ k,x=.bl k/\Q k H'
theorem aY {op:CmpOp}{r:R2} (ho:fM X (compareOp op) r) (ha:PE X a ta) (hb:PE X b tb) (hm:behindInMarks op b=false):PT X (.Compare a [op] [b] pos) (kN (eQ r ta tb)):=by
 intro pins s σ H Q I h;refine wpAny_isTrue_Compare1 (cR (ha pins s σ H _ I h) λ v s1 ⟨x,H1,I1,r1,q1⟩=>cR (hb pins s1 σ H1 _ I1 q1) λ u s2 ⟨y,H2,I2,r2,q2⟩=>
  cR (ho pins s2 σ H2 x y v u _ I2 r1 r2 q2) λ c s3 ⟨z,H3,I3,r3,k,e,q3⟩=>?_) hm
 subst e;cases r3;exact wpAny_truthy_bool ⟨H3,I3,q3⟩
def tT (r r':R2) (ta tb tc:TE):TE:=λ σ H Q=>ta σ H λ x H1=>tb σ H1 λ y H2=>r x y H2 λ z H3=>∃ k,z=.bl k/\
 (if k=true then tc σ H3 λ w' H4=>r' y w' H4 Q else Q (.bl false) H3)
theorem oV {op op':CmpOp}{r r':R2} (ho:fM X (compareOp op) r) (ho':fM X (compareOp op') r') (ha:PE X a ta) (hb:PE X b tb) (hc:PE X c tc)
  (hm:lastMarks [op,op'] [b,c]=false:=by with_unfolding_all rfl):PE X (.Compare a [op,op'] [b,c] pos) (tT r r' ta tb tc):=by
 intro pins s σ H Q I h;refine Compare_chain (cR (ha pins s σ H _ I h) λ v s1 ⟨x,H1,I1,r1,q1⟩=>chain_link (cR (hb pins s1 σ H1 _ I1 q1) λ u s2 ⟨y,H2,I2,r2,q2⟩=>
  cR (ho pins s2 σ H2 x y v u _ I2 r1 r2 q2) λ d s3 ⟨z,H3,I3,r3,k,e,q3⟩=>?_)) hm
 subst e;cases r3;refine wpAny_truthy_bool ?_;cases k with
 | false=>exact ite_ff ⟨.bl false,H3,I3,rfl,q3⟩
 | true=>exact ite_tt (chain_last (cR (hc pins s3 σ H3 _ I3 q3) λ w' s4 ⟨z',H4,I4,r4,q4⟩=>ho' pins s4 σ H4 y z' u w' Q I4 r2 r4 q4))
theorem oU {op op':CmpOp}{r r':R2} (ho:fM X (compareOp op) r) (ho':fM X (compareOp op') r') (ha:PE X a ta) (hb:PE X b tb) (hc:PE X c tc)
  (hm:lastMarks [op,op'] [b,c]=false:=by with_unfolding_all rfl):PT X (.Compare a [op,op'] [b,c] pos) (kN (tT r r' ta tb tc)):=by
 intro pins s σ H Q I h;refine isTrue_chain (cR (ha pins s σ H _ I h) λ v s1 ⟨x,H1,I1,r1,q1⟩=>test_link (cR (hb pins s1 σ H1 _ I1 q1) λ u s2 ⟨y,H2,I2,r2,q2⟩=>
  cR (ho pins s2 σ H2 x y v u _ I2 r1 r2 q2) λ d s3 ⟨z,H3,I3,r3,k,e,q3⟩=>?_)) hm
 subst e;cases r3;refine wpAny_truthy_bool ?_;cases k with
 | false=>
  obtain⟨k',e',q'⟩:=q3;cases e';exact ite_ff ⟨H3,I3,q'⟩
 | true=>
  refine ite_tt (test_last (cR (hc pins s3 σ H3 _ I3 q3) λ w' s4 ⟨z',H4,I4,r4,q4⟩=>cR (ho' pins s4 σ H4 y z' u w' _ I4 r2 r4 q4) λ d' s5 ⟨z2,H5,I5,r5,k2,e2,q5⟩=>?_));subst e2;cases r5;exact wpAny_truthy_bool ⟨H5,I5,q5⟩
def AD (K:aaa) (x:V) (H:Hp) (k:Bool):Prop:=
 match x with
 | .non=>k=false
 | .bl b=>k=b
 | .int i=>k=(i != 0)
 | .str y=>y.length<=sizeLine/\k=((y.length:Int) != 0)
 | .byt y=>y.size<=sizeLine/\k=((y.size:Int) != 0)
 | .ref p=>(∃ xs,bV K H p xs/\k = !xs.isEmpty)\/(∃ xs,cG K H p xs/\k = !xs.isEmpty)\/∃ kvs,H p=some (.dK kvs)/\k = !kvs.isEmpty
 | _=>False
theorem qY {bo:Type}{kvs:List (bo×V)}{vs:List (bo×Value)} (r:KV kvs vs):(!vs.isEmpty) = !kvs.isEmpty:=by
 cases r <;> rfl
theorem lK {xs:List V}{its:List Value} (r:aZ xs its):(!its.toArray.isEmpty) = !xs.isEmpty:=by
 cases r <;> simp
theorem iA:(sizeLine:Nat) < 2 ^ 63:=by rw[sizeLine_eq];decide
theorem yO:TruR X (λ x H Q=>∃ k,AD X.K x H k/\Q k H):=by
 intro pins s σ H x v Q I rx h;obtain⟨k,e,q⟩:=h;have hl:=iA;have hs:sizeLine=16777216:=sizeLine_eq;cases x with
 | non=>
  cases rx;have e':k=false:=e;subst e';exact truthy_none ⟨H,I,q⟩
 | bl b=>
  cases rx;have e':k=b:=e;subst e';exact wpAny_truthy_bool ⟨H,I,q⟩
 | int i=>
  obtain⟨t,rfl⟩:=rx;have e':k=(i != 0):=e;subst e';exact PySem.P.truthy_int ⟨H,I,q⟩
 | str y=>
  obtain⟨t,rfl⟩:=rx;obtain⟨hy,e'⟩:y.length<=sizeLine/\k=((y.length:Int) != 0):=e;subst e';exact PySem.P.truthy_str (by omega) ⟨H,I.tok _,q⟩
 | byt y=>
  obtain⟨t,rfl⟩:=rx;obtain⟨hy,e'⟩:y.size<=sizeLine/\k=((y.size:Int) != 0):=e;subst e';exact PySem.W.truthy_bytes (by omega) ⟨H,I.tok _,q⟩
 | ref p=>
  cases rx;have e':(∃ xs,bV X.K H p xs/\k = !xs.isEmpty)\/(∃ xs,cG X.K H p xs/\k = !xs.isEmpty)\/∃ kvs,H p=some (.dK kvs)/\k = !kvs.isEmpty:=e;rcases e' with ⟨xs,hx,e'⟩ | ⟨xs,hx,e'⟩ | ⟨kvs,hx,e'⟩
  ·subst e';obtain⟨its,r,pl,hz⟩:=I.list hx;have hlen:=r.length;exact wpAny_truthy_list pl.isList (by simp only [aad];omega) ⟨H,I.tok _,by rw[lK r];exact q⟩
  ·subst e';obtain⟨its,r,pl,hz⟩:=I.tuple hx;have hlen:=r.length;exact truthy_tuple pl (by simp only [aad];omega) ⟨H,I.tok _,by rw[lK r];exact q⟩
  ·subst e';obtain⟨hz,hS,vs,r,m⟩:kvs.length<=sizeLine/\(p == sysModules)=false/\∃ vs,KV kvs vs/\s.heap.DictOf (o4 X.prog X.w) p vs:=I.hok p _ hx;have hlen:kvs.length=vs.length:=Paired.length r;exact wpAny_truthy_dict hS m (by omega) ⟨H,I.tok _,by rw[qY r];exact q⟩
 | _=>exact (show False from e).elim
theorem uA (ha:PE X a ta) (he:∀ whole,isTrue a X.env whole=(do let v <- whole;standAt a.pos;holding [v] (truthy v))) :
  PT X a (λ σ H Q=>ta σ H λ x H'=>∃ k,AD X.K x H' k/\Q k H'):=by
 intro pins s σ H Q I h;exact isTrue_plain (cR (ha pins s σ H _ I h) λ v s1 ⟨x,H1,I1,r1,q1⟩=>yO pins s1 σ H1 x v Q I1 r1 q1) (he _)
theorem qP:fM X (binaryOp .Add) (λ x y H Q=>∃ i j,x=.str i/\y=.str j/\i.length+j.length<=sizeLine/\Q (.str (i++j)) H):=by
 intro pins s σ H x y v u Q I rx ry h;obtain⟨i,j,rfl,rfl,hz,q⟩:=h;obtain⟨t,rfl⟩:=rx;obtain⟨t',rfl⟩:=ry;exact add_str (λ t' tk=>⟨.str (i++j),H,I.tok _,⟨_,rfl⟩,q⟩) hz
theorem iH {x:V}{us:List Value} (r:aZ [x] us):∃ u,us=[u]/\aX x u:=by
 cases r with
 | cons r1 r2=>cases r2;exact⟨_,rfl,r1⟩
theorem d4:dC X (.type "int") (λ xs H Q=>(∃ i,xs=[.int i]/\Q (.int i) H)\/∃ k,xs=[.bl k]/\Q (.int (if k then 1 else 0)) H):=by
 intro pins s σ H xs us Q I r h;rcases h with ⟨i,rfl,q⟩ | ⟨k,rfl,q⟩
 ·obtain⟨u,rfl,t,rfl⟩:=iH r;exact call_int_int ⟨.int i,H,I,⟨_,rfl⟩,q⟩
 ·obtain⟨u,rfl,r1⟩:=iH r;cases r1;exact call_int_bool ⟨.int (if k then 1 else 0),H,I.tok _,⟨_,rfl⟩,q⟩
def LenV (K:aaa) (x:V) (H:Hp) (n:Nat):Prop:=
 match x with
 | .str y=>y.length<=sizeLine/\n=y.length
 | .byt y=>y.size<=sizeLine/\n=y.size
 | .ref p=>(∃ xs,bV K H p xs/\n=xs.length)\/∃ xs,cG K H p xs/\n=xs.length
 | _=>False
theorem vY:dC X (.builtin "len") (λ xs H Q=>∃ x n,xs=[x]/\LenV X.K x H n/\Q (.int n) H):=by
 intro pins s σ H xs us Q I r h;obtain⟨x,n,rfl,e,q⟩:=h;obtain⟨u,rfl,rx⟩:=iH r;have hl:=iA;have hs:sizeLine=16777216:=sizeLine_eq;cases x with
 | str y=>
  obtain⟨t,rfl⟩:=rx;obtain⟨hy,e'⟩:y.length<=sizeLine/\n=y.length:=e;subst e';exact len_str (by omega) ⟨.int _,H,I.tok _,⟨_,rfl⟩,q⟩
 | byt y=>
  obtain⟨t,rfl⟩:=rx;obtain⟨hy,e'⟩:y.size<=sizeLine/\n=y.size:=e;subst e';exact PySem.W.len_bytes (by omega) ⟨.int _,H,I.tok _,⟨_,rfl⟩,q⟩
 | ref p=>
  cases rx;have e':(∃ xs,bV X.K H p xs/\n=xs.length)\/∃ xs,cG X.K H p xs/\n=xs.length:=e;rcases e' with ⟨xs,hx,e'⟩ | ⟨xs,hx,e'⟩
  ·subst e';obtain⟨its,r',pl,hz⟩:=I.list hx;have hlen:=r'.length;exact Calls.call_len_list pl.isList (by simp only [aad];omega) ⟨.int xs.length,H,I.tok _,⟨_,by simp only [aad];rw[hlen]⟩,q⟩
  ·subst e';obtain⟨its,r',pl,hz⟩:=I.tuple hx;have hlen:=r'.length;exact len_tuple pl (by simp only [aad];omega) ⟨.int xs.length,H,I.tok _,⟨_,by simp only [aad];rw[hlen]⟩,q⟩
 | _=>exact (show False from e).elim
end
structure ObjM (h:Heap) (x dx C:Addr) (mA:Str->Option Value):Prop where
 obj:h.get? x=some (PySem.W.instObj C dx)
 ns:h.Ns1 dx mA
 ne:dx≠x
theorem sW {h:Heap}{dx:Addr}{mA:Str->Option Value} (n:h.Ns1 dx mA):∃ od,h.get? dx=some od/\∀ name,PySem.W.lookIn name od=some (mA name):=by
 obtain⟨o,es,ep,ho,hd,hk,_,hm⟩:=n;refine⟨o,ho,λ name=>?_⟩;have e:=hm name;unfold nsFind findBy at e;rw[<- Array.find?_toList] at e;unfold PySem.W.lookIn;rw[hd];dsimp only
 split
 ·rename_i y q
  rw[q] at e;exact congrArg some e
 ·rename_i q
  rw[q] at e;have a:es.toList.any (·.refKey)=false:=by
   rw[List.any_eq_false];intro y hy;obtain⟨z,t,hkey⟩:=hk y (Array.mem_toList_iff.mp hy);simp [DictEntry.refKey,hkey]
  have a':¬ es.toList.any (·.refKey)=true:=by rw[a];exact aaj
  rw[if_neg a'];exact congrArg some e
theorem ObjM.look {h:Heap}{x dx C:Addr}{mA:Str->Option Value} (I:ObjM h x dx C mA):∃ od,PySem.W.InstAt h x (PySem.W.instObj C dx) C (some od)/\∀ name,PySem.W.lookIn name od=some (mA name):=
 let ⟨od,ho,hl⟩:=sW I.ns
 ⟨od,⟨I.obj,rfl,rfl,ho⟩,hl⟩
section
variable {prog:Program}{A:Around}{E:Value->Shared->Prop}{s:Shared}{x dx f:Addr}{mA:Str->Option Value}{name:Str}{v:Value}
end
section
variable {H H':Hp}{h h':Heap}{a dx:Addr}{fs fs':List (Str×V)}
theorem xP (hok:jY P w H h) (e:H a=some (.ins C dx fs)):∃ mA,ObjM h a dx C mA/\(∀ f,AF (fs.lookup f) (mA f))/\PySem.Within mA (fs.map (·.1))/\fs.length<=1000/\H dx=some (.own a):=by
 obtain⟨d,z,ne,ob,mA,n,r,q⟩:=(show d5 P w H h a (.ins C dx fs) from hok a _ e);exact⟨mA,⟨ob,n,ne⟩,r,q,z,d⟩
end
structure Cls (K:aaa) (C:Addr):Prop where
 pg:PySem.W.plainGet K C Str.empty=true
 hd:PySem.W.hasDictIn K C=true
 po:PySem.W.plainOver K C=true
 sa:PySem.W.findIn K (.ref C) "__setattr__" = some (some (.builtin "object.__setattr__"))
theorem Cls.get {K:aaa}{C:Addr} (c:Cls K C) (f:Str):PySem.W.plainGet K C f=true:=c.pg
section
variable {X:Cx}{pins:List (Addr×Obj)}{σ:St}{H:Hp}{s:Shared}{a dx:Addr}{fs:List (Str×V)}{f:Str}{v:V}{A:Around}{E:Value->Shared->Prop}
end
section
variable {X:Cx}{o e value:Expr}{f:Str}{pos pos' tpos:Pos}{ta tv:TE}
end
section
variable {X:Cx}{pins:List (Addr×Obj)}{σ:St}{H:Hp}{s:Shared}{A:Around}{E:Value->Shared->Prop}{Q:Value->Shared->Prop}{c:Value}{b:Bool}
inductive TyOf (K:aaa) (H:Hp):V->Value->Prop where
 | non:TyOf K H .non (.type "NoneType")
 | bl (x:Bool):TyOf K H (.bl x) (.type "bool")
 | int (i:Int):TyOf K H (.int i) (.type "int")
 | str (x:Str):TyOf K H (.str x) (.type "str")
 | flt (x:UInt64):TyOf K H (.flt x) (.type "float")
 | lst {a:Addr}{xs:List V} (e:H a=some (.lst xs)):TyOf K H (.ref a) (.type "list")
 | frz {a:Addr}{o:Obj}{xs:List V} (e:H a=some (.frz o (.lst xs))):TyOf K H (.ref a) (.type "list")
 | tup {a:Addr}{xs:List V} (e:H a=some (.tup xs)):TyOf K H (.ref a) (.type "tuple")
 | dK {a:Addr}{kvs:List (lR×V)} (e:H a=some (.dK kvs)):TyOf K H (.ref a) (.type "dict")
 | dT {a:Addr}{kvs:List (List lR×V)} (e:H a=some (.dT kvs)):TyOf K H (.ref a) (.type "dict")
 | ins {a C dx:Addr}{fs:List (Str×V)} (e:H a=some (.ins C dx fs)) (cl:Cls K C) (ha:PySem.W.findIn K (.ref C) "__class__" = some (some (.builtin "object.__class__")))
   (hn:PySem.W.specialIn K (.builtin "object.__class__") "__get__" = some (some (.builtin "getset_descriptor.__get__"))) (htk:PySem.W.takesIn K (.builtin "object.__class__")=some true)
   (hm:PySem.W.mroIn K C (.type "object")=some true):TyOf K H (.ref a) (.ref C)
theorem eZ {x:V}{u t:Value} (I:Inv X pins σ H s) (rx:aX x u) (ty:TyOf X.K H x t) (e:PySem.W.kitOne X.K t c=some b) (h:∀ tk,Q (.bool b) { s with toks:=tk }) :
  wpAny (model X.prog X.w) A (call (.builtin "isinstance") [u,c]) Q E s:=by
 cases ty with
 | non=>cases (show u=Value.none from rx);exact PySem.W.kia_one PySem.W.kitx_none I.kIn True.intro e (λ z=>nomatch z) h
 | bl y=>cases (show u=Value.bool y from rx);exact PySem.W.kia_one PySem.W.kitx_bool I.kIn True.intro e (λ z=>nomatch z) h
 | int i=>obtain⟨t,q⟩:=(show ∃ t,u=Value.int i t from rx);cases q;exact PySem.W.kia_one PySem.W.kitx_int I.kIn True.intro e (λ z=>nomatch z) h
 | str y=>obtain⟨t,q⟩:=(show ∃ t,u=Value.str y t from rx);cases q;exact PySem.W.kia_one PySem.W.kitx_str I.kIn True.intro e (λ z=>nomatch z) h
 | flt y=>obtain⟨t,q⟩:=(show ∃ t,u=Value.float y t from rx);cases q;exact PySem.W.kia_one PySem.W.kitx_float I.kIn True.intro e (λ z=>nomatch z) h
 | @lst a xs ea=>
  cases (show u=Value.ref a from rx);obtain⟨_,_,n,_,h1⟩:=(show d5 X.prog X.w H s.heap a (.lst xs) from I.hok a _ ea);exact PySem.W.kia_one PySem.W.kitx_list I.kIn ⟨_,h1,rfl⟩ e (λ z=>nomatch z) h
 | @frz a ob xs ea=>
  cases (show u=Value.ref a from rx);obtain⟨_,_,_,n,_,h1⟩:=(show d5 X.prog X.w H s.heap a (.frz ob (.lst xs)) from I.hok a _ ea);exact PySem.W.kia_one PySem.W.kitx_list I.kIn ⟨_,h1,rfl⟩ e (λ z=>nomatch z) h
 | @tup a xs ea=>
  cases (show u=Value.ref a from rx);obtain⟨_,_,_,p⟩:=(show d5 X.prog X.w H s.heap a (.tup xs) from I.hok a _ ea);obtain⟨o,h1,h2,_⟩:=p;exact PySem.W.kia_one PySem.W.kitx_tuple I.kIn ⟨o,h1,h2⟩ e (λ z=>nomatch z) h
 | @dK a kvs ea=>
  cases (show u=Value.ref a from rx);obtain⟨_,_,vs,_,p⟩:=(show d5 X.prog X.w H s.heap a (.dK kvs) from I.hok a _ ea);obtain⟨o,es,ep,h1,h2,_⟩:=p;exact PySem.W.kia_one PySem.W.kitx_dict I.kIn ⟨o,h1,h2.1⟩ e (λ z=>nomatch z) h
 | @dT a kvs ea=>
  cases (show u=Value.ref a from rx);obtain⟨_,_,xs,_,o,es,ep,h1,h2,_⟩:=(show d5 X.prog X.w H s.heap a (.dT kvs) from I.hok a _ ea);exact PySem.W.kia_one PySem.W.kitx_dict I.kIn ⟨o,h1,h2.1⟩ e (λ z=>nomatch z) h
 | @ins a C dx fs ea cl ha hn htk hm=>
  cases (show u=Value.ref a from rx);obtain⟨mA,O,_⟩:=xP I.hok ea;obtain⟨od,J,_⟩:=O.look;exact PySem.W.kia_one (PySem.W.kitx_own (cl.get _) cl.hd ha hn htk hm) I.kIn J e (λ z=>nomatch z) h
end
structure Room (k:Nat) (A:Around):Prop where
 hd:A.handled=none
 dp:A.depth+3 * k+5 < recursionLimit
 un:A.units+16 * k+200 < cLine
theorem Room.mono {j k:Nat}{A:Around} (r:Room k A) (h:j<=k):Room j A:=⟨r.hd,by have:=r.dp;omega,by have:=r.un;omega⟩
theorem Room.deeper {k:Nat}{A:Around} (r:Room (k+1) A) (env:Env):Room k (A.deeper env):=
 ⟨r.hd,by have:=r.dp;show A.depth+1+3 * k+5 < _;omega,by have:=r.un;show A.units+3+16 * k+200 < _;omega⟩
theorem Room.depth {k:Nat}{A:Around} (r:Room k A):A.depth < recursionLimit:=by have:=r.dp;omega
theorem Room.units {k:Nat}{A:Around} (r:Room k A):A.units+64 < cLine:=by have:=r.un;omega
def fP:TA:=λ _ H Q=>Q [] H
def cE (ta:TE) (tr:TA):TA:=λ σ H Q=>ta σ H λ x H1=>tr σ H1 λ xs H2=>Q (x::xs) H2
section
variable {X:Cx}{e:Expr}{es:List Expr}{te:TE}{t:TA}{pos:Pos}
theorem aB:PA X [] fP:=λ _ _ _ _ H Q I h=>Calls.spliced_nil ⟨[],H,I,.nil,h⟩
theorem aA (ha:PE X e te) (hr:PA X es t) (hs:starEach (e::es) X.env=(false,eval e X.env)::starEach es X.env:=by rfl):PA X (e::es) (cE te t):=by
 intro pos pins s σ H Q I h;rw[hs];show wpAny _ _ (spliced ((false,eval e X.env)::backTo pos (starEach es X.env))) _ _ s;refine Calls.spliced_cons (cR (ha pins s σ H _ I h) λ u s1 ⟨x,H1,I1,r1,q1⟩=>?_);exact cR (hr pos pins s1 σ H1 _ I1 q1) λ us s2 ⟨xs,H2,I2,r2,q2⟩=>⟨x::xs,H2,I2,.cons r1 r2,q2⟩
def tTup (t:TA):TE:=λ σ H Q=>t σ H λ xs H1=>xs.length<=sizeLine/\∀ p,H1 p=none->Q (.ref p) (upd H1 p (.tup xs))
def wI (t:TA):TE:=λ σ H Q=>t σ H λ xs H1=>xs.length<=sizeLine/\∀ p,H1 p=none->Q (.ref p) (upd H1 p (.lst xs))
theorem dN {x1} (h:PA X es t):PE X (.Tuple es x1 pos) (tTup t):=by
 intro pins s σ H Q I hq;refine wpAny_Tuple_spliced (cR (h pos pins s σ H _ I hq) λ us s1 ⟨xs,H1,I1,r,z,q⟩=>⟨by rw[<- r.length];exact z,?_⟩);have hf:H1 s1.heap.objs.size=none:=I1.hok.fresh (aae _);refine⟨.ref s1.heap.objs.size,upd H1 s1.heap.objs.size (.tup xs),I1.laid (t':=s1.toks) (λ b u e=>aaf _ e) (aae _) ?_,rfl,q _ hf⟩;exact⟨z,us,r,⟨_,aap _ rfl,rfl,_,rfl⟩⟩
theorem bG (h:PA X es t):PE X (.List es pos) (wI t):=by
 intro pins s σ H Q I hq;refine wpAny_List_spliced (cR (h pos pins s σ H _ I hq) λ us s1 ⟨xs,H1,I1,r,z,q⟩=>⟨by rw[<- r.length];exact z,?_⟩);have hf:H1 s1.heap.objs.size=none:=I1.hok.fresh (aae _);refine⟨.ref s1.heap.objs.size,upd H1 s1.heap.objs.size (.lst xs),I1.laid (t':=s1.toks) (λ b u e=>aaf _ e) (aae _) ?_,rfl,q _ hf⟩;exact⟨z,us,0,r,aap _ rfl⟩
end
abbrev Sp:=List V->Hp->VK->XK->Prop
abbrev tK:=List Env->Hp->Shared->XK->Value->Shared->Prop
structure Env0 (P:Program) (w:World) (K:aaa) (mg:Str->Option Value) (base:Heap) (A:Around) (outer:List Env) (s:Shared) (H:Hp):Prop where
 frames:A.frames=some outer
 mod:Mod K mg base
 bs:∀ b o,base.get? b=some o->s.heap.get? b=some o/\H b=none
 bsz:base.objs.size<=s.heap.objs.size
 funs:s.heap.FunFrames base outer
 frf:∀ b∈jK outer,H b=none
 hok:jY P w H s.heap
 bare:AllBare s.gens
def CE (outer:List Env) (P:Program) (w:World) (H:Hp) (s:Shared) (Q:VK) (u:Value) (s':Shared):Prop:=
 ∃ v H',s'.os=s.os/\AllBare s'.gens/\Un (jK outer) [] H H' s.heap s'.heap/\jY P w H' s'.heap/\aX v u/\Q v H'
def CR (CX:tK) (outer:List Env) (P:Program) (w:World) (H:Hp) (s:Shared) (Q:VK) (E:XK) (r:Result) (s':Shared):Prop:=
 match r with
 | .ok (.ret u)=>CE outer P w H s Q u s'
 | .ok _=>False
 | .error e=>CX outer H s E e s'
structure FnOk (P:Program) (w:World) (K:aaa) (mg:Str->Option Value) (base:Heap) (CX:tK) (k:Nat) (f:Addr) (fd:FuncData) (ps:List Str) (sp:Sp):Prop where
 len:∀ vs H Q E,sp vs H Q E->vs.length=ps.length
 run:∀ (A:Around) (outer:List Env) (s:Shared) (H:Hp) (args:Args) (us:List Value) (vs:List V) (Q:VK) (E:XK),Room k A->Env0 P w K mg base A outer s H->BindsTo s fd args (ps.zip us)->aZ vs us->sp vs H Q E->
  codeAny (model P w) A (.call (.ref f) args) (CR CX outer P w H s Q E) s
theorem FnOk.imp {P:Program}{w:World}{K:aaa}{mg:Str->Option Value}{base:Heap}{CX:tK}{k:Nat}{f:Addr}{fd:FuncData}{ps:List Str}{sp sp':Sp} (F:FnOk P w K mg base CX k f fd ps sp)
  (h:∀ vs H Q E,sp' vs H Q E->sp vs H Q E):FnOk P w K mg base CX k f fd ps sp':=
 ⟨λ vs H Q E q=>F.len vs H Q E (h _ _ _ _ q),λ A outer s H args us vs Q E hr he hb hv hs=>F.run A outer s H args us vs Q E hr he hb hv (h _ _ _ _ hs)⟩
section
variable {X:Cx}{pins:List (Addr×Obj)}{σ:St}{H:Hp}{s s':Shared}
theorem Inv.env0 (I:Inv X pins σ H s):Env0 X.prog X.w X.K X.mg X.base X.A X.stack s H:=
 ⟨I.ok.frames,I.ok.mod,I.bs,abn I.ok.bsz I.sz,I.stack,I.stkFree,I.hok,I.bare⟩
theorem Inv.after {Q:VK}{u:Value} (I:Inv X pins σ H s) (h:CE X.stack X.prog X.w H s Q u s'):EP X pins σ Q u s':=by
 obtain⟨v,H',os,bare,un,hok,r,q⟩:=h;obtain⟨hh,g,d,t,os'⟩:=s';obtain rfl:os'=s.os:=os;exact⟨v,H',I.call (h':=hh) (g':=g) (d':=d) (t':=t) (ch:=[]) un hok bare (λ b z=>absurd z (by simp)),r,q⟩
end
def iJ (sp:Sp) (dvs:List V) (E:XK) (t:TA):TE:=λ σ H Q=>t σ H λ vs H1=>sp (vs++dvs) H1 Q E
def lS (K:aaa) (fd:FuncData) (ps:List Str) (ds:List Value):Prop:=
 ∀ (s:Shared) (us:List Value),K.In s.heap->(us++ds).length=ps.length->BindsTo s fd ⟨us,[]⟩ (ps.zip (us++ds))
theorem lS.all {K:aaa}{fd:FuncData}{ps:List Str} (h:∀ us:List Value,us.length=ps.length->bindArgs fd ⟨us,[]⟩=pure (ps.zip us)):lS K fd ps []:=λ s us _ hl=>by
 rw[aca] at hl ⊢;exact .of_eq (h us hl)
def lQ (CX:tK) (X:Cx) (E:XK):Prop:=∀ (pins:List (Addr×Obj)) (σ:St) (H:Hp) (s:Shared) (e:Value) (s':Shared),Inv X pins σ H s->CX X.stack H s E e s'->X.xe e s'
section
variable {X:Cx}{CX:tK}{k:Nat}{f:Addr}{fd:FuncData}{ps:List Str}{sp:Sp}{dvs:List V}{ds:List Value}{E:XK}{x m:Str}{p pos apos:Pos}{e o:Expr}{es:List Expr}{ta:TE}{t:TA}
theorem yV {pins:List (Addr×Obj)}{σ:St}{H:Hp}{s:Shared}{Q:VK}{us:List Value}{vs:List V} (F:FnOk X.prog X.w X.K X.mg X.base CX k f fd ps sp) (hr:Room k X.A) (hb:lS X.K fd ps ds) (hd:aZ dvs ds) (hx:lQ CX X E)
  (I:Inv X pins σ H s) (r:aZ vs us) (h:sp (vs++dvs) H Q E):wpAny (model X.prog X.w) X.A (call (.ref f) us) (EP X pins σ Q) X.xe s:=by
 have r2:aZ (vs++dvs) (us++ds):=r.append hd;have hl:(us++ds).length=ps.length:=by rw[<- r2.length];exact F.len _ _ _ _ h
 refine wpAny_call (codeAny_mono (F.run X.A X.stack s H ⟨us,[]⟩ (us++ds) (vs++dvs) Q E hr I.env0 (hb s us I.kIn hl) r2 h) λ r s' hq=>?_);cases r with
 | error e=>exact hx pins σ H s e s' I hq
 | ok fl=>
  cases fl with
  | ret u=>exact I.after hq
  | next=>exact False.elim hq
  | brk=>exact False.elim hq
  | cont=>exact False.elim hq
theorem cL (F:FnOk X.prog X.w X.K X.mg X.base CX k f fd ps sp) (hr:Room k X.A) (hg:Gl X x) (hm:X.mg x=some (.ref f)) (hk:PySem.W.keepIn X.K (.ref f)=true) (hb:lS X.K fd ps ds) (hd:aZ dvs ds) (hx:lQ CX X E)
  (ha:PA X (e::es) t) (hdb:(x == ("__debug__" : Str))=false:=by decide) (he:starEach (e::es) X.env=(false,eval e X.env)::starEach es X.env:=by rfl) (hpl:(backTo pos (starEach es X.env)).any (·.1)=false:=by rfl) :
  PE X (.Call (.Name x p) (e::es) [] pos) (iJ sp dvs E t):=by
 intro pins s σ H Q I h;refine wpAny_Call_Name_kw (o7 I hg hm ?_ hdb);refine PySem.W.callWith_K (h₀:=X.base) I.ok.mod.kin hk (cR (ha pos pins s σ H _ I h) λ us s1 ⟨vs,H1,I1,r,q⟩=>⟨I1.kIn,?_⟩) he hpl;exact yV F hr hb hd hx I1 r q
end
section
variable {X:Cx}{CX:tK}{k:Nat}{f:Addr}{fd:FuncData}{ps ks:List Str}{sp:Sp}{E:XK}{x m:Str}{p pos apos kpos:Pos}{e o:Expr}{es:List Expr}{kws:List Keyword}{te ta:TE}{t tk:TA}{nm:Option Str}
variable {g:List Value->List Value->List Value}{gV:List V->List V->List V}
end
structure FnScope (N P:List Str) (sc:Scope):Prop where
 kind:sc.kind=.function:=by rfl
 co:sc.isCoroutine=false:=by rfl
 gen:sc.isGenerator=false:=by rfl
 nd:N.Nodup:=by decide +kernel
 pre:N.take P.length=P:=by rfl
 par:∀ x∈P,sc.names.lookup x=some .local\/sc.names.lookup x=some .cell:=by decide +kernel
 nofree:∀ y∈sc.names,y.2≠.free:=by decide +kernel
theorem mK {kindOf:Str->Option NameKind}{x:Str}:∀ {binds:List (Str×Value)}{m:Str->Option Value},(∀ v,(x,v)∉binds)->bindL kindOf binds m x=m x
 | [],_,_=>rfl
 | (n,v)::r,m,h=>by
  unfold bindL;rw[mK λ w hw=>h w (aal _ hw)]
  split
  ·have:x≠n:=by rintro rfl;exact h v abm
   simp [this]
  ·rfl
theorem mM {kindOf:Str->Option NameKind}{x:Str}:∀ {binds:List (Str×Value)}{m:Str->Option Value},(∀ v,(x,v)∉binds)->bindC kindOf binds m x=m x
 | [],_,_=>rfl
 | (n,v)::r,m,h=>by
  unfold bindC;rw[mM λ w hw=>h w (aal _ hw)]
  split
  ·rfl
  ·have:x≠n:=by rintro rfl;exact h v abm
   simp [this]
theorem mL {kindOf:Str->Option NameKind}{x:Str}{v:Value}:∀ {P:List Str}{vs:List Value}{i:Nat}{m:Str->Option Value},P.Nodup->P[i]? = some x->vs[i]? = some v->kindOf x=some .local->
  bindL kindOf (P.zip vs) m x=some v
 | [],_,_,_,_,h,_,_=>by simp at h
 | _::_,[],_,_,_,_,h,_=>by simp at h
 | p::P,w::vs,0,m,nd,h1,h2,hk=>by
  simp at h1 h2;subst h1;subst h2;show bindL kindOf ((p,w)::P.zip vs) m p=_;unfold bindL;rw[mK λ v hv=>(acf.mp nd).1 (List.of_mem_zip hv).1,if_pos hk];simp
 | p::P,w::vs,i+1,m,nd,h1,h2,hk=>by
  show bindL kindOf ((p,w)::P.zip vs) m x=_;unfold bindL;exact mL (i:=i) (acf.mp nd).2 (by simpa using h1) (by simpa using h2) hk
theorem mO {kindOf:Str->Option NameKind}{x:Str}{v:Value}:∀ {P:List Str}{vs:List Value}{i:Nat}{m:Str->Option Value},P.Nodup->P[i]? = some x->vs[i]? = some v->kindOf x≠some .local->
  bindC kindOf (P.zip vs) m x=some v
 | [],_,_,_,_,h,_,_=>by simp at h
 | _::_,[],_,_,_,_,h,_=>by simp at h
 | p::P,w::vs,0,m,nd,h1,h2,hk=>by
  simp at h1 h2;subst h1;subst h2;show bindC kindOf ((p,w)::P.zip vs) m p=_;unfold bindC;rw[mM λ v hv=>(acf.mp nd).1 (List.of_mem_zip hv).1,if_neg hk];simp
 | p::P,w::vs,i+1,m,nd,h1,h2,hk=>by
  show bindC kindOf ((p,w)::P.zip vs) m x=_;unfold bindC;exact mO (i:=i) (acf.mp nd).2 (by simpa using h1) (by simpa using h2) hk
def iM (N:List Str) (vs:List V):St:=vs.map some++List.replicate (N.length - vs.length) none
def pO (CX:tK) (P:Program) (w:World) (K:aaa) (mg:Str->Option Value) (base:Heap) (N:List Str) (qual:Str) (scope:Scope) (f:Addr) (cd:Value) (A:Around) (outer:List Env) (s:Shared) (H:Hp) (E:XK):Cx where
 prog:=P
 w:=w
 K:=K
 mg:=mg
 base:=base
 A:=A.deeper (envOfC qual scope s.heap.objs.size f cd)
 N:=N
 s₀:=s
 H₀:=H
 env:=envOfC qual scope s.heap.objs.size f cd
 outer:=outer
 stack:=envOfC qual scope s.heap.objs.size f cd::outer
 ex:=[]
 calm:=true
 fn:=λ _=>true
 pn:=[]
 xe:=λ e s'=>wpAny (model P w) (A.deeper (envOfC qual scope s.heap.objs.size f cd)) (leaving (envOfC qual scope s.heap.objs.size f cd) e) (λ _ s''=>CX outer H s E e s'') (λ e' s''=>CX outer H s E e' s'') s'
theorem pP {sc:Scope}{n:Nat}{x:Str} (h:sc.names.lookup x=some .cell):∃ c,(cellsFrom n sc.names []).lookup x=some c:=by
 have q:=PySem.W.cellsFrom_some sc.names n [] (.inl h);exact Option.isSome_iff_exists.mp q
theorem sX {CX:tK}{P:Program}{w:World}{K:aaa}{mg:Str->Option Value}{base:Heap}{N ps:List Str}{qual:Str}{scope:Scope}{f:Addr}{cd:Value}{A:Around}{outer:List Env}{s s1:Shared}{H:Hp}{E:XK}{us:List Value}{vs:List V}
  (S:FnScope N ps scope) (hd:A.handled=none) (e0:Env0 P w K mg base A outer s H) (hl:vs.length=ps.length) (r:aZ vs us)
  (x:InCallC s s.heap.objs.size (bindL (envOfC qual scope s.heap.objs.size f cd).kindOf (ps.zip us) λ _=>none) (cellsFrom (s.heap.objs.size+1) scope.names []) (bindC (envOfC qual scope s.heap.objs.size f cd).kindOf (ps.zip us) λ _=>none) s1) :
  Inv (pO CX P w K mg base N qual scope f cd A outer s H E) [] (iM N vs) H s1:=by
 have hpl:ps.length<=N.length:=by have:=congrArg List.length S.pre;rw[abk] at this;omega
 obtain⟨h1,tk,rfl,hk⟩:=x.done;have noA:∀ b:Addr,b∉(pO CX P w K mg base N qual scope f cd A outer s H E).ex:=λ b z=>absurd (show b∈([]:List Addr) from z) (by simp);refine⟨⟨e0.mod,S.kind,rfl,rfl,aae _,λ y z c h1 h2=>?_,λ y hy=>?_,λ y c _ h=>?_,λ _=>hd,Around.frames_deeper e0.frames,.inr ⟨rfl,rfl⟩,λ b z=>absurd z (noA b),e0.bs,e0.bsz,λ b _ _=>noA b,λ b z=>absurd z (noA b),e0.funs,e0.frf⟩,
  rfl,e0.bare,Un.kept hk,⟨_,x.toInCall.ns,λ i y v h1 h2 h3=>?_⟩,λ y c h=>⟨_,x.cell y c h⟩,e0.hok.fresh (aae _),λ y c h=>?_,λ p hp=>absurd (show p∈([]:List (Addr×Obj)) from hp) (by simp),e0.hok.kept hk,?_⟩
 ·exact name_of_addr x.apart (abq h1) (abq h2)
 ·have hy:scope.names.lookup y=some .cell\/scope.names.lookup y=some .free:=hy;rcases hy with hy | hy
  ·exact pP hy
  ·exact absurd rfl (S.nofree _ (abq hy))
 ·exact acg (x.above y c (abq h))
 ·have hi:i < vs.length:=by
   unfold iM at h2
   by_cases hi:i < vs.length
   ·exact hi
   ·rw[abv (by simpa using hi)] at h2;rw[List.getElem?_replicate] at h2
    split at h2 <;> cases h2
  have ha:vs[i]? = some v:=by
   unfold iM at h2;rw[abw (by simpa using hi),aaw] at h2;cases e:vs[i]? with
   | none=>rw[e] at h2;cases h2
   | some a=>rw[e] at h2;cases h2;rfl
  obtain⟨u,hu,rv⟩:=r.get ha;have hp:ps[i]? = some y:=by
   rw[<- S.pre,List.getElem?_take_of_lt (by omega)];exact h1
  have ndP:ps.Nodup:=by rw[<- S.pre];exact S.nd.sublist (List.take_sublist _ _)
  refine⟨u,rv,?_⟩;rcases S.par y (aak hp) with k | k
  ·exact .inl ⟨k,mL ndP hp hu k⟩
  ·obtain⟨c,e⟩:=pP (n:=s.heap.objs.size+1) k;refine .inr ⟨.inl k,c,e,?_⟩;have q:=x.cell y c e;rw[mO ndP hp hu (by show scope.names.lookup y≠_;rw[k];decide)] at q;exact q
 ·exact e0.hok.fresh (acg (x.above y c (abq h)))
 ·unfold iM;show _=N.length;rw[aas,aab,List.length_replicate];omega
theorem yE {CX:tK}{P:Program}{w:World}{K:aaa}{mg:Str->Option Value}{base:Heap}{k:Nat}{f:Addr}{name qual:Str}{params:Arguments}{body:List Stmt}{scope:Scope}{dV kV doc pm cdv ct oc:Value}{an od:Option Addr}
  {osl:Array (Option Value)}{N ps:List Str}{sp:Sp} (lk:K.lookup f=some ⟨oc,od,.func (PySem.W.fnOf name qual params body scope dV kV doc pm an cdv ct),osl⟩) (hcd:PySem.W.codeIn K cdv qual=true) (S:FnScope N ps scope)
  (len:∀ vs H Q E,sp vs H Q E->vs.length=ps.length)
  (hbody:∀ (A:Around) (outer:List Env) (s:Shared) (H:Hp) (vs:List V) (Q:VK) (E:XK),Room k (A.deeper (envOfC qual scope s.heap.objs.size f cdv))->sp vs H Q E->
   ∃ t,tJ (pO CX P w K mg base N qual scope f cdv A outer s H E) body t/\t { nx:=λ _ H'=>Q .non H',rt:=Q } (iM N vs) H) :
  FnOk P w K mg base CX (k+1) f (PySem.W.fnOf name qual params body scope dV kV doc pm an cdv ct) ps sp:=by
 refine⟨len,λ A outer s H args us vs Q E hr e0 hb r hsp=>?_⟩;have hl:=len _ _ _ _ hsp;have KX:K.In s.heap:=e0.mod.kin.keeps λ b o e=>(e0.bs b o e).1;have lim:s.heap.NoLimit:=e0.mod.nolimit.keeps λ b o e=>(e0.bs b o e).1;have hkind:∀ y∈ps.zip us,scope.names.lookup y.1=some .local\/(scope.names.lookup y.1=some .cell/\((cellsFrom (s.heap.objs.size+1) scope.names []).lookup y.1).isSome=true):=λ ⟨n,v⟩ hy=>by
  rcases S.par n (List.of_mem_zip hy).1 with q | q
  ·exact .inl q
  ·exact .inr ⟨q,PySem.W.cellsFrom_some _ _ _ (.inl q)⟩
 refine codeAny_call_function hr.depth (KX _ _ lk) rfl S.co S.gen rfl (PySem.W.codeRec_of KX hcd) (hb _ _ _ _ ?_);refine wpAny_newFunctionEnv_cells S.kind hkind λ env he s1 x=>?_;subst he;refine⟨lim.keeps x.toInCall.keep,codeAny_func ?_⟩;obtain⟨t,ht,hq⟩:=hbody A outer s H vs Q E (hr.deeper _) hsp;have I:Inv (pO CX P w K mg base N qual scope f cdv A outer s H E) [] (iM N vs) H s1:=sX S hr.hd e0 hl r x;refine abp (ht [] s1 (iM N vs) H _ I hq) (λ fl s' hs=>?_) λ e s' hs=>hs;have fin:∀ {Z:St}{H':Hp}{v:V}{u:Value},Inv (pO CX P w K mg base N qual scope f cdv A outer s H E) [] Z H' s'->aX v u->Q v H'->CE outer P w H s Q u s':=
  λ {Z H' v u} J rv q=>⟨v,H',J.os,J.bare,J.base,J.hok,rv,q⟩
 cases fl with
 | ret u=>
  obtain⟨v,Z,H',J,rv,q⟩:=hs;exact fin J rv q
 | next=>
  obtain⟨Z,H',J,q⟩:=hs;exact fin (v:=V.non) (u:=Value.none) J rfl q
 | brk=>
  obtain⟨_,_,_,q⟩:=hs;exact False.elim q
 | cont=>
  obtain⟨_,_,_,q⟩:=hs;exact False.elim q
section
variable {X:Cx}{x:Str}{p pos:Pos}{e:Expr}{es:List Expr}{t:TA}{id T:String}{r:List V->Hp->VK->Prop}
def wJ (r:List V->Hp->VK->Prop) (t:TA):TE:=λ σ H Q=>t σ H λ vs H1=>r vs H1 Q
theorem aU (hc:dC X (.builtin id) r) (hg:Gl X x) (hm:X.mg x=none) (hv:bootBuiltins x=some (.builtin id)) (ha:PA X (e::es) t) (hn:x ≠ "__name__" := by decide) (hdb:(x == ("__debug__" : Str))=false:=by decide)
  (he:starEach (e::es) X.env=(false,eval e X.env)::starEach es X.env:=by rfl) (hpl:(backTo pos (starEach es X.env)).any (·.1)=false:=by rfl):PE X (.Call (.Name x p) (e::es) [] pos) (wJ r t):=by
 intro pins s σ H Q I h;refine wpAny_Call_Name_kw (lJ I hg hm hv ?_ hn hdb);exact PyProof.Rows.callWith_builtin1 (cR (ha pos pins s σ H _ I h) λ us s1 ⟨vs,H1,I1,r1,q1⟩=>hc pins s1 σ H1 vs us Q I1 r1 q1) he hpl
theorem aM (hc:dC X (.type T) r) (hg:Gl X x) (hm:X.mg x=none) (hv:bootBuiltins x=some (.type T)) (ha:PA X (e::es) t) (hn:x ≠ "__name__" := by decide) (hdb:(x == ("__debug__" : Str))=false:=by decide)
  (he:starEach (e::es) X.env=(false,eval e X.env)::starEach es X.env:=by rfl) (hpl:(backTo pos (starEach es X.env)).any (·.1)=false:=by rfl):PE X (.Call (.Name x p) (e::es) [] pos) (wJ r t):=by
 intro pins s σ H Q I h;refine wpAny_Call_Name_kw (lJ I hg hm hv ?_ hn hdb);exact PyProof.Rows.callWith_type1 (cR (ha pos pins s σ H _ I h) λ us s1 ⟨vs,H1,I1,r1,q1⟩=>hc pins s1 σ H1 vs us Q I1 r1 q1) he hpl
end
end L2
namespace HT
open PySem PyProof.Rows
section
open PySem.SeqAt
open PySem.AutoSeq1 (wpAny_loadPart')
open PySem.MeetsSeq PySem.MeetsSeq2 PySem.MeetsSeq3
end
section
variable {prog:Program}{A:Around}{E:Value->Shared->Prop}{s:Shared}
theorem cat_tup {t b:Addr}{vs ws:List Value}{Q:Value->Shared->Prop} (ht:IsTup s.heap t vs.toArray) (hb:IsTup s.heap b ws.toArray) (hv:vs≠[])
  (h1:ws=[]->Q (.ref t) s) (h2:ws≠[]->Q (.ref s.heap.objs.size) { s with heap:=s.heap.push { cls:=.type "tuple",data:=.seq (vs++ws).toArray } })
  (hsz:vs.length+ws.length<=sizeLine):wpAny (model prog w) A (binaryOp .Add (.ref t) (.ref b)) Q E s:=by
 obtain⟨⟨cls,dd,data,sl⟩,ho,hc,n,hd⟩:=id ht;obtain⟨⟨cls2,dd2,data2,sl2⟩,ho2,hc2,n2,hd2⟩:=id hb;simp only at hc hd hc2 hd2;subst hc hd hc2 hd2;have e:vs.toArray++ws.toArray=(vs++ws).toArray:=by simp
 by_cases hw:ws=[]
 ·exact concat_meets ⟨_,ho,rfl⟩ ⟨_,ho2,rfl⟩ noFill_tuple_add seq_tuple_add PySem.F.slot_tuple_add PySem.F.entry_tuple_add (PySem.F.args_tuple_add_2 _ _)
   (tuple_addW1 t b vs.toArray ws.toArray n n2 dd dd2 sl sl2 (by simpa using hv) (by simp [hw])) ⟨ho,ho2,h1 hw⟩
 ·refine concat_meets ⟨_,ho,rfl⟩ ⟨_,ho2,rfl⟩ noFill_tuple_add seq_tuple_add PySem.F.slot_tuple_add PySem.F.entry_tuple_add (PySem.F.args_tuple_add_2 _ _)
   (tuple_addW2 t b vs.toArray ws.toArray n n2 dd dd2 sl sl2 (by simpa using hv) (by simpa using hw) (by rw[aad,aad];exact hsz)) ⟨ho,ho2,?_⟩
  rw[e];exact h2 hw
end
end HT
namespace L2
open PySem PySem.Spec PyProof.Rows
section
variable {X:Cx}{e:Expr}{te:TE}{lo hi:Option Expr}{tl th:TO}{pos p2:Pos}
def BA (K:aaa):R2:=λ x y H Q=>∃ a b xs ys,x=.ref a/\y=.ref b/\cG K H a xs/\cG K H b ys/\xs≠[]/\xs.length+ys.length<=sizeLine/\
 (ys=[]->Q (.ref a) H)/\(ys≠[]->∀ p,H p=none->Q (.ref p) (upd H p (.tup (xs++ys))))
theorem aZ.nil_iff {xs:List V}{us:List Value} (r:aZ xs us):us=[]↔xs=[]:=by
 cases r with
 | nil=>simp
 | cons _ _=>simp
theorem wY:fM X (binaryOp .Add) (BA X.K):=by
 intro pins s σ H x y v u Q I rx ry h;obtain⟨a,b,xs,ys,rfl,rfl,ha,hb,hx,hz,q1,q2⟩:=h;cases rx;cases ry;obtain⟨its,r1,p1,_⟩:=I.tuple ha;obtain⟨its2,r2,p2,_⟩:=I.tuple hb;refine HT.cat_tup p1 p2 (λ z=>hx (r1.nil_iff.mp z)) (λ z=>⟨.ref a,H,I,rfl,q1 (r2.nil_iff.mp z)⟩) (λ z=>?_) (by rw[<- r1.length,<- r2.length];exact hz);refine⟨.ref s.heap.objs.size,_,I.laid (t':=s.toks) (o:=.tup (xs++ys)) (λ b ob q=>aaf _ q) (aae _) ?_,rfl,q2 (λ w=>z (r2.nil_iff.mpr w)) _ (I.hok.fresh (aae _))⟩;exact⟨by rw[aas];exact hz,_,r1.append r2,IsTup.new _ _⟩
end
def A4 (n:Nat) (i:Int):Option Nat:=if 0<=i then (if i < n then some i.toNat else none) else if -(n:Int)<=i then some (i+n).toNat else none
def yG {ae:Type} (xs:List ae) (i:Int):Option ae:=(A4 xs.length i).bind λ j=>xs[j]?
theorem rQ {n:Nat}{i:Int}{j:Nat} (h:A4 n i=some j):seqIndex? i n=some j/\j < n/\-(n:Int)<=i/\i < n:=by
 unfold A4 at h
 by_cases h0:0<=i
 ·rw[if_pos h0] at h
  by_cases h1:i < n
  ·rw[if_pos h1] at h;have e:i.toNat=j:=abe h;exact⟨by rw[seqIndex_of h0 h1,e],by omega,by omega,h1⟩
  ·rw[if_neg h1] at h;cases h
 ·rw[if_neg h0] at h
  by_cases h1 : -(n:Int)<=i
  ·rw[if_pos h1] at h;have e:(i+n).toNat=j:=abe h;exact⟨by rw[seqIndex_neg (by omega) h1,e],by omega,h1,by omega⟩
  ·rw[if_neg h1] at h;cases h
theorem oI {ae:Type}{xs:List ae}{i:Int}{v:ae} (h:yG xs i=some v):∃ j,seqIndex? i xs.length=some j/\xs[j]? = some v/\j < xs.length/\-(xs.length:Int)<=i/\i < xs.length:=by
 unfold yG at h;cases e:A4 xs.length i with
 | none=>rw[e] at h;cases h
 | some j=>
  rw[e] at h;obtain⟨h1,h2,h3,h4⟩:=rQ e;exact⟨j,h1,h,h2,h3,h4⟩
theorem sB {ae:Type}{xs:List ae}{j:Nat}{v:ae} (h:xs[j]? = some v):yG xs (j:Int)=some v:=by
 have hj:j < xs.length:=(aan.mp h).1;have e:A4 xs.length (j:Int)=some j:=by
  unfold A4;rw[if_pos (by omega),if_pos (by omega)];simp
 unfold yG;rw[e];exact h
def sF (b:Expr):Prop:=∀ o i,subscripted b false o i=operate [o,i] (getItem o i)
def wF (X:Cx) (r:R2):Prop:=
 ∀ (value slice:Expr) (pins:List (Addr×Obj)) (s:Shared) (σ:St) (H:Hp) (x y:V) (v u:Value) (Q:VK),Inv X pins σ H s->aX x v->aX y u->r x y H Q->
  subscripted slice false v u=operate [v,u] (getItem v u)->wpAny (model X.prog X.w) X.A (subscriptTail value slice v u) (EP X pins σ Q) X.xe s
def wE (X:Cx) (id:String) (r:V->List V->Hp->VK->Prop):Prop:=
 ∀ (pins:List (Addr×Obj)) (s:Shared) (σ:St) (H:Hp) (x:V) (xs:List V) (v:Value) (us:List Value) (Q:VK),Inv X pins σ H s->aX x v->aZ xs us->r x xs H Q->
  wpAny (model X.prog X.w) X.A (call (.builtin id) (v::us)) (EP X pins σ Q) X.xe s
section
variable {X:Cx}{a b:Expr}{ta tb:TE}{pos:Pos}
theorem wF.or {r r':R2} (h:wF X r) (h':wF X r'):wF X (λ x y H Q=>r x y H Q\/r' x y H Q):=by
 intro value slice pins s σ H x y v u Q I rx ry q hs;rcases q with q | q
 ·exact h value slice pins s σ H x y v u Q I rx ry q hs
 ·exact h' value slice pins s σ H x y v u Q I rx ry q hs
theorem BD {r:R2} (hr:wF X r) (ha:PE X a ta) (hb:PE X b tb) (hs:sF b):PE X (.Subscript a b pos) (eQ r ta tb):=by
 intro pins s σ H Q I h;exact Subscript_ (A9 ha hb I h λ v u s2 x y H2 I2 rx ry q=>hr a b pins s2 σ H2 x y v u Q I2 rx ry q (hs _ _))
def B4 (K:aaa):R2:=λ x y H Q=>∃ p xs i v,x=.ref p/\y=.int i/\bV K H p xs/\yG xs i=some v/\Q v H
def B2 (K:aaa):R2:=λ x y H Q=>∃ p xs i v,x=.ref p/\y=.int i/\cG K H p xs/\yG xs i=some v/\Q v H
def B3:R2:=λ x y H Q=>∃ z i c,x=.str z/\y=.int i/\z.length<=sizeLine/\yG z.cps.toList i=some c/\Q (.str ⟨#[c]⟩) H
theorem xO:wF X (B4 X.K):=by
 intro value slice pins s σ H x y v u Q I rx ry h hs;obtain⟨p,xs,i,z,rfl,rfl,hq,he,q⟩:=h;cases rx;obtain⟨t,rfl⟩:=ry;obtain⟨its,r,pl,hz⟩:=I.list hq;obtain⟨j,h1,h2,h3,h4,h5⟩:=oI he;obtain⟨w,ew,rw'⟩:=r.get h2;have hl:=r.length;have hn:=iA;have fin:EP X pins σ Q w s:=⟨z,H,I,rw',q⟩
 by_cases h0:0<=i
 ·have hj:i.toNat=j:=by
   rw[seqIndex_of h0 h5] at h1;exact abe h1
  exact item_listR pl.isList h0 (by omega) (by rw[hj];simpa using ew) fin hs
 ·have hj:(i+(its.toArray.size:Int)).toNat=j:=by
   rw[seqIndex_neg (by omega) h4] at h1;rw[aad,<- hl];exact abe h1
  exact subscriptTail_builtinR (x:=w) pl.isList.typeIs slot_list_getitem.lookup
   (wpAny_getItem_list_neg (Q:=λ r s'=>r=w/\EP X pins σ Q r s') pl.isList (by omega) (by rw[aad] <;> omega) (by omega) (by rw[hj];simpa using ew) ⟨rfl,fin⟩) hs
theorem A1:wF X (B2 X.K):=by
 intro value slice pins s σ H x y v u Q I rx ry h hs;obtain⟨p,xs,i,z,rfl,rfl,hq,he,q⟩:=h;cases rx;obtain⟨t,rfl⟩:=ry;obtain⟨its,r,pl,hz⟩:=I.tuple hq;obtain⟨j,h1,h2,h3,h4,h5⟩:=oI he;obtain⟨w,ew,rw'⟩:=r.get h2;have hl:=r.length;have hn:=iA;have fin:EP X pins σ Q w s:=⟨z,H,I,rw',q⟩;exact subscriptTail_builtinR (x:=w) pl.typeIs slot_tuple_getitem.lookup
  (getItem_tuple (j:=j) (Q:=λ r s'=>r=w/\EP X pins σ Q r s') pl (by omega) (by omega) (by rw[aad,<- hl];exact h1) (by simpa using ew) ⟨rfl,fin⟩) hs
theorem A2:wF X B3:=by
 intro value slice pins s σ H x y v u Q I rx ry h hs;obtain⟨z,i,c,rfl,rfl,hz,he,q⟩:=h;obtain⟨t,rfl⟩:=rx;obtain⟨t',rfl⟩:=ry;obtain⟨j,h1,h2,h3,h4,h5⟩:=oI he;have hl:z.cps.toList.length=z.length:=by simp [Str.length]
 rw[hl] at h1 h4 h5;have hn:=iA;exact tail_any (typeIs_str s z t) slot_str_getitem.lookup (getItem_str (c:=c) (by
  have e1:decide (i < -(2 ^ 63:Int))=false:=abf (by omega);have e2:decide (i ≥ 2 ^ 63)=false:=abf (by omega);rw[e1,e2,Bool.or_false]) (by rw[h1];simpa using h2) ⟨.str ⟨#[c]⟩,H,I.tok _,⟨_,rfl⟩,q⟩) hs
def qL (K:aaa):R2:=λ x y H Q=>B4 K x y H Q\/B2 K x y H Q\/B3 x y H Q
theorem A3:wF X (qL X.K):=xO.or (A1.or A2)
theorem qW (its:List Value) (n j:Nat) (u:Value):Obj.mapSeq (·.setIfInBounds j u) { cls:=.type "list",data:=.seq its.toArray n }={ cls:=.type "list",data:=.seq (its.set j u).toArray n }:=by
 simp [Obj.mapSeq]
theorem Inv.lst {pins:List (Addr×Obj)}{σ:St}{H:Hp}{s:Shared}{p:Addr}{xs:List V} (I:Inv X pins σ H s) (h:H p=some (.lst xs)) :
  ∃ (its:List Value) (n:Nat),aZ xs its/\s.heap.get? p=some { cls:=.type "list",data:=.seq its.toArray n }/\xs.length<=sizeLine:=by
 obtain⟨z,its,n,r,e⟩:=I.hok p _ h;exact⟨its,n,r,e,z⟩
theorem Inv.lstUpd {pins:List (Addr×Obj)}{σ:St}{H:Hp}{s:Shared}{p:Addr}{xs ys:List V}{its its':List Value}{n n':Nat}{f:Obj->Obj} (I:Inv X pins σ H s) (h:H p=some (.lst xs))
  (ho:s.heap.get? p=some { cls:=.type "list",data:=.seq its.toArray n }) (hf:f { cls:=.type "list",data:=.seq its.toArray n }={ cls:=.type "list",data:=.seq its'.toArray n' }) (r:aZ ys its') (hz:ys.length<=sizeLine) (t:Nat) :
  Inv X pins σ (upd H p (.lst ys)) { s with heap:=s.heap.update p f,toks:=t }:=by
 have e:(s.heap.update p f).get? p=some { cls:=.type "list",data:=.seq its'.toArray n' }:=by
  rw[Heap.get?_update_self f ho (by rw[hf] <;> rfl),hf]
 refine I.write (x:=p) (e:=p) (by rw[h];trivial) (.inl rfl) (λ b u hb q=>(Heap.get?_update_other _ _ (Ne.symm hb)).trans q) ⟨_,e⟩ ?_;exact⟨hz,its',n',r,e⟩
def rH:V->V->V->Hp->(Hp->Prop)->Prop:=λ o i v H Q=>∃ p xs k j,o=.ref p/\i=.int k/\H p=some (.lst xs)/\A4 xs.length k=some j/\Q (upd H p (.lst (xs.set j v)))
theorem iN:BS X rH:=by
 intro pins s σ H o i v ov iv u Q I ro ri rv h;obtain⟨p,xs,k,j,rfl,rfl,hp,hj,q⟩:=h;cases ro;obtain⟨t,rfl⟩:=ri;obtain⟨its,n,r,ho,hz⟩:=I.lst hp;obtain⟨h1,h2,h3,h4⟩:=rQ hj;have hl:=r.length;have hn:=iA;have I':Inv X pins σ (upd H p (.lst (xs.set j v))) { s with heap:=s.heap.update p (Obj.mapSeq (·.setIfInBounds j u)) }:=
  I.lstUpd hp ho (qW its n j u) (r.set rv j) (by rw[List.length_set];exact hz) s.toks
 by_cases h0:0<=k
 ·have hk:k.toNat=j:=by
   rw[seqIndex_of h0 h4] at h1;exact abe h1
  exact PySem.W.ki_setAt ho h0 (by omega) (by rw[aad,<- hl];exact h4) (by rw[hk];exact⟨_,I',q⟩)
 ·have hk:(k+(its.toArray.size:Int)).toNat=j:=by
   rw[seqIndex_neg (by omega) h3] at h1;rw[aad,<- hl];exact abe h1
  exact PySem.W.ki_setBack ho (by omega) (by rw[aad,<- hl];exact h3) (by omega) (by rw[hk];exact⟨_,I',q⟩)
def jV:V->Bool
 | .non=>true
 | .bl _=>true
 | .int _=>true
 | .str _=>true
 | _=>false
def yF:V->V->Bool
 | .non,.non=>true
 | .bl a,.bl b=>a == b
 | .bl a,.int b=>(if a then 1 else 0) == b
 | .int a,.bl b=>a == (if b then 1 else 0)
 | .int a,.int b=>a == b
 | .str a,.str b=>a == b
 | _,_=>false
theorem A8 {A:Around}{s:Shared}{y x:V}{u v:Value} (ry:aX y u) (rx:aX x v) (fy:jV y=true) (fx:jV x=true):SeqAt.EqAt A s u v (yF y x):=by
 cases y with
 | non=>
  cases ry;cases x with
  | non=>cases rx;exact SeqAt.EqAt.same _
  | bl b=>cases rx;exact SeqAt.EqAt.none_bool b
  | int b=>obtain⟨t,rfl⟩:=rx;exact SeqAt.EqAt.none_int b t
  | str b=>obtain⟨t,rfl⟩:=rx;exact SeqAt.EqAt.none_str b t
  | _=>exact absurd (show false=true from fx) aaj
 | bl a=>
  cases ry;cases x with
  | non=>cases rx;exact SeqAt.EqAt.bool_none a
  | bl b=>cases rx;exact SeqAt.EqAt.bool_bool a b
  | int b=>obtain⟨t,rfl⟩:=rx;exact SeqAt.EqAt.bool_int a b t
  | str b=>obtain⟨t,rfl⟩:=rx;exact SeqAt.EqAt.bool_str a b t
  | _=>exact absurd (show false=true from fx) aaj
 | int a=>
  obtain⟨t',rfl⟩:=ry;cases x with
  | non=>cases rx;exact SeqAt.EqAt.int_none a t'
  | bl b=>cases rx;exact SeqAt.EqAt.int_bool a t' b
  | int b=>obtain⟨t,rfl⟩:=rx;exact SeqAt.EqAt.int_int a t' b t
  | str b=>obtain⟨t,rfl⟩:=rx;exact SeqAt.EqAt.int_str a t' b t
  | _=>exact absurd (show false=true from fx) aaj
 | str a=>
  obtain⟨t',rfl⟩:=ry;cases x with
  | non=>cases rx;exact SeqAt.EqAt.str_none a t'
  | bl b=>cases rx;exact SeqAt.EqAt.str_bool a t' b
  | int b=>obtain⟨t,rfl⟩:=rx;exact SeqAt.EqAt.str_int a t' b t
  | str b=>obtain⟨t,rfl⟩:=rx;exact SeqAt.EqAt.str_str a t' b t
  | _=>exact absurd (show false=true from fx) aaj
 | _=>exact absurd (show false=true from fy) aaj
def xT (x:V) (u:Value):Bool:=match u with
 | .none=>yF .non x
 | .bool b=>yF (.bl b) x
 | .int i _=>yF (.int i) x
 | .str z _=>yF (.str z) x
 | _=>false
theorem vT {x y:V}{u:Value} (r:aX y u) (f:jV y=true):xT x u=yF y x:=by
 cases y with
 | non=>cases r;rfl
 | bl b=>cases r;rfl
 | int i=>obtain⟨t,rfl⟩:=r;rfl
 | str z=>obtain⟨t,rfl⟩:=r;rfl
 | _=>exact absurd (show false=true from f) aaj
theorem oJ {x:V}:∀ {xs:List V}{us:List Value},aZ xs us->xs.all jV=true->us.any (xT x)=xs.any λ y=>yF y x
 | _,_,.nil,_=>rfl
 | y::xs,u::us,.cons r t,f=>by
  rw[List.all_cons,Bool.and_eq_true] at f;rw[List.any_cons,List.any_cons,vT r f.1,oJ t f.2]
theorem lH {A:Around}{s:Shared}{x:V}{v:Value} (rx:aX x v) (fx:jV x=true):∀ {xs:List V}{us:List Value},aZ xs us->xs.all jV=true->∀ u∈us,SeqAt.EqAt A s u v (xT x u)
 | _,_,.nil,_=>λ u hu=>by cases hu
 | y::xs,u::us,.cons r t,f=>λ u' hu=>by
  rw[List.all_cons,Bool.and_eq_true] at f;rcases aaq.mp hu with rfl | hu
  ·rw[vT r f.1];exact A8 r rx f.1 fx
  ·exact lH rx fx t f.2 u' hu
def BK (x:V) (xs:List V):Bool:=xs.any λ y=>yF y x
def rIn (K:aaa) (neg:Bool):R2:=λ x y H Q=>∃ p xs,y=.ref p/\(bV K H p xs\/cG K H p xs)/\jV x=true/\xs.all jV=true/\Q (.bl (if neg then !BK x xs else BK x xs)) H
theorem nL:fM X (compareOp .NotIn) (rIn X.K true):=by
 intro pins s σ H x y v u Q I rx ry h;obtain⟨p,xs,rfl,hq,fx,fs,q⟩:=h;cases ry;rcases hq with hq | hq
 ·obtain⟨its,r,pl,hz⟩:=I.list hq;refine SeqAt.notIn_listAt (xT x) pl.isList (λ w hw=>lH rx fx r fs w (by simpa using hw)) ⟨.bl _,H,I,rfl,?_⟩;rw[show its.toArray.any (xT x)=its.any (xT x) by simp,oJ r fs];exact q
 ·obtain⟨its,r,pl,hz⟩:=I.tuple hq;refine SeqAt.notIn_tupleAt (xT x) pl (λ w hw=>lH rx fx r fs w (by simpa using hw)) ⟨.bl _,H,I,rfl,?_⟩;rw[show its.toArray.any (xT x)=its.any (xT x) by simp,oJ r fs];exact q
theorem oH:dC X (.builtin "len") (λ xs H Q=>∃ p ys,xs=[.ref p]/\(bV X.K H p ys\/cG X.K H p ys)/\Q (.int ys.length) H):=by
 intro pins s σ H xs us Q I r h;obtain⟨p,ys,rfl,hq,q⟩:=h;obtain⟨u,rfl,rx⟩:=iH r;cases rx;have hn:=iA;rcases hq with hq | hq
 ·obtain⟨its,r',pl,hz⟩:=I.list hq;have hlen:=r'.length;exact Calls.call_len_list pl.isList (by simp only [aad] <;> omega) ⟨.int ys.length,H,I.tok _,⟨s.toks+1,by rw[aad,hlen]⟩,q⟩
 ·obtain⟨its,r',pl,hz⟩:=I.tuple hq;have hlen:=r'.length;exact len_tuple pl (by simp only [aad] <;> omega) ⟨.int ys.length,H,I.tok _,⟨s.toks+1,by rw[aad,hlen]⟩,q⟩
theorem oG:dC X (.type "list") (λ xs H Q=>∃ p ys,xs=[.ref p]/\(bV X.K H p ys\/cG X.K H p ys)/\∀ l,H l=none->Q (.ref l) (upd H l (.lst ys))):=by
 intro pins s σ H xs us Q I r h;obtain⟨p,ys,rfl,hq,q⟩:=h;obtain⟨u,rfl,rx⟩:=iH r;cases rx;have fin:∀ (its:List Value),aZ ys its->ys.length<=sizeLine->∀ (h':Heap) (c':Nat),(∀ b o',s.heap.get? b=some o'->h'.get? b=some o')->
   h'.get? s.heap.objs.size=some { cls:=.type "list",dict:=none,data:=.seq its.toArray c',slots:=#[] }->EP X pins σ Q (.ref s.heap.objs.size) { s with heap:=h' }:=λ its r' hz h' c' kp e=>
  ⟨.ref s.heap.objs.size,_,I.laid (t':=s.toks) kp (aae _) (show d5 X.prog X.w _ h' _ (.lst ys) from ⟨hz,its,c',r',e⟩),rfl,q _ (I.hok.fresh (aae _))⟩
 rcases hq with hq | hq
 ·obtain⟨its,r',pl,hz⟩:=I.list hq;have hlen:=r'.length;obtain⟨o,ho,hc,n,hd⟩:=pl.isList;exact call_list_seq p (.inl rfl) ho hc hd (λ h' c' kp e=>fin its r' hz h' c' kp e) (by simp only [aad] <;> omega)
 ·obtain⟨its,r',pl,hz⟩:=I.tuple hq;have hlen:=r'.length;obtain⟨o,ho,hc,n,hd⟩:=pl;exact call_list_seq p (.inr rfl) ho hc hd (λ h' c' kp e=>fin its r' hz h' c' kp e) (by simp only [aad] <;> omega)
theorem m7:dC X (.type "tuple") (λ xs H Q=>∃ p ys,xs=[.ref p]/\((bV X.K H p ys/\∀ l,H l=none->Q (.ref l) (upd H l (.tup ys)))\/(cG X.K H p ys/\Q (.ref p) H))):=by
 intro pins s σ H xs us Q I r h;obtain⟨p,ys,rfl,h⟩:=h;obtain⟨u,rfl,rx⟩:=iH r;cases rx;rcases h with ⟨hq,q⟩ | ⟨hq,q⟩
 ·obtain⟨its,r',pl,hz⟩:=I.list hq;have hlen:=r'.length;refine call_tuple_list pl.isList (λ h' kp=>?_) (by simp only [aad] <;> omega);have I1:Inv X pins σ H { s with heap:=h' }:=I.kept (t':=s.toks) kp;have I2:Inv X pins σ (upd H h'.objs.size (.tup ys)) { s with heap:=h'.push { cls:=.type "tuple",data:=.seq its.toArray } }:=
   I1.laid (t':=s.toks) (λ b o e=>aaf _ e) (aae _) (show d5 X.prog X.w _ _ _ (.tup ys) from ⟨hz,its,r',IsTup.new _ _⟩)
  exact⟨.ref h'.objs.size,_,I2,rfl,q _ (I1.hok.fresh (aae _))⟩
 ·obtain⟨its,r',pl,hz⟩:=I.tuple hq;exact call_tuple_same pl ⟨.ref p,H,I,rfl,q⟩
def tyV (K:aaa) (T:String) (x:V) (H:Hp):Prop:=match x with
 | .str _=>T = "str"
 | .int _=>T = "int"
 | .ref p=>(T = "list" /\ ∃ xs,bV K H p xs)\/(T = "tuple" /\ ∃ o,K.lookup p=some o/\o.cls=.type "tuple" /\ o.dict=none)\/
   (T = "dict" /\ ((∃ kvs,H p=some (.dK kvs))\/∃ kvs,H p=some (.dT kvs)))\/(T = "set" /\ ∃ S n,H p=some (.set S n))
 | _=>False
theorem tM {pins:List (Addr×Obj)}{σ:St}{H:Hp}{s:Shared}{T:String}{x:V}{v:Value} (I:Inv X pins σ H s) (r:aX x v) (ty:tyV X.K T x H) :
  s.TypeIs v T/\∀ a,v=.ref a->∃ ob,s.heap.get? a=some ob/\ob.dict=none:=by
 cases x with
 | str z=>
  obtain⟨t,rfl⟩:=r;cases (show T = "str" from ty);exact⟨typeIs_str s z t,λ _ e=>nomatch e⟩
 | int i=>
  obtain⟨t,rfl⟩:=r;cases (show T = "int" from ty);exact⟨typeIs_int s i t,λ _ e=>nomatch e⟩
 | ref p=>
  cases r;rcases ty with ⟨rfl,xs,hq⟩ | ⟨rfl,o,hk,hc,hd⟩ | ⟨rfl,hk⟩ | ⟨rfl,S,n,hk⟩
  ·obtain⟨its,_,pl,_⟩:=I.list hq;refine⟨pl.isList.typeIs,λ a e=>?_⟩;cases e;obtain⟨o,n,e,c,hd,_⟩:=pl;exact⟨o,e,hd⟩
  ·refine⟨⟨o,I.kIn p o hk,hc⟩,λ a e=>?_⟩;cases e;exact⟨o,I.kIn _ o hk,hd⟩
  ·have z:∃ o,s.heap.get? p=some o/\o.ExactDict:=by
    rcases hk with ⟨kvs,hk⟩ | ⟨kvs,hk⟩
    ·obtain⟨_,_,_,_,o,_,_,e,ex,_⟩:=I.hok p _ hk;exact⟨o,e,ex⟩
    ·obtain⟨_,_,_,_,o,_,_,e,ex,_⟩:=I.hok p _ hk;exact⟨o,e,ex⟩
   obtain⟨o,e,ex⟩:=z;refine⟨⟨o,e,ex.1⟩,λ a e2=>?_⟩;cases e2;exact⟨o,e,ex.2.1⟩
  ·obtain⟨o,_,_,_,e,ex,_⟩:=I.hok p _ hk;refine⟨⟨o,e,ex.1⟩,λ a e2=>?_⟩;cases e2;exact⟨o,e,ex.2.1⟩
 | _=>exact False.elim ty
def AV (K:aaa) (T:String) (r:V->List V->Hp->VK->Prop) (to:TE):TE:=λ σ H Q=>to σ H λ x H1=>tyV K T x H1/\r x [] H1 Q
def tBM (K:aaa) (T:String) (r:V->List V->Hp->VK->Prop) (to:TE) (t:TA):TE:=λ σ H Q=>to σ H λ x H1=>tyV K T x H1/\t σ H1 λ xs H2=>r x xs H2 Q
variable {o e:Expr}{es:List Expr}{to:TE}{t:TA}{name:Str}{apos cpos:Pos}{T id:String}{r:V->List V->Hp->VK->Prop}
theorem zJ (pa:PlainAttrs T) (slot:Slot T name id) (hty:typeOf (.builtin id)=pure (.type "method_descriptor")) (hm:wE X id r) (ho:PE X o to)
  (hbase:attributeBase o name X.env (eval o X.env)=eval o X.env:=by rfl) (hline:(apos.endLine == cpos.line)=true:=by rfl):PE X (.Call (.Attribute o name apos) [] [] cpos) (AV X.K T r to):=by
 intro pins s σ H Q I h;refine wpAny_Call_method0_late hbase hline (cR (ho pins s σ H _ I h) λ v s1 ⟨x,H1,I1,r1,ty,q1⟩=>?_);obtain⟨h1,h2⟩:=tM I1 r1 ty;exact⟨T,id,pa,slot,hty,h1,h2,Calls.callWith_builtin rfl (PySem.evalArgs_none (hm pins s1 σ H1 x [] v [] Q I1 r1 .nil q1))⟩
theorem y8 (pa:PlainAttrs T) (slot:Slot T name id) (hty:typeOf (.builtin id)=pure (.type "method_descriptor")) (hm:wE X id r) (ho:PE X o to) (ha:PA X (e::es) t)
  (hbase:attributeBase o name X.env (eval o X.env)=eval o X.env:=by rfl)
  (hfew:((backTo cpos (starEach (e::es) X.env)).all (λ x=>!x.1) && (backToKw cpos (keywordEach [] X.env)).all (λ x=>x.1.isSome)
   && decide ((e::es).length+([]:List Keyword).length+(if ([]:List Keyword).isEmpty then 0 else 1) < 30))=true:=by rfl)
  (hline:(apos.endLine == cpos.line)=true:=by rfl) (hs:starEach (e::es) X.env=(false,eval e X.env)::starEach es X.env:=by rfl) (hplain:(backTo cpos (starEach es X.env)).any (·.1)=false:=by rfl) :
  PE X (.Call (.Attribute o name apos) (e::es) [] cpos) (tBM X.K T r to t):=by
 intro pins s σ H Q I h;refine wpAny_Call_method_late hbase hfew hline rfl (cR (ho pins s σ H _ I h) λ v s1 ⟨x,H1,I1,r1,ty,q1⟩=>?_);obtain⟨h1,h2⟩:=tM I1 r1 ty;refine⟨T,id,pa,slot,hty,h1,h2,?_⟩;have hA:=ha cpos pins s1 σ H1 _ I1 q1;rw[hs] at hA ⊢;refine Calls.callWith_builtin (by show (false || (backTo cpos (starEach es X.env)).any (·.1))=false;rw[hplain] <;> rfl) (Calls.evalArgs_plain ?_);exact cR hA λ us s2 ⟨vs,H2,I2,r2,q2⟩=>hm pins s2 σ H2 x vs v us Q I2 r1 r2 q2
end
def MtM (X:Cx) (id:String) (r:V->List V->Hp->VK->Prop):Prop:=
 ∀ (pins:List (Addr×Obj)) (s:Shared) (σ:St) (H:Hp) (x:V) (xs:List V) (v:Value) (us:List Value) (Q:VK),Inv X pins σ H s->aX x v->aZ xs us->r x xs H Q->
  wpAny (model X.prog X.w) X.A (call (.builtin id) (v::us)) (EP X pins σ Q) X.xe s
theorem aZ.one {x:V}{us:List Value} (h:aZ [x] us):∃ u,us=[u]/\aX x u:=iH h
theorem aZ.two:∀ {x y:V}{us:List Value},aZ [x,y] us->∃ u v,us=[u,v]/\aX x u/\aX y v
 | _,_,_,.cons r (.cons q .nil)=>⟨_,_,rfl,r,q⟩
theorem aZ.zero:∀ {us:List Value},aZ [] us->us=[]
 | _,.nil=>rfl
section
variable {X:Cx}{pins:List (Addr×Obj)}{σ:St}{H:Hp}{s:Shared}{l b:Addr}{xs ys zs:List V}
theorem Inv.lset {its its':List Value}{n:Nat}{f:Array Value->Array Value}{t':Nat} (I:Inv X pins σ H s) (hH:H l=some (.lst xs))
  (e:s.heap.get? l=some { cls:=.type "list",data:=.seq its.toArray n }) (hf:f its.toArray=its'.toArray) (hv:aZ ys its') (hz:ys.length<=sizeLine) :
  Inv X pins σ (upd H l (.lst ys)) { s with heap:=s.heap.update l (Obj.mapSeq f),toks:=t' }:=by
 have q:=PySem.IsL.update e f;rw[hf] at q;refine I.write (x:=l) (e:=l) (by rw[hH];exact trivial) (.inl rfl) (λ b' u hb hu=>(Heap.get?_update_other s.heap (Obj.mapSeq f) (Ne.symm hb)).trans hu) ⟨_,q⟩ ?_;exact⟨hz,its',_,hv,q⟩
theorem Inv.lnew {its:List Value}{t':Nat} (I:Inv X pins σ H s) (hv:aZ ys its) (hz:ys.length<=sizeLine) :
  Inv X pins σ (upd H s.heap.objs.size (.lst ys)) { s with heap:=s.heap.push { cls:=.type "list",data:=.seq its.toArray },toks:=t' }:=
 I.laid (λ _ _ q=>aaf _ q) (aae _) ⟨hz,its,0,hv,aap _ rfl⟩
theorem Inv.fresh (I:Inv X pins σ H s):H s.heap.objs.size=none:=I.hok.fresh (aae _)
theorem Inv.lstM (I:Inv X pins σ H s) (hH:H l=some (.lst xs)):xs.length<=sizeLine/\∃ (its:List Value) (n:Nat),aZ xs its/\xs.length=its.length/\s.heap.get? l=some { cls:=.type "list",data:=.seq its.toArray n }:=by
 obtain⟨z,its,n,r,e⟩:=I.hok l _ hH;exact⟨z,its,n,r,r.length,e⟩
end
section
variable {X:Cx}
def wO:V->List V->Hp->VK->Prop:=λ x vs H Q=>∃ l xs y,x=.ref l/\vs=[y]/\H l=some (.lst xs)/\xs.length < sizeLine/\Q .non (upd H l (.lst (xs++[y])))
theorem cF:MtM X "list.append" wO:=by
 intro pins s σ H x vs v us Q I rx rv h;obtain⟨l,xs,y,rfl,rfl,hH,hz,q⟩:=h;cases rx;obtain⟨u,rfl,ru⟩:=rv.one;obtain⟨z,its,n,r,hl,e⟩:=I.lstM hH;refine call_meets F.slot_list_append ⟨_,e,rfl⟩ F.entry_list_append (F.args_list_append_2 _ _) (PySem.list_append l its.toArray n u (by rw[aad];omega)) ⟨e,?_⟩;refine⟨.non,_,I.lset (its':=its++[u]) hH e (by simp) (r.append (.cons ru .nil)) ?_,rfl,q⟩;rw[aas,acd];omega
def rCat:R2:=λ x y H Q=>∃ l b xs zs,x=.ref l/\y=.ref b/\H l=some (.lst xs)/\H b=some (.lst zs)/\xs.length+zs.length<=sizeLine/\∀ p,H p=none->Q (.ref p) (upd H p (.lst (xs++zs)))
theorem uI:fM X (binaryOp .Add) rCat:=by
 intro pins s σ H x y v u Q I rx ry h;obtain⟨l,b,xs,zs,rfl,rfl,hH,hB,hz,q⟩:=h;cases rx;cases ry;obtain⟨z,its,n,r,hl,e⟩:=I.lstM hH;obtain⟨z2,its2,n2,r2,hl2,e2⟩:=I.lstM hB;refine PySem.P.add_list e e2 ?_ (by rw[aad,aad];omega);have ea:its.toArray++its2.toArray=(its++its2).toArray:=by simp
 rw[ea];exact⟨.ref _,_,I.lnew (t':=s.toks) (r.append r2) (by rw[aas];omega),rfl,q _ I.fresh⟩
end
section
variable {prog:Program}{A:Around}{E:Value->Shared->Prop}{s:Shared}
end
section
variable {X:Cx}
end
section
variable {bo:Type}[DecidableEq bo]
end
section
variable {H:Hp}{h:Heap}{a:Addr}
end
section
variable {X:Cx}{pins:List (Addr×Obj)}{σ:St}{H:Hp}{s:Shared}{a:Addr}{y v:V}{u r:Value}{o:Option V}{A:Around}{E:Value->Shared->Prop}
end
section
variable {X:Cx}{pins:List (Addr×Obj)}{σ:St}{H:Hp}{s:Shared}{a:Addr}{kvs:List (lR×V)}{k:lR}{u:Value}{A:Around}{E:Value->Shared->Prop}
end
section
variable {X:Cx}{o i e value:Expr}{pos pos' tpos:Pos}{td ty tv:TE}
end
section
variable {X:Cx}{pos:Pos}
end
section
variable {X:Cx}{pins:List (Addr×Obj)}{σ:St}{H:Hp}{s:Shared}{a:Addr}{y d:V}{u r:Value}{o:Option V}{A:Around}{E:Value->Shared->Prop}
end
section
variable {X:Cx}{o e f:Expr}{apos cpos:Pos}{td ty tx:TE}
end
section
variable {X:Cx}{pins:List (Addr×Obj)}{σ:St}{H:Hp}{s:Shared}{a:Addr}{kvs:List (lR×V)}{A:Around}{E:Value->Shared->Prop}
end
section
variable {X:Cx}{pins:List (Addr×Obj)}{σ:St}{H:Hp}{s:Shared}{a:Addr}{y:V}{u:Value}{A:Around}{E:Value->Shared->Prop}
end
end L2
namespace Att
open PySem PySem.W PySem.Calls PyProof.Rows
theorem jX {P:Params}{h:Heap}:∀ (ns:List Int) (vs:List Value),WellAll P h vs (ns.map WData.int)->IntsAre vs ns:=by
 intro ns
 induction ns with
 | nil=>
  intro vs w;rw[List.map_nil] at w;cases w;exact .nil
 | cons n ns ih=>
  intro vs w;rw[abg] at w;cases w with
  | cons a b=>
   cases a;exact .cons _ _ (ih _ b)
theorem sL {l:OpenLaw}{n:Nat} (hn:l.most=some n) {P:Params}{h:Heap}{args:List WData}{vals:List Value}
  (hpre:l.row.toRowW.claim.pre args=true) (hwl:WellAll P h vals args) :
  ∃ a vs ns,vals=[Value.ref a]/\args=[WData.list (ns.map WData.int)]/\h.get? a=some { cls:=.type "list",data:=.seq vs.toArray }/\IntsAre vs ns/\ns.length<=n:=by
 have hsh:WShape.hasAll [] args [.list .int]=true:=(pre_splitW hpre).1;have hc:l.pre.holds [] { args:=args }=true:=(pre_splitW hpre).2;obtain⟨d,r,rfl,h1,h2⟩:=hasAllW_cons hsh;obtain rfl:=hasAllW_nil h2;obtain⟨xs,rfl,h3⟩:=hasW_list h1;obtain⟨ns,rfl⟩:=items_int h3;have hlen:ns.length<=n:=by
  unfold OpenLaw.pre at hc;have h4:(WTm.not (.lt (.lit (.int (n:Int))) (.len (.arg 0)))).holds [] { args:=[.list (ns.map .int)] }=true:=by
   have h4:=(holds_andW hc).1;rw[hn] at h4;exact h4
  have h5:=condW_of h4 (w_not (w_lt w_lit (w_len_list (w_arg rfl))));rw[aab] at h5;refine Nat.le_of_not_lt λ q=>?_;have q':(n:Int) < ((ns.length:Nat):Int):=by omega
  first
   | (rw[abh q'] at h5;exact absurd h5 (by decide))
   | (simp at h5;omega)
 cases hwl with
 | cons w1 w2=>
  cases w2;cases w1 with
  | list ho hall=>exact⟨_,_,ns,rfl,rfl,ho,jX ns _ hall,hlen⟩
theorem sS (l:OpenLaw) (args:List WData):l.row.toRowW.claim.post args (.bool true) args=true:=
 postW_of (r:=l.row.toRowW) (X:=(true == true))
  (show WShape.has [] (.bool true) .bool=true by first | rfl | decide | simp [WShape.has,WShape.arms,WShape.armsAll])
  (show (WTm.eq .res (.lit (.bool true))).value [] { args:=args,res:=some (.bool true),after:=args }=some (.bool (true == true)) from w_eq_bool (w_res rfl) w_lit) rfl
theorem attach_call {l:OpenLaw}{n:Nat}{q:Program}{loose:List Str}{XP:(Str->Option Value)->Heap->Prop}{YP:World->Heap->Prop}{d:DefRec}
  (hn:l.most=some n) (hdf:d.params.defaults=[])
  (call:∀ (w:World) (s₀ ad:Shared) (mg mb:Str->Option Value) (fa:Addr) (o:Obj) (pm cd doc:Value) (a:Addr) (vs:List Value) (ns:List Int),
   Ground q loose [] XP w s₀ mg mb ad.heap->YP w ad.heap->
   ad.heap.get? fa=some o->o.data=.func (docDef d.name d.params d.body d.scope pm cd doc)->ad.heap.CodeRec cd d.name->mg d.name=some (.ref fa)->
   ad.heap.get? a=some { cls:=.type "list",data:=.seq vs.toArray }->IntsAre vs ns->ns.length<=n->ad.gens = #[]->
   codeAny (model l.prog w) callerA (.call (.ref fa) ⟨[.ref a],[]⟩) (λ r s'=>r=.ok (.ret (.bool true))/\OldK ad.heap s'.heap/\s'.os=ad.os/\AllBare s'.gens) ad) :
  WalkO q loose XP YP l.row.toRowW d [] (λ f vs=>PySem.call f vs):=by
 intro w s₀ ad mg mb G Y fa o pm cd doc dV kV ho hd hcd hD hmg hg args vals as hpre hlay hrd hwl hlo;obtain rfl:dV=.none:=Dflts.none hD hdf;obtain rfl:kV=.none:=Dflts.noKw hD;obtain⟨a,vs,ns,rfl,rfl,hobj,hints,hlen⟩:=sL hn hpre hwl;refine enter_call (codeAny_mono (call w s₀ ad mg mb fa o pm cd doc a vs ns G Y ho (fd_plain hd) hcd hmg hobj hints hlen hg) λ r s' hq=>?_);obtain⟨rfl,h2,h3,h4⟩:=hq;exact⟨.inl ⟨.bool true,.bool true,[],rfl,λ _=>rfl,.bool true,sS l _,λ _=>⟨List.Pairwise.nil,λ _ hm=>(nomatch hm)⟩⟩,h2,h3,h4⟩
section
variable {prog:Program}{A:Around}{E:Value->Shared->Prop}{s:Shared}{K:Frag}
end
end Att
namespace L2
open PySem PySem.Spec PyProof.Rows
theorem mB:∀ {vs:List Value}{ns:List Int},IntsAre vs ns->aZ (ns.map V.int) vs
 | _,_,.nil=>.nil
 | _,_,.cons n t h=>.cons ⟨t,rfl⟩ (mB h)
def AG (H:Hp):Prop:=∀ b,H b=none\/∃ o xs,H b=some (.frz o (.lst xs))
theorem uV {P:Program}{w:World}{K:aaa}{mg mb:Str->Option Value}{CX:tK}{k:Nat}{fa a:Addr}{fd:FuncData}{x:Str}{sp:Sp}{ad:Shared}{vs:List Value}{ns:List Int}
  (KX:K.In ad.heap) (hns:ad.heap.Ns mainGlobals mg) (hb:ad.heap.Ns builtinsNs mb) (hbb:∀ x:Str,x ≠ "__name__" -> mb x=bootBuiltins x) (hlim:ad.heap.NoLimit) (hg:ad.gens = #[])
  (ha:ad.heap.get? a=some { cls:=.type "list",data:=.seq vs.toArray }) (hi:IntsAre vs ns) (hl:ns.length<=sizeLine) (hr:Room k callerA)
  (F:∀ base:Heap,K.In base->base.Ns mainGlobals mg->FnOk P w K mg base CX k fa fd [x] sp) (hbind:∀ (s:Shared) (u:Value),BindsTo s fd ⟨[u],[]⟩ [(x,u)])
  (hsp:∀ H:Hp,AG H->bV K H a (ns.map V.int)->sp [.ref a] H (λ v _=>v=.bl true) λ _ _ _=>False)
  (hCX:∀ H e s',CX [] H ad (λ _ _ _=>False) e s'->False) :
  codeAny (model P w) callerA (.call (.ref fa) ⟨[.ref a],[]⟩) (λ r s'=>r=.ok (.ret (.bool true))/\OldK ad.heap s'.heap/\s'.os=ad.os/\AllBare s'.gens) ad:=by
 have rv:=mB hi;have lenV:=hi.length;have core:∀ H:Hp,AG H->bV K H a (ns.map V.int)->jY P w H ad.heap->(∀ b,H b≠none->b=a)->(H a≠none->K.lookup a=none)->
   codeAny (model P w) callerA (.call (.ref fa) ⟨[.ref a],[]⟩) (λ r s'=>r=.ok (.ret (.bool true))/\OldK ad.heap s'.heap/\s'.os=ad.os/\AllBare s'.gens) ad:=by
  intro H hO hS hok hA hK;have base_of:∀ {b:Addr}{o:Obj},ad.heap.get? b=some o->H b=none->(oC ad.heap H).get? b=some o:=λ e n=>vK e n;have noA:∀ {b:Addr}{o:Obj}{es:Array DictEntry}{ep:Nat},ad.heap.get? b=some o->o.data=.dict es ep->H b=none:=λ {b o es ep} e d=>by
   cases q:H b with
   | none=>rfl
   | some u=>
    have e':b=a:=hA b (by rw[q];simp);subst e';rw[ha] at e;cases e;have d':Data.seq vs.toArray _=Data.dict es ep:=d;cases d'
  have nsK:∀ {b:Addr}{m:Str->Option Value},ad.heap.Ns b m->(oC ad.heap H).Ns b m:=λ {b m} ⟨o,es,ep,e,d,r⟩=>⟨o,es,ep,base_of e (noA e d),d,r⟩;have hKb:K.In (oC ad.heap H):=λ b o e=>base_of (KX b o e) (by
   cases q:H b with
   | none=>rfl
   | some u=>
    have e':b=a:=hA b (by rw[q];simp);subst e';rw[hK (by rw[q];simp)] at e;cases e)
  have hM:Mod K mg (oC ad.heap H):=⟨hKb,nsK hns,⟨mb,nsK hb,hbb⟩,let ⟨mc,h1,h2⟩:=hlim;⟨mc,nsK h1,h2⟩⟩;have e0:Env0 P w K mg (oC ad.heap H) callerA [] ad H:=⟨rfl,hM,λ b o e=>x0 e,Nat.le_of_eq (sZ _ _),trivial,λ b hb=>absurd (show b∈([]:List Addr) from hb) (by simp),hok,.of_eq hg⟩;refine codeAny_mono ((F _ hKb (nsK hns)).run callerA [] ad H ⟨[.ref a],[]⟩ [.ref a] [.ref a] _ _ hr e0 (hbind ad (.ref a)) (.cons rfl .nil) (hsp H hO hS)) λ r s' h=>?_;cases r with
  | error e=>exact (hCX H e s' h).elim
  | ok fl=>
   cases fl with
   | next=>exact False.elim h
   | brk=>exact False.elim h
   | cont=>exact False.elim h
   | ret u=>
    obtain⟨v,H',os,bare,un,hok',r',q⟩:=h;have q':v=.bl true:=q;subst q';obtain rfl:u=Value.bool true:=r';refine⟨rfl,OldK.of_keep λ b o e=>?_,os,bare⟩;cases q:H b with
    | none=>exact un.keep b o e q (by intro z;exact absurd (show b∈([]:List Addr) from z) (by simp)) (by simp)
    | some u=>
     rcases hO b with z | ⟨ob,xs,z⟩
     ·rw[q] at z;cases z
     ·have z2:=un.frzs b ob _ z;obtain⟨e1,_⟩:=hok b _ z;obtain⟨e2,_⟩:=hok' b _ z2;rw[e] at e1;cases e1;exact e2
 cases hk:K.lookup a with
 | some o=>
  have e:=KX a o hk;rw[ha] at e;cases e;refine core (λ _=>none) (λ _=>.inl rfl) (.inr ⟨_,vs.toArray,_,hk,rfl,rfl,rfl,by rw[aad,lenV];exact hl,by simpa using rv⟩) (λ b u z=>by have z':(none:Option HO)=some u:=z;cases z') (λ b z=>absurd rfl z) λ z=>absurd rfl z
 | none=>
  refine core (λ b=>if b=a then some (.frz { cls:=.type "list",data:=.seq vs.toArray } (.lst (ns.map V.int))) else none) (λ b=>?_) (.inl (.inr ⟨{ cls:=.type "list",data:=.seq vs.toArray },if_pos rfl⟩)) (λ b u z=>?_) (λ b z=>?_) λ _=>hk
  ·by_cases hb:b=a
   ·exact .inr ⟨_,_,if_pos hb⟩
   ·exact .inl (if_neg hb)
  ·by_cases hb:b=a
   ·have z':=(if_pos hb).symm.trans z;cases z';subst hb;exact⟨ha,by rw[aab];exact hl,vs,_,rv,ha⟩
   ·have z':=(if_neg hb).symm.trans z;cases z'
  ·by_cases hb:b=a
   ·exact hb
   ·exact absurd (if_neg hb) z
theorem walk_of {l:PySem.W.OpenLaw}{n k:Nat}{q:Program}{loose:List Str}{XP:(Str->Option Value)->Heap->Prop}{YP:World->Heap->Prop}{d:DefRec}{K:Params->aaa}{CX:World->tK}{sp:World->Sp}{x:Str}
  (hn:l.most=some n) (hn2:n<=sizeLine) (hdf:d.params.defaults=[]) (hr:Room k callerA)
  (hY:∀ (w:World) (h:Heap),YP w h->(K w.params).In h)
  (F:∀ (w:World) (mg:Str->Option Value) (fa:Addr) (h:Heap),(K w.params).In h->h.Ns mainGlobals mg->mg d.name=some (.ref fa)->
   ∃ fd:FuncData,(∀ (s:Shared) (u:Value),BindsTo s fd ⟨[u],[]⟩ [(x,u)])/\
    ∀ base:Heap,(K w.params).In base->base.Ns mainGlobals mg->FnOk l.prog w (K w.params) mg base (CX w) k fa fd [x] (sp w))
  (hsp:∀ (w:World) (H:Hp) (a:Addr) (ns:List Int),ns.length<=n->AG H->bV (K w.params) H a (ns.map V.int)->sp w [.ref a] H (λ v _=>v=.bl true) λ _ _ _=>False)
  (hCX:∀ (w:World) (H:Hp) (s:Shared) (e:Value) (s':Shared),CX w [] H s (λ _ _ _=>False) e s'->False) :
  PySem.W.WalkO q loose XP YP l.row.toRowW d [] (λ f vs=>PySem.call f vs):=by
 refine Att.attach_call hn hdf λ w s₀ ad mg mb fa o pm cd doc a vs ns G Y ho hd hcd hmg hobj hints hlen hg=>?_;have KX:=hY w _ Y;obtain⟨fd,hb,hF⟩:=F w mg fa _ KX G.T.g hmg;exact uV KX G.T.g G.T.b G.T.builtins G.T.nolimit hg hobj hints (abn hlen hn2) hr hF hb (λ H hO hS=>hsp w H a ns hlen hO hS) λ H e s'=>hCX w H ad e s'
def gT (s:Stmt):Arguments:=match s with
 | .FunctionDef _ a _ _ _ _ _ _ _ _=>a
 | _=>{ posonlyargs:=[],args:=[],vararg:=none,kwonlyargs:=[],kw_defaults:=[],kwarg:=none,defaults:=[] }
def eM (s:Stmt):List Stmt:=match s with
 | .FunctionDef _ _ b _ _ _ _ _ _ _=>b
 | _=>[]
def aI (s:Stmt):Scope:=match s with
 | .FunctionDef _ _ _ _ _ _ sc _ _ _=>sc
 | _=>{ kind:=.function,names:=[],isGenerator:=false,isCoroutine:=false }
abbrev iE:tK:=λ _ _ _ _ _ _=>False
abbrev E0:XK:=λ _ _ _=>False
theorem BE {X:Cx}:lQ iE X E0:=λ _ _ _ _ _ _ _ h=>h.elim
structure Fun (K:aaa) (x qual:Str) (st:Stmt) (f:Addr) (fd:FuncData):Prop where
 ex:∃ (oc:Value) (od:Option Addr) (kV doc pm:Value) (an:Option Addr) (cdv ct:Value) (osl:Array (Option Value)),
  fd=PySem.W.fnOf x qual (gT st) (eM st) (aI st) .none kV doc pm an cdv ct/\K.lookup f=some ⟨oc,od,.func fd,osl⟩/\PySem.W.codeIn K cdv qual=true
 kp:PySem.W.keepIn K (.ref f)=true
theorem Fun.ok {x qual:Str}{st:Stmt}{f:Addr}{fd:FuncData}{N ps:List Str}{k:Nat}{sp:Sp} (F:Fun K x qual st f fd) (S:FnScope N ps (aI st)) (len:∀ vs H Q E,sp vs H Q E->vs.length=ps.length)
  (hbody:∀ (cdv:Value) (A:Around) (outer:List Env) (s:Shared) (H:Hp) (vs:List V) (Q:VK) (E:XK),Room k (A.deeper (envOfC qual (aI st) s.heap.objs.size f cdv))->sp vs H Q E->
   ∃ t,tJ (pO iE P w K mg base N qual (aI st) f cdv A outer s H E).nox (eM st) t/\t { nx:=λ _ H'=>Q .non H',rt:=Q } (iM N vs) H):FnOk P w K mg base iE (k+1) f fd ps sp:=by
 obtain⟨oc,od,kV,doc,pm,an,cdv,ct,osl,rfl,lk,hcd⟩:=F.ex;refine yE lk hcd S len λ A outer s H vs Q E hr hsp=>?_;obtain⟨t,h,q⟩:=hbody cdv A outer s H vs Q E hr hsp;exact⟨t,h.nox,q⟩
theorem Fun.binds {x qual:Str}{st:Stmt}{f:Addr}{fd:FuncData}{ps:List Str} (F:Fun K x qual st f fd)
  (h:∀ (kV doc pm:Value) (an:Option Addr) (cdv ct:Value) (us:List Value),us.length=ps.length->bindArgs (PySem.W.fnOf x qual (gT st) (eM st) (aI st) .none kV doc pm an cdv ct) ⟨us,[]⟩=pure (ps.zip us)):lS K fd ps []:=by
 obtain⟨oc,od,kV,doc,pm,an,cdv,ct,osl,rfl,lk,hcd⟩:=F.ex;exact .all (h kV doc pm an cdv ct)
theorem bE {x qual:Str}{st:Stmt}{f:Addr}{oc:Value}{od an:Option Addr}{osl:Array (Option Value)}{kV doc pm cdv ct:Value} (l:K.lookup f=some ⟨oc,od,.func (PySem.W.fnOf x qual (gT st) (eM st) (aI st) .none kV doc pm an cdv ct),osl⟩)
  (c:PySem.W.codeIn K cdv qual=true) (k:PySem.W.keepIn K (.ref f)=true):Fun K x qual st f (PySem.W.fnOf x qual (gT st) (eM st) (aI st) .none kV doc pm an cdv ct):=⟨⟨oc,od,kV,doc,pm,an,cdv,ct,osl,rfl,l,c⟩,k⟩
theorem bF {n:Nat} (h:n<=1000):n < sizeLine:=Nat.lt_of_le_of_lt h (by decide)
section
variable {X:Cx}
theorem pv (i:Nat) {x:Str}{pos:Pos} (hN:X.N[i]? = some x:=by rfl) (hv:Vis X.env.scope x:=by first | exact Or.inl rfl | exact Or.inr (Or.inl rfl) | exact Or.inr (Or.inr rfl)) (hd:(x == ("__debug__" : Str))=false:=by decide)
  (hcd:(x == ("__classdict__" : Str))=false:=by decide):PE X (.Name x pos) (bW i):=zH hN hv hd hcd
end
theorem bK {A B:Prop} (h:B):if false=true then A else B:=by
 rw[if_neg aaj];exact h
theorem cS {A B:Prop} (h:A):if true=true then A else B:=by
 rw[if_pos rfl];exact h
theorem dS {c A B:Prop} [Decidable c] (h1:c->A) (h2:¬ c->B):if c then A else B:=by
 by_cases h:c
 ·rw[if_pos h];exact h1 h
 ·rw[if_neg h];exact h2 h
theorem rR {c A B:Prop} [Decidable c] (hc:c) (h:B):if (!decide c)=true then A else B:=by
 rw[abh hc];exact bK h
def aH (H H':Hp):Prop:=∀ b o,H b=some o->H' b=some o
theorem aH.refl (H:Hp):aH H H:=λ _ _ h=>h
theorem aH.trans {H H1 H2:Hp} (a:aH H H1) (b:aH H1 H2):aH H H2:=λ c o h=>b c o (a c o h)
theorem aH.free {H H':Hp} (e:aH H H') {l:Addr} (h:H' l=Option.none):H l=Option.none:=by
 cases q:H l with
 | none=>rfl
 | some o=>
  rw[e l o q] at h;cases h
end L2
set_option maxHeartbeats 4000000
namespace L2
open PySem PySem.Spec PyProof.Rows
theorem dQ {env:Env} (hk:env.scope.kind=.function):∀ {names:List (Str×NameKind)}{x:Str},names.lookup x=some .free->env.kindOf x=some .cell->
  (names.map λ (n,k)=>if (k == NameKind.free && env.scope.kind == .function && env.kindOf n == some .cell) then (n,NameKind.cell) else (n,k)).lookup x=some .cell
 | [],_,h,_=>by simp at h
 | (n,k)::r,x,h,hc=>by
  have ih:=@dQ env hk r x;show List.lookup x ((if (k == NameKind.free && env.scope.kind == .function && env.kindOf n == some .cell)=true then (n,NameKind.cell) else (n,k))::_)=_;cases hx:x == n with
  | true=>
   simp only [List.lookup_cons,hx] at h;cases h;have e:x=n:=by simpa using hx
   subst e;rw[if_pos (by rw[hk,hc];decide)];simp [List.lookup_cons]
  | false=>
   simp only [List.lookup_cons,hx] at h
   by_cases hq:(k == NameKind.free && env.scope.kind == .function && env.kindOf n == some .cell)=true
   ·rw[if_pos hq];simp only [List.lookup_cons,hx];exact ih h hc
   ·rw[if_neg hq];simp only [List.lookup_cons,hx];exact ih h hc
def wB (env:Env):List (Str×Addr)->Prop
 | []=>True
 | p::r=>env.cells.lookup p.1=some p.2/\wB env r
theorem wB.get {env:Env}:∀ {cl:List (Str×Addr)},wB env cl->∀ x c,cl.lookup x=some c->env.cells.lookup x=some c
 | [],_,_,_,e=>by simp at e
 | (n,a)::r,h,x,c,e=>by
  cases hx:x == n with
  | true=>
   simp only [List.lookup_cons,hx] at e;cases e;have e':x=n:=by simpa using hx
   subst e';exact h.1
  | false=>
   simp only [List.lookup_cons,hx] at e;exact wB.get h.2 x c e
def pT (X:Cx) (scope:Scope) (N':List Str):List (Option Nat)->Nat->Prop
 | [],_=>True
 | none::r,i=>pT X scope N' r (i+1)
 | some j::r,i=>(∃ x,N'[i]? = some x/\X.N[j]? = some x/\scope.names.lookup x=some .free/\X.env.kindOf x=some .cell)/\pT X scope N' r (i+1)
theorem pT.get {X:Cx}{scope:Scope}{N':List Str}:∀ {fr:List (Option Nat)}{k:Nat},pT X scope N' fr k->∀ i j,fr[i]? = some (some j)->
  ∃ x,N'[k+i]? = some x/\X.N[j]? = some x/\scope.names.lookup x=some .free/\X.env.kindOf x=some .cell
 | [],_,_,i,j,e=>by simp at e
 | none::r,k,h,0,j,e=>by simp at e
 | some _::r,k,h,0,j,e=>by simp at e;subst e;exact h.1
 | none::r,k,h,i+1,j,e=>by
  have:=pT.get (k:=k+1) (show pT X scope N' r (k+1) from h) i j (by simpa using e)
  rwa [Nat.add_right_comm] at this
 | some _::r,k,h,i+1,j,e=>by
  have:=pT.get (k:=k+1) h.2 i j (by simpa using e)
  rwa [Nat.add_right_comm] at this
structure LcOk (X:Cx) (scope:Scope) (cl:List (Str×Addr)) (N':List Str) (fr:List (Option Nat)):Prop where
 clos:closureFor scope X.env=pure cl
 cls:wB X.env cl
 kind:scope.kind=.function
 nocell:(scope.names.all λ p=>p.2 != NameKind.cell)=true
 locs:(scope.names.all λ p=>p.2 != NameKind.local || scope.names.lookup p.1 == some NameKind.local)=true
 frees:(scope.names.all λ p=>p.2 != NameKind.free || (cl.lookup p.1).isSome)=true
 len:fr.length=N'.length
 fr:pT X scope N' fr 0
def wC (fr:List (Option Nat)) (σ:St):St:=fr.map λ o=>o.bind λ j=>(σ[j]?).join
def oO (X:Cx) (N':List Str) (scope:Scope) (cl:List (Str×Addr)) (fp:List Addr) (s:Shared) (H:Hp):Cx:=
 { X with N:=N',s₀:=s,H₀:=H,env:=compEnvC scope cl s.heap.objs.size X.env,outer:=X.stack,ex:=fp,fn:=λ _=>false,pn:=[] }
def PIf (X:Cx) (ifs:List Expr) (t:TT):Prop:=
 ∀ (pins:List (Addr×Obj)) (s:Shared) (σ:St) (H:Hp) (Q:Bool->Hp->Prop),Inv X pins σ H s->t σ H Q->
  wpAny (model X.prog X.w) X.A (forIn ifs true λ c r=>if r=true then do let ok <- isTrue c X.env (eval c X.env);pure (ForInStep.yield ok) else pure (ForInStep.yield r)) (TP X pins σ Q) X.xe s
def tQ:TT:=λ _ H Q=>Q true H
theorem dA {X:Cx}:PIf X [] tQ:=λ _ _ _ H _ I h=>wpAny_tests_nil ⟨H,I,h⟩
def jJ (J:It) (g:TG) (tc:TT) (te:TE) (fr:List (Option Nat)) (σ:St) (H1:Hp) (Q:Addr->Hp->Prop):Prop:=
 ∀ D,H1 D=none->∃ W:Nat->Nat->List V->St->Hp->Prop,(∃ m,W 0 m [] (wC fr σ) (upd H1 D (.lst [])))/\
  ∀ i m ys Z H',W i m ys Z H'->(J.stop i H'/\Q D H')\/
   (J.go i H'/\∃ N:List V->St->Hp->Prop,(∀ ys' cf H'',N ys' cf H''->∃ m',m' < m/\W (i+1) m' ys' cf H'')/\
    ∀ x H2,J.yld i H' x H2->g x Z H2 λ af H3=>tc af H3 λ b H4=>
    if b=true then te af H4 λ y H5=>H5 D=some (.lst ys)/\ys.length < sizeLine/\N (ys++[y]) af (upd H5 D (.lst (ys++[y])))
    else N ys af H4)
theorem uU {J:It}{n:Nat}{g:TG}{tc:TT}{te:TE}{fr:List (Option Nat)}{σ:St}{H1:Hp}{Q:Addr->Hp->Prop} (Pv:Addr->Nat->List V->St->Hp->Prop)
  (h0:∀ D,H1 D=none->Pv D 0 [] (wC fr σ) (upd H1 D (.lst [])))
  (hstop:∀ D ys Z H',Pv D n ys Z H'->J.stop n H'/\Q D H')
  (hgo:∀ D i ys Z H',i < n->Pv D i ys Z H'->J.go i H'/\∀ x H2,J.yld i H' x H2->g x Z H2 λ af H3=>tc af H3 λ b H4=>
    if b=true then te af H4 λ y H5=>H5 D=some (.lst ys)/\ys.length < sizeLine/\Pv D (i+1) (ys++[y]) af (upd H5 D (.lst (ys++[y])))
    else Pv D (i+1) ys af H4):jJ J g tc te fr σ H1 Q:=by
 intro D hD;refine⟨λ i m ys σ H=>m=n - i/\i<=n/\Pv D i ys σ H,⟨n,by simp,abi _,h0 D hD⟩,?_⟩;rintro i m ys Z H' ⟨rfl,hi,p⟩
 by_cases hlt:i < n
 ·obtain⟨go,step⟩:=hgo D i ys Z H' hlt p;exact .inr ⟨go,Pv D (i+1),λ ys' cf H'' p'=>⟨n - (i+1),by omega,rfl,hlt,p'⟩,step⟩
 ·have e:i=n:=by omega
  subst e;exact .inl (hstop D ys Z H' p)
theorem xR {J:It}{n:Nat}{g:TG}{tb:TS}{D:Ends}{σ:St}{H:Hp} (Pv:Nat->St->Hp->Prop) (h0:Pv 0 σ H) (hstop:∀ σ H,Pv n σ H->J.stop n H/\D.nx σ H)
  (hgo:∀ i σ H,i < n->Pv i σ H->J.go i H/\∀ x H',J.yld i H x H'->g x σ H' λ ak H2=>tb { D with nx:=Pv (i+1),ct:=Pv (i+1),bk:=D.nx } ak H2) :
  ∃ W:Nat->Nat->St->Hp->Prop,(∃ m,W 0 m σ H)/\∀ i m σ H,W i m σ H->
   (J.stop i H/\D.nx σ H)\/(J.go i H/\∃ N:St->Hp->Prop,(∀ Z H',N Z H'->∃ m',m' < m/\W (i+1) m' Z H')/\∀ x H',J.yld i H x H'->g x σ H' λ ak H2=>tb { D with nx:=N,ct:=N,bk:=D.nx } ak H2):=by
 refine⟨λ i m σ H=>m=n - i/\i<=n/\Pv i σ H,⟨n,by simp,abi _,h0⟩,?_⟩;rintro i m σ H ⟨rfl,hi,p⟩
 by_cases hlt:i < n
 ·obtain⟨go,step⟩:=hgo i σ H hlt p;exact .inr ⟨go,Pv (i+1),λ Z H' p'=>⟨n - (i+1),by omega,rfl,hlt,p'⟩,step⟩
 ·have e:i=n:=by omega
  subst e;exact .inl (hstop σ H p)
def tLC (wi:TI) (fr:List (Option Nat)) (g:TG) (tc:TT) (te:TE):TE:=λ σ H Q=>wi σ H λ J H1=>jJ J g tc te fr σ H1 λ D H'=>Q (.ref D) H'
section
variable {prog:Program}{A:Around}{R:Result->Shared->Prop}{s:Shared}
theorem oF {elt target iter:Expr}{ifs:List Expr}{scope:Scope}{pos:Pos}{it acc:Value}{env:Env} (I:Nat->Shared->Prop)
  (turn:∀ n s,I n s->wpAny (model prog w) A (pyNext it) (λ r ad=>match r with
   | none=>R (.ok .next) ad
   | some v=>wpAny (model prog w) A (letOwnedTupleGo target it v) (λ _ ci=>wpAny (model prog w) A (assign target env v) (λ _ be=>
     wpAny (model prog w) A (forIn ifs true λ c r=>if r=true then do let ok <- isTrue c env (eval c env);pure (ForInStep.yield ok) else pure (ForInStep.yield r)) (λ ok bf=>
      if ok=true then wpAny (model prog w) A (eval elt env) (λ x bp=>
       wpAny (model prog w) A (call (.builtin "list.append") [acc,x]) (λ _ cu=>∃ m,m < n/\I m cu) (notedBy (model prog w) A env λ e s'=>R (.error e) s') bp) (notedBy (model prog w) A env λ e s'=>R (.error e) s') bf
      else ∃ m,m < n/\I m bf) (notedBy (model prog w) A env λ e s'=>R (.error e) s') be) (notedBy (model prog w) A env λ e s'=>R (.error e) s') ci) (notedBy (model prog w) A env λ e s'=>R (.error e) s') ad)
    (notedBy (model prog w) A env λ e s'=>R (.error e) s') s)
  (n:Nat) (h:I n s) :
  codeAny (model prog w) A (.compLoop (.ListComp elt [⟨target,iter,ifs,0⟩] scope pos) 0 it acc env) R s:=by
 refine codeAny_loop rfl I (λ n s hI=>?_) n h;show wpAny _ A ((compTurn (.ListComp elt [⟨target,iter,ifs,0⟩] scope pos) 0 it acc env).onRaise (λ x=>do noteFrame x env;theTreesLotGoes x)) _ _ s;refine wpAny_noted ?_;rw[compTurn_list];refine aac (wpAny_standAt (aac (abp (turn n s hI) (λ r ad ag=>?_) λ _ _ h'=>h')));cases r with
 | none=>exact aau ag
 | some v=>
  refine aac (abp ag (λ _ ci h₁'=>?_) λ _ _ h'=>h');refine aac (abp h₁' (λ _ be au=>aac (abp au (λ ok bf ai=>?_) λ _ _ h'=>h')) λ _ _ h'=>h');cases ok with
  | false=>exact aau ⟨rfl,ai⟩
  | true=>
   exact aac (aac (abp ai (λ x bp bg=>aac (abp bg (λ _ cu ap=>aau (aau ⟨rfl,ap⟩)) λ _ _ h'=>h')) λ _ _ h'=>h'))
end
section
variable {X:Cx}
theorem LcOk.invC {scope:Scope}{cl:List (Str×Addr)}{N':List Str}{fr:List (Option Nat)}{pins:List (Addr×Obj)}{σ:St}{H:Hp}{s:Shared}{h1:Heap}{fp:List Addr}{m1:Str->Option Value}{tk:Nat}
  (S:LcOk X scope cl N' fr) (I:Inv X pins σ H s) (hf:∀ b∈fp,iD X pins H b) (hfo:∀ b∈fp,b < s.heap.objs.size)
  (k:∀ b o,s.heap.get? b=some o->h1.get? b=some o) (hn:h1.Ns s.heap.objs.size m1):Inv (oO X N' scope cl fp s H) [] (wC fr σ) H { s with heap:=h1,toks:=tk }:=by
 have hfree:=S.frees;have hcell:=S.nocell;rw[abo] at hfree hcell;have fresh:H s.heap.objs.size=none:=I.hok.fresh (aae _);have clg:=S.cls.get;refine⟨⟨I.ok.mod,S.kind,I.ok.glob,I.ok.blt,aae _,λ x y c e1 e2=>I.ok.inj x y c (clg x c e1) (clg y c e2),λ x hx=>?_,(λ x c e=>nomatch e),I.ok.hd,I.ok.frames,.inl rfl,λ b hb=>⟨abc (hfo b hb),λ x c e=>(hf b hb).2.2.2.2.1 x c (clg x c e)⟩,
  I.bs,abn I.ok.bsz I.sz,λ b o e hb=>?_,λ b hb hz=>?_,I.stack,I.stkFree⟩,rfl,I.bare,Un.kept k,⟨m1,hn,λ i x v e1 e2 e3=>?_⟩,λ x c e=>?_,fresh,λ x c e=>I.freeC x c (clg x c e),λ p hp=>absurd (show p∈([]:List (Addr×Obj)) from hp) (by simp),I.hok.kept k,?_⟩
 ·
  have hm:∃ k',(x,k')∈scope.names/\k'=NameKind.free:=by
   have hx':(relabel scope X.env).names.lookup x=some .cell\/(relabel scope X.env).names.lookup x=some .free:=hx;obtain⟨k',e,hk'⟩:∃ k',(relabel scope X.env).names.lookup x=some k'/\(k'=.cell\/k'=.free):=by
    rcases hx' with e | e
    ·exact⟨_,e,.inl rfl⟩
    ·exact⟨_,e,.inr rfl⟩
   have hmem:=abq e;obtain⟨⟨n,kn⟩,hp,he⟩:=aat.mp hmem;dsimp only at he
   split at he
   ·rename_i hc
    cases he;have:kn=.free:=by
     simp only [Bool.and_eq_true,beq_iff_eq] at hc;exact hc.1.1
    exact⟨kn,hp,this⟩
   ·cases he;rcases hk' with e' | e'
    ·subst e';have:=hcell _ hp;simp at this
    ·exact⟨_,hp,e'⟩
  obtain⟨k',hp,rfl⟩:=hm;have:=hfree _ hp;simp only [bne_self_eq_false,Bool.false_or] at this;exact Option.isSome_iff_exists.mp this
 ·rcases (hf b hb).2.2.2.1 with z | z
  ·exact I.ok.noex b o e z
  ·have:=aai e;exact absurd (aam this (abn I.ok.bsz z)) (abu _)
 ·obtain⟨_,f1,f2,_⟩:=hf b hb;rcases aaq.mp (I.stkSub b hz) with e | e
  ·exact f1 e
  ·exact f2 e
 ·
  unfold wC at e2;rw[aaw] at e2;cases ef:fr[i]? with
  | none=>rw[ef] at e2;cases e2
  | some o=>
   rw[ef] at e2;cases o with
   | none=>simp at e2
   | some j=>
    have e2':(σ[j]?).join=some v:=by simpa using e2
    obtain⟨x',h1',h2',h3',h4'⟩:=S.fr.get i j ef;rw[Nat.zero_add] at h1';have ex:x'=x:=by
     have:N'[i]? = some x:=e1;rw[h1'] at this;exact abe this
    subst ex;have e2'':σ[j]? = some (some v):=by
     cases q:σ[j]? with
     | none=>rw[q] at e2';cases e2'
     | some z=>rw[q] at e2';simp at e2';rw[e2']
    obtain⟨m,hm,hl⟩:=I.loc;obtain⟨u,r,lk⟩:=hl j x' v h2' e2'' (.inr (.inl h4'));refine⟨u,r,?_⟩;rcases lk with ⟨q,_⟩ | ⟨_,c,hc,z⟩
    ·rw[h4'] at q;cases q
    ·have hcl:∃ c',cl.lookup x'=some c':=by
      have:=hfree _ (abq h3');simp only [bne_self_eq_false,Bool.false_or] at this;exact Option.isSome_iff_exists.mp this
     obtain⟨c',hc'⟩:=hcl;have e':=clg x' c' hc';rw[hc] at e';cases e';obtain⟨oc,hoc,hd⟩:=z;refine .inr ⟨.inl ?_,c,hc',oc,k c oc hoc,hd⟩;exact dQ I.ok.kind h3' h4'
 ·obtain⟨v,oc,hoc,hd⟩:=I.cell x c (clg x c e);exact⟨v,oc,k c oc hoc,hd⟩
 ·show (wC fr σ).length=N'.length;unfold wC;rw[aab,S.len]
theorem Inv.outC {scope:Scope}{cl:List (Str×Addr)}{N':List Str}{pins pins':List (Addr×Obj)}{σ Z:St}{H H':Hp}{s s':Shared}{fp:List Addr} (I:Inv X pins σ H s) (J:Inv (oO X N' scope cl fp s H) pins' Z H' s')
  (hf:∀ b∈fp,iD X pins H b):Inv X pins σ H' s':=
 I.call' (ch:=fp) J.os J.base J.hok J.bare λ b hb=>by
  obtain⟨_,f1,_,f3,f4,f5⟩:=hf b hb;exact⟨f3,f1,f4,f5⟩
theorem Inv.letgo {pins:List (Addr×Obj)}{σ:St}{H:Hp}{s:Shared}{C:Addr}{h':Heap} (I:Inv X pins σ H s) (f:iD X pins H C) (hsb:Heap.SameBut C s.heap h'):Inv X pins σ H { s with heap:=h' }:=by
 obtain⟨f0,f1,f2,f3,f4,f5⟩:=f;exact I.turned (t':=s.toks) (it:=C) (h':=h') (λ b o hb e=>(hsb.2 b hb).trans e) f0 f1 f3 f4 f5
theorem pE {elt tg iter:Expr}{ifs:List Expr}{scope:Scope}{pos:Pos}{N':List Str}{fr:List (Option Nat)}{cl:List (Str×Addr)}{g:TG}{tc:TT}{te:TE}
  {pins:List (Addr×Obj)}{σ:St}{H:Hp}{s:Shared}{J:It}{fp:List Addr}{it:Addr}{tn:Nat->Heap->Prop}{Q:Addr->Hp->Prop}{RR:Value->Addr->Result->Shared->Prop}{E:Value->Shared->Prop}
  (hx:∀ e s,¬ X.xe e s) (hc:X.calm=true) (S:LcOk X scope cl N' fr)
  (hg:∀ fp s H,PG (oO X N' scope cl fp s H) tg g) (ht:∀ fp s H,PIf (oO X N' scope cl fp s H) ifs tc) (he:∀ fp s H,PE (oO X N' scope cl fp s H) elt te)
  (I:Inv X pins σ H s) (T:Turn X.prog X.w X.K tg J fp it tn) (st:tn 0 s.heap) (hf:∀ b∈fp,iD X pins H b) (h:jJ J g tc te fr σ H Q)
  (hRR:∀ D C H' s' m',Inv X pins σ H' s'->Q D H'->s'.heap.Ns C m'->iD X pins H' C->RR (.ref D) C (.ok .next) s') :
  wpAny (model X.prog X.w) X.A (newList []) (λ acc bf=>wpAny (model X.prog X.w) X.A (newFunctionEnv scope X.env.globals cl [] X.env.qual none .none (some X.env)) (λ cenv bp=>
   codeAny (model X.prog X.w) X.A (.compStart (.ListComp elt [⟨tg,iter,ifs,0⟩] scope pos) 0 (.ref it) acc { cenv with scope:=relabel scope X.env }) (RR acc cenv.locals) bp) E bf) E s:=by
 have hcell:=S.nocell;rw[abo] at hcell;refine wpAny_newObj_type (wpAny_newFunctionEnv (λ x hx'=>by simpa using hcell x hx') (by intro y hy;simp at hy) (λ ag bi bj=>?_) S.kind);dsimp only at bi bj ⊢;have fresh:H s.heap.objs.size=none:=I.hok.fresh (aae _);have I3:Inv X pins σ (upd H s.heap.objs.size (.lst [])) { s with heap:=s.heap.push { cls:=.type "list",data:=.seq ([]:List Value).toArray },toks:=s.toks }:=I.lnew (ys:=[]) (its:=[]) .nil (abi _);have hf3:∀ b∈fp,iD X pins (upd H s.heap.objs.size (.lst [])) b:=λ b hb=>by
  obtain⟨o,ho,_⟩:=T.obj _ _ st b hb;exact⟨by rw[aP (abc (aai ho))];exact (hf b hb).1,(hf b hb).2⟩
 generalize hs3:({ s with heap:=s.heap.push { cls:=.type "list",data:=.seq ([]:List Value).toArray },toks:=s.toks }:Shared)=s3 at I3;have e3:s3.heap=s.heap.push { cls:=.type "list",dict:=none,data:=.seq ([]:List Value).toArray }:=by rw[<- hs3]
 have e3s:({ s with heap:=s.heap.push { cls:=.type "list",dict:=none,data:=.seq ([]:List Value).toArray } }:Shared)=s3:=hs3;have hsz3:s3.heap.objs.size=s.heap.objs.size+1:=by rw[e3,Heap.size_push]
 have hfo:∀ b∈fp,b < s3.heap.objs.size:=λ b hb=>by
  obtain⟨o,ho,_⟩:=T.obj _ _ st b hb;rw[hsz3];exact Nat.lt_succ_of_lt (aai ho)
 rw[<- e3] at bi bj ⊢;have old3:∀ b o,s3.heap.get? b=some o->ag.get? b=some o:=λ b o e=>bj.extBut b o (abc (aai e)) (aaf _ e);have old:∀ b o,s.heap.get? b=some o->s3.heap.get? b=some o:=λ b o e=>by rw[e3];exact aaf _ e
 have I4:=S.invC (tk:=s3.toks) I3 hf3 hfo old3 bi;obtain⟨W,⟨m0,w0⟩,turn⟩:=h s.heap.objs.size fresh;have stat:∀ {H':Hp},(∀ b∈fp,H' b=none)->∀ b∈fp,iD (oO X N' scope cl fp s3 (upd H s.heap.objs.size (.lst []))) [] H' b:=λ hn b hb=>by
  refine⟨hn b hb,abc (hfo b hb),?_,.inl hb,λ x c e=>(hf b hb).2.2.2.2.1 x c (S.cls.get x c e),λ p hp=>absurd (show p∈([]:List (Addr×Obj)) from hp) (by simp)⟩;intro hz;obtain⟨_,f1,f2,_⟩:=hf b hb;rcases aaq.mp (I.stkSub b hz) with e | e
  ·exact f1 e
  ·exact f2 e
 have loop:∀ s4:Shared,s4={ s3 with heap:=ag,toks:=s3.toks }->
   codeAny (model X.prog X.w) X.A (.compLoop (.ListComp elt [⟨tg,iter,ifs,0⟩] scope pos) 0 (.ref it) (.ref s.heap.objs.size) (compEnvC scope cl s3.heap.objs.size X.env)) (RR (.ref s.heap.objs.size) s3.heap.objs.size) s4:=by
  intro s4 hs4;refine oF (λ n s'=>∃ i ys Z H',Inv (oO X N' scope cl fp s3 (upd H s.heap.objs.size (.lst []))) [] Z H' s'/\tn i s'.heap/\(∀ b∈fp,H' b=none)/\W i n ys Z H') ?_ m0
   ⟨0,[],wC fr σ,_,by rw[hs4];exact I4,by rw[hs4];exact T.keep _ _ _ st λ b _ o e=>old3 b o (old b o e),λ b hb=>(hf3 b hb).1,w0⟩
  rintro n s5 ⟨i,ys,cb,H5,I5,st5,fr5,w5⟩;rcases turn i n ys cb H5 w5 with ⟨stop,qn⟩ | ⟨go,N,hN,step⟩
  ·refine cR (T.done (oO X N' scope cl fp s3 (upd H s.heap.objs.size (.lst []))) rfl rfl rfl hc i [] s5 cb H5 _ I5 (stat fr5) st5 stop) λ r s6 ⟨hr,I6⟩=>?_;subst hr;obtain⟨m',hm',_⟩:=I6.loc;exact hRR _ _ H5 s6 m' (I3.outC I6 hf3) qn hm' (I3.fpOk (aae _) I6.free)
  ·refine cR (T.item (oO X N' scope cl fp s3 (upd H s.heap.objs.size (.lst []))) rfl rfl rfl hc i [] s5 cb H5 _ I5 (stat fr5) st5 go) λ r s6 ⟨u,hr,h6⟩=>?_;subst hr;refine cR h6 λ _ s7 ⟨x,H7,I7,r7,y7,st7,fr7⟩=>?_;have I7':=I7.pinned (stat fr7) (T.obj _ _ st7);refine abp (hg fp s3 _ _ s7 cb H7 x u _ I7' r7 (step x H7 y7)) (λ _ s8 ⟨bn,H8,I8,q8⟩=>?_) λ e s' z=>(hx e s' z).elim;refine abp (ht fp s3 _ _ s8 bn H8 _ I8 q8) (λ ok s9 ⟨H9,I9,q9⟩=>?_) λ e s' z=>(hx e s' z).elim;have again:∀ {s10:Shared}{H10:Hp}{ys':List V},Inv (oO X N' scope cl fp s3 (upd H s.heap.objs.size (.lst []))) ([]++kS fp s7.heap) bn H10 s10->N ys' bn H10->
     ∃ m,m < n/\∃ i ys Z H',Inv (oO X N' scope cl fp s3 (upd H s.heap.objs.size (.lst []))) [] Z H' s10/\tn i s10.heap/\(∀ b∈fp,H' b=none)/\W i m ys Z H':=λ {s10 H10 ys'} I10 n10=>by
    obtain⟨m',hm,w10⟩:=hN ys' bn H10 n10;refine⟨m',hm,i+1,ys',bn,H10,I10.unpinned,T.keep _ _ _ st7 λ b hb o e=>(I10.pin (b,o) (aav _ (aav _ (fK hb e)))).1,λ b hb=>?_,w10⟩;obtain⟨o,e,d⟩:=T.obj _ _ st7 b hb;exact (I10.pin (b,o) (aav _ (aav _ (fK hb e)))).2.1
   cases ok with
   | false=>
    rw[if_neg aaj] at q9 ⊢;exact again I9 q9
   | true=>
    rw[if_pos rfl] at q9 ⊢;refine abp (he fp s3 _ _ s9 bn H9 _ I9 q9) (λ y s10 ⟨yv,H10,I10,r10,hD,hlen,q10⟩=>?_) λ e s' z=>(hx e s' z).elim;refine abp (cF (X:=oO X N' scope cl fp s3 (upd H s.heap.objs.size (.lst []))) _ s10 bn H10 (.ref s.heap.objs.size) [yv] (.ref s.heap.objs.size) [y] (λ _ H11=>H11=upd H10 s.heap.objs.size (.lst (ys++[yv]))) I10 rfl (.cons r10 .nil)
     ⟨_,ys,yv,rfl,rfl,hD,hlen,rfl⟩) (λ _ s11 ⟨_,H11,I11,_,e11⟩=>?_) λ e s' z=>(hx e s' z).elim
    subst e11;exact again I11 q10
 exact codeAny_compStart_list (loop _ (by rw[<- e3s];rfl)) (T.self X.A 0 _ _ _ (T.keep _ _ _ st λ b _ o e=>old3 b o (old b o e)) (loop _ (by rw[<- e3s];rfl)))
theorem hR {elt tg iter:Expr}{ifs:List Expr}{scope:Scope}{pos:Pos}{N':List Str}{fr:List (Option Nat)}{cl:List (Str×Addr)}{wi:TI}{g:TG}{tc:TT}{te:TE}
  (hx:∀ e s,¬ X.xe e s) (hc:X.calm=true) (S:LcOk X scope cl N' fr) (hi:PI X tg iter wi)
  (hg:∀ fp s H,PG (oO X N' scope cl fp s H) tg g) (ht:∀ fp s H,PIf (oO X N' scope cl fp s H) ifs tc) (he:∀ fp s H,PE (oO X N' scope cl fp s H) elt te)
  (hs:∀ x,foldedSetIterable iter X.env x=pure x:=by intro _;rfl):PE X (.ListComp elt [⟨tg,iter,ifs,0⟩] scope pos) (tLC wi fr g tc te):=by
 intro pins s σ H Q I h;have hloc:=S.locs;rw[abo] at hloc;rw[eval_ListComp];refine wpAny_comprehension_free (use:=none) rfl hs S.clos S.kind (λ x hx' hl=>by have:=hloc x hx';rw[hl] at this;simpa using this) (cR (hi pins s σ H _ I h) λ v s1 h1=>cR h1 λ itv s2 h2=>?_);obtain⟨it,fp,tn,J,H2,e,I2,T,st2,f2,rest⟩:=h2;subst e;refine pE (RR:=λ acc C=>compPost (model X.prog X.w) X.A X.xe none (EP X pins σ Q) acc C) hx hc S hg ht he I2 T st2 f2 rest ?_;intro D C H' s' m' I' q hn f;exact⟨m',hn,λ h' hsb=>⟨.ref D,H',I'.letgo f hsb,rfl,q⟩⟩
theorem sR {i:Nat}{y:Str}{py:Pos}{spos:Pos}{elt tg iter:Expr}{ifs:List Expr}{scope:Scope}{pos:Pos}{N':List Str}{fr:List (Option Nat)}{cl:List (Str×Addr)}{wi:TI}{g:TG}{tc:TT}{te:TE}
  (hN:X.N.Nodup) (hy:X.N[i]? = some y) (hk:X.env.scope.names.lookup y=some .local)
  (hx:∀ e s,¬ X.xe e s) (hc:X.calm=true) (S:LcOk X scope cl N' fr) (hi:PI X tg iter wi)
  (hg:∀ fp s H,PG (oO X N' scope cl fp s H) tg g) (ht:∀ fp s H,PIf (oO X N' scope cl fp s H) ifs tc) (he:∀ fp s H,PE (oO X N' scope cl fp s H) elt te)
  (hsw:swapsWith (.ListComp elt [⟨tg,iter,ifs,0⟩] scope pos) (some (.Name y py)) spos.line X.env=pure true:=by rfl)
  (hs:∀ x,foldedSetIterable iter X.env x=pure x:=by intro _;rfl):PS X (.Assign [.Name y py] (.ListComp elt [⟨tg,iter,ifs,0⟩] scope pos) spos) (iK (tLC wi fr g tc te) (bS i)):=by
 intro pins s σ H D I h;have hloc:=S.locs;rw[abo] at hloc;rw[exec_Assign_Name_used _ _ _ _ hsw];refine aac (wpAny_standAt (aac ?_));show wpAny _ X.A (do let _ <- comprehension (.ListComp elt [⟨tg,iter,ifs,0⟩] scope pos) scope X.env _ (newList []) false (eval iter X.env) (some (assign (.Name y py) X.env))) _ _ s;refine aac (abp (wpAny_comprehension_free (use:=some (assign (.Name y py) X.env)) (Q:=λ _ s'=>SP X pins D .next s') rfl hs S.clos S.kind (λ x hx' hl=>by have:=hloc x hx';rw[hl] at this;simpa using this)
  (cR (hi pins s σ H _ I h) λ v s1 h1=>cR h1 λ itv s2 h2=>?_)) (λ _ s' hq=>aau (aau hq)) λ _ _ e=>e)
 obtain⟨it,fp,tn,J,H2,e,I2,T,st2,f2,rest⟩:=h2;subst e;refine pE (RR:=λ acc C=>compPost (model X.prog X.w) X.A X.xe (some (assign (.Name y py) X.env)) (λ _ s'=>SP X pins D .next s') acc C) hx hc S hg ht he I2 T st2 f2 rest ?_;intro Da C H' s' m' I' q hn f;show wpAny _ X.A (assign (.Name y py) X.env (.ref Da)) _ _ _;refine wpAny_assign_Name (mD I' hN hy (.inl hk) (v:=.ref Da) rfl (λ s'' I'' hch=>?_) (.inr hk));obtain⟨a,hsb,ha⟩:=hch;have haC:a≠C:=by
  rcases ha with e | e
  ·rw[e];exact Ne.symm f.2.1
  ·exact f.2.2.2.2.1 _ _ e
 exact⟨m',hn.sameBut hsb (Ne.symm haC),λ h' hs'=>⟨_,H',I''.letgo f hs',q⟩⟩
end
end L2
namespace TwZ
open PySem
open Sem (wp)
def fR (h:Heap) (t:Bool) (it a:Addr) (i:Nat):Prop:=if t=true then h.IsTupleIter it a i else h.IsListIter it a i
def fN (h:Heap) (t:Bool) (a:Addr) (items:Array Value):Prop:=if t=true then h.IsTuple a items else h.IsList a items
theorem fR.at {h h':Heap}{t:Bool}{it a:Addr}{i:Nat} (x:fR h t it a i) (k:∀ o,h.get? it=some o->h'.get? it=some o):fR h' t it a i:=by
 cases t <;> (obtain⟨o,ho,r⟩:=x;exact⟨o,k o ho,r⟩)
theorem ex {h h':Heap}{b c:Addr}{o:Obj} (hs:Heap.SameBut b h h') (hc:@Ne Nat c b) (e:h.get? c=some o):h'.get? c=some o:=hs.extBut _ _ hc e
theorem fR.ext {h h':Heap}{t:Bool}{it a b:Addr}{i:Nat} (x:fR h t it a i) (hs:Heap.SameBut b h h') (hab:@Ne Nat it b):fR h' t it a i:=x.at λ o e=>hs.extBut _ _ hab e
theorem fN.lt {h:Heap}{t:Bool}{a:Addr}{xs:Array Value} (x:fN h t a xs):a < h.objs.size:=by
 cases t <;> (obtain⟨o,ho,r⟩:=x;exact aai ho)
theorem fR.obj {h:Heap}{t:Bool}{it a:Addr}{i:Nat} (x:fR h t it a i):∃ o,h.get? it=some o/\∀ v,o.data≠.cell v:=by
 cases t <;> (obtain⟨o,ho,_,d⟩:=x;exact⟨o,ho,λ v z=>by rw[d] at z;cases z⟩)
section
variable {prog:Program}{M:Model}{A:Around}{E:Value->Shared->Prop}{s:Shared}
theorem oP {a:Addr}{Q:Option Obj->Shared->Prop} (h:Q (s.heap.get? a) s):wpAny M A (loadIfAlive a) Q E s:=λ Γ p _=>by
 unfold loadIfAlive;rw[Sem.wp_loadIfAlive];exact h
theorem j5 {it l:Addr}{i:Nat}{items}{x:Value}{Q:Value->Shared->Prop} (hit:s.heap.IsTupleIter it l i)
  (hl:s.heap.IsTuple l items) (hx:items[i]? = some x)
  (hQ:∀ h',h'.IsTupleIter it l (i+1)->Heap.SameBut it s.heap h'->Q x { s with heap:=h' }) :
  wpAny (model prog w) A (Builtin.SmallTypes.nextOf (.ref it)) Q E s:=by
 obtain⟨o,ho,hc,hd⟩:=id hit;obtain⟨ol,hol,_,nl,hdl⟩:=hl;unfold Builtin.SmallTypes.nextOf;refine aac (wpAny_callSpecial?_slot (name:=Str.ofString "__next__") hit.typeIs F.slot_tuple_iterator_next
  (wpAny_call_entry F.slot_tuple_iterator_next hit.typeIs F.entry_tuple_iterator_next ?_ (F.args_tuple_iterator_next_1 _)))
 show wpAny _ _ (field (.ref it) 0 >>= _) _ _ s;refine aac (abx ho hd (x:=.ref l) rfl ?_);show wpAny _ _ (if (Value.ref l == Value.none)=true then _ else _) _ _ s;rw[if_neg (show ¬ ((Value.ref l == Value.none)=true) from aaj)];show wpAny _ _ (field (.ref it) 1 >>= _) _ _ s;refine aac (abx ho hd (x:=.int i 0) rfl ?_);show wpAny _ _ (seqItems? (.ref l) >>= _) _ _ s;refine aac (wpAny_seqItems hol hdl ?_);simp only [Int.toNat_natCast,hx];refine aac (wpAny_setField ho hd (by simp) (aau ⟨x,rfl,aau (hQ _ ?_ (Heap.SameBut.update ..))⟩));exact⟨_,Heap.get?_update_self _ ho (Obj.isFreed_of_fields (Obj.data_mapFields hd _)),(Obj.cls_mapFields ..).trans hc,by
  rw[Obj.data_mapFields hd];simp [rawInt]⟩
theorem jH {it l:Addr}{i:Nat}{items}{Q:Value->Shared->Prop} (hh:A.handled=none)
  (hit:s.heap.IsTupleIter it l i) (hl:s.heap.IsTuple l items) (hx:items[i]? = none)
  (hE:∀ h' e,Heap.ExtBut it s.heap h'->(∃ o,h'.get? e=some o/\o.cls=.type "StopIteration")->E (.ref e) { s with heap:=h' }) :
  wpAny (model prog w) A (Builtin.SmallTypes.nextOf (.ref it)) Q E s:=by
 obtain⟨o,ho,hc,hd⟩:=id hit;obtain⟨ol,hol,_,nl,hdl⟩:=hl;unfold Builtin.SmallTypes.nextOf;refine aac (wpAny_callSpecial?_slot (name:=Str.ofString "__next__") hit.typeIs F.slot_tuple_iterator_next
  (wpAny_call_entry F.slot_tuple_iterator_next hit.typeIs F.entry_tuple_iterator_next ?_ (F.args_tuple_iterator_next_1 _)))
 show wpAny _ _ (field (.ref it) 0 >>= _) _ _ s;refine aac (abx ho hd (x:=.ref l) rfl ?_);show wpAny _ _ (if (Value.ref l == Value.none)=true then _ else _) _ _ s;rw[if_neg (show ¬ ((Value.ref l == Value.none)=true) from aaj)];show wpAny _ _ (field (.ref it) 1 >>= _) _ _ s;refine aac (abx ho hd (x:=.int i 0) rfl ?_);show wpAny _ _ (seqItems? (.ref l) >>= _) _ _ s;refine aac (wpAny_seqItems hol hdl ?_);simp only [Int.toNat_natCast,hx];refine aac (wpAny_rule (aac (wpAny_setField ho hd (by simp) ?_)));show wpAny _ _ (newExc (.type "StopIteration") [] >>= _) _ _ _;refine aac ?_;simp only [newExc,newTuple];refine aac (wpAny_newObj_type ?_ (by size_fits));refine aac (m:=firstArgMember _ _) (wpAny_of_eq (a:=Value.none) (by first | rfl | (simp only [firstArgMember];rfl)) ?_);refine wpAny_newObj_type ?_ (by size_fits);simp only [raiseNew];refine aac (wpAny_handled ?_)
 first | rw[show A.in1.handled=none from hh] | rw[hh]
 refine aac (aau (wpAny_throw ?_));exact hE _ _ (((Heap.SameBut.update ..).extBut.push _).push _) ⟨_,aap _ rfl,rfl⟩
theorem p5 {t:Bool}{it l:Addr}{i:Nat}{items}{x:Value}{Q:Value->Shared->Prop} (hit:fR s.heap t it l i)
  (hl:fN s.heap t l items) (hx:items[i]? = some x)
  (hQ:∀ h',fR h' t it l (i+1)->Heap.SameBut it s.heap h'->Q x { s with heap:=h' }) :
  wpAny (model prog w) A (Builtin.SmallTypes.nextOf (.ref it)) Q E s:=by
 cases t with
 | true=>exact j5 hit hl hx hQ
 | false=>exact wpAny_nextOf_list_item hit hl hx hQ
theorem qT {t:Bool}{it l:Addr}{i:Nat}{items}{Q:Value->Shared->Prop} (hh:A.handled=none)
  (hit:fR s.heap t it l i) (hl:fN s.heap t l items) (hx:items[i]? = none)
  (hE:∀ h' e,Heap.ExtBut it s.heap h'->(∃ o,h'.get? e=some o/\o.cls=.type "StopIteration")->E (.ref e) { s with heap:=h' }) :
  wpAny (model prog w) A (Builtin.SmallTypes.nextOf (.ref it)) Q E s:=by
 cases t with
 | true=>exact jH hh hit hl hx hE
 | false=>exact wpAny_nextOf_list_end hh hit hl hx hE
abbrev AK (h:Heap) (T:Addr) (vs:Array Value):Prop:=h.get? T=some { cls:=.type "tuple",data:=.seq vs }
def mP (f0:Value):Prop:=f0=.none\/∃ a:Int,f0=.int a 0
def vC (t:Bool) (a:Addr):Obj:={ cls:=.type (if t=true then "tuple_iterator" else "list_iterator"),data:=.fields #[.ref a,.int 0 0] }
theorem i7 {t:Bool}{a:Addr}{items:Array Value}{Q:Value->Shared->Prop} (hs:fN s.heap t a items) (hQ:Q (.ref s.heap.objs.size) { s with heap:=s.heap.push (vC t a) }) :
  wpAny (model prog w) A (pyIter (.ref a)) Q E s:=by
 cases t with
 | true=>exact wpAny_pyIter_tuple hs hQ
 | false=>exact wpAny_pyIter_list hs hQ
theorem vB {h:Heap}{t:Bool}{a it:Addr} (e:h.get? it=some (vC t a)):fR h t it a 0:=by
 cases t <;> exact⟨_,e,rfl,rfl⟩
abbrev zA (h:Heap) (t:Bool) (a:Addr):Heap:=h.push (vC t a)
end
end TwZ
namespace TwZ
open PySem
open Sem (wp)
open AutoSeq1 (wpAny_loadPart')
section
variable {prog:Program}{M:Model}{A:Around}{E:Value->Shared->Prop}{s:Shared}
abbrev eP (h:Heap) (e it:Addr) (f0:Value) (f1:Bool) (i:Int) (old:Value):Prop:=
 h.get? e=some { cls:=.type "enumerate",dict:=none,data:=.fields #[f0,.bool f1,.ref it,rawInt i,.none,old],slots:=#[] }
theorem oW {e it:Addr}{f0:Value}{f1:Bool}{i:Int}{old:Value}{Q:Bool->Shared->Prop} (hz:eP s.heap e it f0 f1 i old) (hf:mP f0) (yes:Q true s)
  (no:∀ h',eP h' e it f0 true i old->Heap.SameBut e s.heap h'->Q false { s with heap:=h' }):wpAny (model prog w) A (Builtin.SmallTypes.ownedTupleIsFree (.ref e)) Q E s:=by
 unfold Builtin.SmallTypes.ownedTupleIsFree;refine aac (abx hz rfl (x:=f0) rfl ?_);rcases hf with rfl | ⟨a,rfl⟩
 ·exact aau yes
 ·refine aac (oP ?_);cases h:s.heap.get? a.toNat with
  | none=>exact aau yes
  | some o=>
   show wpAny _ _ (field (.ref e) 1 >>= _) _ _ _;refine aac (abx hz rfl (x:=.bool f1) rfl ?_);cases f1 with
   | true=>exact aau (no s.heap hz (Heap.SameBut.refl ..))
   | false=>
    show wpAny _ _ (setField (.ref e) 1 (.bool true) >>= _) _ _ _;refine aac (wpAny_setField_rec hz (by simp) λ ag av am=>aau (no ag av am))
theorem vM {e it:Addr}{f0:Value}{f1:Bool}{i:Int}{old:Value}{T:Addr}{Q:Unit->Shared->Prop} (hz:eP s.heap e it f0 f1 i old)
  (h:∀ h',eP h' e it (rawInt T) false i old->Heap.SameBut e s.heap h'->Q () { s with heap:=h' }):wpAny (model prog w) A (Builtin.SmallTypes.ownedTupleHandOut (.ref e) (.ref T)) Q E s:=by
 unfold Builtin.SmallTypes.ownedTupleHandOut;refine aac (wpAny_setField_rec hz (by simp) λ ag av am=>?_);replace av:eP ag e it (rawInt T) f1 i old:=av;refine wpAny_setField_rec av (by simp) λ au hz₂ aq=>?_;exact h au hz₂ (Heap.SameBut.trans am aq)
theorem t4 {n a:Nat}{t:Bool}{k:Nat}{xs:Array Value}{x old f0:Value}{f1:Bool}{Q:Value->Shared->Prop} (hf:mP f0)
  (he:eP s.heap (n+1) n f0 f1 k old) (i1:fR s.heap t n a k) (s1:fN s.heap t a xs) (l1:a < n) (hx:xs[k]? = some x)
  (hQ:∀ (T:Nat) h' f0' f1' old',s.heap.objs.size<=T->mP f0'->eP h' (n+1) n f0' f1' ((k:Int)+1) old'->fR h' t n a (k+1)->AK h' T #[.int k s.toks,x]->
   (∀ (c:Nat) o,(c < n\/n+1 < c)->s.heap.get? c=some o->h'.get? c=some o)->Q (.ref T) { s with heap:=h',toks:=s.toks+1 }) :
  wpAny (model prog w) A (Builtin.«enumerate.__next__» ⟨[.ref (n+1)],[]⟩) (λ fin s'=>∃ v,fin=.done (.ret v)/\Q v s') E s:=by
 obtain⟨hp,g,d,tk,os⟩:=s;have helt:n+1 < hp.objs.size:=aai he;show wpAny _ _ (field (.ref (n+1)) 2 >>= _) _ _ _;refine aac (abx he rfl (x:=.ref n) rfl ?_);refine aac (p5 i1 s1 hx λ ag i1₁ am=>?_);replace am:Heap.SameBut n hp ag:=am;have bq:eP ag (n+1) n f0 f1 k old:=ex am (by omega) he;show wpAny _ _ (field (.ref (n+1)) 3 >>= _) _ _ ⟨ag,g,d,tk,os⟩;refine aac (abx bq rfl (x:=rawInt k) rfl ?_);show wpAny _ _ (field (.ref (n+1)) 4 >>= _) _ _ ⟨ag,g,d,tk,os⟩;refine aac (abx bq rfl (x:=.none) rfl ?_);show wpAny _ _ (mkInt k >>= _) _ _ ⟨ag,g,d,tk,os⟩;refine aac (wpAny_mkInt ?_);show wpAny _ _ (setField (.ref (n+1)) 3 (rawInt ((k:Int)+1)) >>= _) _ _ ⟨ag,g,d,tk+1,os⟩;refine aac (wpAny_setField_rec bq (by simp) λ au bu aq=>?_);replace aq:Heap.SameBut (n+1) ag au:=aq;replace bu:eP au (n+1) n f0 f1 ((k:Int)+1) old:=bu;show wpAny _ _ (setField (.ref (n+1)) 4 .none >>= _) _ _ ⟨au,g,d,tk+1,os⟩;refine aac (wpAny_setField_rec bu (by simp) λ ai bv az=>?_);replace az:Heap.SameBut (n+1) au ai:=az;replace bv:eP ai (n+1) n f0 f1 ((k:Int)+1) old:=bv;show wpAny _ _ (newTuple [.int k tk,x] >>= _) _ _ ⟨ai,g,d,tk+1,os⟩;refine aac (wpAny_newTuple ?_);have bc:eP (ai.push { cls:=.type "tuple",data:=.seq #[.int k tk,x] }) (n+1) n f0 f1 ((k:Int)+1) old:=aaf _ bv;have hsz:ai.objs.size=hp.objs.size:=by rw[az.1,aq.1,am.1]
 have bw:AK (ai.push { cls:=.type "tuple",data:=.seq #[.int k tk,x] }) ai.objs.size #[.int k tk,x]:=aap _ rfl;have cg:∀ (c:Nat) o,(c < n\/n+1 < c)->hp.get? c=some o->(ai.push { cls:=.type "tuple",data:=.seq #[.int k tk,x] }).get? c=some o:=λ c o hc e=>
  aaf _ (ex az (by omega) (ex aq (by omega) (ex am (by omega) e)))
 have bx:fR (ai.push { cls:=.type "tuple",data:=.seq #[.int k tk,x] }) t n a (k+1):=((i1₁.ext aq (by omega)).ext az (by omega)).at λ o e=>aaf _ e;have hlt₃:n+1 < ai.objs.size:=by rw[hsz];exact helt
 generalize hh₄:ai.push { cls:=.type "tuple",data:=.seq #[.int k tk,x] }=bg at bc bw cg bx;have hTle:hp.objs.size<=ai.objs.size:=Nat.le_of_eq hsz.symm;show wpAny _ _ (Builtin.SmallTypes.ownedTupleIsFree (.ref (n+1)) >>= _) _ _ ⟨bg,g,d,tk+1,os⟩;refine aac (oW bc hf ?_ ?_)
 ·simp only [if_true];refine aac (wpAny_rule ?_);refine aac (abx bc rfl (x:=old) rfl ?_);refine aac (wpAny_setField_rec bc (by simp) λ ap ba ao=>?_);replace ao:Heap.SameBut (n+1) bg ap:=ao;replace ba:eP ap (n+1) n f0 f1 ((k:Int)+1) x:=ba;refine aac (vM (s:=⟨ap,g,d,tk+1,os⟩) ba λ cv he₆ bb=>?_);replace bb:Heap.SameBut (n+1) ap cv:=bb;refine aac (wpAny_letGo (aau ⟨_,rfl,?_⟩));exact hQ ai.objs.size cv _ _ _ hTle (.inr ⟨_,rfl⟩) he₆ ((bx.ext ao (by omega)).ext bb (by omega)) (ex bb (by omega) (ex ao (by omega) bw)) λ c o hc e=>ex bb (by omega) (ex ao (by omega) (cg c o hc e))
 ·intro ap ba ao;replace ao:Heap.SameBut (n+1) bg ap:=ao;simp only [Bool.false_eq_true,if_false];refine aau ⟨_,rfl,?_⟩;exact hQ ai.objs.size ap _ _ _ hTle hf ba (bx.ext ao (by omega)) (ex ao (by omega) bw) λ c o hc e=>ex ao (by omega) (cg c o hc e)
theorem vU {n a:Nat}{t:Bool}{k:Nat}{xs:Array Value}{old f0:Value}{f1:Bool}{Q:Fin->Shared->Prop} (hh:A.handled=none)
  (he:eP s.heap (n+1) n f0 f1 k old) (i1:fR s.heap t n a k) (s1:fN s.heap t a xs) (hx:xs[k]? = none)
  (hE:∀ h' e,(∀ (c:Nat) o,(c < n\/n+1 < c)->s.heap.get? c=some o->h'.get? c=some o)->(∃ o,h'.get? e=some o/\o.cls=.type "StopIteration")->E (.ref e) { s with heap:=h' }) :
  wpAny (model prog w) A (Builtin.«enumerate.__next__» ⟨[.ref (n+1)],[]⟩) Q E s:=by
 show wpAny _ _ (field (.ref (n+1)) 2 >>= _) _ _ _;refine aac (abx he rfl (x:=.ref n) rfl ?_);refine aac (qT hh i1 s1 hx λ h' e hk he'=>hE h' e (λ c o hc q=>hk c o (show @Ne Nat c n by omega) q) he')
theorem jS {e it:Addr}{f0:Value}{f1:Bool}{i:Int}{old:Value}{Q:Option Value->Shared->Prop} (he:eP s.heap e it f0 f1 i old)
  (h:wpAny (model prog w) A.in1 (Builtin.«enumerate.__next__» ⟨[.ref e],[]⟩) (λ fin s'=>∃ v,fin=.done (.ret v)/\Q (some v) s') (λ e s'=>(∃ a o,e=.ref a/\s'.heap.get? a=some o/\o.cls=.type "StopIteration")/\Q none s') s) :
  wpAny (model prog w) A (pyNext (.ref e)) Q E s:=by
 have hT:s.TypeIs (.ref e) "enumerate" := ⟨_,he,rfl⟩;unfold pyNext;refine aac (wpAny_attempt (wpAny_callSpecial?_slot (name:=Str.ofString "__next__") hT F.slot_enumerate_next
  (wpAny_call_entry F.slot_enumerate_next hT F.entry_enumerate_next (abp h (λ fin s' h'=>?_) λ e s' h'=>?_) (F.args_enumerate_next_1 _))))
 ·obtain⟨v,rfl,q⟩:=h';exact⟨v,rfl,aau q⟩
 ·obtain⟨⟨a,o,rfl,ho,hc⟩,q⟩:=h';exact aac (wpAny_isInstance (T := "StopIteration") (b:=true) ⟨o,ho,hc⟩ isSubtype_stop (aau q))
theorem qX {tg:Expr}{e it T:Addr}{f0:Value}{f1:Bool}{i:Int}{old:Value}{Q:Unit->Shared->Prop} (hf:mP f0) (hz:eP s.heap e it f0 f1 i old)
  (hQ:∀ h' f0',mP f0'->eP h' e it f0' f1 i old->Heap.SameBut e s.heap h'->Q () { s with heap:=h' }):wpAny (model prog w) A (letOwnedTupleGo tg (.ref e) (.ref T)) Q E s:=by
 have same:Q () s:=hQ s.heap f0 hf hz (Heap.SameBut.refl ..);have core:wpAny (model prog w) A (do
   let o <- load e
   match o.cls,o.data with
   | .type n,.fields vs=>
    if ["enumerate","zip","dict_itemiterator","dict_reverseitemiterator","odict_iterator","itertools.zip_longest","itertools.pairwise"].contains n && vs[0]? == some (rawInt T) then
     rule "for.unpacks-the-owned-tuple"
     updateField e 0 .none
   | _,_=>pure ()) Q E s:=by
  refine aac (wpAny_load hz ?_);show wpAny _ _ (if (["enumerate","zip","dict_itemiterator","dict_reverseitemiterator","odict_iterator","itertools.zip_longest","itertools.pairwise"].contains "enumerate" &&
   (#[f0,.bool f1,.ref it,rawInt i,.none,old]:Array Value)[0]? == some (rawInt T))=true then _ else _) Q E s
  split
  ·refine aac (wpAny_rule ?_);show wpAny _ _ (setField (.ref e) 0 .none) Q E s;exact wpAny_setField_rec hz (by simp) λ h' hz' hs'=>hQ h' .none (.inl rfl) hz' hs'
  ·exact aau same
 unfold letOwnedTupleGo;cases tg <;> first
  | exact aau same
  | exact core
theorem jT {e it:Addr}{f0:Value}{f1:Bool}{i:Int}{old:Value}{Q:Value->Shared->Prop} (he:eP s.heap e it f0 f1 i old) (h:Q (.ref e) s):wpAny (model prog w) A (pyIter (.ref e)) Q E s:=by
 have hT:s.TypeIs (.ref e) "enumerate" := ⟨_,he,rfl⟩;refine wpAny_pyIter_slot hT F.slot_enumerate_iter (wpAny_call_entry F.slot_enumerate_iter hT F.entry_enumerate_iter ?_ (F.args_enumerate_iter_1 _));show wpAny _ _ (ret (.ref e)) _ _ s;exact aau ⟨_,rfl,"enumerate",_,hT,F.slot_enumerate_next.lookup,h⟩
theorem qV (t:Bool) (l:Addr) (xs:Array Value) :
  Meets (Builtin.«enumerate.__new__» ⟨[.type "enumerate",.ref l],[]⟩) (λ _ R s=>fN s.heap t l xs/\
   R (.ok (.ret (.ref (zA s.heap t l).objs.size))) { s with heap:=(zA s.heap t l).push { cls:=.type "enumerate",data:=.fields #[.none,.bool false,.ref s.heap.objs.size,rawInt 0,.none,.none] } }):=
 .of_wp λ prog w A R s h=>by
  obtain⟨hp,g,d,tk,os⟩:=s;obtain⟨hl,h⟩:=h;have hsub:=sub_enumerate;have hL:fN (Shared.heap ⟨hp,g,d,tk,os⟩) t l xs:=hl
  wp_walk
  refine wpAny_stack_any λ st=>aau ?_
  split
  ·rename_i c _ _ _ _ _
   cases (c == Value.type "enumerate")
   ·wp_walk using i7 hL
    exact⟨_,rfl,h⟩
   ·wp_walk using i7 hL
    exact⟨_,rfl,h⟩
  ·wp_walk using i7 hL
   exact⟨_,rfl,h⟩
theorem tG {t:Bool}{l:Addr}{xs:Array Value}{Q:Value->Shared->Prop} (hL:fN s.heap t l xs)
  (h:∀ h',eP h' (s.heap.objs.size+1) s.heap.objs.size .none false 0 .none->fR h' t s.heap.objs.size l 0->(∀ b o,s.heap.get? b=some o->h'.get? b=some o)->Q (.ref (s.heap.objs.size+1)) { s with heap:=h' }) :
  wpAny (model prog w) A (call (.type "enumerate") [.ref l]) Q E s:=by
 refine callType_new F.called_enumerate (by decide) (F.typeCall_enumerate_1 _) (F.newCall_enumerate_1 _) (λ obj=>F.args_object_init_2 obj _) F.entry_enumerate_new (qV t l xs) ⟨hL,?_⟩;have hz:(zA s.heap t l).objs.size=s.heap.objs.size+1:=Heap.size_push ..;show _/\_;rw[hz];have he:eP ((zA s.heap t l).push { cls:=.type "enumerate",data:=.fields #[.none,.bool false,.ref s.heap.objs.size,rawInt 0,.none,.none] }) (s.heap.objs.size+1) s.heap.objs.size .none false 0 .none:=by
  have:=aap (zA s.heap t l) (o:={ cls:=.type "enumerate",data:=.fields #[.none,.bool false,.ref s.heap.objs.size,rawInt 0,.none,.none] }) rfl;rw[hz] at this;exact this
 exact⟨⟨_,he,rfl⟩,h _ he (vB (aaf _ (aap _ rfl))) λ b o x=>aaf _ (aaf _ x)⟩
end
end TwZ
namespace L2
open PySem PySem.Spec PyProof.Rows TwZ
def y0 (K:aaa) (H:Hp) (t:Bool) (a:Addr) (xs:List V):Prop:=if t=true then cG K H a xs else bV K H a xs
section
variable {X:Cx}{pins:List (Addr×Obj)}{σ:St}{H:Hp}{s:Shared}
theorem Inv.src {t:Bool}{a:Addr}{xs:List V} (I:Inv X pins σ H s) (h:y0 X.K H t a xs):∃ its:List Value,aZ xs its/\fN s.heap t a its.toArray/\xs.length<=sizeLine:=by
 cases t with
 | true=>
  obtain⟨its,r,p,z⟩:=I.tuple h;exact⟨its,r,(show s.heap.IsTuple a its.toArray from p),z⟩
 | false=>
  obtain⟨its,r,p,z⟩:=I.list h;exact⟨its,r,p.isList,z⟩
theorem Inv.src_inj {t:Bool}{a:Addr}{xs ys:List V} (I:Inv X pins σ H s) (h:y0 X.K H t a xs) (h':y0 X.K H t a ys):xs=ys:=by
 cases t with
 | true=>exact I.tuple_inj h h'
 | false=>exact I.list_inj h h'
theorem Inv.turnedT {fp:List Addr}{h':Heap}{t':Nat}{T:Addr}{xs:List V}{its:List Value} (I:Inv X pins σ H s) (hf:∀ b∈fp,iD X pins H b) (k:∀ b o,b∉fp->s.heap.get? b=some o->h'.get? b=some o)
  (hT:s.heap.objs.size<=T) (hv:aZ xs its) (hz:xs.length<=sizeLine) (ht:IsTup h' T its.toArray):Inv X pins σ (upd H T (.tup xs)) { s with heap:=h',toks:=t' }:=by
 have hn:H T=none:=I.hok.fresh hT;have nT:∀ b u,H b=some u->b≠T:=λ b u e=>aO e hn;have nfp:∀ b u,H b=some u->b∉fp:=λ b u e hb=>by rw[(hf b hb).1] at e;cases e
 have nTh:∀ b o,s.heap.get? b=some o->b≠T:=λ b o e z=>by rw[z] at e;exact absurd (aam (aai e) hT) (abu _)
 refine I.step (g':=s.gens) (d':=s.drawn) (ch:=fp) (λ b hb=>?_) (λ b o _ _ hc e _=>k b o hc e) (λ b o _ _ hc e _=>⟨o.slots,k b o hc e⟩) (λ b o hc e n=>by rw[aP (nTh b o e)];exact n)
  (λ b o hc e=>⟨o,k b o hc e⟩) (λ b ys e=>by rw[aP (nT b _ e)];exact e) (λ b o u e=>by rw[aP (nT b _ e)];exact e) (λ b ps e=>⟨#[],by rw[aP (nT b _ e),e];simp⟩) (λ m hm=>?_) (λ b u e=>?_) I.bare
 ·obtain⟨_,f1,_,f3,f4,f5⟩:=hf b hb;exact⟨f3,f1,f4,f5⟩
 ·obtain⟨o,es,ep,ho,r⟩:=hm;exact⟨o,es,ep,k _ o (λ hb=>(hf _ hb).2.1 rfl) ho,r⟩
 ·by_cases hb:b=T
  ·subst hb;rw[aD] at e;cases e;exact⟨hz,its,hv,ht⟩
  ·rw[aP hb] at e;refine (I.hok b u e).stay (λ c v hc q=>k c v ?_ q) (λ c q=>by rw[aP (nT c _ q)];exact q) λ c ys q=>by rw[aP (nT c _ q)];exact q
   rcases hc with z | z
   ·rw[z];exact nfp b u e
   ·exact nfp c _ z
theorem Inv.turnedL {fp:List Addr}{h':Heap}{t':Nat} (I:Inv X pins σ H s) (hf:∀ b∈fp,iD X pins H b) (k:∀ b o,b∉fp->s.heap.get? b=some o->h'.get? b=some o):Inv X pins σ H { s with heap:=h',toks:=t' }:=by
 have nfp:∀ b u,H b=some u->b∉fp:=λ b u e hb=>by rw[(hf b hb).1] at e;cases e
 refine I.step (g':=s.gens) (d':=s.drawn) (ch:=fp) (λ b hb=>?_) (λ b o _ _ hc e _=>k b o hc e) (λ b o _ _ hc e _=>⟨o.slots,k b o hc e⟩) (λ b o hc e n=>n)
  (λ b o hc e=>⟨o,k b o hc e⟩) (λ b ys e=>e) (λ b o u e=>e) (λ b ps e=>⟨#[],by rw[e];simp⟩) (λ m hm=>?_) (λ b u e=>?_) I.bare
 ·obtain⟨_,f1,_,f3,f4,f5⟩:=hf b hb;exact⟨f3,f1,f4,f5⟩
 ·obtain⟨o,es,ep,ho,r⟩:=hm;exact⟨o,es,ep,k _ o (λ hb=>(hf _ hb).2.1 rfl) ho,r⟩
 ·refine (I.hok b u e).stay (λ c v hc q=>k c v ?_ q) (λ c q=>q) λ c ys q=>q;rcases hc with z | z
  ·rw[z];exact nfp b u e
  ·exact nfp c _ z
end
def A7 (n:Nat) (m:Nat):List Addr:=(List.range m).map λ k=>(n+k:Nat)
theorem gR {n m:Nat}{b:Addr}:b∈A7 n m↔∃ k,k < m/\b=n+k:=by
 unfold A7;rw[aat];constructor
 ·rintro⟨k,hk,e⟩;exact⟨k,acb.mp hk,e.symm⟩
 ·rintro⟨k,hk,e⟩;exact⟨k,acb.mpr hk,e.symm⟩
theorem nY {n m:Nat}{b:Nat} (h:(b:Addr)∉A7 n m) (hm:0 < m):b < n\/n+(m - 1) < b:=by
 by_cases h1:b < n
 ·exact .inl h1
 ·by_cases h2:n+(m - 1) < b
  ·exact .inr h2
  ·exact absurd (gR.mpr ⟨b - n,by omega,by show (b:Nat)=n+(b - n);omega⟩) h
def Ite (K:aaa) (t:Bool) (a:Addr):It:=
 ⟨λ i H=>∃ xs x,y0 K H t a xs/\xs[i]? = some x,
  λ i H v H'=>∃ T x,H T=none/\v=.ref T/\(∀ xs,y0 K H t a xs->xs[i]? = some x)/\H'=upd H T (.tup [.int i,x]),
  λ i H=>∃ xs,y0 K H t a xs/\xs.length<=i⟩
def tne (n a:Nat) (t:Bool) (i:Nat) (h:Heap):Prop:=∃ f0 f1 old,mP f0/\eP h (n+1) n f0 f1 i old/\fR h t n a i/\a < n
theorem sJ {P:Program}{w:World}{K:aaa}{tg:Expr} (n a:Nat) (t:Bool):Turn P w K tg (Ite K t a) (A7 n 2) (n+1) (tne n a t) where
 mem:=gR.mpr ⟨1,by decide,rfl⟩
 obj:=λ i h st b hb=>by
  obtain⟨f0,f1,old,hf,he,i1,_⟩:=st;obtain⟨k,hk,rfl⟩:=gR.mp hb;have hk':k=0\/k=1:=by omega
  rcases hk' with rfl | rfl
  ·exact i1.obj
  ·exact⟨_,he,λ v z=>by cases z⟩
 keep:=λ i h h' st k=>by
  obtain⟨f0,f1,old,hf,he,i1,l⟩:=st;have m:∀ j,j < 2->((n+j:Nat):Addr)∈A7 n 2:=λ j hj=>gR.mpr ⟨j,hj,rfl⟩;exact⟨f0,f1,old,hf,k _ (m 1 (by decide)) _ he,i1.at λ o e=>k _ (m 0 (by decide)) _ e,l⟩
 item:=by
  intro X hP hw hK hc i pins s σ H E I hf st hg;subst hP hw hK;obtain⟨f0,f1,old,f,he,i1,l1⟩:=st;obtain⟨xs,x,q1,hx⟩:=hg;obtain⟨us,r1,p1,_⟩:=I.src q1;obtain⟨u,hu,ru⟩:=r1.get hx;refine jS he (t4 f he i1 p1 l1 (by simpa using hu) λ T h' f0' f1' old' hT f' he' i1' hTp hk=>?_);refine⟨_,rfl,qX (s:={ s with heap:=h',toks:=s.toks+1 }) f' he' λ h'' f0'' f'' he'' hs=>?_⟩;replace hs:Heap.SameBut (n+1) h' h'':=hs;have hTn:n+1 < T:=aam (aai he) hT;have hTp':AK h'' T #[.int i s.toks,u]:=ex hs (by omega) hTp;have IT:Inv X pins σ (upd H T (.tup [.int i,x])) { s with heap:=h'',toks:=s.toks+1 }:=I.turnedT (fp:=A7 n 2) hf (λ b o hb e=>ex (c:=b) hs (by have:=nY (b:=b) hb (by decide);have:n+(2 - 1)=n+1:=rfl;omega) (hk b o (nY (b:=b) hb (by decide)) e)) hT (its:=[.int i s.toks,u]) (.cons ⟨_,rfl⟩ (.cons ru .nil)) (by show 2<=sizeLine;decide) ⟨_,hTp',rfl,_,rfl⟩;have he2:eP h'' (n+1) n f0'' f1' ((i+1:Nat):Int) old':=by
   have:((i+1:Nat):Int)=(i:Int)+1:=by push_cast;rfl
   rw[this];exact he''
  refine⟨.ref T,upd H T (.tup [.int i,x]),IT,rfl,⟨T,x,I.hok.fresh hT,rfl,λ as q=>by rw[I.src_inj q q1];exact hx,rfl⟩,⟨f0'',f1',old',f'',he2,i1'.ext hs (by omega),l1⟩,λ b hb=>?_⟩
  ·obtain⟨j,hj,rfl⟩:=gR.mp hb;rw[aP (show ((n+j:Nat):Addr)≠T from (show @Ne Nat (n+j) T by omega))];exact (hf _ hb).1
 done:=by
  intro X hP hw hK hc i pins s σ H E I hf st hg;subst hP hw hK;obtain⟨f0,f1,old,f,he,i1,l1⟩:=st;obtain⟨xs,q1,hend⟩:=hg;obtain⟨us,r1,p1,_⟩:=I.src q1;have e1:=r1.length;refine jS he (vU (I.ok.hd hc) he i1 p1 (by simp;omega) λ h' e hk he=>?_);obtain⟨o,ho,hcl⟩:=he;exact⟨⟨e,o,rfl,ho,hcl⟩,rfl,I.turnedL (t':=s.toks) hf λ b o hb q=>hk b o (nY (b:=b) hb (by decide)) q⟩
 self:=λ _ _ _ _ _ st h=>by
  obtain⟨f0,f1,old,f,he,_⟩:=st;exact jT he h
section
variable {X:Cx}{tg:Expr}
theorem tI:bootBuiltins "enumerate" = some (.type "enumerate"):=by decide +kernel
def yB (K:aaa) (ta:TA):TI:=λ σ H R=>ta σ H λ vs H1=>∃ t a,vs=[.ref a]/\(∃ xs,y0 K H1 t a xs)/\R (Ite K t a) H1
theorem wQ {a:Expr}{ta:TA}{p pos:Pos} (hg:Gl X "enumerate") (hm:X.mg "enumerate" = none) (ha:PA X [a] ta) (hs:starEach [a] X.env=[(false,eval a X.env)]:=by rfl):PI X tg (.Call (.Name "enumerate" p) [a] [] pos) (yB X.K ta):=by
 intro pins s σ H R I h;refine Call_ (lJ I hg hm tI (PyProof.Rows.callWith_type1 (cR (ha pos pins s σ H _ I h) λ us s1 ⟨vs,H1,I1,r1,q1⟩=>?_) hs rfl));obtain⟨t,a1,e,⟨xs,hq⟩,q⟩:=q1;subst e;cases r1 with
 | cons r rr=>
  cases rr;cases r;obtain⟨its,rv,p,hz⟩:=I1.src hq;refine tG p λ h' he i1 hk=>?_;refine jT (s:={ s1 with heap:=h' }) he ?_;refine⟨_,A7 s1.heap.objs.size 2,tne s1.heap.objs.size a1 t,_,H1,rfl,I1.kept (t':=s1.toks) hk,sJ _ _ _,⟨.none,false,.none,.inl rfl,he,i1,p.lt⟩,λ b hb=>?_,q⟩;obtain⟨k,_,rfl⟩:=gR.mp hb;exact I1.fpOk (Nat.le_add_right _ _) (I1.hok.fresh (Nat.le_add_right _ _))
end
section
variable {prog:Program}{A:Around}{E:Value->Shared->Prop}{s:Shared}{l:Addr}{xs:Array (Int×Tok)}
theorem xY {t:Bool}{vs:List Value}{bs:List Bool}{Q:Value->Shared->Prop} (hh:A.handled=none) (hl:fN s.heap t l vs.toArray) (hb:aZ (bs.map V.bl) vs)
  (h:∀ h' tk,(∀ b o,s.heap.get? b=some o->h'.get? b=some o)->Q (.bool (bs.all id)) { s with heap:=h',toks:=tk }):wpAny (model prog w) A (call (.builtin "all") [.ref l]) Q E s:=by
 have hlt:l < s.heap.objs.size:=hl.lt;have hlen:=hb.length;rw[aab] at hlen;have key:∀ (P:Nat->Value->Prop),(∀ i v,P i v->vs[i]? = some v)->TruthOf prog w A.in1 P (λ i=>(bs[i]?).getD true):=λ P hP i v s' Q' E' hp hQ=>by
  have hv:=hP i v hp;have hi:i < vs.length:=(aan.mp hv).1;have hb':(bs.map V.bl)[i]? = some (V.bl bs[i]):=by simp [show i < bs.length by omega]
  obtain⟨u,hu,ru⟩:=hb.get hb';rw[hv] at hu;cases hu;cases ru;have e:(bs[i]?).getD true=bs[i]:=by simp [show i < bs.length by omega]
  have hQ2:Q' ((bs[i]?).getD true) s':=hQ;rw[e] at hQ2;exact wpAny_truthy_bool hQ2
 have rng:((List.range vs.toArray.size).all λ i=>(bs[i]?).getD true)=bs.all id:=by
  rw[aad,<- hlen,Bool.eq_iff_iff,abo,abo];constructor
  ·intro hq b hb';obtain⟨i,hi,rfl⟩:=List.getElem_of_mem hb';have:=hq i (acb.mpr hi);simpa [hi] using this
  ·intro hq i hi;have hi':=acb.mp hi;have:=hq bs[i] (ace hi');simpa [hi'] using this
 have kept:∀ {h':Heap}{o:Obj},(∀ b x,b∉[s.heap.objs.size]->(s.heap.push o).get? b=some x->h'.get? b=some x)->∀ b x,s.heap.get? b=some x->h'.get? b=some x:=λ hk b x e=>
  hk b x (λ hm=>by rw[abr.mp hm] at e;exact abu _ (aai e)) (aaf _ e)
 cases t with
 | true=>
  refine call_all_walk (wpAny_pyIter_tuple hl ?_);refine⟨s.heap.objs.size,[s.heap.objs.size,l],[s.heap.objs.size],vs.toArray.size,_,_,λ i=>(bs[i]?).getD true,rfl,Walks.tuple (A:=A.in1) hh _ l (abc hlt) vs.toArray,
   ⟨⟨_,aap _ rfl,rfl,rfl⟩,Heap.IsTuple.push hl _⟩,key _ (λ i v hp=>by simpa using hp),λ h' tk hk=>?_⟩
  rw[rng];exact h h' tk (kept hk)
 | false=>
  refine call_all_walk (wpAny_pyIter_list hl ?_);refine⟨s.heap.objs.size,[s.heap.objs.size,l],[s.heap.objs.size],vs.toArray.size,_,_,λ i=>(bs[i]?).getD true,rfl,Walks.list (A:=A.in1) hh _ l (abc hlt) vs.toArray,
   ⟨⟨_,aap _ rfl,rfl,rfl⟩,Heap.IsList.push hl _⟩,key _ (λ i v hp=>by simpa using hp),λ h' tk hk=>?_⟩
  rw[rng];exact h h' tk (kept hk)
end
section
variable {X:Cx}
def zC (K:aaa):List V->Hp->VK->Prop:=λ xs H Q=>∃ (t:Bool) (p:Addr) (bs:List Bool),xs=[.ref p]/\y0 K H t p (bs.map V.bl)/\Q (.bl (bs.all id)) H
theorem tH (hc:X.calm=true):dC X (.builtin "all") (zC X.K):=by
 intro pins s σ H xs us Q I r h;obtain⟨t,p,bs,rfl,hq,q⟩:=h;obtain⟨u,rfl,ru⟩:=r.one;cases ru;obtain⟨its,rv,p1,hz⟩:=I.src hq;refine xY (I.ok.hd hc) p1 rv λ h' tk hk=>⟨.bl (bs.all id),H,I.kept hk,rfl,q⟩
def TyS (K:aaa) (H:Hp) (x:V) (t:Value):Prop:=TyOf K H x t\/∃ a ys,x=.ref a/\cG K H a ys/\t=.type "tuple"
def B5 (K:aaa):List V->Hp->VK->Prop:=λ xs H Q=>∃ x T t b,xs=[x,.ty T]/\TyS K H x t/\PySem.W.kitOne K t (.type T)=some b/\Q (.bl b) H
theorem vZ:dC X (.builtin "isinstance") (B5 X.K):=by
 intro pins s σ H xs us Q I r h;obtain⟨x,T,t,b,rfl,ty,e,q⟩:=h;obtain⟨u,v,rfl,ru,rv⟩:=r.two;cases rv;rcases ty with ty | ⟨a,ys,rfl,hq,rfl⟩
 ·exact eZ I ru ty e λ tk=>⟨.bl b,H,I.tok tk,rfl,q⟩
 ·cases (show u=Value.ref a from ru);obtain⟨its,rv',⟨o,h1,h2,_⟩,_⟩:=I.tuple hq;exact PySem.W.kia_one PySem.W.kitx_tuple I.kIn ⟨o,h1,h2⟩ e (λ z=>nomatch z) λ tk=>⟨.bl b,H,I.tok tk,rfl,q⟩
end
theorem aH.tup {K:aaa}{H H':Hp}{a:Addr}{xs:List V} (e:aH H H') (h:cG K H a xs):cG K H' a xs:=by
 rcases h with (h | ⟨o,h⟩) | h
 ·exact .inl (.inl (e _ _ h))
 ·exact .inl (.inr ⟨o,e _ _ h⟩)
 ·exact .inr h
theorem aH.new {H:Hp}{p:Addr}{o:HO} (h:H p=none):aH H (upd H p o):=λ b u e=>by rw[aP (aO e h)];exact e
section
variable {X:Cx}
end
open MeetsSeq in
theorem qA (l b:Addr) (items items2:Array Value) (n n2:Nat) (dd dd2:Option Addr) (sl sl2:Array (Option Value)) (hsz:items.size=items2.size) :
  Meets (Builtin.«tuple.__ne__» ⟨[.ref l,.ref b],[]⟩)
   (λ A R s=>s.heap.get? l=some { cls:=.type "tuple",dict:=dd,data:=.seq items n,slots:=sl }/\s.heap.get? b=some { cls:=.type "tuple",dict:=dd2,data:=.seq items2 n2,slots:=sl2 }/\
    (∀ j (h1:j < items.size) (h2:j < items2.size),SeqAt.EqAt A.in1 s items[j] items2[j] true)/\
    R (.ok (.ret (.bool false))) s):=
 .of_wp λ prog w A R s h=>by
  obtain⟨hp,g,d,tk,os⟩:=s;obtain⟨hl,hb,he,h⟩:=h;have f2:=AutoSeq1.sub_tuple_tuple;have hZ:(items.toList.zip items2.toList).length=min items.size items2.size:=by simp
  wp_walk using AutoSeq1.wpAny_loadPart' hl,AutoSeq1.wpAny_loadPart' hb,wpAny_forIn_list _ (λ rest b s'=>b.1=none/\s'=⟨hp,g,d,tk,os⟩/\∃ i,rest=(items.toList.zip items2.toList).drop i) _
  case turn=>
   rintro⟨y,x⟩ rest b s' ⟨hb',rfl,i,hz⟩;have hlt:i < (items.toList.zip items2.toList).length:=by
    rcases Nat.lt_or_ge i (items.toList.zip items2.toList).length with h' | h'
    ·exact h'
    ·rw[List.drop_of_length_le h'] at hz;cases hz
   have hm:i < min items.size items2.size:=hZ ▸ hlt;have h1:i < items.size:=aam hm (Nat.min_le_left _ _);have h2:i < items2.size:=aam hm (Nat.min_le_right _ _);rw[List.drop_eq_getElem_cons hlt] at hz;injection hz with hyx hrest;have hy:y=items[i]:=by have:=congrArg Prod.fst hyx;simpa using this
   have hx:x=items2[i]:=by have:=congrArg Prod.snd hyx;simpa using this
   subst hy hx;refine aac (he i h1 h2 prog w _ _ ?_)
   wp_walk
   exact⟨rfl,rfl,i+1,hrest⟩
  case fin=>
   rintro⟨b1,b2⟩ s' ⟨hb',rfl,i,hz⟩;simp only at hb';subst hb'
   wp_walk
   exact⟨_,rfl,by simpa [Builtin.Tuple.tupleCompareSizes,hsz] using h⟩
  case h=>
   exact⟨rfl,rfl,0,rfl⟩
inductive D where
 | non | bl (b:Bool) | int (i:Int) | str (x:Str) | tup (ds:List D)
mutual
def Is (K:aaa) (H:Hp):D->V->Prop
 | .non,v=>v=.non
 | .bl b,v=>v=.bl b
 | .int i,v=>v=.int i
 | .str x,v=>v=.str x
 | .tup ds,v=>∃ a xs,v=.ref a/\cG K H a xs/\IsL K H ds xs
def IsL (K:aaa) (H:Hp):List D->List V->Prop
 | [],xs=>xs=[]
 | d::ds,xs=>∃ x r,xs=x::r/\Is K H d x/\IsL K H ds r
end
def bY (K:aaa) (H H':Hp):Prop:=∀ a xs,cG K H a xs->cG K H' a xs
theorem bY.refl {K:aaa} (H:Hp):bY K H H:=λ _ _ h=>h
theorem bY.trans {K:aaa}{H H1 H2:Hp} (a:bY K H H1) (b:bY K H1 H2):bY K H H2:=λ c xs h=>b c xs (a c xs h)
theorem aH.ts {K:aaa}{H H':Hp} (e:aH H H'):bY K H H':=λ _ _ h=>e.tup h
mutual
theorem Is.mono {K:aaa}{H H':Hp} (t:bY K H H'):∀ (d:D) (v:V),Is K H d v->Is K H' d v
 | .non,_,h=>h
 | .bl _,_,h=>h
 | .int _,_,h=>h
 | .str _,_,h=>h
 | .tup ds,v,h=>by
  rw[Is] at h ⊢;obtain⟨a,xs,e,q,l⟩:=h;exact⟨a,xs,e,t a xs q,IsL.mono t ds xs l⟩
theorem IsL.mono {K:aaa}{H H':Hp} (t:bY K H H'):∀ (ds:List D) (xs:List V),IsL K H ds xs->IsL K H' ds xs
 | [],xs,h=>h
 | d::ds,xs,h=>by
  rw[IsL] at h ⊢;obtain⟨x,r,e,hx,hr⟩:=h;exact⟨x,r,e,Is.mono t d x hx,IsL.mono t ds r hr⟩
end
theorem IsL.length {K:aaa}{H:Hp}:∀ {ds:List D}{xs:List V},IsL K H ds xs->xs.length=ds.length
 | [],xs,h=>by rw[IsL] at h;subst h;rfl
 | d::ds,xs,h=>by
  rw[IsL] at h;obtain⟨x,r,rfl,_,hr⟩:=h;rw[abj,abj,IsL.length hr]
theorem IsL.get {K:aaa}{H:Hp}:∀ {ds:List D}{xs:List V}{i:Nat}{d:D},IsL K H ds xs->ds[i]? = some d->∃ x,xs[i]? = some x/\Is K H d x
 | [],_,_,_,_,e=>by simp at e
 | d::ds,xs,0,d',h,e=>by
  rw[IsL] at h;obtain⟨x,r,rfl,hx,hr⟩:=h;simp at e;subst e;exact⟨x,rfl,hx⟩
 | d::ds,xs,i+1,d',h,e=>by
  rw[IsL] at h;obtain⟨x,r,rfl,hx,hr⟩:=h;obtain⟨y,h1,h2⟩:=IsL.get hr (i:=i) (by simpa using e);exact⟨y,by simpa using h1,h2⟩
theorem IsL.get' {K:aaa}{H:Hp}{ds:List D}{xs:List V}{i:Nat}{x:V} (h:IsL K H ds xs) (e:xs[i]? = some x):∃ d,ds[i]? = some d/\Is K H d x:=by
 have hl:=h.length;have hi:i < ds.length:=by rw[<- hl];exact (aan.mp e).1
 obtain⟨y,h1,h2⟩:=h.get (i:=i) (d:=ds[i]) (by simp [hi]);rw[e] at h1;cases h1;exact⟨ds[i],by simp [hi],h2⟩
theorem IsL.snoc {K:aaa}{H:Hp}{d:D}{x:V} (hd:Is K H d x):∀ {ds:List D}{xs:List V},IsL K H ds xs->IsL K H (ds++[d]) (xs++[x])
 | [],xs,h=>by
  rw[IsL] at h;subst h;show IsL K H [d] [x];rw[IsL];exact⟨x,[],rfl,hd,by rw[IsL]⟩
 | d'::ds,xs,h=>by
  rw[IsL] at h;obtain⟨y,r,rfl,hy,hr⟩:=h;show IsL K H (d'::(ds++[d])) (y::(r++[x]));rw[IsL];exact⟨y,r++[x],rfl,hy,IsL.snoc hd hr⟩
mutual
def D.depth:D->Nat
 | .tup ds=>bO ds+1
 | _=>0
def bO:List D->Nat
 | []=>0
 | d::ds=>max d.depth (bO ds)
end
section
variable {X:Cx}{pins:List (Addr×Obj)}{σ:St}{H:Hp}{s:Shared}
mutual
theorem Is.eqAt (I:Inv X pins σ H s):∀ (d:D) (A:Around) (x y:V) (u v:Value),A.units+d.depth < cLine->Is X.K H d x->Is X.K H d y->aX x u->aX y v->SeqAt.EqAt A s u v true
 | .non,A,x,y,u,v,_,hx,hy,rx,ry=>by
  rw[Is] at hx hy;subst hx hy;cases rx;cases ry;exact SeqAt.EqAt.same _
 | .bl b,A,x,y,u,v,_,hx,hy,rx,ry=>by
  rw[Is] at hx hy;subst hx hy;cases rx;cases ry;exact SeqAt.EqAt.same _
 | .int i,A,x,y,u,v,_,hx,hy,rx,ry=>by
  rw[Is] at hx hy;subst hx hy;obtain⟨t,rfl⟩:=rx;obtain⟨t',rfl⟩:=ry;have:=SeqAt.EqAt.int_int (A:=A) (s:=s) i t i t';simpa using this
 | .str z,A,x,y,u,v,_,hx,hy,rx,ry=>by
  rw[Is] at hx hy;subst hx hy;obtain⟨t,rfl⟩:=rx;obtain⟨t',rfl⟩:=ry;have:=SeqAt.EqAt.str_str (A:=A) (s:=s) z t z t';simpa using this
 | .tup ds,A,x,y,u,v,hu,hx,hy,rx,ry=>by
  rw[Is] at hx hy;obtain⟨a,xs,rfl,q1,l1⟩:=hx;obtain⟨b,ys,rfl,q2,l2⟩:=hy;cases rx;cases ry
  by_cases hab:a=b
  ·subst hab;exact SeqAt.EqAt.same _
  ·obtain⟨us,r1,p1,_⟩:=I.tuple q1;obtain⟨vs,r2,p2,_⟩:=I.tuple q2;have hdep:D.depth (.tup ds)=bO ds+1:=by rw[D.depth]
   rw[hdep] at hu;have e1:=r1.length;have e2:=r2.length;have e3:=l1.length;have e4:=l2.length;have hu2:A.in1.units+bO ds < cLine:=by
    have:A.in1.units<=A.units+1:=by show A.units+1<=A.units+1;exact aae _
    omega
   have all:=IsL.eqAt I ds A.in1 xs ys us vs hu2 l1 l2 r1 r2;have hsz:us.toArray.size=vs.toArray.size:=by simp;omega
   have:=SeqAt.RcAt.tuples (A:=A) (s:=s) (e:=λ _=>true) (show s.heap.IsTuple a us.toArray from p1) (show s.heap.IsTuple b vs.toArray from p2) (by omega) λ j h1 h2=>all j us.toArray[j] vs.toArray[j] (by simp) (by simp);have e5:((List.range (min us.toArray.size vs.toArray.size)).all (λ _=>true) && us.toArray.size == vs.toArray.size)=true:=by
    rw[hsz];simp
   rw[e5] at this;exact SeqAt.EqAt.of_refs hab this
theorem IsL.eqAt (I:Inv X pins σ H s):∀ (ds:List D) (A:Around) (xs ys:List V) (us vs:List Value),A.units+bO ds < cLine->IsL X.K H ds xs->IsL X.K H ds ys->aZ xs us->aZ ys vs->∀ (j:Nat) (u v:Value),us[j]? = some u->vs[j]? = some v->SeqAt.EqAt A s u v true
 | [],A,xs,ys,us,vs,_,hx,hy,rx,ry,j,u,v,eu,ev=>by
  rw[IsL] at hx;subst hx;cases rx;simp at eu
 | d::ds,A,xs,ys,us,vs,hu,hx,hy,rx,ry,j,u,v,eu,ev=>by
  rw[IsL] at hx hy;obtain⟨x,xr,rfl,hx,hxr⟩:=hx;obtain⟨y,yr,rfl,hy,hyr⟩:=hy;have hd:bO (d::ds)=max d.depth (bO ds):=by rw[bO]
  rw[hd] at hu;cases rx with
  | cons rx rxr=>
   cases ry with
   | cons ry ryr=>
    cases j with
    | zero=>
     simp at eu ev;subst eu ev;exact Is.eqAt I d A x y _ _ (by omega) hx hy rx ry
    | succ j=>exact IsL.eqAt I ds A xr yr _ _ (by omega) hxr hyr rxr ryr j u v (by simpa using eu) (by simpa using ev)
end
end
section
variable {X:Cx}
def rJ (K:aaa):R2:=λ x y H Q=>∃ ds,ds.length<=1000/\bO ds<=20/\Is K H (.tup ds) x/\Is K H (.tup ds) y/\Q (.bl false) H
theorem sT (hu:X.A.units+64 < cLine):fM X (compareOp .NotEq) (rJ X.K):=by
 intro pins s σ H x y v u Q I rx ry h;obtain⟨ds,hl,hdep,hx,hy,q⟩:=h;rw[Is] at hx hy;obtain⟨a,xs,rfl,q1,l1⟩:=hx;obtain⟨b,ys,rfl,q2,l2⟩:=hy;cases rx;cases ry;obtain⟨us,r1,p1,_⟩:=I.tuple q1;obtain⟨vs,r2,p2,_⟩:=I.tuple q2;have e1:=r1.length;have e2:=r2.length;have e3:=l1.length;have e4:=l2.length;obtain⟨⟨cls,dd,data,sl⟩,ho,hc,n,hd⟩:=id p1;obtain⟨⟨cls2,dd2,data2,sl2⟩,ho2,hc2,n2,hd2⟩:=id p2;simp only at hc hd hc2 hd2;subst hc hd hc2 hd2;have hin:∀ A:Around,A.in1.units=A.units+1:=λ A=>rfl;refine richCompare_meets_room (op:=.NotEq) ⟨_,ho,rfl⟩ ⟨_,ho2,rfl⟩ F.slot_tuple_ne F.entry_tuple_ne (F.args_tuple_ne_2 _ _) (qA a b us.toArray vs.toArray n n2 dd dd2 sl sl2 (by simp;omega))
  ⟨ho,ho2,λ j h1 h2=>IsL.eqAt I ds _ xs ys us vs (by rw[hin];omega) l1 l2 r1 r2 j _ _ (by simp) (by simp),show Value.bool false≠Value.notImplemented/\EP X pins σ Q (.bool false) s from ⟨(λ x=>nomatch x),.bl false,H,I,rfl,q⟩⟩ (by omega)
end
structure Callee (P:Program) (w:World) (K:aaa) (mg:Str->Option Value) (base:Heap) (x:Str) (ps:List Str) (k:Nat) (sp:Sp) (f:Addr) (fd:FuncData):Prop where
 ok:FnOk P w K mg base iE k f fd ps sp
 mg:mg x=some (.ref f)
 kp:PySem.W.keepIn K (.ref f)=true
 bd:lS K fd ps []
theorem cJ {X:Cx}{x:Str}{ps:List Str}{k n:Nat}{sp:Sp}{f:Addr}{fd:FuncData}{e:Expr}{es:List Expr}{t:TA}{p pos:Pos} (G:Callee X.prog X.w X.K X.mg X.base x ps k sp f fd) (hr:Room n X.A) (ha:PA X (e::es) t) (hg:Gl X x:=by rfl) (hle:k<=n:=by decide)
  (hdb:(x == ("__debug__" : Str))=false:=by decide) (he:starEach (e::es) X.env=(false,eval e X.env)::starEach es X.env:=by rfl) (hpl:(backTo pos (starEach es X.env)).any (·.1)=false:=by rfl) :
  PE X (.Call (.Name x p) (e::es) [] pos) (iJ sp [] E0 t):=cL G.ok (hr.mono hle) hg G.mg G.kp G.bd .nil BE ha hdb he hpl
theorem bI:bootBuiltins "isinstance" = some (.builtin "isinstance"):=by decide +kernel
def eA (t:Addr) (H H':Hp):Prop:=∀ b o,b≠t->H b=some o->H' b=some o
theorem eA.refl {t:Addr} (H:Hp):eA t H H:=λ _ _ _ h=>h
theorem eA.trans {t:Addr}{H H1 H2:Hp} (a:eA t H H1) (b:eA t H1 H2):eA t H H2:=λ c o hc h=>b c o hc (a c o hc h)
theorem aH.but {t:Addr}{H H':Hp} (a:aH H H'):eA t H H':=λ b o _ h=>a b o h
theorem eA.upd {t:Addr}{H:Hp}{o:HO}:eA t H (upd H t o):=λ b u hb h=>by rw[aP hb];exact h
theorem eA.ts {K:aaa}{t:Addr}{H H':Hp} (a:eA t H H') (hm:wA (H t)):bY K H H':=by
 intro b xs h;have ne:∀ {o:HO},H b=some o->¬ wA (some o)->b≠t:=λ e n z=>by rw[<- z,e] at hm;exact n hm
 rcases h with (h | ⟨o,h⟩) | h
 ·exact .inl (.inl (a _ _ (ne h (λ z=>z)) h))
 ·exact .inl (.inr ⟨o,a _ _ (ne h (λ z=>z)) h⟩)
 ·exact .inr h
theorem eA.free {t l:Addr}{H H':Hp} (a:eA t H H') (hl:l≠t) (h:H' l=none):H l=none:=by
 cases q:H l with
 | none=>rfl
 | some o=>rw[a l o hl q] at h;cases h
theorem xW {ae:Type}{xs:List ae}{k:Int}{v:ae} (h0:0<=k) (h:xs[k.toNat]? = some v):yG xs k=some v:=by
 obtain⟨j,rfl⟩:=Int.eq_ofNat_of_zero_le h0;exact sB (by simpa using h)
theorem Is.tupOf {K:aaa}{H:Hp}{ds:List D}{a:Addr}{xs:List V} (q:cG K H a xs) (l:IsL K H ds xs):Is K H (.tup ds) (.ref a):=by
 rw[Is];exact⟨a,xs,rfl,q,l⟩
theorem Is.un {K:aaa}{H:Hp}{ds:List D}{v:V} (h:Is K H (.tup ds) v):∃ a xs,v=.ref a/\cG K H a xs/\IsL K H ds xs:=by
 rw[Is] at h;exact h
theorem IsL.un {K:aaa}{H:Hp}{d:D}{ds:List D}{xs:List V} (h:IsL K H (d::ds) xs):∃ x r,xs=x::r/\Is K H d x/\IsL K H ds r:=by
 rw[IsL] at h;exact h
theorem IsL.un0 {K:aaa}{H:Hp}{xs:List V} (h:IsL K H [] xs):xs=[]:=by
 rw[IsL] at h;exact h
theorem IsL.cons {K:aaa}{H:Hp}{d:D}{ds:List D}{x:V}{xs:List V} (hd:Is K H d x) (h:IsL K H ds xs):IsL K H (d::ds) (x::xs):=by
 rw[IsL];exact⟨x,xs,rfl,hd,h⟩
theorem IsL.nil {K:aaa}{H:Hp}:IsL K H [] []:=by rw[IsL]
theorem Is.i {K:aaa}{H:Hp} (i:Int):Is K H (.int i) (.int i):=by rw[Is]
theorem Is.b {K:aaa}{H:Hp} (i:Bool):Is K H (.bl i) (.bl i):=by rw[Is]
theorem Is.s {K:aaa}{H:Hp} (i:Str):Is K H (.str i) (.str i):=by rw[Is]
theorem Is.n {K:aaa}{H:Hp}:Is K H .non .non:=by rw[Is]
theorem Is.ui {K:aaa}{H:Hp}{i:Int}{v:V} (h:Is K H (.int i) v):v=.int i:=by rw[Is] at h;exact h
theorem Is.ub {K:aaa}{H:Hp}{i:Bool}{v:V} (h:Is K H (.bl i) v):v=.bl i:=by rw[Is] at h;exact h
theorem Is.us {K:aaa}{H:Hp}{i:Str}{v:V} (h:Is K H (.str i) v):v=.str i:=by rw[Is] at h;exact h
theorem Is.u0 {K:aaa}{H:Hp}{v:V} (h:Is K H .non v):v=.non:=by rw[Is] at h;exact h
end L2
namespace Tw
open PySem L2
structure Vs where
 size:Int
 brim:Int
 outs:List (Option Int×Int)
 holds:Bool
 spill:Option Int
 acts:List (Str×Int)
abbrev lU:=Int×Int×Bool
structure Net where
 vs:List Vs
 sps:List lU
def lT:Option Int->D
 | none=>.non
 | some i=>.int i
def kA:Option Int->V
 | none=>.non
 | some i=>.int i
def gG (o:Option Int×Int):D:=.tup [lT o.1,.int o.2]
def dW (a:Str×Int):D:=.tup [.str a.1,.int a.2]
def jZ (v:Vs):D:=.tup [.int v.size,.int v.brim,.tup (v.outs.map gG),.bl v.holds,lT v.spill,.tup (v.acts.map dW)]
def n4 (s:lU):D:=.tup [.int s.1,.int s.2.1,.bl s.2.2]
def eX (n:Net):D:=.tup [.tup (n.vs.map jZ),.tup (n.sps.map n4)]
theorem Is.tg {K:aaa}{H:Hp}{t:Option Int}{v:V} (h:Is K H (lT t) v):v=kA t:=by
 cases t with
 | none=>exact h.u0
 | some i=>exact h.ui
theorem Is.tgOf {K:aaa}{H:Hp} (t:Option Int):Is K H (lT t) (kA t):=by
 cases t with
 | none=>exact Is.n
 | some i=>exact Is.i i
structure OutOk (n:Nat) (o:Option Int×Int):Prop where
 tg:∀ t,o.1=some t->0<=t/\t < n
 lo:1<=o.2
 hi:o.2<=60
structure ActOk (m:Nat) (a:Str×Int):Prop where
 word:a.1 = "open" \/ a.1 = "shut" \/ a.1 = "turn"
 lo:0<=a.2
 hi:a.2 < m
structure VOk (n m:Nat) (v:Vs):Prop where
 size:1<=v.size
 ne:v.outs≠[]
 o3:v.outs.length<=3
 outs:∀ o∈v.outs,OutOk n o
 spill:∀ t,v.spill=some t->0<=t/\t < n
 a3:v.acts.length<=3
 acts:∀ a∈v.acts,ActOk m a
structure NetOk (net:Net):Prop where
 lo:1<=net.vs.length
 hi:net.vs.length<=12
 sp:net.sps.length<=12
 vs:∀ v∈net.vs,VOk net.vs.length net.sps.length v
 sps:∀ s∈net.sps,0<=s.1/\s.1 < net.vs.length
end Tw
namespace L2
open PySem PySem.Spec PyProof.Rows TwZ
section
variable {g:TG}{tc:TT}{te:TE}{fr:List (Option Nat)}{σ:St}{H1:Hp}{Q:Addr->Hp->Prop}
theorem gJ {a:Addr}{xs:List V} (Pv:Addr->Nat->List V->St->Hp->Prop) (hq:∀ D i ys σ H,Pv D i ys σ H->cG K H a xs)
  (h0:∀ D,H1 D=none->Pv D 0 [] (wC fr σ) (upd H1 D (.lst []))) (hstop:∀ D ys Z H',Pv D xs.length ys Z H'->Q D H')
  (hgo:∀ D i x ys Z H',xs[i]? = some x->Pv D i ys Z H'->g x Z H' λ af H3=>tc af H3 λ b H4=>
    if b=true then te af H4 λ y H5=>H5 D=some (.lst ys)/\ys.length < sizeLine/\Pv D (i+1) (ys++[y]) af (upd H5 D (.lst (ys++[y])))
    else Pv D (i+1) ys af H4):jJ (AI K a) g tc te fr σ H1 Q:=by
 refine uU (n:=xs.length) Pv h0 (λ D ys Z H' p=>⟨⟨xs,hq D _ ys Z H' p,aae _⟩,hstop D ys Z H' p⟩) λ D i ys Z H' hi p=>⟨⟨xs,xs[i],hq D _ ys Z H' p,by simp [hi]⟩,λ x H2 y=>?_⟩;obtain⟨e,y⟩:=y;subst e;exact hgo D i x ys Z _ (y xs (hq D _ ys Z _ p)) p
theorem uT {n:Nat} (Pv:Addr->Nat->List V->St->Hp->Prop)
  (h0:∀ D,H1 D=none->Pv D 0 [] (wC fr σ) (upd H1 D (.lst []))) (hstop:∀ D ys Z H',Pv D n ys Z H'->Q D H')
  (hgo:∀ D i ys Z H',i < n->Pv D i ys Z H'->g (.int (i:Int)) Z H' λ af H3=>tc af H3 λ b H4=>
    if b=true then te af H4 λ y H5=>H5 D=some (.lst ys)/\ys.length < sizeLine/\Pv D (i+1) (ys++[y]) af (upd H5 D (.lst (ys++[y])))
    else Pv D (i+1) ys af H4):jJ (AJ 0 n) g tc te fr σ H1 Q:=by
 refine uU (n:=n) Pv h0 (λ D ys Z H' p=>⟨aae _,hstop D ys Z H' p⟩) λ D i ys Z H' hi p=>⟨hi,λ x H2 y=>?_⟩;obtain⟨e,y⟩:=y;subst e y;rw[Int.zero_add];exact hgo D i ys Z _ hi p
end
section
variable {g:TG}{tb:TS}{D:Ends}{σ:St}{H:Hp}
abbrev y1 (J:It) (g:TG) (tb:TS) (D:Ends) (σ:St) (H:Hp):Prop:=
 ∃ W:Nat->Nat->St->Hp->Prop,(∃ m,W 0 m σ H)/\∀ i m σ H,W i m σ H->
   (J.stop i H/\D.nx σ H)\/(J.go i H/\∃ N:St->Hp->Prop,(∀ Z H',N Z H'->∃ m',m' < m/\W (i+1) m' Z H')/\∀ x H',J.yld i H x H'->g x σ H' λ ak H2=>tb { D with nx:=N,ct:=N,bk:=D.nx } ak H2)
theorem vR {t:Bool}{a:Addr}{xs:List V} (Pv:Nat->St->Hp->Prop) (hq:∀ i σ H,Pv i σ H->y0 K H t a xs)
  (h0:Pv 0 σ H) (hstop:∀ σ H,Pv xs.length σ H->D.nx σ H)
  (hgo:∀ i x σ H T,xs[i]? = some x->Pv i σ H->H T=none->g (.ref T) σ (upd H T (.tup [.int (i:Int),x])) λ ak H2=>tb { D with nx:=Pv (i+1),ct:=Pv (i+1),bk:=D.nx } ak H2):y1 (Ite K t a) g tb D σ H:=by
 refine xR (n:=xs.length) Pv h0 (λ σ H p=>?_) λ i σ H hi p=>?_
 ·exact⟨⟨xs,hq _ σ H p,aae _⟩,hstop σ H p⟩
 ·refine⟨⟨xs,xs[i],hq _ σ H p,by simp [hi]⟩,?_⟩;rintro v H2 ⟨T,x,hT,rfl,e1,rfl⟩;exact hgo i x σ H T (e1 xs (hq _ σ H p)) p hT
end
theorem yI {σ:St}{H:Hp}{A B:Hp->Prop} (h:A H):tQ σ H λ b H4=>if b=true then A H4 else B H4:=by
 show if true=true then A H else B H
 rw[if_pos rfl];exact h
theorem lG {i:Nat}{v:V}{σ:St}{H:Hp}{A B:St->Hp->Prop} (h:A (σ.set i (some v)) H):bS i v σ H λ af H3=>tQ af H3 λ b H4=>if b=true then A af H4 else B af H4:=yI (σ:=σ.set i (some v)) (A:=A (σ.set i (some v))) (B:=B (σ.set i (some v))) h
theorem aH.put {H H':Hp}{p:Addr}{o:HO} (a:aH H H') (h:H p=none):aH H (upd H' p o):=λ b u e=>by rw[aP (aO e h)];exact a b u e
theorem bY.put {K:aaa}{H H':Hp}{p:Addr}{o:HO} (a:bY K H H') (h:H' p=none\/wA (H' p)):bY K H (upd H' p o):=a.trans (by
 rcases h with h | h
 ·exact (aH.new h).ts
 ·exact eA.ts eA.upd h)
def yH (i j:Int):Prop:=0 < j/\j < 2 ^ 200
theorem uG {X:Cx}:fM X (binaryOp .FloorDiv) (rI yH λ i j=>.int (i / j)):=BH λ i j _ _ _ _ _ hc q=>by
 have h1:(0:Int) < j:=hc.1;have h2:j < 2 ^ 200:=hc.2;refine floordiv_int (by omega) (by rw[Int.fdiv_eq_ediv_of_nonneg i (by omega)];exact q) (.inl (PyProof.noPylong_of_log2 ?_));have h0:j.natAbs≠0:=by omega
 have h3:j.natAbs < 2 ^ 200:=by omega
 have:=(Nat.log2_lt h0).mpr h3;omega
theorem dO:bootBuiltins "int" = some (.type "int"):=by decide +kernel
theorem bN:bootBuiltins "tuple" = some (.type "tuple"):=by decide +kernel
theorem xV:bootBuiltins "list" = some (.type "list"):=by decide +kernel
theorem gW:bootBuiltins "bool" = some (.type "bool"):=by decide +kernel
section
variable {X:Cx}{tg:Expr}{pos:Pos}
theorem bT {es:List Expr}{k:Nat}{t:sE}{n:Nat} (hK:X.K=K) (hc:X.calm=true) (h:wD X es t)
  (hn:(assignEach es X.env).length=n:=by rfl) (hst:(assignEach es X.env).findIdx? (·.1)=none:=by rfl):PG X (.Tuple es k pos) (BN K n t):=by
 subst hK;exact zF hc h hn hst
theorem xN (hK:X.K=K):wF X (qL K):=by subst hK;exact A3
def wN (K:aaa):List V->Hp->VK->Prop:=λ xs H Q=>∃ p ys,xs=[.ref p]/\(bV K H p ys\/cG K H p ys)/\Q (.int ys.length) H
theorem tE (hK:X.K=K):dC X (.builtin "len") (wN K):=by subst hK;exact oH
theorem gU (hK:X.K=K) (hc:X.calm=true):dC X (.builtin "all") (zC K):=by subst hK;exact tH hc
theorem bX (hK:X.K=K):dC X (.builtin "isinstance") (B5 K):=by subst hK;exact vZ
def yX (K:aaa):List V->Hp->VK->Prop:=λ xs H Q=>∃ p ys,xs=[.ref p]/\((bV K H p ys/\∀ l,H l=none->Q (.ref l) (upd H l (.tup ys)))\/(cG K H p ys/\Q (.ref p) H))
theorem d3 (hK:X.K=K):dC X (.type "tuple") (yX K):=by subst hK;exact m7
def yZ (K:aaa):List V->Hp->VK->Prop:=λ xs H Q=>∃ p ys,xs=[.ref p]/\(bV K H p ys\/cG K H p ys)/\∀ l,H l=none->Q (.ref l) (upd H l (.lst ys))
theorem t9 (hK:X.K=K):dC X (.type "list") (yZ K):=by subst hK;exact oG
theorem kT {l:Expr}{tl:TE} (hK:X.K=K) (hl:PE X l tl):PI X tg l (yA K tl):=by subst hK;exact wP hl
theorem cB {l:Expr}{tl:TE} (hK:X.K=K) (hl:PE X l tl):PI X tg l (A5 K tl):=by subst hK;exact zE hl
theorem uB {a:Expr}{ta:TA}{p:Pos} (hK:X.K=K) (hg:Gl X "enumerate") (hm:X.mg "enumerate" = none) (ha:PA X [a] ta) (hs:starEach [a] X.env=[(false,eval a X.env)]:=by rfl):PI X tg (.Call (.Name "enumerate" p) [a] [] pos) (yB K ta):=by
 subst hK;exact wQ hg hm ha hs
theorem qO (hK:X.K=K) (hu:X.A.units+64 < cLine):fM X (compareOp .NotEq) (rJ K):=by subst hK;exact sT hu
theorem eO {o e:Expr}{es:List Expr}{to:TE}{t:TA}{name:Str}{apos cpos:Pos}{T id:String}{r:V->List V->Hp->VK->Prop} (hK:X.K=K)
  (pa:PlainAttrs T) (slot:Slot T name id) (hty:typeOf (.builtin id)=pure (.type "method_descriptor")) (hm:wE X id r) (ho:PE X o to) (ha:PA X (e::es) t)
  (hbase:attributeBase o name X.env (eval o X.env)=eval o X.env:=by rfl)
  (hfew:((backTo cpos (starEach (e::es) X.env)).all (λ x=>!x.1) && (backToKw cpos (keywordEach [] X.env)).all (λ x=>x.1.isSome)
   && decide ((e::es).length+([]:List Keyword).length+(if ([]:List Keyword).isEmpty then 0 else 1) < 30))=true:=by rfl)
  (hline:(apos.endLine == cpos.line)=true:=by rfl) (hs:starEach (e::es) X.env=(false,eval e X.env)::starEach es X.env:=by rfl) (hplain:(backTo cpos (starEach es X.env)).any (·.1)=false:=by rfl) :
  PE X (.Call (.Attribute o name apos) (e::es) [] cpos) (tBM K T r to t):=by subst hK;exact y8 pa slot hty hm ho ha hbase hfew hline hs hplain
end
section
variable {X:Cx}{pos p:Pos}
theorem pL (i:Nat) {x:Str}{e:Expr}{te:TE}{pos':Pos} (hN:X.N.Nodup) (he:PE X e te) (hi:X.N[i]? = some x:=by rfl) (hx:AH X.env.scope x:=by exact Or.inl rfl) (hs:swapsWith e (some (.Name x pos')) pos.line X.env=pure false:=by rfl) (hf:X.fn x=true\/X.env.scope.names.lookup x=some .local:=by first | exact .inl rfl | exact .inr rfl | assumption) :
  PS X (.Assign [.Name x pos'] e pos) (iK te (bS i)):=qM hN hi hx he hs hf
theorem gL (i:Nat) {x:Str} (hN:X.N.Nodup) (hi:X.N[i]? = some x:=by rfl) (hx:AH X.env.scope x:=by exact Or.inl rfl) (hf:X.fn x=true\/X.env.scope.names.lookup x=some .local:=by first | exact .inl rfl | exact .inr rfl | assumption):PG X (.Name x pos) (bS i):=nJ hN hi hx hf
theorem gC (i:Nat) (N:List Str) {x:Str} (hN:N.Nodup:=by decide +kernel) (e:X.N=N:=by rfl) (hi:N[i]? = some x:=by rfl) (hx:AH X.env.scope x:=by exact Or.inl rfl) (hf:X.fn x=true\/X.env.scope.names.lookup x=some .local:=by exact Or.inr rfl):PG X (.Name x pos) (bS i):=nJ (by rw[e];exact hN) (by rw[e];exact hi) hx hf
theorem px (K:aaa) {a b:Expr}{ta tb:TE} (ha:PE X a ta) (hb:PE X b tb) (hK:X.K=K:=by rfl) (hs:sF b:=by exact λ _ _=>rfl):PE X (.Subscript a b pos) (eQ (qL K) ta tb):=BD (xN hK) ha hb hs
theorem lW (K:aaa) {a:Expr}{ta:TE} (hm:X.mg "len" = none) (ha:PE X a ta) (hK:X.K=K:=by rfl) (hg:Gl X "len" := by rfl) (hs:starEach [a] X.env=[(false,eval a X.env)]:=by rfl):PE X (.Call (.Name "len" p) [a] [] pos) (wJ (wN K) (cE ta fP)):=
 aU (tE hK) hg hm PySem.boot_len (aA ha aB hs) (by decide) (by decide) hs rfl
end
def BP (K:aaa) (n:Nat) (t:sE):TG:=λ v σ H Q=>∃ a xs,v=.ref a/\bV K H a xs/\xs.length=n/\t xs σ H Q
theorem zG {X:Cx}{pos:Pos}{es:List Expr}{k:Nat}{t:sE}{n:Nat} (hc:X.calm=true) (h:wD X es t)
  (hn:(assignEach es X.env).length=n:=by rfl) (hst:(assignEach es X.env).findIdx? (·.1)=none:=by rfl):PG X (.Tuple es k pos) (BP X.K n t):=by
 intro pins s σ H v u Q I r hw;obtain⟨a,xs,e1,hq,hl,hw⟩:=hw;subst e1;cases r;obtain⟨its,rv,ht,hz⟩:=I.list hq;rw[assign_Tuple];refine aac (wpAny_standAt ?_);unfold unpack;have e:(assignEach es X.env).length=its.toArray.size:=by simp [hn,<- hl,rv.length]
 rw[e,hst];refine aac (aby (PySem.W.kun_itemsOf (I.ok.hd hc) ht.isList λ h' hx=>?_));have I1:Inv X pins σ H { s with heap:=h' }:=I.kept (t':=s.toks) λ b o e=>hx b o (abc (aai e)) e;exact h pins _ σ H xs _ Q I1 (by simpa using rv) hw
theorem rK {X:Cx}{K:aaa}{pos:Pos}{es:List Expr}{k:Nat}{t:sE}{n:Nat} (hK:X.K=K) (hc:X.calm=true) (h:wD X es t)
  (hn:(assignEach es X.env).length=n:=by rfl) (hst:(assignEach es X.env).findIdx? (·.1)=none:=by rfl):PG X (.Tuple es k pos) (BP K n t):=by
 subst hK;exact zG hc h hn hst
end L2
namespace Tw
open PySem L2
theorem fT {n:Nat} (h:n<=10000000):n < sizeLine:=by rw[sizeLine_eq];omega
end Tw
namespace L2
open PySem PySem.Spec PyProof.Rows
open Builtin Builtin.Str
def aN (i:Int):Str:=Str.ofString (toString i)
section
variable {X:Cx}{pins:List (Addr×Obj)}{σ:St}{H:Hp}{s:Shared}
theorem m9:∀ (l:List (Str×Tok)),aZ (l.map λ p=>V.str p.1) (strValues l)
 | []=>.nil
 | p::l=>.cons ⟨p.2,rfl⟩ (m9 l)
theorem mC:∀ {xs:List Str}{us:List Value},aZ (xs.map V.str) us->∃ l:List (Str×Tok),us=strValues l/\l.map (·.1)=xs
 | [],_,h=>by cases h;exact⟨[],rfl,rfl⟩
 | x::xs,_,h=>by
  cases h with
  | cons r rr=>
   obtain⟨t,rfl⟩:=r;obtain⟨l,rfl,e⟩:=mC rr;exact⟨(x,t)::l,rfl,by rw[abg,e]⟩
def u7 (K:aaa):V->List V->Hp->VK->Prop:=λ x vs H Q=>∃ (sep:Str) (l:Addr) (ts:List Str),x=.str sep/\vs=[.ref l]/\bV K H l (ts.map V.str)/\JoinOk sep ts=true/\Q (.str (Str.join sep ts)) H
theorem uQ:wE X "str.join" (u7 X.K):=by
 intro pins s σ H x vs v us Q I rx rv h;obtain⟨sep,l,ts,rfl,rfl,hq,hok,q⟩:=h;obtain⟨t,rfl⟩:=rx;obtain⟨u,rfl,ru⟩:=rv.one;cases ru;obtain⟨its,r,hp,hz⟩:=I.list hq;obtain⟨ls,rfl,e⟩:=mC r;refine SC.join hp.isList e hok λ t' k=>⟨.str _,H,I.tok _,⟨t',rfl⟩,?_⟩;show Q (.str (glued sep ts)) H;rw[StrLaws.glued_eq_join];exact q
def wM:V->List V->Hp->VK->Prop:=λ x vs H Q=>∃ (y sep:Str),x=.str y/\vs=[.str sep]/\0 < sep.length/\y.length<=1000000/\∀ p,H p=none->Q (.ref p) (upd H p (.lst ((Txt.split y sep).map V.str)))
theorem eT (x y:Str) (hy:1<=y.length):(Txt.split x y).length<=x.length+1:=by have:=split_weight x y hy;omega
theorem gQ:wE X "str.split" wM:=by
 intro pins s σ H x vs v us Q I rx rv h;obtain⟨x,y,rfl,rfl,hy,hx,q⟩:=h;obtain⟨t,rfl⟩:=rx;obtain⟨u,rfl,ru⟩:=rv.one;obtain⟨u,rfl⟩:=ru;have hy':(y.length == 0)=false:=by rw[beq_eq_false_iff_ne];omega
 have hn:=eT x y (by omega);have hxs:x.length<=sizeLine:=by rw[sizeLine_eq];omega
 cases h1:(decide (x.length < y.length) || decide (strKind x < strKind y))
 ·cases hf:(occurrences x y 0 x.length (x.length+1)).isEmpty
  ·have e:Txt.split x y=partsBetween x (occurrences x y 0 x.length (x.length+1)) y.length:=(if_neg (ne_true_of_eq_false h1)).trans (if_neg (ne_true_of_eq_false hf));rw[e] at hn;have hz:(partsBetween x (occurrences x y 0 x.length (x.length+1)) y.length).length<=sizeLine:=by rw[sizeLine_eq];omega
   refine call_meets F.slot_str_split (typeIs_str _ _ _) F.entry_str_split (F.args_str_split_2 _ _) (meets_str_split_sep x y t u h1 hy' hf hxs hz) ?_;show wants _ _ _ { s with toks:=_,heap:=s.heap.push { cls:=.type "list",data:=.seq (strsFrom s.toks (partsBetween x (occurrences x y 0 x.length (x.length+1)) y.length)).toArray } };rw[strsFrom_eq];have hv:=m9 (numbered s.toks (partsBetween x (occurrences x y 0 x.length (x.length+1)) y.length));have em:(numbered s.toks (partsBetween x (occurrences x y 0 x.length (x.length+1)) y.length)).map (λ p=>V.str p.1)=(Txt.split x y).map V.str:=by rw[e,<- numbered_texts s.toks (partsBetween _ _ _),List.map_map,numbered_texts];rfl
   rw[em] at hv;exact⟨.ref _,_,I.lnew hv (by rw[aab,e];exact hz),rfl,q _ I.fresh⟩
  ·have e:Txt.split x y=[x]:=(if_neg (ne_true_of_eq_false h1)).trans (if_pos hf);rw[e] at q;exact call_meets F.slot_str_split (typeIs_str _ _ _) F.entry_str_split (F.args_str_split_2 _ _) (meets_str_split_not_found x y t u h1 hy' hf) ⟨.ref _,_,I.lnew (t':=s.toks) (ys:=[.str x]) (.cons ⟨t,rfl⟩ .nil) (show 1<=sizeLine by decide),rfl,q _ I.fresh⟩
 ·have e:Txt.split x y=[x]:=if_pos h1;rw[e] at q;exact call_meets F.slot_str_split (typeIs_str _ _ _) F.entry_str_split (F.args_str_split_2 _ _) (meets_str_split_cannot_occur x y t u h1) ⟨.ref _,_,I.lnew (t':=s.toks) (ys:=[.str x]) (.cons ⟨t,rfl⟩ .nil) (show 1<=sizeLine by decide),rfl,q _ I.fresh⟩
def yY:V->List V->Hp->VK->Prop:=λ x vs H Q=>∃ (y sep:Str),x=.str y/\vs=[.str sep]/\0 < sep.length/\y.length<=1000000/\∀ p,H p=none->Q (.ref p) (upd H p (.tup [.str (Txt.partition y sep).1,.str (Txt.partition y sep).2.1,.str (Txt.partition y sep).2.2]))
theorem p6:wE X "str.partition" yY:=by
 intro pins s σ H x vs v us Q I rx rv h;obtain⟨x,y,rfl,rfl,hy,hx,q⟩:=h;obtain⟨t,rfl⟩:=rx;obtain⟨u,rfl,ru⟩:=rv.one;obtain⟨u,rfl⟩:=ru;have hy':(y.length == 0)=false:=by rw[beq_eq_false_iff_ne];omega
 have hxs:x.length<=sizeLine:=by rw[sizeLine_eq];omega
 refine call_meets F.slot_str_partition (typeIs_str _ _ _) F.entry_str_partition (F.args_str_partition_2 _ _) (meets_str_partition x y t u hy' hxs) ?_;have q':=q s.heap.objs.size I.fresh;unfold Txt.partition at q';cases ho:occurrences x y 0 x.length 1 with
 | nil=>
  rw[ho] at q';exact⟨.ref _,_,I.laid (o:=.tup [.str x,.str Str.empty,.str Str.empty]) (t':=s.toks+1) (λ _ _ q=>aaf _ q) (aae _) ⟨(show 3<=sizeLine by decide),_,.cons ⟨t,rfl⟩ (.cons ⟨s.toks,rfl⟩ (.cons ⟨s.toks,rfl⟩ .nil)),⟨_,aap _ rfl,rfl,_,rfl⟩⟩,rfl,q'⟩
 | cons i r=>
  rw[ho] at q';exact⟨.ref _,_,I.laid (o:=.tup [.str (strSub x 0 i),.str y,.str (strSub x (i+y.length) x.length)]) (t':=s.toks+1+1) (λ _ _ q=>aaf _ q) (aae _) ⟨(show 3<=sizeLine by decide),_,.cons ⟨s.toks,rfl⟩ (.cons ⟨u,rfl⟩ (.cons ⟨s.toks+1,rfl⟩ .nil)),⟨_,aap _ rfl,rfl,_,rfl⟩⟩,rfl,q'⟩
def zB:V->List V->Hp->VK->Prop:=λ x vs H Q=>∃ y:Str,x=.str y/\vs=[]/\Q (.bl (Txt.isdecimal y)) H
theorem uR:wE X "str.isdecimal" zB:=by
 intro pins s σ H x vs v us Q I rx rv h;obtain⟨y,rfl,rfl,q⟩:=h;obtain⟨t,rfl⟩:=rx;have:=rv.zero;subst this;exact SC.isdecimal ⟨.bl _,H,I,rfl,q⟩
def B6:List V->Hp->VK->Prop:=λ xs H Q=>∃ (y:Str) (n:Int),xs=[.str y]/\PySem.intText? y=some n/\y.length<=640/\Q (.int n) H
theorem mJ:dC X (.type "int") B6:=by
 intro pins s σ H xs us Q I r h;obtain⟨y,n,rfl,hn,hl,q⟩:=h;obtain⟨u,rfl,t,rfl⟩:=iH r;exact PySem.W.KIN.call_text hn hl ⟨.int n,H,I.tok _,⟨_,rfl⟩,q⟩
def AY:V->Option Str
 | .int i=>if i.natAbs.log2 < 1920 then some (aN i) else none
 | .non=>some "None"
 | .str x=>some x
 | _=>none
def B0:List V->Hp->VK->Prop:=λ xs H Q=>∃ x y,xs=[x]/\AY x=some y/\Q (.str y) H
theorem cT:dC X (.type "str") B0:=by
 intro pins s σ H xs us Q I r h;obtain⟨x,y,rfl,e,q⟩:=h;obtain⟨u,rfl,rx⟩:=iH r;cases x with
 | int i=>
  have e:(if i.natAbs.log2 < 1920 then some (aN i) else none)=some y:=e;obtain⟨t,rfl⟩:=rx
  split at e
  ·rename_i hi
   cases e;exact PySem.P.str_of_int hi ⟨.str _,H,I.tok _,⟨_,rfl⟩,q⟩
  ·cases e
 | non=>cases rx;cases e;exact PySem.P.str_of_none ⟨.str _,H,I.tok _,⟨_,rfl⟩,q⟩
 | str z=>obtain⟨t,rfl⟩:=rx;cases e;exact PySem.P.str_of_str ⟨.str _,H,I,⟨_,rfl⟩,q⟩
 | bl b=>cases e
 | byt b=>cases e
 | flt b=>cases e
 | ref a=>cases e
 | ty n=>cases e
theorem lI {i:Int} (h0:0<=i) (h1:i < 10 ^ 9):i.natAbs.log2 < 1920:=by
 have:i.natAbs < 2 ^ 30:=by omega
 by_cases hz:i.natAbs=0
 ·rw[hz];decide
 ·exact Nat.lt_trans ((Nat.log2_lt hz).mpr this) (by decide)
theorem d8 {i:Int} (h0:0<=i) (h1:i < 10 ^ 9):AY (.int i)=some (aN i):=if_pos (lI h0 h1)
def B1:List V->Hp->VK->Prop:=λ xs H Q=>∃ y:Str,xs=[.str y]/\y.length<=1000000/\Q (.int y.length) H
theorem tD:dC X (.builtin "len") B1:=by
 intro pins s σ H xs us Q I r h;obtain⟨y,rfl,hl,q⟩:=h;exact vY pins s σ H _ us Q I r ⟨.str y,y.length,rfl,⟨by rw[sizeLine_eq];omega,rfl⟩,q⟩
def BB:R2:=λ x y H Q=>∃ i j,x=.str i/\y=.str j/\i.length+j.length<=1000000/\Q (.str (i++j)) H
theorem kG:fM X (binaryOp .Add) BB:=λ pins s σ H x y v u Q I rx ry ⟨i,j,e1,e2,hl,q⟩=>qP pins s σ H x y v u Q I rx ry ⟨i,j,e1,e2,by rw[sizeLine_eq];omega,q⟩
def BQ:V->Option Str
 | .str x=>some x
 | .int i=>if i.natAbs.log2 < 1920 then some (aN i) else none
 | _=>none
theorem vS {i:Int} (h0:0<=i) (h1:i < 10 ^ 9):BQ (.int i)=some (aN i):=if_pos (lI h0 h1)
def tS (t:TE):TE:=λ σ H Q=>t σ H λ x H1=>∃ y,BQ x=some y/\y.length<=1000000/\Q (.str y) H1
theorem dF {e:Expr}{t:TE}{pos:Pos} (h:PE X e t):PE X (.FormattedValue e (-1) none pos) (tS t):=by
 intro pins s σ H Q I hw;refine FormattedValue_plain (cR (h pins s σ H _ I hw) λ v s1 ⟨x,H1,I1,r1,y,e1,hl,q1⟩=>?_);cases x with
 | str z=>
  obtain⟨t,rfl⟩:=r1;cases e1;exact formatField_str (λ t' k=>⟨.str _,H1,I1.tok _,⟨t',rfl⟩,q1⟩) (by rw[sizeLine_eq];omega)
 | int i=>
  obtain⟨t,rfl⟩:=r1;have e1:(if i.natAbs.log2 < 1920 then some (aN i) else none)=some y:=e1
  split at e1
  ·rename_i hi
   cases e1;exact formatField_int_small hi ⟨.str _,H1,I1.tok _,⟨_,rfl⟩,q1⟩
  ·cases e1
 | non=>cases e1
 | bl b=>cases e1
 | byt b=>cases e1
 | flt b=>cases e1
 | ref a=>cases e1
 | ty n=>cases e1
def eS:List TE->Str->TE
 | [],acc=>λ _ H Q=>Q (.str acc) H
 | t::ts,acc=>λ σ H Q=>t σ H λ x H1=>∃ y,x=.str y/\(acc++y).length<=1000000/\eS ts (acc++y) σ H1 Q
def PJ (X:Cx) (es:List Expr) (ts:List TE):Prop:=∀ (acc:Str) (pins:List (Addr×Obj)) (s:Shared) (σ:St) (H:Hp) (Q:VK),acc.length<=1000000->Inv X pins σ H s->eS ts acc σ H Q->wpAny (model X.prog X.w) X.A (joinParts acc (evalEach es X.env)) (EP X pins σ Q) X.xe s
theorem nH:PJ X [] []:=λ acc pins s σ H Q ha I q=>joinParts_nil ⟨.str acc,H,I.tok _,⟨_,rfl⟩,q⟩ (by rw[sizeLine_eq];omega)
theorem bB {e:Expr}{es:List Expr}{t:TE}{ts:List TE} (h:PE X e t) (hs:PJ X es ts):PJ X (e::es) (t::ts):=by
 intro acc pins s σ H Q ha I hw;show wpAny _ _ (joinParts acc (eval e X.env::evalEach es X.env)) _ _ s;refine joinParts_cons (cR (h pins s σ H _ I hw) λ v s1 ⟨x,H1,I1,r1,y,e1,hl,q1⟩=>?_);subst e1;obtain⟨t,rfl⟩:=r1;exact⟨by rw[sizeLine_eq];omega,hs (acc++y) pins s1 σ H1 Q hl I1 q1⟩
theorem rL {cw cx:Expr}{rest:List Expr}{pos:Pos}{ts:List TE} (h:PJ X (cw::cx::rest) ts):PE X (.JoinedStr (cw::cx::rest) pos) (eS ts Str.empty):=λ pins s σ H Q I hw=>
 JoinedStr_many (h Str.empty pins s σ H Q (by decide) I hw)
theorem uC {e:Expr}{pos:Pos}{t:TG} (h1:PG X e t):wD X [.Starred e pos] (yD t BO):=by
 intro pins s σ H vs us Q I r h;obtain⟨v,vr,e1,h⟩:=h;subst e1;cases r with
 | cons r rr=>
  show wpAny _ _ (assignInOrder (assign e X.env::[]) _) _ _ s;refine assignInOrder_cons (cR (h1 pins s σ H _ _ _ I r h) λ _ s1 ⟨cr,H1,I1,q1⟩=>?_);exact bJ pins s1 cr H1 _ _ Q I1 rr q1
theorem pV {prog:Program}{w:World}{A:Around} (hh:A.handled=none) (I ax:Addr) (hne:ax≠I) (items:Array Value) (h1:1<=items.size) :
  Walks prog w A I [I,ax] [I] (items.size - 1) (λ i v=>items[i+1]? = some v) (λ i h=>h.IsListIter I ax (i+1)/\h.IsList ax items) where
 sub:=λ b hb=>by simp at hb;simp [hb]
 frame:=λ _ _ _ st hk=>⟨st.1.at λ o e=>hk I (by simp) o e,st.2.at λ o e=>hk ax (by simp) o e⟩
 item:=λ i s Q E hi st hQ=>by
  have hi':i+1 < items.size:=by omega
  refine wpAny_pyNext_list_item st.1 st.2 (x:=items[i+1]) (by simp [hi']) λ h' hit' hs'=>?_;exact hQ _ h' s.toks (by simp [hi']) ⟨hit',st.2.extBut hs'.extBut hne⟩ λ b o hb e=>hs'.extBut b o (λ h=>hb (by simp [h])) e
 done:=λ s Q E st hQ=>wpAny_pyNext_list_end hh st.1 st.2 (by rw[Nat.sub_add_cancel h1];simp) λ h' he'=>hQ h' s.toks λ b o hb e=>he' b o (λ h=>hb (by simp [h])) e
 self:=λ _ _ _ _ st hQ=>wpAny_pyIter_listiter st.1 hQ
theorem qB {prog:Program}{w:World}{A:Around}{E:Value->Shared->Prop}{s:Shared}{l:Addr}{x:Value}{r:List Value}{Q:List Value->Shared->Prop} (hh:A.handled=none) (hl:s.heap.IsList l (x::r).toArray) (hr:r.length<=1000000)
  (hQ:∀ (s':Shared),(∀ b o,s.heap.get? b=some o->s'.heap.get? b=some o)->s'.gens=s.gens->s'.drawn=s.drawn->s'.os=s.os->Q [x,.ref s'.heap.objs.size] { s' with heap:=s'.heap.push { cls:=.type "list",data:=.seq r.toArray } }) :
  wpAny (model prog w) A (unpackItems (.ref l) 2 (some 1)) Q E s:=by
 have hlt:l≠s.heap.objs.size:=by obtain⟨o,ho,_⟩:=hl;exact abc (aai ho)
 unfold unpackItems;refine aac ?_
 ·unfold notIterableAtAll;refine aac (wpAny_specialOf hl.typeIs slot_list_iter.lookup ?_);refine aau ?_;simp only [Bool.false_eq_true,if_false];refine aac (aby (wpAny_pyIter_list hl ?_));refine aac (aby (PySem.W.kun_draw hlt 1 0 _ _ ⟨_,aap _ rfl,rfl,rfl⟩ (hl.push _) (by simp) λ ag ce am=>?_));have hall:List.take 1 (List.drop 0 (x::r).toArray.toList)=[x]:=by simp
  rw[hall];rw[if_neg (by simp)];have cj:ag.IsList l (x::r).toArray:=(hl.push _).extBut am.extBut hlt;have hk1:∀ b o,b≠s.heap.objs.size->s.heap.get? b=some o->ag.get? b=some o:=λ b o hb e=>am.extBut b o hb (aaf _ e);have hz:(x::r).toArray.size - 1=r.length:=by simp
  refine aac (aby (wpAny_collect_iter (T := "list_iterator") (.inr (.inr (.inl rfl))) (pV (by first | exact hh | simpa using hh) s.heap.objs.size l hlt (x::r).toArray (by simp)).toS (λ i s' st=>st.1.typeIs) ⟨ce,cj⟩ ?_ (by simp) (λ s' acc mv it=>?_) (by rw[hz,sizeLine_eq];omega)))
  ·intro b hb;simp only [aaq,abl,or_false] at hb;rcases hb with rfl | rfl
   ·obtain⟨o,ho,_⟩:=ce;exact aai ho
   ·obtain⟨o,ho,_⟩:=cj;exact aai ho
  ·have ea:acc.toList=r:=by
    apply List.ext_getElem?;intro j;rw[Array.getElem?_toList];have h1:acc.size=r.length:=by rw[it.1,hz]
    by_cases hj:j < r.length
    ·have e1:=it.2 j acc[j] (by simp [h1,hj]);simp at e1;rw[Array.getElem?_eq_getElem (by omega)];exact e1.symm
    ·rw[Array.getElem?_eq_none (by omega),List.getElem?_eq_none (by omega)]
   rw[ea];rw[if_neg (by simp)];have e0:(2 - 1 - 1:Nat)=0:=rfl;simp only [Nat.sub_self,Nat.sub_zero,List.take_length,List.drop_length];refine aac (wpAny_newList (aau ?_) (by rw[sizeLine_eq];omega));refine hQ s' (λ b o e=>?_) mv.gens mv.drawn mv.os;have hb:b≠s.heap.objs.size:=abc (aai e);exact mv.heap b o (by simp [hb]) (hk1 b o hb e)
def yC (K:aaa) (t:sE):TG:=λ v σ H Q=>∃ a x xs,v=.ref a/\bV K H a (x::xs)/\xs.length<=1000000/\∀ p,H p=none->t [x,.ref p] σ (upd H p (.lst xs)) Q
theorem wR {es:List Expr}{k:Nat}{pos:Pos}{t:sE} (hc:X.calm=true) (h:wD X es t) (hn:(assignEach es X.env).length=2:=by rfl) (hst:(assignEach es X.env).findIdx? (·.1)=some 1:=by rfl):PG X (.Tuple es k pos) (yC X.K t):=by
 intro pins s σ H v u Q I r hw;obtain⟨a,x,xs,e1,hq,hl,hw⟩:=hw;subst e1;cases r;obtain⟨its,rv,ht,hz⟩:=I.list hq;cases rv with
 | @cons _ u _ us ru rr=>
  have hlen:=rr.length;rw[assign_Tuple];refine aac (wpAny_standAt ?_);unfold unpack;rw[hn,hst];refine aac (aby (qB (I.ok.hd hc) ht.isList (by omega) λ s' hk hg hd ho=>?_));have e:s'={ s with heap:=s'.heap,toks:=s'.toks }:=by cases s';cases s;cases hg;cases hd;cases ho;rfl
  have I1:Inv X pins σ H s':=by rw[e];exact I.kept hk
  exact h pins _ σ _ _ _ Q (I1.lnew (t':=s'.toks) rr (by rw[sizeLine_eq];omega)) (.cons ru (.cons (show aX (.ref _) _ from rfl) .nil)) (hw _ I1.fresh)
end
section
variable {X:Cx}
theorem d2 (hK:X.K=K):wE X "str.join" (u7 K):=by subst hK;exact uQ
theorem uD {es:List Expr}{k:Nat}{pos:Pos}{t:sE} (hK:X.K=K) (hc:X.calm=true) (h:wD X es t) (hn:(assignEach es X.env).length=2:=by rfl) (hst:(assignEach es X.env).findIdx? (·.1)=some 1:=by rfl):PG X (.Tuple es k pos) (yC K t):=by subst hK;exact wR hc h hn hst
theorem eK {o e:Expr}{es:List Expr}{to:TE}{t:TA}{name:Str}{apos cpos:Pos}{id:String}{r:V->List V->Hp->VK->Prop} (hK:X.K=K)
  (slot:Slot "str" name id) (hty:typeOf (.builtin id)=pure (.type "method_descriptor")) (hm:wE X id r) (ho:PE X o to) (ha:PA X (e::es) t)
  (hbase:attributeBase o name X.env (eval o X.env)=eval o X.env:=by rfl)
  (hfew:((backTo cpos (starEach (e::es) X.env)).all (λ x=>!x.1) && (backToKw cpos (keywordEach [] X.env)).all (λ x=>x.1.isSome)
   && decide ((e::es).length+([]:List Keyword).length+(if ([]:List Keyword).isEmpty then 0 else 1) < 30))=true:=by rfl)
  (hline:(apos.endLine == cpos.line)=true:=by rfl) (hs:starEach (e::es) X.env=(false,eval e X.env)::starEach es X.env:=by rfl) (hplain:(backTo cpos (starEach es X.env)).any (·.1)=false:=by rfl) :
  PE X (.Call (.Attribute o name apos) (e::es) [] cpos) (tBM K "str" r to t):=by subst hK;exact y8 F.plainAttrs_str slot hty hm ho ha hbase hfew hline hs hplain
theorem zI {o:Expr}{to:TE}{name:Str}{apos cpos:Pos}{id:String}{r:V->List V->Hp->VK->Prop} (hK:X.K=K)
  (slot:Slot "str" name id) (hty:typeOf (.builtin id)=pure (.type "method_descriptor")) (hm:wE X id r) (ho:PE X o to)
  (hbase:attributeBase o name X.env (eval o X.env)=eval o X.env:=by rfl) (hline:(apos.endLine == cpos.line)=true:=by rfl):PE X (.Call (.Attribute o name apos) [] [] cpos) (AV K "str" r to):=by subst hK;exact zJ F.plainAttrs_str slot hty hm ho hbase hline
end
end L2
namespace Tw
open PySem L2
abbrev one (c:Nat):Str:=⟨#[c]⟩
abbrev sg (x:Str):List Nat:=x.cps.toList
theorem nA {a b:Str} (h:sg a=sg b):a=b:=Str.ext' (Array.toList_inj.mp h)
theorem dM (a b:Str):sg (a++b)=sg a++sg b:=by show (a.cps++b.cps).toList=_;simp
theorem n9 (a:Str):(sg a).length=a.length:=by simp [sg,Str.length]
theorem d9 (c:Nat) (x y:Str) (r:List Str):sg (Str.join (one c) (x::y::r))=sg x++c::sg (Str.join (one c) (y::r)):=by
 show sg (x++one c++Str.join (one c) (y::r))=_;rw[dM,dM,List.append_assoc];rfl
theorem sD {c:Nat}:∀ {x x' t t':List Nat},c∉x->c∉x'->x++c::t=x'++c::t'->x=x'/\t=t'
 | [],[],_,_,_,_,e=>⟨rfl,(List.cons.inj e).2⟩
 | [],y::_,_,_,_,h,e=>absurd (by rw[(List.cons.inj e).1];simp) h
 | y::_,[],_,_,h,_,e=>absurd (by rw[<- (List.cons.inj e).1];simp) h
 | y::x,y'::x',_,_,h,h',e=>by
  obtain⟨a,b⟩:=sD (λ z=>h (aal _ z)) (λ z=>h' (aal _ z)) (List.cons.inj e).2;exact⟨by rw[(List.cons.inj e).1,a],b⟩
theorem pF (c:Nat):∀ (l m:List Str),l≠[]->m≠[]->(∀ a∈l,c∉sg a)->(∀ a∈m,c∉sg a)->Str.join (one c) l=Str.join (one c) m->l=m
 | [],_,h,_,_,_,_=>absurd rfl h
 | _,[],_,h,_,_,_=>absurd rfl h
 | [x],[y],_,_,_,_,e=>by rw[show x=y from e]
 | [x],y::z::r,_,_,h1,_,e=>by
  have e1:sg x=sg (Str.join (one c) (y::z::r)):=congrArg sg (show x=_ from e);rw[d9] at e1;exact absurd (e1 ▸ (by simp:c∈sg y++c::sg (Str.join (one c) (z::r)))) (h1 x (by simp))
 | y::z::r,[x],_,_,_,h1,e=>by
  have e1:sg (Str.join (one c) (y::z::r))=sg x:=congrArg sg (show _=x from e);rw[d9] at e1;exact absurd (e1 ▸ (by simp:c∈sg y++c::sg (Str.join (one c) (z::r)))) (h1 x (by simp))
 | x::y::r,x'::y'::r',_,_,h1,h2,e=>by
  have e1:=congrArg sg e;rw[d9,d9] at e1;obtain⟨a,b⟩:=sD (h1 x (by simp)) (h2 x' (by simp)) e1;have ih:=pF c (y::r) (y'::r') (by simp) (by simp) (λ a ha=>h1 a (aal _ ha)) (λ a ha=>h2 a (aal _ ha)) (nA b);rw[nA a,ih]
theorem eD {c:Nat}{l:List Str} (hl:l≠[]) (hf:∀ a∈l,c∉sg a):Txt.split (Str.join (one c) l) (one c)=l:=by
 have h:=StrLaws.join_split (Str.join (one c) l) (one c);have hf2:=StrLaws.split_free (Str.join (one c) l) c;refine pF c _ _ (λ z=>?_) hl hf2 hf h;unfold Txt.split at z
 split at z
 ·cases z
 ·split at z
  ·cases z
  ·rw[StrLaws.partsBetween_eq] at z;obtain⟨p,r,e⟩:=StrLaws.partsFrom_ne (Str.join (one c) l) (one c).length 0 (Builtin.Str.occurrences (Str.join (one c) l) (one c) 0 (Str.join (one c) l).length ((Str.join (one c) l).length+1));rw[e] at z;cases z
theorem rM {c:Nat}{a b:Str} (hf:c∉sg a):Txt.partition (a++one c++b) (one c)=(a,one c,b):=by
 have ex:sg (a++one c++b)=sg a++c::sg b:=by rw[dM,dM,List.append_assoc];rfl
 rcases PyProof.Rows.partition_whole (a++one c++b) (one c) with ⟨_,hn⟩ | ⟨i,hp,hi,hk⟩
 ·exfalso;obtain⟨i,h⟩:=(PyProof.Rows.mem_iff_at (a++one c++b) c).mp (by show c∈sg _;rw[ex];simp);exact hn i h
 ·have hi':=(StrLaws.subAt_one _ c i).mp hi;have hi2:(sg a++c::sg b)[i]? = some c:=by rw[<- ex];exact hi'
  have hil:i=(sg a).length:=by
   rcases Nat.lt_trichotomy i (sg a).length with h | h | h
   ·rw[abw h] at hi2;exact absurd (aak hi2) hf
   ·exact h
   ·exfalso;refine hk _ h ((StrLaws.subAt_one _ c _).mpr ?_);show (sg (a++one c++b))[(sg a).length]? = some c;rw[ex,abv (aae _)];simp
  rw[hp];have e1:Builtin.Str.strSub (a++one c++b) 0 i=a:=nA (by show (Builtin.Str.strSub _ _ _).cps.toList=_;rw[StrLaws.strSub_toList,show (a++one c++b).cps.toList=_ from ex,hil];simp);have e2:Builtin.Str.strSub (a++one c++b) (i+(one c).length) (a++one c++b).length=b:=nA (by
   show (Builtin.Str.strSub _ _ _).cps.toList=_;rw[StrLaws.strSub_toList];show List.take _ (List.drop ((i+1)) (sg (a++one c++b)))=sg b;have el:=congrArg List.length ex;rw[n9,aas,abj] at el;have ed:List.drop ((sg a).length+1) (sg a++c::sg b)=sg b:=by
    rw[List.drop_append,List.drop_of_length_le (by omega),List.nil_append,show (sg a).length+1 - (sg a).length=1 by omega];rfl
   rw[ex,hil,ed,el];exact aar (by show (sg b).length<=(sg a).length+((sg b).length+1) - ((sg a).length+1);omega))
  rw[e1,e2]
theorem eW {n:Int} (h0:0<=n):∀ c∈sg (aN n),48<=c/\c<=57:=by
 obtain⟨m,rfl⟩:=Int.eq_ofNat_of_zero_le h0;intro c hc;have hc:c∈(Str.ofString (toString ((m:Nat):Int))).cps.toList:=hc;rw[PySem.W.KIN.signs_num] at hc;obtain⟨ch,hch,e⟩:=aat.mp hc;have r:=PyProof.Rows.digit_range (Nat.isDigit_of_mem_toDigits (by decide) (by decide) hch);rw[<- e];exact r
theorem zT {n:Int} (h0:0<=n):sg (aN n)≠[]:=by
 obtain⟨m,rfl⟩:=Int.eq_ofNat_of_zero_le h0;show (Str.ofString (toString ((m:Nat):Int))).cps.toList≠[];rw[PySem.W.KIN.signs_num];intro e;have h:=toDigits_len_ge 10 m;rw[List.map_eq_nil_iff.mp e] at h;exact absurd h (by decide)
theorem dB {n:Int} (h0:0<=n) (h:n < 10 ^ 9):(aN n).length<=9:=PyProof.Rows.toString_length_le h0 (by decide) h
theorem x8 {n:Int} (h0:0<=n):Txt.isdecimal (aN n)=true:=by
 have h1:=zT h0;have h2:=eW h0;show (decide ((aN n).length > 0) && (aN n).cps.all Unicode.isDecimal)=true;rw[Bool.and_eq_true];refine⟨abh ?_,?_⟩
 ·rw[<- n9];exact List.length_pos_iff.mpr h1
 ·rw[Array.all_eq_true'];intro x hx;have:=h2 x (by simpa using hx);exact (by decide +kernel:∀ c,c < 58->48<=c->Unicode.isDecimal c=true) x (by omega) (by omega)
def bD:Option Int->Str
 | none => "ground"
 | some i=>aN i
def fQ (o:Option Int×Int):Str:=bD o.1++one 42++aN o.2
def bR (os:List (Option Int×Int)):Str:=Str.join (one 44) (os.map fQ)
def dP (a:Str×Int):Str:=a.1++one 46++aN a.2
def cN (as:List (Str×Int)):Str:=if as=[] then "-" else Str.join (one 44) (as.map dP)
def cI (b:Bool):Str:=if b then "holds" else "loses"
def eI (b:Bool):Str:=if b then "open" else "shut"
def iF (v:Vs):List Str:=[aN v.size,aN v.brim,bR v.outs,cI v.holds,bD v.spill,cN v.acts]
def eN (v:Vs):Str:=Str.join (one 32) ("vessel" :: iF v)
def jW (s:lU):List Str:=[aN s.1,aN s.2.1,eI s.2.2]
def fC (s:lU):Str:=Str.join (one 32) ("spout" :: jW s)
def fJ (n:Net):Str:=Str.join (one 10) (n.vs.map eN++n.sps.map fC)
def bQ (w:Str):Option Int:=if Txt.isdecimal w=true/\w.length<=9 then (match PySem.intText? w with
 | some n=>if aN n=w then some n else none
 | none=>none) else none
def iW (w:Str):Option (Option Int):=if w = "ground" then some none else (bQ w).map some
def gB (w:Str):Option (Option Int×Int):=(iW (Txt.partition w (one 42)).1).bind λ t=>(bQ (Txt.partition w (one 42)).2.2).map λ p=>(t,p)
def iX (w:Str):Option (Str×Int):=(bQ (Txt.partition w (one 46)).2.2).map λ p=>((Txt.partition w (one 46)).1,p)
def cH {ae:Type} (f:Str->Option ae):List Str->Option (List ae)
 | []=>some []
 | w::ws=>(f w).bind λ a=>(cH f ws).map λ r=>a::r
def gD (w:Str):Option (List (Str×Int)):=if w = "-" then some [] else cH iX (Txt.split w (one 44))
def mH:List Str->Option Vs
 | [a,b,c,d,e,f]=>(cH gB (Txt.split c (one 44))).bind λ os=>(bQ a).bind λ z=>(bQ b).bind λ m=>(iW e).bind λ s=>(gD f).map λ as=>⟨z,m,os,decide (d = "holds"),s,as⟩
 | _=>none
def oS:List Str->Option lU
 | [a,b,c]=>(bQ a).bind λ t=>(bQ b).map λ f=>(t,f,decide (c = "open"))
 | _=>none
def fF (x:Str):Option (Vs ⊕ lU):=match Txt.split x (one 32) with
 | []=>none
 | w::r=>if w = "vessel" /\ r.length=6 then (mH r).map Sum.inl else if w = "spout" /\ r.length=3 then (oS r).map Sum.inr else none
def dR (l:List (Vs ⊕ lU)):List Vs:=l.filterMap λ x=>x.getLeft?
def cV (l:List (Vs ⊕ lU)):List lU:=l.filterMap λ x=>x.getRight?
def kR (x:Str):Option Net:=(cH fF (Txt.split x (one 10))).map λ l=>⟨dR l,cV l⟩
theorem jF {ae:Type}{f:Str->Option ae}{g:ae->Str}:∀ {l:List ae},(∀ a∈l,f (g a)=some a)->cH f (l.map g)=some l
 | [],_=>rfl
 | a::l,h=>by
  rw[abg,cH,h a abm,jF λ b hb=>h b (aal _ hb)];rfl
theorem dD {n:Int} (h0:0<=n) (h1:n < 10 ^ 9):bQ (aN n)=some n:=by
 unfold bQ;rw[if_pos ⟨x8 h0,dB h0 h1⟩,show PySem.intText? (aN n)=some n from PySem.W.KIN.num_reads h0 (by omega)];exact if_pos rfl
theorem uJ {n:Int} (h0:0<=n) {w:Str} (hw:∃ c∈sg w,57 < c\/c < 48):aN n≠w:=by
 intro e;obtain⟨c,hc,h⟩:=hw;have:=eW h0 c (by rw[e];exact hc);omega
def oN (t:Option Int):Prop:=∀ i,t=some i->0<=i/\i < 10 ^ 9
theorem kQ {t:Option Int} (h:oN t):iW (bD t)=some t:=by
 cases t with
 | none=>rfl
 | some i=>
  obtain⟨h0,h1⟩:=h i rfl;show (if aN i = "ground" then some none else (bQ (aN i)).map some)=_;rw[if_neg (uJ h0 (w := "ground") ⟨103,by decide +kernel,.inl (by decide)⟩),dD h0 h1];rfl
def NB (x:Str):Prop:=∀ c∈sg x,33<=c
def NC (x:Str):Prop:=∀ c∈sg x,33<=c/\c≠44
theorem i9 {n:Int} (h0:0<=n):NC (aN n):=λ c hc=>by have:=eW h0 c hc;omega
theorem nZ {a b:Str} (ha:NC a) (hb:NC b):NC (a++b):=λ c hc=>by
 rw[dM] at hc;rcases abd.mp hc with h | h
 ·exact ha c h
 ·exact hb c h
theorem uM {c:Nat} (h:33<=c/\c≠44):NC (one c):=λ d hd=>by
 have:d=c:=by simpa [sg,one] using hd
 rw[this];exact h
theorem rO {t:Option Int} (h:oN t):NC (bD t):=by
 cases t with
 | none=>exact (by decide +kernel:∀ c∈sg (Str.ofString "ground"),33<=c/\c≠44)
 | some i=>exact i9 (h i rfl).1
theorem o0:∀ {l:List Str},(∀ a∈l,NC a)->NB (Str.join (one 44) l)
 | [],_=>λ c hc=>absurd hc (by simp [sg,Str.join,Str.empty])
 | [x],h=>λ c hc=>(h x (by simp) c hc).1
 | x::y::r,h=>λ c hc=>by
  rw[d9] at hc;rcases abd.mp hc with h1 | h1
  ·exact (h x (by simp) c h1).1
  ·rcases aaq.mp h1 with rfl | h1
   ·decide
   ·exact o0 (l:=y::r) (λ a ha=>h a (aal _ ha)) c h1
structure OutIn (o:Option Int×Int):Prop where
 tg:oN o.1
 lo:0<=o.2
 hi:o.2 < 10 ^ 9
structure ActIn (a:Str×Int):Prop where
 w:a.1 = "open" \/ a.1 = "shut" \/ a.1 = "turn"
 lo:0<=a.2
 hi:a.2 < 10 ^ 9
theorem ActIn.sg {a:Str×Int} (h:ActIn a):∀ c∈Tw.sg a.1,97<=c/\c<=122:=by
 rcases h.w with e | e | e <;> rw[e] <;> decide +kernel
theorem uL {o:Option Int×Int} (h:OutIn o):NC (fQ o):=nZ (nZ (rO h.tg) (uM (by decide))) (i9 h.lo)
theorem uN {a:Str×Int} (h:ActIn a):NC (dP a):=nZ (nZ (λ c hc=>by have:=h.sg c hc;omega) (uM (by decide))) (i9 h.lo)
theorem sN {o:Option Int×Int} (h:OutIn o):gB (fQ o)=some o:=by
 unfold gB fQ;rw[rM (λ z=>?_)]
 ·show (iW (bD o.1)).bind _=_;rw[kQ h.tg];show (bQ (aN o.2)).map _=_;rw[dD h.lo h.hi];rfl
 ·cases e:o.1 with
  | none=>rw[e] at z;exact absurd z (by decide +kernel)
  | some i=>rw[e] at z;have:=eW (h.tg i e).1 42 z;omega
theorem sP {a:Str×Int} (h:ActIn a):iX (dP a)=some a:=by
 unfold iX dP;rw[rM (λ z=>by have:=h.sg _ z;omega)];show (bQ (aN a.2)).map _=_;rw[dD h.lo h.hi];rfl
theorem qC {os:List (Option Int×Int)} (hn:os≠[]) (h:∀ o∈os,OutIn o):Txt.split (bR os) (one 44)=os.map fQ:=
 eD (by simpa using hn) λ a ha=>by
  obtain⟨o,ho,rfl⟩:=aat.mp ha;exact λ z=>(uL (h o ho) 44 z).2 rfl
theorem w9 {as:List (Str×Int)} (hn:as≠[]):cN as ≠ "-" := by
 unfold cN;rw[if_neg hn];obtain⟨a,r,rfl⟩:=List.exists_cons_of_ne_nil hn;intro e;have e1:=congrArg sg e;have h46:46∈sg (Str.join (one 44) ((a::r).map dP)):=by
  have hm:46∈sg (dP a):=by unfold dP;rw[dM,dM];simp [sg,one]
  cases r with
  | nil=>exact hm
  | cons b r=>rw[abg,abg,d9];exact abt _ hm
 rw[e1] at h46;exact absurd h46 (by decide +kernel)
theorem oT {as:List (Str×Int)} (h:∀ a∈as,ActIn a):gD (cN as)=some as:=by
 by_cases hn:as=[]
 ·subst hn;rfl
 ·unfold gD;rw[if_neg (w9 hn)];unfold cN;rw[if_neg hn,eD (by simpa using hn) (λ a ha=>by
   obtain⟨o,ho,rfl⟩:=aat.mp ha;exact λ z=>(uN (h o ho) 44 z).2 rfl)]
  exact jF λ a ha=>sP (h a ha)
structure VsIn (v:Vs):Prop where
 s0:0<=v.size
 s1:v.size < 10 ^ 9
 b0:0<=v.brim
 b1:v.brim < 10 ^ 9
 on:v.outs≠[]
 os:∀ o∈v.outs,OutIn o
 sp:oN v.spill
 as:∀ a∈v.acts,ActIn a
 o3:v.outs.length<=3
 a3:v.acts.length<=3
theorem sY (b:Bool):decide (cI b = "holds")=b:=by cases b <;> decide +kernel
theorem t6 (b:Bool):decide (eI b = "open")=b:=by cases b <;> decide +kernel
theorem sM {v:Vs} (h:VsIn v):mH (iF v)=some v:=by
 show (cH gB (Txt.split (bR v.outs) (one 44))).bind (λ os=>(bQ (aN v.size)).bind λ z=>(bQ (aN v.brim)).bind λ m=>(iW (bD v.spill)).bind λ s=>(gD (cN v.acts)).map λ as=>(⟨z,m,os,decide (cI v.holds = "holds"),s,as⟩:Vs))=_;rw[qC h.on h.os,jF (λ o ho=>sN (h.os o ho)),dD h.s0 h.s1,dD h.b0 h.b1,kQ h.sp,oT h.as];simp only [Option.bind_some,Option.map_some,sY]
theorem xF {as:List (Str×Int)} (h:∀ a∈as,ActIn a):NB (cN as):=by
 unfold cN
 split
 ·exact (by decide +kernel:∀ c∈sg (Str.ofString "-"),33<=c)
 ·exact o0 λ a ha=>by obtain⟨o,ho,rfl⟩:=aat.mp ha;exact uN (h o ho)
theorem xE {os:List (Option Int×Int)} (h:∀ o∈os,OutIn o):NB (bR os):=o0 λ a ha=>by obtain⟨o,ho,rfl⟩:=aat.mp ha;exact uL (h o ho)
theorem NC.nb {x:Str} (h:NC x):NB x:=λ c hc=>(h c hc).1
theorem uO {v:Vs} (h:VsIn v):∀ w∈("vessel" : Str)::iF v,NB w:=by
 intro w hw;simp only [iF,aaq,abl,or_false] at hw;rcases hw with rfl | rfl | rfl | rfl | rfl | rfl | rfl
 ·exact (by decide +kernel:∀ c∈sg (Str.ofString "vessel"),33<=c)
 ·exact (i9 h.s0).nb
 ·exact (i9 h.b0).nb
 ·exact xE h.os
 ·cases v.holds
  ·exact (by decide +kernel:∀ c∈sg (Str.ofString "loses"),33<=c)
  ·exact (by decide +kernel:∀ c∈sg (Str.ofString "holds"),33<=c)
 ·exact (rO h.sp).nb
 ·exact xF h.as
structure SptIn (s:lU):Prop where
 t0:0<=s.1
 t1:s.1 < 10 ^ 9
 f0:0<=s.2.1
 f1:s.2.1 < 10 ^ 9
theorem uP {s:lU} (h:SptIn s):∀ w∈("spout" : Str)::jW s,NB w:=by
 intro w hw;simp only [jW,aaq,abl,or_false] at hw;rcases hw with rfl | rfl | rfl | rfl
 ·exact (by decide +kernel:∀ c∈sg (Str.ofString "spout"),33<=c)
 ·exact (i9 h.t0).nb
 ·exact (i9 h.f0).nb
 ·cases s.2.2
  ·exact (by decide +kernel:∀ c∈sg (Str.ofString "shut"),33<=c)
  ·exact (by decide +kernel:∀ c∈sg (Str.ofString "open"),33<=c)
theorem qJ {v:Vs} (h:VsIn v):fF (eN v)=some (.inl v):=by
 unfold fF eN;rw[eD (by simp) λ a ha z=>by have:=uO h a ha 32 z;omega];refine (if_pos (show ("vessel" : Str) = "vessel" /\ (iF v).length=6 from ⟨rfl,rfl⟩)).trans ?_;rw[sM h];rfl
theorem qK {s:lU} (h:SptIn s):fF (fC s)=some (.inr s):=by
 unfold fF fC;rw[eD (by simp) λ a ha z=>by have:=uP h a ha 32 z;omega];refine (if_neg (show ¬ (("spout" : Str) = "vessel" /\ (jW s).length=6) from λ z=>absurd (show (3:Nat)=6 from z.2) (by decide))).trans ?_;refine (if_pos (show ("spout" : Str) = "spout" /\ (jW s).length=3 from ⟨rfl,rfl⟩)).trans ?_;show ((bQ (aN s.1)).bind λ t=>(bQ (aN s.2.1)).map λ f=>((t,f,decide (eI s.2.2 = "open")):lU)).map Sum.inr=_;rw[dD h.t0 h.t1,dD h.f0 h.f1];simp only [Option.bind_some,Option.map_some,t6]
theorem rN {l:List Str} (h:∀ a∈l,NB a):∀ c∈sg (Str.join (one 32) l),32<=c:=by
 induction l with
 | nil=>intro c hc;exact absurd hc (by simp [sg,Str.join,Str.empty])
 | cons x r ih=>
  cases r with
  | nil=>intro c hc;have:=h x (by simp) c hc;omega
  | cons y r=>
   intro c hc;rw[d9] at hc;rcases abd.mp hc with h1 | h1
   ·have:=h x (by simp) c h1;omega
   ·rcases aaq.mp h1 with rfl | h1
    ·decide
    ·exact ih (λ a ha=>h a (aal _ ha)) c h1
theorem jG {ae:Type}{f:Str->Option ae}:∀ {l m:List Str}{a b:List ae},cH f l=some a->cH f m=some b->cH f (l++m)=some (a++b)
 | [],m,a,b,h1,h2=>by cases h1;exact h2
 | x::l,m,a,b,h1,h2=>by
  rw[cH] at h1;cases e:f x with
  | none=>rw[e] at h1;cases h1
  | some y=>
   rw[e] at h1;cases e2:cH f l with
   | none=>rw[e2] at h1;cases h1
   | some r=>
    rw[e2] at h1;cases h1;rw[List.cons_append,cH,e,jG e2 h2];rfl
theorem hX {ae cm:Type}{f:Str->Option cm}{g:ae->Str}{k:ae->cm}:∀ {l:List ae},(∀ a∈l,f (g a)=some (k a))->cH f (l.map g)=some (l.map k)
 | [],_=>rfl
 | a::l,h=>by
  rw[abg,cH,h a abm,hX λ b hb=>h b (aal _ hb)];rfl
theorem eY (a b):dR (a++b)=dR a++dR b:=List.filterMap_append ..
theorem eE (a b):cV (a++b)=cV a++cV b:=List.filterMap_append ..
theorem xL (l:List Vs):dR (l.map Sum.inl)=l:=by unfold dR;induction l with | nil=>rfl | cons a l ih=>rw[abg,List.filterMap_cons];simp [ih]
theorem xK (l:List lU):dR (l.map Sum.inr)=[]:=by unfold dR;induction l with | nil=>rfl | cons a l ih=>rw[abg,List.filterMap_cons];simp [ih]
theorem tX (l:List Vs):cV (l.map Sum.inl)=[]:=by unfold cV;induction l with | nil=>rfl | cons a l ih=>rw[abg,List.filterMap_cons];simp [ih]
theorem tW (l:List lU):cV (l.map Sum.inr)=l:=by unfold cV;induction l with | nil=>rfl | cons a l ih=>rw[abg,List.filterMap_cons];simp [ih]
structure NetIn (n:Net):Prop where
 ne:n.vs≠[]
 vs:∀ v∈n.vs,VsIn v
 sps:∀ s∈n.sps,SptIn s
 v12:n.vs.length<=12
 s12:n.sps.length<=12
theorem sK {n:Net} (h:NetIn n):Txt.split (fJ n) (one 10)=n.vs.map eN++n.sps.map fC:=
 eD (λ z=>h.ne (List.map_eq_nil_iff.mp (List.append_eq_nil_iff.mp z).1)) λ a ha z=>by
  rcases abd.mp ha with ha | ha
  ·obtain⟨v,hv,rfl⟩:=aat.mp ha;have:=rN (uO (h.vs v hv)) 10 z;omega
  ·obtain⟨v,hv,rfl⟩:=aat.mp ha;have:=rN (uP (h.sps v hv)) 10 z;omega
theorem sO {n:Net} (h:NetIn n):kR (fJ n)=some n:=by
 unfold kR;rw[sK h,jG (hX (k:=Sum.inl) λ v hv=>qJ (h.vs v hv)) (hX (k:=Sum.inr) λ s hs=>qK (h.sps s hs))];show some (Net.mk _ _)=_;rw[eY,eE,xL,xK,tX,tW,aca,List.nil_append]
theorem mQ {B:Nat}:∀ {l:List Str},(∀ a∈l,a.length<=B)->(l.map (·.length)).sum<=l.length * B
 | [],_=>by simp
 | a::l,h=>by
  have h1:=h a abm;have h2:=mQ λ b hb=>h b (aal _ hb);rw[abg,List.sum_cons,abj,Nat.succ_mul];omega
theorem gI {B:Nat}{c:Nat}{l:List Str} (h:∀ a∈l,a.length<=B):(Str.join (one c) l).length<=l.length * B+l.length:=by
 have h1:=StrLaws.join_length_le (one c) l;have h2:=mQ h;have:(one c).length=1:=rfl;rw[this] at h1;omega
theorem eL {B:Nat}{sep:Str}{l:List Str} (h:∀ a∈l,a.length<=B) (h1:sep.length<=1) (h2:l.length * B+l.length<=1000000):JoinOk sep l=true:=by
 have h3:=mQ h;have h4:l.length * sep.length<=l.length * 1:=Nat.mul_le_mul_left _ h1;exact PyProof.Rows.joinOk_of (by omega)
theorem j8 {t:Option Int} (h:oN t):(bD t).length<=9:=by
 cases t with
 | none=>decide
 | some i=>exact dB (h i rfl).1 (h i rfl).2
theorem o5 {o:Option Int×Int} (h:OutIn o):(fQ o).length<=19:=by
 have h1:=j8 h.tg;have h2:=dB h.lo h.hi;have h3:(one 42).length=1:=rfl;unfold fQ;rw[Str.length_append,Str.length_append];omega
theorem uS {a:Str×Int} (h:ActIn a):a.1.length=4:=by
 rcases h.w with e | e | e <;> rw[e] <;> rfl
theorem o6 {a:Str×Int} (h:ActIn a):(dP a).length<=19:=by
 have h1:=uS h;have h2:=dB h.lo h.hi;have h3:(one 46).length=1:=rfl;unfold dP;rw[Str.length_append,Str.length_append];omega
theorem pA {os:List (Option Int×Int)} (h:∀ o∈os,OutIn o) (h3:os.length<=3):(bR os).length<=60:=by
 have:=gI (c:=44) (l:=os.map fQ) (B:=19) λ a ha=>by obtain⟨o,ho,rfl⟩:=aat.mp ha;exact o5 (h o ho)
 rw[aab] at this;unfold bR;omega
theorem pD {as:List (Str×Int)} (h:∀ a∈as,ActIn a) (h3:as.length<=3):(cN as).length<=60:=by
 unfold cN
 split
 ·decide
 ·have:=gI (c:=44) (l:=as.map dP) (B:=19) λ a ha=>by obtain⟨o,ho,rfl⟩:=aat.mp ha;exact o6 (h o ho)
  rw[aab] at this;omega
theorem pB (b:Bool):(cI b).length=5:=by cases b <;> rfl
theorem pC (b:Bool):(eI b).length=4:=by cases b <;> rfl
theorem p7 {v:Vs} (h:VsIn v):∀ w∈("vessel" : Str)::iF v,w.length<=60:=by
 intro w hw;simp only [iF,aaq,abl,or_false] at hw;rcases hw with rfl | rfl | rfl | rfl | rfl | rfl | rfl
 ·decide
 ·have:=dB h.s0 h.s1;omega
 ·have:=dB h.b0 h.b1;omega
 ·exact pA h.os h.o3
 ·rw[pB];decide
 ·have:=j8 h.sp;omega
 ·exact pD h.as h.a3
theorem xH {v:Vs} (h:VsIn v):(eN v).length<=500:=by
 have:=gI (c:=32) (p7 h);have e:(("vessel" : Str)::iF v).length=7:=rfl;rw[e] at this;unfold eN;omega
theorem p8 {s:lU} (h:SptIn s):∀ w∈("spout" : Str)::jW s,w.length<=60:=by
 intro w hw;simp only [jW,aaq,abl,or_false] at hw;rcases hw with rfl | rfl | rfl | rfl
 ·decide
 ·have:=dB h.t0 h.t1;omega
 ·have:=dB h.f0 h.f1;omega
 ·rw[pC];decide
theorem xI {s:lU} (h:SptIn s):(fC s).length<=500:=by
 have:=gI (c:=32) (p8 h);have e:(("spout" : Str)::jW s).length=4:=rfl;rw[e] at this;unfold fC;omega
theorem jI {n:Net} (h:NetIn n):∀ a∈n.vs.map eN++n.sps.map fC,a.length<=500:=λ a ha=>by
 rcases abd.mp ha with ha | ha
 ·obtain⟨v,hv,rfl⟩:=aat.mp ha;exact xH (h.vs v hv)
 ·obtain⟨v,hv,rfl⟩:=aat.mp ha;exact xI (h.sps v hv)
theorem xJ {n:Net} (h:NetIn n):(fJ n).length<=20000:=by
 have:=gI (c:=10) (jI h);rw[aas,aab,aab] at this;have h1:=h.v12;have h2:=h.s12;unfold fJ;omega
def gY (x:Str):Prop:=∀ c∈sg x,c < 128
theorem pG {w:Str} (ha:gY w) (h:Txt.isdecimal w=true):sg w≠[]/\∀ c∈sg w,48<=c/\c<=57:=by
 have h:(decide (w.length > 0) && w.cps.all Unicode.isDecimal)=true:=h;rw[Bool.and_eq_true] at h;refine⟨λ z=>?_,λ c hc=>?_⟩
 ·have:=aba h.1;rw[<- n9,z] at this;cases this
 ·have h2:=(Array.all_eq_true'.mp h.2) c (by simpa using hc);have h3:=ha c hc;have:∀ c,c < 128->Unicode.isDecimal c=true->48<=c/\c<=57:=by decide +kernel
  exact this c h3 h2
theorem rW:∀ (cs:List Nat) (a:Nat),(∀ c∈cs,48<=c/\c<=57)->cs.foldl (λ acc c=>acc * 10+(c - 48)) a < (a+1) * 10 ^ cs.length
 | [],a,_=>by simp
 | c::cs,a,h=>by
  have h1:=rW cs (a * 10+(c - 48)) λ d hd=>h d (aal _ hd);have h2:=h c abm;have h3:(a * 10+(c - 48)+1) * 10 ^ cs.length<=((a+1) * 10) * 10 ^ cs.length:=Nat.mul_le_mul_right _ (by omega);rw[List.foldl_cons,abj,Nat.pow_succ,Nat.mul_comm (10 ^ cs.length) 10,<- Nat.mul_assoc];omega
theorem yM (cs:List Nat) (h:∀ c∈cs,48<=c/\c<=57):NumText.digitsVal cs < 10 ^ cs.length:=by
 have:=rW cs 0 h;rw[Nat.zero_add,Nat.one_mul] at this;exact this
theorem jU {w:Str} (ha:gY w) (h:Txt.isdecimal w=true) (hl:w.length<=9):∃ n:Int,PySem.intText? w=some n/\0<=n/\n < 10 ^ 9:=by
 obtain⟨h1,h2⟩:=pG ha h;refine⟨_,intText_digits h2 h1 (by omega),by omega,?_⟩;have:=yM (sg w) h2;have h3:10 ^ (sg w).length<=10 ^ 9:=Nat.pow_le_pow_right (by decide) (by rw[n9];exact hl);show ((NumText.digitsVal (sg w):Nat):Int) < 10 ^ 9;omega
theorem tZ {w:Str} (ha:gY w) {n:Int} (h:bQ w=some n):0<=n/\n < 10 ^ 9/\PySem.intText? w=some n/\w.length<=9:=by
 unfold bQ at h
 split at h
 ·rename_i hc
  obtain⟨m,hm,h0,h1⟩:=jU ha hc.1 hc.2;rw[hm] at h;simp only at h
  split at h
  ·cases h;exact⟨h0,h1,hm,hc.2⟩
  ·cases h
 ·cases h
theorem oR (c:Nat):∀ {l:List Str}{p:Str},p∈l->∀ d∈sg p,d∈sg (Str.join (one c) l)
 | [],_,h=>nomatch h
 | [x],p,h=>by rw[abr.mp h];exact λ d hd=>hd
 | x::y::r,p,h=>λ d hd=>by
  rw[d9];rcases aaq.mp h with rfl | h
  ·exact abt _ hd
  ·exact aav _ (aal _ (oR c h d hd))
theorem gX {c:Nat}{x p:Str} (h:gY x) (hp:p∈Txt.split x (one c)):gY p:=λ d hd=>h d (by
 have e:=StrLaws.join_split x (one c);rw[<- e];exact oR c hp d hd)
theorem pR {c:Nat}{x:Str} (h:gY x):gY (Txt.partition x (one c)).1/\gY (Txt.partition x (one c)).2.2:=by
 have e:=StrLaws.partition_sum x (one c);constructor
 ·exact λ d hd=>h d (by rw[<- e,dM,dM];exact abt _ (abt _ hd))
 ·exact λ d hd=>h d (by rw[<- e,dM,dM];exact aav _ hd)
theorem p9 {c:Nat}{x:Str}:(Txt.partition x (one c)).1.length<=x.length/\(Txt.partition x (one c)).2.2.length<=x.length:=⟨(PyProof.Rows.fact_partition x (one c)).1,(PyProof.Rows.fact_partition x (one c)).2.2⟩
theorem fG {ae:Type}{f:Str->Option ae}{w:Str}{a:ae}:∀ {l:List Str}{r:List ae},cH f l=some r->f w=some a->cH f (l++[w])=some (r++[a]):=λ h e=>jG h (by rw[cH,e];rfl)
theorem fH {ae:Type}{f:Str->Option ae}{w:Str} (e:f w=none):∀ {l:List Str},w∈l->cH f l=none
 | [],h=>nomatch h
 | x::l,h=>by
  rw[cH];rcases aaq.mp h with rfl | h
  ·rw[e];rfl
  ·rw[fH e h];cases f x <;> rfl
theorem dX {ae:Type}{l:List ae}{i:Nat}{x:ae} (h:l[i]? = some x):l.take (i+1)=l.take i++[x]:=by rw[abz,h];rfl
theorem wL {a b c d e f:Str}:mH [a,b,c,d,e,f]=(cH gB (Txt.split c (one 44))).bind λ os=>(bQ a).bind λ z=>(bQ b).bind λ m=>(iW e).bind λ s=>(gD f).map λ as=>⟨z,m,os,decide (d = "holds"),s,as⟩:=rfl
theorem nE {a b c:Str}:oS [a,b,c]=(bQ a).bind λ t=>(bQ b).map λ f=>(t,f,decide (c = "open")):=rfl
theorem tY {w:Str} (ha:gY w):(Txt.isdecimal w=false/\bQ w=none)\/(Txt.isdecimal w=true/\¬ w.length<=9/\bQ w=none)\/∃ n,Txt.isdecimal w=true/\w.length<=9/\PySem.intText? w=some n/\0<=n/\n < 10 ^ 9/\(bQ w).isSome=decide (aN n=w):=by
 by_cases h1:Txt.isdecimal w=true
 ·by_cases h2:w.length<=9
  ·obtain⟨n,hn,h0,h9⟩:=jU ha h1 h2;refine .inr (.inr ⟨n,h1,h2,hn,h0,h9,?_⟩);unfold bQ;rw[if_pos ⟨h1,h2⟩,hn]
   by_cases hw:aN n=w
   ·simp [hw]
   ·simp [hw]
  ·exact .inr (.inl ⟨h1,h2,if_neg λ z=>h2 z.2⟩)
 ·exact .inl ⟨by simpa using h1,if_neg λ z=>h1 z.1⟩
def bC (i:Nat):Stmt:=PySem.Challenge.pw_tipwell_k14_nets_written_and_read.main.body.getD i (.Pass ⟨0,0,0,0⟩)
structure Txt (mg:Str->Option Value):Prop where
 b_len:mg "len" = none
 b_sum:mg "sum" = none
 b_all:mg "all" = none
 b_max:mg "max" = none
 b_min:mg "min" = none
 b_int:mg "int" = none
 b_tuple:mg "tuple" = none
 b_list:mg "list" = none
 b_bool:mg "bool" = none
 b_range:mg "range" = none
 b_zip:mg "zip" = none
 b_enumerate:mg "enumerate" = none
 b_isinstance:mg "isinstance" = none
 b_divmod:mg "divmod" = none
 b_set:mg "set" = none
 b_sorted:mg "sorted" = none
theorem kE {H:Hp}{outs:List (Option Int×Int)}{xs:List V}{i:Nat}{x:V} (l:IsL K H (outs.map gG) xs) (h:xs[i]? = some x) :
  ∃ o,outs[i]? = some o/\∃ a,x=.ref a/\cG K H a [kA o.1,.int o.2]:=by
 obtain⟨d,hd,hx⟩:=l.get' h;rw[aaw] at hd;cases e:outs[i]? with
 | none=>rw[e] at hd;cases hd
 | some o=>
  rw[e] at hd;cases hd;refine⟨o,rfl,?_⟩;obtain⟨a,ys,rfl,q,l⟩:=(show Is K H (.tup [lT o.1,.int o.2]) x from hx).un;obtain⟨y,r,rfl,hy,l⟩:=l.un;obtain⟨z,r,rfl,hz,l⟩:=l.un;have:=l.un0;subst this;rw[Is.tg hy,hz.ui] at q;exact⟨a,rfl,q⟩
theorem tL {H:Hp}{v:Vs}{x:V} (h:Is K H (jZ v) x):∃ (a:Addr) (o c:V),x=.ref a/\cG K H a [.int v.size,.int v.brim,o,.bl v.holds,kA v.spill,c]/\Is K H (.tup (v.outs.map gG)) o/\Is K H (.tup (v.acts.map dW)) c:=by
 obtain⟨a,xs,rfl,q,l⟩:=(show Is K H (.tup [.int v.size,.int v.brim,.tup (v.outs.map gG),.bl v.holds,lT v.spill,.tup (v.acts.map dW)]) x from h).un;obtain⟨x1,r,rfl,h1,l⟩:=l.un;obtain⟨x2,r,rfl,h2,l⟩:=l.un;obtain⟨x3,r,rfl,h3,l⟩:=l.un;obtain⟨x4,r,rfl,h4,l⟩:=l.un;obtain⟨x5,r,rfl,h5,l⟩:=l.un;obtain⟨x6,r,rfl,h6,l⟩:=l.un;have:=l.un0;subst this;rw[h1.ui,h2.ui,h4.ub,Is.tg h5] at q;exact⟨a,x3,x6,rfl,q,h3,h6⟩
theorem kM {H:Hp}{acts:List (Str×Int)}{xs:List V}{i:Nat}{x:V} (l:IsL K H (acts.map dW) xs) (h:xs[i]? = some x) :
  ∃ o,acts[i]? = some o/\∃ a,x=.ref a/\cG K H a [.str o.1,.int o.2]:=by
 obtain⟨d,hd,hx⟩:=l.get' h;rw[aaw] at hd;cases e:acts[i]? with
 | none=>rw[e] at hd;cases hd
 | some o=>
  rw[e] at hd;cases hd;refine⟨o,rfl,?_⟩;obtain⟨a,ys,rfl,q,l⟩:=(show Is K H (.tup [.str o.1,.int o.2]) x from hx).un;obtain⟨y,r,rfl,hy,l⟩:=l.un;obtain⟨z,r,rfl,hz,l⟩:=l.un;have:=l.un0;subst this;rw[hy.us,hz.ui] at q;exact⟨a,rfl,q⟩
theorem yT {H:Hp}{sps:List lU}{xs:List V}{i:Nat}{x:V} (l:IsL K H (sps.map n4) xs) (h:xs[i]? = some x) :
  ∃ s,sps[i]? = some s/\∃ a,x=.ref a/\cG K H a [.int s.1,.int s.2.1,.bl s.2.2]:=by
 obtain⟨d,hd,hx⟩:=l.get' h;rw[aaw] at hd;cases e:sps[i]? with
 | none=>rw[e] at hd;cases hd
 | some o=>
  rw[e] at hd;cases hd;refine⟨o,rfl,?_⟩;obtain⟨a,ys,rfl,q,l⟩:=(show Is K H (.tup [.int o.1,.int o.2.1,.bl o.2.2]) x from hx).un;obtain⟨y,r,rfl,hy,l⟩:=l.un;obtain⟨z,r,rfl,hz,l⟩:=l.un;obtain⟨z2,r,rfl,hz2,l⟩:=l.un;have:=l.un0;subst this;rw[hy.ui,hz.ui,hz2.ub] at q;exact⟨a,rfl,q⟩
theorem qU {H:Hp}{net:Net}{x:V} (h:Is K H (eX net) x):∃ (a b c:Addr) (xs ys:List V),x=.ref a/\cG K H a [.ref b,.ref c]/\cG K H b xs/\IsL K H (net.vs.map jZ) xs/\cG K H c ys/\IsL K H (net.sps.map n4) ys:=by
 obtain⟨a,zs,rfl,q,l⟩:=(show Is K H (.tup [.tup (net.vs.map jZ),.tup (net.sps.map n4)]) x from h).un;obtain⟨x1,r,rfl,h1,l⟩:=l.un;obtain⟨x2,r,rfl,h2,l⟩:=l.un;have:=l.un0;subst this;obtain⟨b,xs,rfl,q1,l1⟩:=h1.un;obtain⟨c,ys,rfl,q2,l2⟩:=h2.un;exact⟨a,b,c,xs,ys,rfl,q,q1,l1,q2,l2⟩
def dJ (H:Hp) (t sl:Addr):Prop:=∃ (ns:List Int) (pos cell:Int),H t=some (.lst [.ref sl,.int pos,.int cell])/\H sl=some (.lst (ns.map V.int))/\ns.length<=1000
theorem dJ.mut {H:Hp}{t sl:Addr} (h:dJ H t sl):wA (H t):=by obtain⟨ns,pos,cell,e,_⟩:=h;rw[e];exact trivial
theorem dJ.same {H H':Hp}{t sl:Addr} (h:dJ H t sl) (s:aH H H'):dJ H' t sl:=by
 obtain⟨ns,pos,cell,e,f,g⟩:=h;exact⟨ns,pos,cell,s _ _ e,s _ _ f,g⟩
def fE:Sp:=λ vs H Q _=>∃ (t sl:Addr) (many:Int),vs=[.ref t,.int many]/\dJ H t sl/\0 < many/\many < 1000000/\
 ∀ (r:Int) H',eA t H H'->dJ H' t sl->0<=r->r < many->Q (.int r) H'
def wK:Sp:=λ vs H Q _=>∃ (t sl:Addr) (many:Int),vs=[.ref t,.int many]/\dJ H t sl/\0 < many/\many < 2 ^ 200/\
 ∀ (r:Int) H',eA t H H'->dJ H' t sl->0<=r->r < many->Q (.int r) H'
abbrev nC (K:aaa):TS:=jC (iK (eQ (rI (λ _ j=>0 < j) λ i j=>.int (i % j)) (eQ (qL K) (bW 0) (tC (.int 2))) (bW 1)) (bS 4)) (jC (iK (eQ (rI yH λ i j=>.int (i / j)) (eQ (qL K) (bW 0) (tC (.int 2))) (bW 1)) (xQ (bW 0) (tC (.int 2)) rH)) (AT (bW 4)))
abbrev u3 (K:aaa):TS:=jC (iK (eQ (nF λ i j=>.int (i+j)) (eQ (qL K) (bW 0) (tC (.int 1))) (tC (.int 1))) (xQ (bW 0) (tC (.int 1)) rH)) (iK (bW 3) (xQ (bW 0) (tC (.int 2)) rH))
abbrev u4 (K:aaa):TS:=jC (iK (eQ (rI (λ _ j=>0 < j) λ i j=>.int (i % j)) (eQ (nF λ i j=>.int (i+j)) (bW 3) (eQ (rI pU λ i j=>.int (i * j)) (tC (.int 1000003)) (eQ (qL K) (bW 0) (tC (.int 1))))) (bW 2)) (bS 3)) (jC (iK (eQ (rI (λ _ j=>0 < j) λ i j=>.int (i % j)) (eQ (nF λ i j=>.int (i+j)) (eQ (nF λ i j=>.int (i+j)) (eQ (rI pU λ i j=>.int (i * j)) (bW 3) (bW 3)) (eQ (rI pU λ i j=>.int (i * j)) (tC (.int 1181783497276652981)) (bW 3))) (tC (.int 2049848353892358983))) (bW 2)) (bS 3)) (iK (eQ (rI (λ _ j=>0 < j) λ i j=>.int (i % j)) (eQ (nF λ i j=>.int (i+j)) (eQ (rI pU λ i j=>.int (i * j)) (bW 3) (bW 3)) (tC (.int 1442695040888963407))) (bW 2)) (bS 3)))
abbrev yW (K:aaa):TT:=tOr (kN (eQ (nF λ i j=>.bl (decide (j<=i))) (eQ (qL K) (bW 0) (tC (.int 1))) (wJ (wN K) (cE (eQ (qL K) (bW 0) (tC (.int 0))) fP)))) (kN (eQ (nF λ i j=>.bl (decide (i < j))) (bW 3) (eQ (rI BU λ i j=>.int (i ^ j.toNat)) (tC (.int 10)) (tC (.int 18)))))
abbrev dE (Q:VK):Ends:={ nx:=λ _ H'=>Q .non H',rt:=Q }
theorem iV:FnScope ["tape","many","prime","cell","found"] ["tape","many"] (aI (bC 35)):={}
theorem m5 {f:Addr}{fd:FuncData} (F:Fun K "_law_draw" "_law_draw" (bC 35) f fd) (T:Txt mg):FnOk P w K mg base iE 1 f fd ["tape","many"] wK:=by
 refine F.ok iV (λ vs H Q E h=>?_) (λ cdv A outer s H vs Q E hr h=>?_)
 ·obtain⟨t,sl,many,rfl,_⟩:=h;rfl
 ·obtain⟨t,sl,many,rfl,⟨ns,pos,cell,ht,hsl,hns⟩,hm0,hm1,k⟩:=h;have sc:=iV;refine⟨_,(aE (pL 2 sc.nd aC)
   (aE (bL (aY uF (px K (pv 0) aC) (pv 1) (aR _)) (aE (pL 3 sc.nd aC)
   (aE (bL (aY oX (lW K T.b_len (px K (pv 0) aC)) aC (aR _)) (aF (pL 3 sc.nd (px K (px K (pv 0) aC) (aT kW (px K (pv 0) aC) (lW K T.b_len (px K (pv 0) aC)))))) aQ)
   (aE (bL (PW.pt (cU (aY BF (px K (pv 0) aC) (lW K T.b_len (px K (pv 0) aC)) (aR _)) (cO (aY uF (pv 3) (aT zO aC aC) (aR _))))) (aE (pL 3 sc.nd (aT kW (aT cW (pv 3) (aT kU aC (px K (pv 0) aC))) (pv 2)))
   (aE (pL 3 sc.nd (aT kW (aT cW (aT cW (aT kU (pv 3) (pv 3)) (aT kU aC (pv 3))) aC) (pv 2)))
   (aF (pL 3 sc.nd (aT kW (aT cW (aT kU (pv 3) (pv 3)) aC) (pv 2)))))) aQ)
   (aE (cP (aT cW (px K (pv 0) aC) aC) (nI (pv 0) aC iN))
   (aF (cP (pv 3) (nI (pv 0) aC iN))))))) aQ)
   (aE (pL 4 sc.nd (aT kW (px K (pv 0) aC) (pv 1)))
   (aE (cP (aT uG (px K (pv 0) aC) (pv 1)) (nI (pv 0) aC iN))
   (aF (aL (pv 4))))))),?_⟩
  have nst:sl≠t:=BI hsl ht (by intro z;injection z with z;cases ns <;> simp at z);have ix:∀ {H1:Hp}{p' c':Int}{Q:VK},H1 t=some (.lst [.ref sl,.int p',.int c'])->Q (.ref sl) H1->qL K (.ref t) (.int 0) H1 Q:=λ e q=>.inl ⟨t,_,0,_,rfl,rfl,bV.of e,rfl,q⟩;have ix1:∀ {H1:Hp}{p' c':Int}{Q:VK},H1 t=some (.lst [.ref sl,.int p',.int c'])->Q (.int p') H1->qL K (.ref t) (.int 1) H1 Q:=λ e q=>.inl ⟨t,_,1,_,rfl,rfl,bV.of e,rfl,q⟩;have ix2:∀ {H1:Hp}{p' c':Int}{Q:VK},H1 t=some (.lst [.ref sl,.int p',.int c'])->Q (.int c') H1->qL K (.ref t) (.int 2) H1 Q:=λ e q=>.inl ⟨t,_,2,_,rfl,rfl,bV.of e,rfl,q⟩;have tail:∀ (v3:Option V) (H1:Hp) (p' c':Int),eA t H H1->H1 t=some (.lst [.ref sl,.int p',.int c'])->nC K (dE Q) [some (.ref t),some (.int many),some (.int 2305843009213693951),v3,none] H1:=by
   intro v3 H1 p' c' bt e;refine⟨_,rfl,ix2 e ⟨_,rfl,_,_,rfl,rfl,hm0,?_⟩⟩;refine⟨_,rfl,ix2 e ⟨_,rfl,_,_,rfl,rfl,⟨hm0,hm1⟩,_,rfl,t,_,2,2,rfl,rfl,e,rfl,_,rfl,?_⟩⟩;refine k _ _ (bt.trans eA.upd) ⟨ns,p',c' / many,aD,?_,hns⟩ (Int.emod_nonneg _ (by omega)) (Int.emod_lt_of_pos _ hm0);rw[aP nst];exact bt sl _ nst hsl
  refine⟨_,rfl,ix2 ht ⟨_,rfl,_,_,rfl,rfl,_,rfl,?_⟩⟩;refine dS (λ _=>?_) (λ _=>tail none H pos cell (eA.refl H) ht);have mid:∀ (c':Int),u3 K { nx:=nC K (dE Q),rt:=Q } [some (.ref t),some (.int many),some (.int 2305843009213693951),some (.int c'),none] H:=by
   intro c';refine⟨_,rfl,ix1 ht ⟨_,_,rfl,rfl,_,rfl,t,_,1,1,rfl,rfl,ht,rfl,?_⟩⟩;refine⟨_,rfl,_,rfl,t,_,2,2,rfl,rfl,aD,rfl,?_⟩;exact tail (some (.int c')) _ (pos+1) c' (eA.upd.trans eA.upd) aD
  have big:∀ (c':Int),jC (tR (yW K) (u4 K) d7) (u3 K) { nx:=nC K (dE Q),rt:=Q } [some (.ref t),some (.int many),some (.int 2305843009213693951),some (.int c'),none] H:=by
   intro c';have body:∀ σ,σ=[some (.ref t),some (.int many),some (.int 2305843009213693951),some (.int c'),none]->u4 K { nx:=u3 K { nx:=nC K (dE Q),rt:=Q },rt:=Q } σ H:=by
    rintro σ rfl;have prime:(0:Int) < 2305843009213693951:=by decide
    refine⟨_,rfl,_,rfl,ix1 ht ⟨_,_,rfl,rfl,.inl ⟨by decide,by decide⟩,_,_,rfl,rfl,_,rfl,_,_,rfl,rfl,prime,?_⟩⟩;have b1:=Int.emod_nonneg (c'+1000003 * pos) (show (2305843009213693951:Int)≠0 by decide);have b2:=Int.emod_lt_of_pos (c'+1000003 * pos) prime;generalize (c'+1000003 * pos) % 2305843009213693951=c1 at b1 b2;refine⟨_,rfl,_,rfl,_,_,rfl,rfl,.inl ⟨by omega,by omega⟩,_,rfl,_,_,rfl,rfl,.inl ⟨by decide,by decide⟩,_,_,rfl,rfl,_,_,rfl,rfl,_,rfl,_,_,rfl,rfl,prime,?_⟩;have b3:=Int.emod_nonneg (c1 * c1+1181783497276652981 * c1+2049848353892358983) (show (2305843009213693951:Int)≠0 by decide);have b4:=Int.emod_lt_of_pos (c1 * c1+1181783497276652981 * c1+2049848353892358983) prime;generalize (c1 * c1+1181783497276652981 * c1+2049848353892358983) % 2305843009213693951=c2 at b3 b4;refine⟨_,rfl,_,rfl,_,_,rfl,rfl,.inl ⟨by omega,by omega⟩,_,_,rfl,rfl,_,rfl,_,_,rfl,rfl,prime,?_⟩;exact mid _
   refine⟨_,rfl,ix1 ht ⟨_,rfl,ix ht ⟨sl,_,rfl,.inl (bV.of hsl),_,_,rfl,rfl,_,rfl,?_⟩⟩⟩;refine dS (λ _=>?_) (λ _=>?_)
   ·refine cS ?_;exact body _ rfl
   ·refine⟨_,rfl,_,_,rfl,rfl,⟨by decide,by decide,by decide⟩,_,_,rfl,rfl,_,rfl,?_⟩;refine dS (λ _=>body _ rfl) (λ _=>mid _)
  refine⟨_,rfl,ix ht ⟨sl,_,rfl,.inl (bV.of hsl),_,_,rfl,rfl,_,rfl,?_⟩⟩;refine dS (λ hlen=>?_) (λ _=>big 0);have hpos:0 < ns.length:=by have:=aba hlen;simpa using this
  refine⟨_,rfl,ix ht ⟨_,rfl,ix1 ht ⟨_,rfl,ix ht ⟨sl,_,rfl,.inl (bV.of hsl),_,_,rfl,rfl,(show (0:Int) < (((ns.map V.int).length:Nat):Int) by rw[aab];omega),?_⟩⟩⟩⟩;have m1:=Int.emod_nonneg pos (show (((ns.map V.int).length:Nat):Int)≠0 by rw[aab];omega);have m2:=Int.emod_lt_of_pos pos (show (0:Int) < (((ns.map V.int).length:Nat):Int) by rw[aab];omega);rw[aab] at m1 m2;have hix:(ns.map V.int)[(pos % ((ns.map V.int).length:Int)).toNat]? = some (.int (ns[(pos % (ns.length:Int)).toNat]'(by omega))):=by
   rw[aab,aaw];simp [show (pos % (ns.length:Int)).toNat < ns.length by omega]
  refine .inl ⟨sl,_,_,_,rfl,rfl,bV.of hsl,xW (by rw[aab];exact m1) hix,?_⟩;exact big _
theorem nX {f:Addr}{fd:FuncData} (F:Fun K "_law_draw" "_law_draw" (bC 35) f fd) (T:Txt mg):FnOk P w K mg base iE 1 f fd ["tape","many"] fE:=
 (m5 F T).imp λ vs H Q E ⟨t,sl,many,e,tp,h0,h1,k⟩=>⟨t,sl,many,e,tp,h0,Int.lt_of_lt_of_le h1 (by decide),k⟩
structure Ext (t sl:Addr) (H H':Hp):Prop where
 bt:eA t H H'
 tp:dJ H' t sl
theorem dJ.some {H:Hp}{t sl:Addr} (h:dJ H t sl):∃ o,H t=some o:=by obtain⟨ns,pos,cell,e,_⟩:=h;exact⟨_,e⟩
theorem dJ.put {H:Hp}{t sl p:Addr}{o:HO} (h:dJ H t sl) (h1:p≠t) (h2:p≠sl):dJ (upd H p o) t sl:=by
 obtain⟨ns,pos,cell,e,f,g⟩:=h;exact⟨ns,pos,cell,by rw[aP (Ne.symm h1)];exact e,by rw[aP (Ne.symm h2)];exact f,g⟩
theorem dJ.ne_sl {H:Hp}{t sl p:Addr} (h:dJ H t sl) (hp:H p=none):p≠sl:=by
 obtain⟨ns,pos,cell,e,f,g⟩:=h;exact λ z=>by rw[z,f] at hp;cases hp
theorem Ext.new {t sl p:Addr}{H H':Hp}{o:HO} (e:Ext t sl H H') (hp:H' p=none):Ext t sl H (upd H' p o):=⟨e.bt.trans (aH.new hp).but,e.tp.same (aH.new hp)⟩
theorem Ext.ne {t sl p:Addr}{H H':Hp} (e:Ext t sl H H') (hp:H' p=none):p≠t:=by
 obtain⟨o,h⟩:=e.tp.some;intro z;rw[z,h] at hp;cases hp
theorem Ext.ts {K:aaa}{t sl:Addr}{H H':Hp} (e:Ext t sl H H') (tp:dJ H t sl):bY K H H':=e.bt.ts tp.mut
def Gn (t sl:Addr) (σ:St) (H0:Hp) (P:V->Prop) (te:TE):Prop:=∀ H Q,Ext t sl H0 H->(∀ v H',Ext t sl H0 H'->eA t H H'->P v->Q v H')->te σ H Q
section
variable {t sl:Addr}{σ:St}{H0:Hp}{P:V->Prop}{a b c d:TE}
def cA (lo hi:Int):V->Prop:=λ v=>∃ i,v=.int i/\lo<=i/\i < hi
theorem Gn.imp {P':V->Prop} (h:Gn t sl σ H0 P a) (f:∀ v,P v->P' v):Gn t sl σ H0 P' a:=λ H Q e k=>h H Q e λ v H' e' b p=>k v H' e' b (f v p)
theorem lL {v:V} (h:P v):Gn t sl σ H0 P (tC v):=λ H Q e k=>k v H e (eA.refl H) h
theorem BM {i:Nat}{v:V} (aj:σ[i]? = some (some v)) (h:P v):Gn t sl σ H0 P (bW i):=λ H Q e k=>⟨v,aj,k v H e (eA.refl H) h⟩
theorem eH (ha:Gn t sl σ H0 P a) (hb:Gn t sl σ H0 P b) (hc:Gn t sl σ H0 (cA 0 2) c):Gn t sl σ H0 P (eQ (qL K) (wI (cE a (cE b fP))) c):=by
 intro H Q e k;refine ha H _ e λ v1 H1 e1 b1 p1=>hb H1 _ e1 λ v2 H2 e2 b2 p2=>⟨(show 2<=sizeLine by decide),λ p hp=>hc _ _ (e2.new hp) λ v H3 e3 b3 ⟨i,hi,h0,h1⟩=>?_⟩;subst hi;have hl:=b3 p _ (e2.ne hp) aD;have hb:eA t H H3:=b1.trans (b2.trans ((aH.new hp).but.trans b3));rcases (show i=0\/i=1 by omega) with rfl | rfl
 ·exact .inl ⟨p,_,0,v1,rfl,rfl,bV.of hl,rfl,k v1 H3 e3 hb p1⟩
 ·exact .inl ⟨p,_,1,v2,rfl,rfl,bV.of hl,rfl,k v2 H3 e3 hb p2⟩
theorem pJ (ha:Gn t sl σ H0 P a) (hb:Gn t sl σ H0 P b) (hd:Gn t sl σ H0 P d) (hc:Gn t sl σ H0 (cA 0 3) c):Gn t sl σ H0 P (eQ (qL K) (wI (cE a (cE b (cE d fP)))) c):=by
 intro H Q e k;refine ha H _ e λ v1 H1 e1 b1 p1=>hb H1 _ e1 λ v2 H2 e2 b2 p2=>hd H2 _ e2 λ v4 H4 e4 b4 p4=>⟨(show 3<=sizeLine by decide),λ p hp=>hc _ _ (e4.new hp) λ v H3 e3 b3 ⟨i,hi,h0,h1⟩=>?_⟩;subst hi;have hl:=b3 p _ (e4.ne hp) aD;have hb:eA t H H3:=b1.trans (b2.trans (b4.trans ((aH.new hp).but.trans b3)));rcases (show i=0\/i=1\/i=2 by omega) with rfl | rfl | rfl
 ·exact .inl ⟨p,_,0,v1,rfl,rfl,bV.of hl,rfl,k v1 H3 e3 hb p1⟩
 ·exact .inl ⟨p,_,1,v2,rfl,rfl,bV.of hl,rfl,k v2 H3 e3 hb p2⟩
 ·exact .inl ⟨p,_,2,v4,rfl,rfl,bV.of hl,rfl,k v4 H3 e3 hb p4⟩
theorem oD {i:Nat}{lo hi:Int} (aj:σ[i]? = some (some (.ref t))) (hlo:0 < lo) (hhi:hi<=1000000) (ha:Gn t sl σ H0 (cA lo hi) a):Gn t sl σ H0 (λ v=>∃ r m,v=.int r/\0<=r/\r < m/\lo<=m/\m < hi) (iJ fE [] E0 (cE (bW i) (cE a fP))):=by
 intro H Q e k;refine⟨_,aj,ha H _ e λ v H1 e1 b1 ⟨m,hm,h0,h1⟩=>?_⟩;subst hm;exact⟨t,sl,m,rfl,e1.tp,by omega,by omega,λ r H2 b2 t2 r0 r1=>k _ H2 ⟨e1.bt.trans b2,t2⟩ (b1.trans b2) ⟨r,m,rfl,r0,r1,h0,h1⟩⟩
theorem bA {i:Nat}{m:Int} (aj:σ[i]? = some (some (.ref t))) (h0:0 < m) (h1:m < 1000000):Gn t sl σ H0 (cA 0 m) (iJ fE [] E0 (cE (bW i) (cE (tC (.int m)) fP))):=
 (oD (lo:=m) (hi:=m+1) aj h0 (by omega) (lL ⟨m,rfl,by omega,by omega⟩)).imp λ v ⟨r,m',e,a,b,c,d⟩=>⟨r,e,a,by omega⟩
theorem gK {i j:Nat}{m:Int} (aj:σ[i]? = some (some (.ref t))) (hj:σ[j]? = some (some (.int m))) (h0:0 < m) (h1:m < 1000000):Gn t sl σ H0 (cA 0 m) (iJ fE [] E0 (cE (bW i) (cE (bW j) fP))):=
 (oD (lo:=m) (hi:=m+1) aj h0 (by omega) (BM hj ⟨m,rfl,by omega,by omega⟩)).imp λ v ⟨r,m',e,a,b,c,d⟩=>⟨r,e,a,by omega⟩
theorem oE {x y l h:Int} (ha:Gn t sl σ H0 (cA x y) a) (hb:Gn t sl σ H0 (cA l h) b):Gn t sl σ H0 (cA (x+l) (y+h - 1)) (eQ (nF λ i j=>.int (i+j)) a b):=by
 intro H Q e k;refine ha H _ e λ v1 H1 e1 b1 ⟨i,hi,i0,i1⟩=>hb H1 _ e1 λ v2 H2 e2 b2 ⟨j,hj,j0,j1⟩=>?_;subst hi hj;exact⟨i,j,rfl,rfl,k _ H2 e2 (b1.trans b2) ⟨_,rfl,by omega,by omega⟩⟩
theorem vQ {y m:Int} (hm:0 < m) (hm2:m < 1000000) (ha:Gn t sl σ H0 (cA 0 y) a):Gn t sl σ H0 (λ v=>∃ i,v=.int (i / m)/\0<=i/\i < y) (eQ (rI AL λ i j=>.int (i / j)) a (tC (.int m))):=by
 intro H Q e k;refine ha H _ e λ v1 H1 e1 b1 ⟨i,hi,i0,i1⟩=>?_;subst hi;exact⟨i,m,rfl,rfl,⟨hm,by omega⟩,k _ H1 e1 b1 ⟨i,rfl,i0,i1⟩⟩
theorem qZ {y c0:Int} (ha:Gn t sl σ H0 (cA 0 y) a):Gn t sl σ H0 (λ v=>∃ b:Bool,v=.bl b) (eQ B9 a (tC (.int c0))):=by
 intro H Q e k;refine ha H _ e λ v1 H1 e1 b1 ⟨i,hi,i0,i1⟩=>?_;subst hi;exact⟨rfl,k _ H1 e1 b1 ⟨_,rfl⟩⟩
theorem A6 {y c0:Int} (ha:Gn t sl σ H0 (cA 0 y) a):Gn t sl σ H0 (λ v=>∃ b:Bool,v=.bl b) (eQ (nF λ i j=>.bl (decide (j < i))) a (tC (.int c0))):=by
 intro H Q e k;refine ha H _ e λ v1 H1 e1 b1 ⟨i,hi,i0,i1⟩=>?_;subst hi;exact⟨i,c0,rfl,rfl,k _ H1 e1 b1 ⟨_,rfl⟩⟩
abbrev u8:List V->Hp->VK->Prop:=λ xs H Q=>(∃ i,xs=[.int i]/\Q (.int i) H)\/∃ k,xs=[.bl k]/\Q (.int (if k then 1 else 0)) H
theorem vP {i:Nat}{s:Bool} (aj:σ[i]? = some (some (.bl s))):Gn t sl σ H0 (cA 0 2) (wJ u8 (cE (bW i) fP)):=by
 intro H Q e k;refine⟨_,aj,.inr ⟨s,rfl,k _ H e (eA.refl H) ?_⟩⟩;cases s
 ·exact⟨0,rfl,by omega,by omega⟩
 ·exact⟨1,rfl,by omega,by omega⟩
theorem kH {i:Nat}{s:Bool}{x y lo hi:Int} (aj:σ[i]? = some (some (.bl s))) (h1:lo<=x/\x < hi) (h2:lo<=y/\y < hi):Gn t sl σ H0 (cA lo hi) (eQ (qL K) (wI (cE (tC (.int x)) (cE (tC (.int y)) fP))) (wJ u8 (cE (bW i) fP))):=
 eH (lL ⟨x,rfl,h1.1,h1.2⟩) (lL ⟨y,rfl,h2.1,h2.2⟩) (vP aj)
theorem kI (ha:Gn t sl σ H0 (cA 0 4) a):Gn t sl σ H0 (cA 0 2) (eQ (rI AL λ i j=>.int (i / j)) a (tC (.int 3))):=
 (vQ (by decide) (by decide) ha).imp λ v ⟨i,e,a,b⟩=>⟨i / 3,e,by omega,by omega⟩
theorem hU {lo hi lo' hi':Int} (h:Gn t sl σ H0 (cA lo hi) a) (h1:lo'<=lo) (h2:hi<=hi'):Gn t sl σ H0 (cA lo' hi') a:=h.imp λ v ⟨i,e,a,b⟩=>⟨i,e,by omega,by omega⟩
theorem gM {i:Nat}{lo hi:Int} (aj:σ[i]? = some (some (.ref t))) (hlo:0 < lo) (hhi:hi<=1000000) (ha:Gn t sl σ H0 (cA lo hi) a):Gn t sl σ H0 (cA 0 (hi - 1)) (iJ fE [] E0 (cE (bW i) (cE a fP))):=
 (oD aj hlo hhi ha).imp λ v ⟨r,m,e,a,b,c,d⟩=>⟨r,e,a,by omega⟩
end
def qF (K:aaa):Sp:=λ args H Q _=>∃ (t sl:Addr) (n:Nat) (small:Bool),args=[.ref t,.int (n:Int),.bl small]/\dJ H t sl/\1<=n/\n<=12/\
 ∀ (outs:List (Option Int×Int)) p H',Ext t sl H H'->outs≠[]->outs.length<=3->(∀ o∈outs,OutOk n o)->Is K H' (.tup (outs.map gG)) p->Q p H'
theorem iT:FnScope ["tape","many","small","outs","k","target","parts"] ["tape","many","small"] (aI (bC 37)):={}
theorem nU {f fD:Addr}{fd fdD:FuncData} (F:Fun K "_law_outs" "_law_outs" (bC 37) f fd) (T:Txt mg) (G__law_draw:Callee P w K mg base "_law_draw" ["tape","many"] 1 fE fD fdD):FnOk P w K mg base iE 2 f fd ["tape","many","small"] (qF K):=by
 refine F.ok iT (λ vs H Q E h=>?_) (λ cdv A outer s H vs Q E hr h=>?_)
 ·obtain⟨t,sl,n,small,rfl,_⟩:=h;rfl
 ·obtain⟨t,sl,n,small,rfl,tp,n1,n2,k⟩:=h;have sc:=iT;refine⟨_,(aE (pL 3 sc.nd (bG aB))
   (aE (cZ PassesOwn.never rfl (dY rfl T.b_range (aA (aT cW aC (px K (bG (aA (cJ G__law_draw hr (aA (pv 0) (aA aC aB))) (aA (cJ G__law_draw hr (aA (pv 0) (aA aC aB))) aB))) (cJ G__law_draw hr (aA (pv 0) (aA aC aB))))) aB)) (gL 4 sc.nd) (aE (pL 5 sc.nd (px K (bG (aA fI (aA (cJ G__law_draw hr (aA (pv 0) (aA (pv 1) aB))) (aA (cJ G__law_draw hr (aA (pv 0) (aA (pv 1) aB))) aB)))) (cJ G__law_draw hr (aA (pv 0) (aA aC aB)))))
   (aE (pL 6 sc.nd (px K (bG (aA (cJ G__law_draw hr (aA (pv 0) (aA aC aB))) (aA (cJ G__law_draw hr (aA (pv 0) (aA (px K (bG (aA aC (aA aC aB))) (aM d4 rfl T.b_int dO (aA (pv 2) aB))) aB))) aB))) (aT iZ (cJ G__law_draw hr (aA (pv 0) (aA aC aB))) aC)))
   (aF (dL (eO (K:=K) rfl aaz aax aay cF (pv 3) (aA (dN (aA (pv 5) (aA (aT cW aC (pv 6)) aB))) aB)))))))
   (aF (aL (aM (d3 (K:=K) rfl) rfl T.b_tuple bN (aA (pv 3) aB)))))),?_⟩
  refine⟨abi _,λ ol hol=>?_⟩;have e0:Ext t sl H (upd H ol (.lst [])):=Ext.new ⟨eA.refl H,tp⟩ hol;have no:ol≠t:=Ext.ne ⟨eA.refl H,tp⟩ hol;refine oE (x:=1) (y:=2) (l:=0) (h:=3) (H0:=upd H ol (.lst [])) (t:=t) (sl:=sl) (lL ⟨1,rfl,by omega,by omega⟩)
   (eH (hU (bA rfl (by decide) (by decide)) (Int.le_refl _) (by decide)) (bA rfl (by decide) (by decide)) (bA rfl (by decide) (by decide))) _ _ ⟨eA.refl _,e0.tp⟩ ?_
  rintro v H1 e1 _ ⟨m,rfl,m0,m1⟩;refine⟨m,rfl,by omega,by omega,?_⟩;refine fA (lo:=0) (n:=m.toNat) (λ i Z H'=>Ext t sl H H'/\∃ (outs:List (Option Int×Int)) (xs:List V),H' ol=some (.lst xs)/\IsL K H' (outs.map gG) xs/\outs.length=i/\(∀ o∈outs,OutOk n o)/\
   ∃ v4 v5 v6,Z=[some (.ref t),some (.int (n:Int)),some (.bl small),some (.ref ol),v4,v5,v6]) ?_ ?_ ?_
  ·exact⟨⟨e0.bt.trans e1.bt,e1.tp⟩,[],[],e1.bt ol _ no aD,.nil,rfl,λ o ho=>(nomatch ho),none,none,none,rfl⟩
  ·rintro i Z H2 hi ⟨e2,outs,xs,ho,hl,hlen,hok,v4,v5,v6,rfl⟩;refine pJ (H0:=H2) (t:=t) (sl:=sl) (P:=λ v=>∃ o:Option Int,v=kA o/\∀ z,o=some z->0<=z/\z < n) (lL ⟨none,rfl,λ z h=>nomatch h⟩)
    ((gK (m:=(n:Int)) rfl rfl (by omega) (by omega)).imp λ v ⟨r,e,a,b⟩=>⟨some r,e,λ z h=>by cases h;exact⟨a,by omega⟩⟩)
    ((gK (m:=(n:Int)) rfl rfl (by omega) (by omega)).imp λ v ⟨r,e,a,b⟩=>⟨some r,e,λ z h=>by cases h;exact⟨a,by omega⟩⟩) (bA rfl (by decide) (by decide)) _ _ ⟨eA.refl _,e2.tp⟩ ?_
   rintro v H3 e3 _ ⟨tg,rfl,htg⟩;refine eH (H0:=H3) (t:=t) (sl:=sl) (P:=cA 0 60) (hU (bA rfl (by decide) (by decide)) (Int.le_refl _) (by decide))
    (hU (gM (lo:=3) (hi:=61) rfl (by decide) (by decide) (kH rfl ⟨by decide,by decide⟩ ⟨by decide,by decide⟩)) (Int.le_refl _) (by decide)) (kI (bA rfl (by decide) (by decide))) _ _ ⟨eA.refl _,e3.tp⟩ ?_
   rintro v H4 e4 _ ⟨pt,rfl,p0,p1⟩;have ho4:H4 ol=some (.lst xs):=e4.bt ol _ no (e3.bt ol _ no ho);refine⟨_,rfl,.inl ⟨rfl,_,bV.of ho4⟩,_,rfl,_,rfl,_,_,rfl,rfl,(show 2<=sizeLine by decide),λ q hq=>?_⟩;have nq:ol≠q:=aO ho4 hq;have hxl:xs.length=outs.length:=by rw[hl.length,aab]
   have hm3:m.toNat<=3:=by omega
   refine⟨ol,xs,_,rfl,rfl,by rw[aP nq];exact ho4,bF (by omega),?_⟩;have e5:Ext t sl H2 (upd H4 q (.tup [kA tg,.int (1+pt)])):=Ext.new ⟨e3.bt.trans e4.bt,e4.tp⟩ hq;have ts:bY K H2 (upd (upd H4 q (.tup [kA tg,.int (1+pt)])) ol (.lst (xs++[.ref q]))):=bY.put (e5.ts e2.tp) (.inr (by rw[aP nq,ho4];exact trivial));refine⟨⟨λ b o hb e=>?_,?_⟩,outs++[(tg,1+pt)],xs++[.ref q],aD,?_,by simp [hlen],?_,_,_,_,rfl⟩
   ·rw[aP (aO e hol)];exact e5.bt b o hb (e2.bt b o hb e)
   ·exact e5.tp.put no (dJ.ne_sl tp hol)
   ·rw[aah];exact IsL.snoc (Is.tupOf (ds:=[lT tg,.int (1+pt)]) (bY.put (bY.refl _) (.inr (by rw[aP nq,ho4];exact trivial)) _ _ (cG.of aD)) (.cons (Is.tgOf tg) (.cons (Is.i _) .nil))) (IsL.mono ts _ _ hl)
   ·intro o ho;rcases abd.mp ho with ho | ho
    ·exact hok o ho
    ·rw[abr.mp ho];exact⟨λ z hz=>htg z hz,by show 1<=1+pt;omega,by show 1+pt<=60;omega⟩
  ·rintro Z H2 ⟨e2,outs,xs,ho,hl,hlen,hok,v4,v5,v6,rfl⟩;refine⟨_,rfl,ol,_,rfl,.inl ⟨bV.of ho,λ l hlf=>?_⟩⟩;refine k outs _ _ (e2.new hlf) (λ z=>by rw[z] at hlen;simp at hlen;omega) (by omega) hok (Is.tupOf (cG.of aD) (IsL.mono (aH.new hlf).ts _ _ hl))
end Tw
namespace L2
theorem vJ {c:TT}{a b:TS}{D:Ends}{σ:St}{H:Hp} (I:St->Hp->Prop) (h1:∀ D':Ends,(∀ Z H',I Z H'->D'.nx Z H')->tR c a b D' σ H) (h2:∀ Z H',I Z H'->D.nx Z H'):tR c a b D σ H:=h1 D h2
theorem nB {s R:TS}{D:Ends}{σ:St}{H:Hp} (I:St->Hp->Prop) (h1:∀ D':Ends,(∀ Z H',I Z H'->D'.nx Z H')->s D' σ H) (h2:∀ Z H',I Z H'->R D Z H'):jC s R D σ H:=h1 _ h2
end L2
namespace Tw
open PySem L2
section
variable {t sl:Addr}{σ:St}{H0:Hp}{P:V->Prop}{a b c d:TE}
theorem vI {y c0:Int}{t' u':TS}{D':Ends}{H:Hp} (ha:Gn t sl σ H0 (cA 0 y) a) (e:Ext t sl H0 H) (k:∀ (b:Bool) H',Ext t sl H0 H'->eA t H H'->if b=true then t' D' σ H' else u' D' σ H'):tR (kN (eQ B9 a (tC (.int c0)))) t' u' D' σ H:=
 qZ ha H _ e λ v H' e' b ⟨c,hc⟩=>⟨c,hc,k c H' e' b⟩
theorem t3 {i:Nat}{s:Bool} (aj:σ[i]? = some (some (.bl s))) (ha:Gn t sl σ H0 (cA 0 2) a):Gn t sl σ H0 (cA 0 2) (eQ (rI pU λ i j=>.int (i * j)) a (wJ u8 (cE (y4 (bW i)) fP))):=by
 intro H Q e k;refine ha H _ e λ v1 H1 e1 b1 ⟨j,hj,j0,j1⟩=>⟨_,aj,s,rfl,.inr ⟨!s,rfl,?_⟩⟩;subst hj;refine⟨j,_,rfl,rfl,.inl ⟨by omega,by omega⟩,k _ H1 e1 b1 ?_⟩;cases s
 ·exact⟨j,by simp,j0,j1⟩
 ·exact⟨0,by simp,by omega,by omega⟩
theorem vO {j:Nat}{x y:Int} (hj:σ[j]? = some (some (.int y))):Gn t sl σ H0 (cA (x - y) (x - y+1)) (eQ (nF λ i j=>.int (i - j)) (tC (.int x)) (bW j)):=λ H Q e k=>
 ⟨_,hj,x,y,rfl,rfl,k _ H e (eA.refl H) ⟨_,rfl,by omega,by omega⟩⟩
theorem rT {j:Nat}{y l h:Int} (hj:σ[j]? = some (some (.int y))) (hb:Gn t sl σ H0 (cA l h) b):Gn t sl σ H0 (cA (y+l) (y+h)) (eQ (nF λ i j=>.int (i+j)) (bW j) b):=
 hU (oE (x:=y) (y:=y+1) (BM hj ⟨y,rfl,by omega,by omega⟩) hb) (by omega) (by omega)
end
structure VFull (i:Nat) (v:Vs):Prop where
 sz:v.size<=60
 br:v.size<=v.brim
 bh:v.brim<=200
 sp:∀ t,v.spill=some t->(i:Int) < t
structure NetFull (net:Net):Prop where
 vs:∀ i v,net.vs[i]? = some v->VFull i v
 sps:∀ s∈net.sps,0<=s.2.1/\s.2.1<=60
def kO (K:aaa):Sp:=λ args H Q _=>∃ (t sl:Addr) (i n m:Nat) (small:Bool),args=[.ref t,.int (i:Int),.int (n:Int),.int (m:Int),.bl small]/\dJ H t sl/\i < n/\n<=12/\m<=12/\
 ∀ (v:Vs) p H',Ext t sl H H'->VOk n m v->VFull i v->Is K H' (jZ v) p->Q p H'
theorem g7:FnScope ["tape","number","many","spouts","small","size","brim","spill","acts","k"] ["tape","number","many","spouts","small"] (aI (bC 38)):={}
theorem lD {f fD fO:Addr}{fd fdD fdO:FuncData} (F:Fun K "_law_vessel" "_law_vessel" (bC 38) f fd) (T:Txt mg) (G__law_draw:Callee P w K mg base "_law_draw" ["tape","many"] 1 fE fD fdD)
  (G__law_outs:Callee P w K mg base "_law_outs" ["tape","many","small"] 2 (qF K) fO fdO):FnOk P w K mg base iE 3 f fd ["tape","number","many","spouts","small"] (kO K):=by
 refine F.ok g7 (λ vs H Q E h=>?_) (λ cdv A outer s H vs Q E hr h=>?_)
 ·obtain⟨t,sl,i,n,m,small,rfl,_⟩:=h;rfl
 ·obtain⟨t,sl,i,n,m,small,rfl,tp,hi,hn,hm,k⟩:=h;have sc:=g7;refine⟨_,(aE (pL 5 sc.nd (aT cW aC (px K (bG (aA (cJ G__law_draw hr (aA (pv 0) (aA (px K (bG (aA aC (aA aC aB))) (aM d4 rfl T.b_int dO (aA (pv 4) aB))) aB))) (aA (cJ G__law_draw hr (aA (pv 0) (aA (px K (bG (aA aC (aA aC aB))) (aM d4 rfl T.b_int dO (aA (pv 4) aB))) aB))) aB))) (aT iZ (cJ G__law_draw hr (aA (pv 0) (aA aC aB))) aC))))
   (aE (pL 6 sc.nd (aT cW (pv 5) (px K (bG (aA aC (aA (cJ G__law_draw hr (aA (pv 0) (aA (aT eG aC (pv 5)) aB))) aB))) (aT kU (cJ G__law_draw hr (aA (pv 0) (aA aC aB))) (aM d4 rfl T.b_int dO (aA (qN (pv 4)) aB))))))
   (aE (bL (aY eV (cJ G__law_draw hr (aA (pv 0) (aA aC aB))) aC (aR _)) (aF (pL 6 sc.nd (aT cW (pv 5) (cJ G__law_draw hr (aA (pv 0) (aA aC aB)))))) aQ)
   (aE (pL 7 sc.nd fI)
   (aE (bL (PW.pt (nG (aY uF (aT cW (pv 1) aC) (pv 2) (aR _)) (kD (aY eV (cJ G__law_draw hr (aA (pv 0) (aA aC aB))) aC (aR _))))) (aF (pL 7 sc.nd (aT cW (aT cW (pv 1) aC) (cJ G__law_draw hr (aA (pv 0) (aA (aT eG (aT eG (pv 2) (pv 1)) aC) aB)))))) aQ)
   (aE (pL 8 sc.nd (bG aB))
   (aE (bL (aY oX (pv 3) aC (aR _)) (aF (cZ PassesOwn.never rfl (dY rfl T.b_range (aA (aT iZ (cJ G__law_draw hr (aA (pv 0) (aA aC aB))) aC) aB)) (gL 9 sc.nd) (aF (dL (eO (K:=K) rfl aaz aax aay cF (pv 8) (aA (dN (aA (px K (bG (aA aK (aA aK (aA aK aB)))) (cJ G__law_draw hr (aA (pv 0) (aA aC aB)))) (aA (cJ G__law_draw hr (aA (pv 0) (aA (pv 3) aB))) aB))) aB)))))) aQ)
   (aF (aL (dN (aA (pv 5) (aA (pv 6) (aA (cJ G__law_outs hr (aA (pv 0) (aA (pv 2) (aA (pv 4) aB)))) (aA (cK eV (cJ G__law_draw hr (aA (pv 0) (aA aC aB))) aC (aR _)) (aA (pv 7) (aA (aM (d3 (K:=K) rfl) rfl T.b_tuple bN (aA (pv 8) aB)) aB)))))))))))))))),?_⟩
  refine oE (t:=t) (sl:=sl) (H0:=H) (x:=1) (y:=2) (l:=0) (h:=60) (lL ⟨1,rfl,by omega,by omega⟩)
   (eH (hU (gM (lo:=4) (hi:=10) rfl (by decide) (by decide) (kH rfl ⟨by decide,by decide⟩ ⟨by decide,by decide⟩)) (Int.le_refl _) (by decide))
    (hU (gM (lo:=4) (hi:=61) rfl (by decide) (by decide) (kH rfl ⟨by decide,by decide⟩ ⟨by decide,by decide⟩)) (Int.le_refl _) (by decide)) (kI (bA rfl (by decide) (by decide)))) _ _ ⟨eA.refl _,tp⟩ ?_
  rintro v H1 e1 _ ⟨size,rfl,s0,s1⟩;refine rT (t:=t) (sl:=sl) (H0:=H) (y:=size) (l:=0) (h:=201 - size) rfl (eH (lL ⟨0,rfl,by omega,by omega⟩)
   (hU (gM (lo:=201 - size) (hi:=201 - size+1) rfl (by omega) (by omega) (vO rfl)) (Int.le_refl _) (by omega)) (t3 rfl (bA rfl (by decide) (by decide)))) _ _ e1 ?_
  rintro v H2 e2 _ ⟨brim,rfl,br0,br1⟩;dsimp only [jC,iK,tC,bS];refine vJ (λ Z H'=>Ext t sl H H'/\∃ brim,size<=brim/\brim<=200/\Z=[some (.ref t),some (.int (i:Int)),some (.int (n:Int)),some (.int (m:Int)),some (.bl small),some (.int size),some (.int brim),none,none,none]) (λ D' hD=>?_) ?_
  ·refine vI (t:=t) (sl:=sl) (H0:=H) (bA rfl (by decide) (by decide)) e2 λ b H3 e3 _=>?_;cases b with
   | false=>exact bK (hD _ _ ⟨e3,brim,by omega,by omega,rfl⟩)
   | true=>
    refine cS ?_;refine rT (t:=t) (sl:=sl) (H0:=H) (y:=size) (l:=0) (h:=3) rfl (bA rfl (by decide) (by decide)) _ _ e3 ?_;rintro v H4 e4 _ ⟨b2,rfl,c0,c1⟩;exact hD _ _ ⟨e4,b2,by omega,by omega,rfl⟩
  rintro af H3 ⟨e3,brim,hb1,hb2,rfl⟩;dsimp only [jC,iK,tC,bS];refine vJ (λ Z H'=>Ext t sl H H'/\∃ sp:Option Int,(∀ z,sp=some z->(0<=z/\z < n)/\(i:Int) < z)/\Z=[some (.ref t),some (.int (i:Int)),some (.int (n:Int)),some (.int (m:Int)),some (.bl small),some (.int size),some (.int brim),some (kA sp),none,none]) (λ D' hD=>?_) ?_
  ·refine⟨_,rfl,_,_,rfl,rfl,_,rfl,_,_,rfl,rfl,_,rfl,?_⟩;refine dS (λ hlt=>?_) (λ _=>bK (hD _ _ ⟨e3,none,(λ z h=>nomatch h),rfl⟩));have hlt':(i:Int)+1 < n:=aba hlt;refine qZ (t:=t) (sl:=sl) (H0:=H) (bA rfl (by decide) (by decide)) _ _ e3 ?_;rintro v H4 e4 _ ⟨b,rfl⟩;refine⟨b,rfl,?_⟩;cases b with
   | false=>exact bK (hD _ _ ⟨e4,none,(λ z h=>nomatch h),rfl⟩)
   | true=>
    refine cS ?_;refine⟨_,rfl,_,_,rfl,rfl,_,rfl,_,rfl,_,rfl,_,_,rfl,rfl,_,_,rfl,rfl,t,sl,(n:Int) - i - 1,rfl,e4.tp,by omega,by omega,λ r H5 b5 t5 r0 r1=>⟨_,_,rfl,rfl,?_⟩⟩;exact hD _ _ ⟨⟨e4.bt.trans b5,t5⟩,some ((i:Int)+1+r),λ z h=>by cases h;omega,rfl⟩
  rintro σ4 H4 ⟨e4,sp,hsp,rfl⟩;refine⟨abi _,λ al hal=>?_⟩;dsimp only [jC,iK,tC,bS];have fal:H al=none:=e4.bt.free (e4.ne hal) hal;have nal:al≠t:=e4.ne hal;refine vJ (λ Z H'=>Ext t sl H H'/\∃ (acts:List (Str×Int)) (xs:List V),H' al=some (.lst xs)/\L2.IsL K H' (acts.map dW) xs/\acts.length<=3/\(∀ a∈acts,ActOk m a)/\
   ∃ v9,Z=[some (.ref t),some (.int (i:Int)),some (.int (n:Int)),some (.int (m:Int)),some (.bl small),some (.int size),some (.int brim),some (kA sp),some (.ref al),v9]) (λ D' hD=>?_) ?_
  ·refine⟨_,rfl,_,_,rfl,rfl,_,rfl,?_⟩;refine dS (λ hlt=>?_) (λ _=>hD _ _ ⟨e4.new hal,[],[],aD,.nil,by simp,λ a ha=>(nomatch ha),none,rfl⟩);have hm0:(0:Int) < m:=aba hlt;refine vQ (t:=t) (sl:=sl) (H0:=H) (by decide) (by decide) (bA (m:=11) rfl (by decide) (by decide)) _ _ (e4.new hal) ?_;rintro v H5 e5 b5 ⟨c,rfl,c0,c1⟩;refine⟨_,rfl,by omega,by omega,?_⟩;refine fA (lo:=0) (n:=(c / 3).toNat) (λ j Z H'=>Ext t sl H H'/\∃ (acts:List (Str×Int)) (xs:List V),H' al=some (.lst xs)/\L2.IsL K H' (acts.map dW) xs/\acts.length=j/\(∀ a∈acts,ActOk m a)/\
    ∃ v9,Z=[some (.ref t),some (.int (i:Int)),some (.int (n:Int)),some (.int (m:Int)),some (.bl small),some (.int size),some (.int brim),some (kA sp),some (.ref al),v9]) ?_ ?_ ?_
   ·exact⟨e5,[],[],b5 al _ nal aD,.nil,rfl,λ a ha=>(nomatch ha),none,rfl⟩
   ·rintro j Z H6 hj ⟨e6,acts,xs,ha,hl,hlen,hok,v9,rfl⟩;refine⟨_,rfl,.inl ⟨rfl,_,bV.of ha⟩,?_⟩;refine pJ (t:=t) (sl:=sl) (H0:=H) (P:=λ v=>∃ wd:Str,v=.str wd/\(wd = "open" \/ wd = "shut" \/ wd = "turn")) (lL ⟨_,rfl,.inl rfl⟩) (lL ⟨_,rfl,.inr (.inl rfl)⟩) (lL ⟨_,rfl,.inr (.inr rfl)⟩) (bA rfl (by decide) (by decide)) _ _ e6 ?_;rintro v H7 e7 b7 ⟨wd,rfl,hwd⟩;refine gK (t:=t) (sl:=sl) (H0:=H) (m:=(m:Int)) rfl rfl hm0 (by omega) _ _ e7 ?_;rintro v H8 e8 b8 ⟨r,rfl,r0,r1⟩;refine⟨(show 2<=sizeLine by decide),λ q hq=>?_⟩;have ha8:H8 al=some (.lst xs):=b8 al _ nal (b7 al _ nal ha);have nq:al≠q:=aO ha8 hq;have hxl:xs.length=acts.length:=by rw[hl.length,aab]
    refine⟨al,xs,_,rfl,rfl,by rw[aP nq];exact ha8,bF (by omega),?_⟩;have e9:Ext t sl H (upd H8 q (.tup [.str wd,.int r])):=e8.new hq;have mt:wA (upd H8 q (.tup [.str wd,.int r]) al):=by rw[aP nq,ha8];exact trivial
    have ts:bY K H6 (upd (upd H8 q (.tup [.str wd,.int r])) al (.lst (xs++[.ref q]))):=bY.put (((b7.trans b8).trans (aH.new hq).but).ts e6.tp.mut) (.inr mt);refine⟨⟨λ b o hb e=>?_,e9.tp.put nal (dJ.ne_sl tp fal)⟩,acts++[(wd,r)],xs++[.ref q],aD,?_,by simp [hlen],?_,_,rfl⟩
    ·rw[aP (aO e fal)];exact e9.bt b o hb e
    ·rw[aah];exact L2.IsL.snoc (Is.tupOf (ds:=[.str wd,.int r]) (bY.put (bY.refl _) (.inr mt) _ _ (cG.of aD)) (.cons (Is.s _) (.cons (Is.i _) .nil))) (L2.IsL.mono ts _ _ hl)
    ·intro a ha';rcases abd.mp ha' with ha' | ha'
     ·exact hok a ha'
     ·rw[abr.mp ha'];exact⟨hwd,r0,r1⟩
   ·rintro Z H6 ⟨e6,acts,xs,ha,hl,hlen,hok,v9,rfl⟩;exact hD _ _ ⟨e6,acts,xs,ha,hl,by omega,hok,v9,rfl⟩
  rintro cb H5 ⟨e5,acts,xs,ha,hl,hlen,hok,v9,rfl⟩;refine⟨_,rfl,_,rfl,_,rfl,_,rfl,_,rfl,t,sl,n,small,rfl,e5.tp,by omega,hn,λ outs p H6 e6 o1 o2 o3 hp=>?_⟩;refine qZ (t:=t) (sl:=sl) (H0:=H) (bA rfl (by decide) (by decide)) _ _ ⟨e5.bt.trans e6.bt,e6.tp⟩ ?_;rintro v H7 e7 b7 ⟨b,rfl⟩;have ha7:H7 al=some (.lst xs):=b7 al _ nal (e6.bt al _ nal ha);have b57:eA t H5 H7:=e6.bt.trans b7;refine⟨_,rfl,_,rfl,al,_,rfl,.inl ⟨bV.of ha7,λ q hq=>⟨(show 6<=sizeLine by decide),λ r hr'=>?_⟩⟩⟩;have m1:=aH.new (o:=HO.tup xs) hq;have m2:aH (upd H7 q (.tup xs)) (upd (upd H7 q (.tup xs)) r (.tup [.int size,.int brim,p,.bl b,kA sp,.ref q])):=aH.new hr';refine k ⟨size,brim,outs,b,sp,acts⟩ _ _ ((e7.new hq).new hr') ⟨s0,o1,o2,o3,λ z h=>(hsp z h).1,hlen,hok⟩ ⟨by show size<=60;omega,hb1,hb2,λ z h=>(hsp z h).2⟩ ?_;refine Is.tupOf (cG.of aD) (.cons (Is.i _) (.cons (Is.i _) (.cons ?_ (.cons (Is.b _) (.cons (Is.tgOf _) (.cons ?_ .nil))))))
  ·exact Is.mono m2.ts _ _ (Is.mono m1.ts _ _ (Is.mono (b7.ts e6.tp.mut) _ _ hp))
  ·exact Is.mono m2.ts _ _ (Is.tupOf (cG.of aD) (L2.IsL.mono m1.ts _ _ (L2.IsL.mono (b57.ts e5.tp.mut) _ _ hl)))
theorem Ext.put {t sl p:Addr}{H H':Hp}{o:HO} (e:Ext t sl H H') (tp:dJ H t sl) (hp:H p=none):Ext t sl H (upd H' p o):=
 ⟨λ b u hb e1=>by rw[aP (aO e1 hp)];exact e.bt b u hb e1,e.tp.put (λ z=>by obtain⟨o,h⟩:=tp.some;rw[z,h] at hp;cases hp) (dJ.ne_sl tp hp)⟩
theorem Ext.trans {t sl:Addr}{H H1 H2:Hp} (a:Ext t sl H H1) (b:Ext t sl H1 H2):Ext t sl H H2:=⟨a.bt.trans b.bt,b.tp⟩
def qH (K:aaa):Sp:=λ args H Q _=>∃ (t sl:Addr) (most:Int) (small:Bool),args=[.ref t,.int most,.bl small]/\1<=most/\most<=12/\dJ H t sl/\
 ∀ (net:Net) p H',Ext t sl H H'->NetOk net->NetFull net->(net.vs.length:Int)<=most->Is K H' (eX net) p->Q p H'
theorem jR:FnScope ["tape","most","small","many","spouts","vessels","found","k","flow"] ["tape","most","small"] (aI (bC 39)):={}
theorem nV {f fD fV:Addr}{fd fdD fdV:FuncData} (F:Fun K "_law_net" "_law_net" (bC 39) f fd) (T:Txt mg) (G__law_draw:Callee P w K mg base "_law_draw" ["tape","many"] 1 fE fD fdD)
  (G__law_vessel:Callee P w K mg base "_law_vessel" ["tape","number","many","spouts","small"] 3 (kO K) fV fdV):FnOk P w K mg base iE 4 f fd ["tape","most","small"] (qH K):=by
 refine F.ok jR (λ vs H Q E h=>?_) (λ cdv A outer s H vs Q E hr h=>?_)
 ·obtain⟨t,sl,most,small,rfl,_⟩:=h;rfl
 ·obtain⟨t,sl,most,small,rfl,mo1,mo2,tp,k⟩:=h;have sc:=jR;refine⟨_,(aE (qM (i:=3) sc.nd rfl (Or.inr rfl) (aT cW aC (cJ G__law_draw hr (aA (pv 0) (aA (pv 1) aB)))))
   (aE (qM (i:=4) sc.nd rfl (Or.inr rfl) (px K (bG (aA (cJ G__law_draw hr (aA (pv 0) (aA aC aB))) (aA (cJ G__law_draw hr (aA (pv 0) (aA aC aB))) aB))) (aT iZ (cJ G__law_draw hr (aA (pv 0) (aA aC aB))) aC)))
   (aE (sR (i:=5) sc.nd rfl rfl (λ _ _ h=>h) rfl (LcOk.mk (N':=["k","tape","many","spouts","small"]) (fr:=[none,some 0,some 3,some 4,some 2]) rfl ⟨rfl,rfl,rfl,rfl,trivial⟩ rfl rfl rfl rfl rfl ⟨⟨_,rfl,rfl,rfl,rfl⟩,⟨_,rfl,rfl,rfl,rfl⟩,⟨_,rfl,rfl,rfl,rfl⟩,⟨_,rfl,rfl,rfl,rfl⟩,trivial⟩) (dY rfl T.b_range (aA (pv 3) aB)) (λ _ _ _=>(gC 0 ["k","tape","many","spouts","small"])) (λ _ _ _=>dA) (λ _ _ _=>(cJ G__law_vessel hr (aA (pv 1) (aA (pv 0) (aA (pv 2) (aA (pv 3) (aA (pv 4) aB))))))))
   (aE (pL 6 sc.nd (bG aB))
   (aE (cZ PassesOwn.never rfl (dY rfl T.b_range (aA (pv 4) aB)) (gL 7 sc.nd) (aE (pL 8 sc.nd (px K (bG (aA (cJ G__law_draw hr (aA (pv 0) (aA aC aB))) (aA (cJ G__law_draw hr (aA (pv 0) (aA (px K (bG (aA aC (aA aC aB))) (aM d4 rfl T.b_int dO (aA (pv 2) aB))) aB))) aB))) (aT iZ (cJ G__law_draw hr (aA (pv 0) (aA aC aB))) aC)))
   (aF (dL (eO (K:=K) rfl aaz aax aay cF (pv 6) (aA (dN (aA (cJ G__law_draw hr (aA (pv 0) (aA (pv 3) aB))) (aA (pv 8) (aA (cK oX (cJ G__law_draw hr (aA (pv 0) (aA aC aB))) aC (aR _)) aB)))) aB))))))
   (aF (aL (dN (aA (aM (d3 (K:=K) rfl) rfl T.b_tuple bN (aA (pv 5) aB)) (aA (aM (d3 (K:=K) rfl) rfl T.b_tuple bN (aA (pv 6) aB)) aB)))))))))),?_⟩
  refine oE (t:=t) (sl:=sl) (H0:=H) (x:=1) (y:=2) (l:=0) (h:=most) (lL ⟨1,rfl,by omega,by omega⟩) (gK (m:=most) rfl rfl (by omega) (by omega)) _ _ ⟨eA.refl _,tp⟩ ?_;rintro v H1 e1 _ ⟨n',rfl,n0,n1⟩;obtain⟨n,rfl⟩:=Int.eq_ofNat_of_zero_le (show 0<=n' by omega);refine eH (t:=t) (sl:=sl) (H0:=H) (P:=cA 0 13) (hU (bA rfl (by decide) (by decide)) (Int.le_refl _) (by decide)) (bA rfl (by decide) (by decide)) (kI (bA rfl (by decide) (by decide))) _ _ e1 ?_;rintro v H2 e2 _ ⟨m',rfl,m0,m1⟩;obtain⟨m,rfl⟩:=Int.eq_ofNat_of_zero_le m0;refine⟨_,rfl,_,rfl,by omega,by omega,?_⟩;refine uT (n:=n) (λ D i r Z H'=>H2 D=none/\Ext t sl H H'/\H' D=some (.lst r)/\∃ vs:List Vs,vs.length=i/\L2.IsL K H' (vs.map jZ) r/\(∀ v∈vs,VOk n m v)/\(∀ i v,vs[i]? = some v->VFull i v)/\∃ v0,Z=[v0,some (.ref t),some (.int (n:Int)),some (.int (m:Int)),some (.bl small)])
   (λ D hD=>⟨hD,e2.new hD,aD,[],rfl,.nil,(λ v hv=>nomatch hv),(λ i v hv=>by simp at hv),none,rfl⟩) ?_ ?_
  rotate_left
  ·rintro D i r Z H3 hi ⟨hD,e3,hl,vs,hlen,hvl,hok,hfu,v0,rfl⟩;refine lG ?_;refine⟨_,rfl,_,rfl,_,rfl,_,rfl,_,rfl,t,sl,i,n,m,small,rfl,e3.tp,hi,by omega,by omega,λ v p H4 e4 vok vfu hp=>?_⟩;have nD:D≠t:=e2.ne hD;have fD:H D=none:=e2.bt.free nD hD;have hl4:H4 D=some (.lst r):=e4.bt D _ nD hl;have hrl:r.length=vs.length:=by rw[hvl.length,aab]
   have mt:wA (H4 D):=by rw[hl4];exact trivial
   refine⟨hl4,bF (by omega),hD,(e3.trans e4).put tp fD,aD,vs++[v],by simp [hlen],?_,?_,?_,_,rfl⟩
   ·rw[aah];exact L2.IsL.snoc (Is.mono (bY.put (bY.refl _) (.inr mt)) _ _ hp) (L2.IsL.mono (bY.put (e4.bt.ts e3.tp.mut) (.inr mt)) _ _ hvl)
   ·intro u hu;rcases abd.mp hu with hu | hu
    ·exact hok u hu
    ·rw[abr.mp hu];exact vok
   ·intro j u hu;rcases Nat.lt_or_ge j vs.length with hj | hj
    ·rw[abw hj] at hu;exact hfu j u hu
    ·rw[abv hj] at hu;have e0:j - vs.length=0:=by
      rcases Nat.eq_zero_or_pos (j - vs.length) with h | h
      ·exact h
      ·rw[List.getElem?_eq_none (show [v].length<=j - vs.length from h)] at hu;cases hu
     rw[e0] at hu;have e1:j=i:=by omega
     cases hu;rw[e1];exact vfu
  rintro D r Z H3 ⟨hD,e3,hl,vs,hlen,hvl,hok,hfu,_⟩;have nD:D≠t:=e2.ne hD;have fD:H D=none:=e2.bt.free nD hD;refine⟨abi _,λ fl hfl=>?_⟩;have nf:fl≠t:=e3.ne hfl;have ff:H fl=none:=e3.bt.free nf hfl;have nDf:D≠fl:=aO hl hfl;refine⟨_,rfl,_,rfl,by omega,by omega,?_⟩;refine fA (lo:=0) (n:=m) (λ j Z H'=>Ext t sl H H'/\H' D=some (.lst r)/\L2.IsL K H' (vs.map jZ) r/\∃ (sps:List lU) (xs:List V),H' fl=some (.lst xs)/\L2.IsL K H' (sps.map n4) xs/\sps.length=j/\(∀ s∈sps,(0<=s.1/\s.1 < n)/\0<=s.2.1/\s.2.1<=60)/\
   ∃ v7 v8,Z=[some (.ref t),some (.int most),some (.bl small),some (.int (n:Int)),some (.int (m:Int)),some (.ref D),some (.ref fl),v7,v8]) ?_ ?_ ?_
  ·exact⟨e3.new hfl,by rw[aP nDf];exact hl,L2.IsL.mono (aH.new hfl).ts _ _ hvl,[],[],aD,.nil,rfl,(λ s hs=>nomatch hs),none,none,rfl⟩
  ·rintro j Z H4 hj ⟨e4,hl4,hv4,sps,xs,hf4,hs4,hslen,hsok,v7,v8,rfl⟩;refine eH (t:=t) (sl:=sl) (H0:=H) (P:=cA 0 61) (hU (bA rfl (by decide) (by decide)) (Int.le_refl _) (by decide))
    (hU (gM (lo:=4) (hi:=62) rfl (by decide) (by decide) (kH rfl ⟨by decide,by decide⟩ ⟨by decide,by decide⟩)) (Int.le_refl _) (by decide)) (kI (bA rfl (by decide) (by decide))) _ _ e4 ?_
   rintro v H5 e5 b5 ⟨flow,rfl,fl0,fl1⟩;have hf5:H5 fl=some (.lst xs):=b5 fl _ nf hf4;refine⟨_,rfl,.inl ⟨rfl,_,bV.of hf5⟩,?_⟩;refine gK (t:=t) (sl:=sl) (H0:=H) (m:=(n:Int)) rfl rfl (by omega) (by omega) _ _ e5 ?_;rintro v H6 e6 b6 ⟨tg,rfl,tg0,tg1⟩;refine⟨_,rfl,?_⟩;refine A6 (t:=t) (sl:=sl) (H0:=H) (bA rfl (by decide) (by decide)) _ _ e6 ?_;rintro v H7 e7 b7 ⟨dr,rfl⟩;refine⟨(show 3<=sizeLine by decide),λ q hq=>?_⟩;have b47:eA t H4 H7:=b5.trans (b6.trans b7);have hf7:H7 fl=some (.lst xs):=b47 fl _ nf hf4;have hl7:H7 D=some (.lst r):=b47 D _ nD hl4;have nq:fl≠q:=aO hf7 hq;have nDq:D≠q:=aO hl7 hq;have hxl:xs.length=sps.length:=by rw[hs4.length,aab]
   refine⟨fl,xs,_,rfl,rfl,by rw[aP nq];exact hf7,bF (by omega),?_⟩;have mt:wA (upd H7 q (.tup [.int tg,.int flow,.bl dr]) fl):=by rw[aP nq,hf7];exact trivial
   have ts:bY K H4 (upd (upd H7 q (.tup [.int tg,.int flow,.bl dr])) fl (.lst (xs++[.ref q]))):=bY.put ((b47.trans (aH.new hq).but).ts e4.tp.mut) (.inr mt);refine⟨(e7.new hq).put tp ff,by rw[aP nDf,aP nDq];exact hl7,L2.IsL.mono ts _ _ hv4,sps++[(tg,flow,dr)],xs++[.ref q],aD,?_,by simp [hslen],?_,_,_,rfl⟩
   ·rw[aah];exact L2.IsL.snoc (Is.tupOf (ds:=[.int tg,.int flow,.bl dr]) (bY.put (bY.refl _) (.inr mt) _ _ (cG.of aD)) (.cons (Is.i _) (.cons (Is.i _) (.cons (Is.b _) .nil)))) (L2.IsL.mono ts _ _ hs4)
   ·intro s hs;rcases abd.mp hs with hs | hs
    ·exact hsok s hs
    ·rw[abr.mp hs];exact⟨⟨tg0,tg1⟩,fl0,show flow<=60 by omega⟩
  ·rintro Z H4 ⟨e4,hl4,hv4,sps,xs,hf4,hs4,hslen,hsok,v7,v8,rfl⟩;refine⟨_,rfl,D,_,rfl,.inl ⟨bV.of hl4,λ q1 hq1=>⟨_,rfl,fl,_,rfl,.inl ⟨bV.of (aH.new hq1 _ _ hf4),λ q2 hq2=>⟨(show 2<=sizeLine by decide),λ q3 hq3=>?_⟩⟩⟩⟩⟩;have m1:aH H4 (upd H4 q1 (.tup r)):=aH.new hq1;have m2:aH (upd H4 q1 (.tup r)) (upd (upd H4 q1 (.tup r)) q2 (.tup xs)):=aH.new hq2;have m3:aH (upd (upd H4 q1 (.tup r)) q2 (.tup xs)) (upd (upd (upd H4 q1 (.tup r)) q2 (.tup xs)) q3 (.tup [.ref q1,.ref q2])):=aH.new hq3;refine k ⟨vs,sps⟩ _ _ (((e4.new hq1).new hq2).new hq3) ⟨by show 1<=vs.length;omega,by show vs.length<=12;omega,by show sps.length<=12;omega,λ v hv=>by rw[hlen,hslen];exact hok v hv,λ s hs=>by rw[hlen];exact (hsok s hs).1⟩ ⟨hfu,λ s hs=>(hsok s hs).2⟩ (by show (vs.length:Int)<=most;omega) ?_;refine Is.tupOf (cG.of aD) (.cons (Is.tupOf (m3.tup (m2.tup (cG.of aD))) ?_) (.cons (Is.tupOf (m3.tup (cG.of aD)) ?_) .nil))
   ·exact L2.IsL.mono m3.ts _ _ (L2.IsL.mono m2.ts _ _ (L2.IsL.mono m1.ts _ _ hv4))
   ·exact L2.IsL.mono m3.ts _ _ (L2.IsL.mono m2.ts _ _ (L2.IsL.mono m1.ts _ _ hs4))
theorem dG (i:Int):(L2.D.int i).depth=0:=by rw[L2.D.depth] <;> intros <;> (first | rfl | (intro z;cases z) | (rename_i z;cases z))
theorem pN (i:Bool):(L2.D.bl i).depth=0:=by rw[L2.D.depth] <;> intros <;> (first | rfl | (intro z;cases z) | (rename_i z;cases z))
theorem iB (K:aaa):PySem.W.kitOne K (.type "tuple") (.type "tuple")=some true:=by
 unfold PySem.W.kitOne;rw[if_pos (by decide +kernel)]
theorem uX (K:aaa):PySem.W.kitOne K (.type "bool") (.type "bool")=some true:=by
 unfold PySem.W.kitOne;rw[if_pos (by decide +kernel)]
theorem zW (K:aaa):PySem.W.kitOne K (.type "int") (.type "bool")=some false:=by
 unfold PySem.W.kitOne;rw[if_neg (by decide +kernel)];show (if PySem.W.kitMeta "bool" = true then PySem.W.subIn K (.type "int") (.type "bool") else none)=some false;rw[if_pos (by decide +kernel)];show (PySem.fastBuiltinMro "int").map (·.contains (.type "bool"))=some false;decide +kernel
theorem w8 (n:Nat):(List.replicate n true).all id=true:=by
 rw[abo];intro x hx;rw[List.eq_of_mem_replicate hx];rfl
def rF (K:aaa):Sp:=λ vs H Q _=>∃ (a:Addr) (ns:List Int),vs=[.ref a]/\bV K H a (ns.map V.int)/\ns.length<=63/\∀ H',Q (.bl true) H'
end Tw
namespace L2
open PySem PySem.Spec PyProof.Rows TwZ
section
variable {X:Cx}
theorem cX {x:Str}{v:V}{pos:Pos} (hg:Gl X x) (h:∃ u,X.mg x=some u/\aX v u) (hd:(x == ("__debug__" : Str))=false:=by decide):PE X (.Name x pos) (tC v):=by
 obtain⟨u,e,r⟩:=h;exact wS hg e r hd
theorem wV (hK:X.K=K):fM X (compareOp .NotIn) (rIn K true):=by subst hK;exact nL
end
theorem oA {c A B:Prop} [Decidable c] (hc:c) (h:A):if decide c=true then A else B:=by
 rw[if_pos (abh hc)];exact h
end L2
namespace Tw
open PySem L2
structure TxtN (K:aaa) (mg:Str->Option Value) (aw:Addr):Prop where
 g_MOST_VESSELS:∃ u,mg "MOST_VESSELS" = some u/\aX (.int 12) u
 g_MOST_SPOUTS:∃ u,mg "MOST_SPOUTS" = some u/\aX (.int 12) u
 g_MOST_SIZE:∃ u,mg "MOST_SIZE" = some u/\aX (.int 60) u
 g_MOST_BRIM:∃ u,mg "MOST_BRIM" = some u/\aX (.int 200) u
 g_MOST_OUTS:∃ u,mg "MOST_OUTS" = some u/\aX (.int 3) u
 g_MOST_PARTS:∃ u,mg "MOST_PARTS" = some u/\aX (.int 60) u
 g_MOST_ACTS:∃ u,mg "MOST_ACTS" = some u/\aX (.int 3) u
 g_MOST_FLOW:∃ u,mg "MOST_FLOW" = some u/\aX (.int 60) u
 g_ACT_WORDS:∃ u,mg "ACT_WORDS" = some u/\aX (.ref aw) u
 words:∀ H,cG K H aw [.str "open",.str "shut",.str "turn"]
theorem zV (K:aaa):PySem.W.kitOne K (.type "int") (.type "int")=some true:=by
 unfold PySem.W.kitOne;rw[if_pos (by decide +kernel)]
section
variable {aw:Addr}
def kB:Sp:=λ vs H Q _=>∃ (n lo hi:Int),vs=[.int n,.int lo,.int hi]/\lo<=n/\n<=hi/\Q (.bl true) H
def hW (K:aaa):Sp:=λ vs H Q _=>∃ (x:V) (i n m:Nat) (v:Vs),vs=[x,.int (i:Int),.int (n:Int),.int (m:Int)]/\Is K H (jZ v) x/\VOk n m v/\VFull i v/\∀ H',aH H H'->Q (.bl true) H'
def mY (K:aaa):Sp:=λ vs H Q _=>∃ (x:V) (net:Net),vs=[x]/\Is K H (eX net) x/\NetOk net/\NetFull net/\∀ H',aH H H'->Q (.bl true) H'
theorem jP:FnScope ["thing","least","most"] ["thing","least","most"] (aI (bC 18)):={}
theorem jO:FnScope ["thing","least","most"] ["thing","least","most"] (aI (bC 19)):={}
theorem mE:FnScope ["thing","vessel_count","target","parts"] ["thing","vessel_count"] (aI (bC 15)):={}
theorem mG:FnScope ["thing","spout_count","word","spout"] ["thing","spout_count"] (aI (bC 16)):={}
theorem jQ:FnScope ["thing","vessel_count","target","flow","door"] ["thing","vessel_count"] (aI (bC 17)):={}
theorem iP:FnScope ["thing","number","vessel_count","spout_count","size","brim","outs","holds","spill","acts"] ["thing","number","vessel_count","spout_count"] (aI (bC 14)):={}
theorem mF:FnScope ["thing","vessels","spouts","number","vessel"] ["thing"] (aI (bC 13)):={}
end
end Tw
namespace L2
open PySem PySem.Spec PyProof.Rows TwZ
section
variable {X:Cx}
end
section
variable {X:Cx}{pins:List (Addr×Obj)}{σ:St}{H:Hp}{s:Shared}
end
section
variable {H:Hp}
end
structure Fly (P:Program) (w:World) (stack:List Env) (H:Hp) (h:Heap) (ea:Addr) (cls a0:Value) (H':Hp) (h' B:Heap):Prop where
 fl:Heap.FlyingW B stack ea cls a0 h'
 keep:∀ b o,h.get? b=some o->H b=none->b∉jK stack->B.get? b=some o
 slot:∀ b o,h.get? b=some o->H b=none->b∈jK stack->∃ sl,h'.get? b=some { o with slots:=sl }
 free:∀ b o,h.get? b=some o->H b=none->H' b=none
 there:∀ b o,h.get? b=some o->b∉jK stack->∃ o',B.get? b=some o'
 tups:∀ b xs,H b=some (.tup xs)->H' b=some (.tup xs)
 frzs:∀ b o u,H b=some (.frz o u)->H' b=some (.frz o u)
 tbls:∀ b ps,H b=some (.tbl ps)->∃ more,H' b=some (.tbl (ps++more))
 hok:jY P w H' B
def sG (P:Program) (w:World):tK:=λ outer H s E e s'=>∃ (ea:Addr) (cls a0:Value) (H':Hp) (B:Heap),e=.ref ea/\s'.os=s.os/\AllBare s'.gens/\Fly P w outer H s.heap ea cls a0 H' s'.heap B/\E cls none H'
structure Leaves (X:Cx) (E:XK):Prop where
 stk:X.stack=X.env::X.outer
 fr:X.env.frame=some X.env.locals
 ex:X.ex=[]
 xe:∀ e s',wpAny (model X.prog X.w) X.A (leaving X.env e) (λ _ s''=>sG X.prog X.w X.outer X.H₀ X.s₀ E e s'') (λ e' s''=>sG X.prog X.w X.outer X.H₀ X.s₀ E e' s'') s'->X.xe e s'
section
variable {X:Cx}{pins:List (Addr×Obj)}{σ:St}{H H':Hp}{s s':Shared}{E:XK}
theorem xG {l:List Env}{b:Addr}{env:Env} (he:env∈l) (hf:env.frame=some b):b∈jK l:=List.mem_filterMap.mpr ⟨env,he,hf⟩
theorem j6 {l:List Env}{b L:Addr}{env:Env} (hf:env.frame=some L) (h:b∈jK (env::l)):b=L\/b∈jK l:=by
 unfold jK at h ⊢;rw[List.filterMap_cons,hf] at h;exact aaq.1 h
theorem u6 {h':Heap}{ea:Addr}{cls:Value}{vs:List Value} (L:Leaves X E) (I:Inv X pins σ H s) (hx:Heap.MadeExcOf s.heap h' ea cls vs) (hE:E cls none H):X.xe (.ref ea) { s with heap:=h' }:=by
 refine L.xe _ _ ?_;have fr:X.A.frames=some (X.env::X.outer):=by rw[<- L.stk];exact I.ok.frames
 have hs:s.heap.FunFrames X.base (X.env::X.outer):=by rw[<- L.stk];exact I.stack
 have hfree:∀ b∈jK (X.env::X.outer),H b=none:=by rw[<- L.stk];exact I.stkFree
 have nex:∀ b:Addr,b∉X.ex:=λ b z=>by rw[L.ex] at z;cases z
 have out:∀ b o,X.s₀.heap.get? b=some o->b∉jK X.outer->b∉jK (X.env::X.outer):=λ b o e hb z=>by
  rcases j6 L.fr z with z | z
  ·exact absurd (aam (aai e) I.ok.above) (by rw[z];exact abu _)
  ·exact hb z
 refine wpAny_leaves_madeW (base:=PySem.W.hideAll s.heap (jK (X.env::X.outer))) fr L.fr (λ b o q=>PySem.W.of_hideAll _ q) (PySem.W.funFrames_hide hs λ env he a hf=>xG he hf) hx λ h2 t x1 x2 x3 x4=>?_;refine⟨ea,cls,.ref t,H,_,rfl,I.os,I.bare,⟨x1,λ b o e n hb=>?_,λ b o e n hb=>?_,λ b o e n=>I.base.free b o e n (nex b),λ b o e hb=>?_,I.base.tups,I.base.frzs,I.base.tbls,λ a o e=>?_⟩,hE⟩
 ·exact PySem.W.hideAll_get _ (I.base.keep b o e n hb (nex b)) (out b o e hb)
 ·obtain⟨sl,e1⟩:=I.base.slot b o e n hb (nex b);obtain⟨_,o',ho',hd⟩:=I.ok.funs.mem hb;rw[e] at ho';cases ho';obtain⟨sl',e2⟩:=x4 b _ (hx.keeps _ _ e1) hd;exact⟨sl',e2⟩
 ·obtain⟨o',e1⟩:=I.base.there b o e (nex b);exact⟨o',PySem.W.hideAll_get _ e1 (out b o e hb)⟩
 ·refine (I.hok a o e).stay (λ b u hb q=>PySem.W.hideAll_get _ q λ z=>?_) (λ _ q=>q) λ _ _ q=>q;have:=hfree b z;rcases hb with rfl | hb
  ·rw[e] at this;cases this
  ·rw[hb] at this;cases this
theorem cY (L:Leaves X E):lQ (sG X.prog X.w) X E:=by
 intro pins σ H s e s' I h;obtain⟨ea,cls,a0,H',B,rfl,os,bare,F,hE⟩:=h;refine L.xe _ _ ?_;have fr:X.A.frames=some (X.env::X.outer):=by rw[<- L.stk];exact I.ok.frames
 have nex:∀ b:Addr,b∉X.ex:=λ b z=>by rw[L.ex] at z;cases z
 have out:∀ b o,X.s₀.heap.get? b=some o->b∉jK X.outer->b∉jK X.stack:=λ b o e hb z=>by
  rw[L.stk] at z;rcases j6 L.fr z with z | z
  ·exact absurd (aam (aai e) I.ok.above) (by rw[z];exact abu _)
  ·exact hb z
 have inn:∀ b,b∈jK X.outer->b∈jK X.stack:=λ b hb=>by
  rw[L.stk];unfold jK at hb ⊢;rw[List.filterMap_cons,L.fr];exact aal _ hb
 refine wpAny_leaves_onW fr L.fr (by rw[<- L.stk];exact F.fl) λ h2 x1 x2=>?_;refine⟨ea,cls,a0,H',B,rfl,os.trans I.os,bare,⟨x1,λ b o e n hb=>?_,λ b o e n hb=>?_,λ b o e n=>?_,λ b o e hb=>?_,λ b xs e=>F.tups b xs (I.base.tups b xs e),λ b o u e=>F.frzs b o u (I.base.frzs b o u e),λ b ps e=>?_,F.hok⟩,hE⟩
 ·exact F.keep b o (I.base.keep b o e n hb (nex b)) (I.base.free b o e n (nex b)) (out b o e hb)
 ·obtain⟨sl,e1⟩:=I.base.slot b o e n hb (nex b);obtain⟨sl',e2⟩:=F.slot b _ e1 (I.base.free b o e n (nex b)) (inn b hb);obtain⟨_,o',ho',hd⟩:=I.ok.funs.mem hb;rw[e] at ho';cases ho';obtain⟨sl'',e3⟩:=x2 b _ e2 hd;exact⟨sl'',e3⟩
 ·obtain⟨o',e1⟩:=I.base.there b o e (nex b);exact F.free b o' e1 (I.base.free b o e n (nex b))
 ·obtain⟨o',e1⟩:=I.base.there b o e (nex b);exact F.there b o' e1 (out b o e hb)
 ·obtain⟨m1,e1⟩:=I.base.tbls b ps e;obtain⟨m2,e2⟩:=F.tbls b _ e1;exact⟨m1++m2,by rw[e2,Array.append_assoc]⟩
theorem zK {P:Program}{w:World}:lQ (sG P w) X E0:=λ _ _ _ _ _ _ _ h=>by
 obtain⟨_,_,_,_,_,_,_,_,_,h⟩:=h;exact h.elim
def yP (E:XK) (C:Addr) (t:TA):TS:=λ _ σ H=>t σ H λ vs H1=>vs.length<=100/\E (.ref C) none H1
theorem iY {x:Str}{C:Addr}{bm:List Value}{newId initId B:String}{np cpos pos:Pos}{bz:Expr}{rest:List Expr}{t:TA} (L:Leaves X E) (hc:X.calm=true) (hg:Gl X x) (O:PySem.W.excIn X.K C bm newId=true) (hm:PySem.W.nsIn X.K mainGlobals x=some (some (.ref C))) (FB:ExcBaseFacts B newId initId bm) (ha:PA X (bz::rest) t)
  (he:starEach (bz::rest) X.env=(false,eval bz X.env)::starEach rest X.env:=by rfl) (hplain:(backTo cpos (starEach rest X.env)).any (·.1)=false:=by rfl) (hd:(x == ("__debug__" : Str))=false:=by decide) :
  PS X (.Raise (some (.Call (.Name x np) (bz::rest) [] cpos)) none pos) (yP E C t):=by
 intro pins s σ H D I h;have G:X.mg x=some (.ref C):=aag I.ok.mod.kin I.ok.mod.glob hm;have ocl:OwnCls x C bm newId X.mg X.base:=by
  refine⟨G,?_⟩;have q:=O;unfold PySem.W.excIn at q
  split at q
  ·rename_i dd cd sl ho
   split at q
   ·rename_i C' bm' k0 k1 k2 k3 n k5 hm' hs
    simp only [Bool.and_eq_true,Bool.not_eq_true',beq_iff_eq] at q;obtain⟨⟨⟨⟨⟨rfl,rfl⟩,hdel⟩,ht⟩,hok⟩,hni⟩:=q;obtain⟨nm,bs,mro,ns,qn,hd',sn,sub,ab,col,del⟩:=cd;dsimp only at hm' hdel hok hni;subst hm' hdel;have hsl:sl = #[k0,k1,k2,k3,some (.builtin n),k5]:=by obtain⟨l⟩:=sl;simp only at hs;rw[hs]
    subst hsl;exact⟨bm',ns,nm,qn,bs,hd',sn,sub,ab,col,dd,k0,k1,k2,k3,k5,_,I.ok.mod.kin _ _ ho,.of_isNs (PySem.W.isNs_of_in I.ok.mod.kin hok),PySem.W.nsMap_none_of_in I.ok.mod.kin hok hni,PySem.W.tail_of_in I.ok.mod.kin ht⟩
   ·cases q
  ·cases q
 obtain⟨tl,N,nm,q,bs,hdct,sn,sub,ab,col,dd,k0,k1,k2,k3,k5,mN,hC,hN,hni,T⟩:=ocl.obj;refine wpAny_Raise_call_subT (C:=C) (nm:=nm) (q:=q) (N:=N) (bs:=bs) (bm:=tl) (hdct:=hdct) (sn:=sn) (sub:=sub) (ab:=ab) (col:=col) (dd:=dd) (k0:=k0) (k1:=k1) (k2:=k2) (k3:=k3) (k5:=k5) FB (mN:=mN) (T.hasType FB.hasBase) (I.ok.hd hc) (by rw[he];show (false || (backTo cpos (starEach rest X.env)).any (·.1))=false;rw[hplain];rfl) hni (o7 I hg G ⟨rfl,?_⟩ hd);have ha':=ha cpos pins s σ H _ I h;rw[he] at ha' ⊢;refine Calls.evalArgs_plain (abp ha' (λ us be ⟨vs,H1,I1,r1,hlen,hE⟩=>⟨rfl,?_,I1.bk _ _ hC,hN.keeps I1.bk,T.keeps I1.bk,λ h' e hme=>u6 L I1 hme hE⟩) λ _ _ y=>y);have:=r1.length;show us.length<=sizeLine;rw[sizeLine_eq];omega
end
section
variable {X:Cx}{pins:List (Addr×Obj)}{σ:St}{H:Hp}{s:Shared}{pn:List (Addr×Obj)}{E:Value->Shared->Prop}{ea:Addr}
end
end L2
namespace L2
open PySem PySem.Spec PyProof.Rows TwZ PySem.Builtin PySem.Builtin.ObjectAttr PySem.Builtin.Getset_descriptor
section
variable {prog:Program}{x D:Addr}
end
section
variable {X:Cx}
def u9 (K:aaa):R2:=λ x y H Q=>∃ a b xs ys,x=.ref a/\y=.ref b/\cG K H a xs/\cG K H b ys/\xs.length+ys.length<=sizeLine/\∀ p H',aH H H'->cG K H' p (xs++ys)->Q (.ref p) H'
theorem uH:fM X (binaryOp .Add) (u9 X.K):=by
 intro pins s σ H x y v u Q I rx ry h;obtain⟨a,b,xs,ys,rfl,rfl,ha,hb,hz,q⟩:=h
 by_cases hx:xs=[]
 ·subst hx;cases rx;cases ry;obtain⟨its,r1,p1,_⟩:=I.tuple ha;obtain⟨its2,r2,p2,_⟩:=I.tuple hb;cases r1;obtain⟨⟨cls,dd,data,sl⟩,ho,hc,n,hd⟩:=id p1;obtain⟨⟨cls2,dd2,data2,sl2⟩,ho2,hc2,n2,hd2⟩:=id p2;simp only at hc hd hc2 hd2;subst hc hd hc2 hd2;exact concat_meets ⟨_,ho,rfl⟩ ⟨_,ho2,rfl⟩ noFill_tuple_add seq_tuple_add PySem.F.slot_tuple_add PySem.F.entry_tuple_add (PySem.F.args_tuple_add_2 _ _) (tuple_addW0 a b _ its2.toArray n n2 dd dd2 sl sl2 (by simp)) ⟨ho,ho2,⟨.ref b,H,I,rfl,q b H (aH.refl H) hb⟩⟩
 ·refine wY pins s σ H _ _ v u Q I rx ry ⟨a,b,xs,ys,rfl,rfl,ha,hb,hx,hz,λ e=>?_,λ _ p hp=>?_⟩
  ·subst e;exact q a H (aH.refl H) (by rw[aca];exact ha)
  ·exact q p _ (aH.new hp) (cG.of aD)
theorem sU (hK:X.K=K):fM X (binaryOp .Add) (u9 K):=by subst hK;exact uH
end
end L2
namespace Tw
open PySem L2
structure TxtS (mg:Str->Option Value):Prop where
 b_str:mg "str" = none
theorem cQ:bootBuiltins "str" = some (.type "str"):=by decide +kernel
theorem zU (K:aaa):PySem.W.kitOne K (.type "str") (.type "str")=some true:=by
 unfold PySem.W.kitOne;rw[if_pos (by decide +kernel)]
section
variable {aw:Addr}
theorem hJ:FnScope ["thing","low","high"] ["thing","low","high"] (aI (bC 36)):={}
theorem m4 {f:Addr}{fd:FuncData} (F:Fun K "_law_whole" "_law_whole" (bC 36) f fd) (T:Txt mg):FnOk P w K mg base iE 1 f fd ["thing","low","high"] kB:=by
 refine F.ok hJ (λ vs H Q E h=>?_) (λ cdv A outer s H vs Q E hr h=>?_)
 ·obtain⟨n,lo,hi,rfl,_⟩:=h;rfl
 ·obtain⟨n,lo,hi,rfl,h1,h2,k⟩:=h;have sc:=hJ;refine⟨_,(aF (aL (d0 (aU (bX (K:=K) rfl) rfl T.b_isinstance bI (aA (pv 0) (aA (bU (v:=.ty "int") rfl T.b_int dO rfl) aB))) (d0 (qN (aU (bX (K:=K) rfl) rfl T.b_isinstance bI (aA (pv 0) (aA (bU (v:=.ty "bool") rfl T.b_bool gW rfl) aB)))) (d0 (cK gH (pv 1) (pv 0) (aR _)) (eF (cK gH (pv 0) (pv 2) (aR _)))))))),?_⟩;refine⟨_,rfl,_,"int",_,true,rfl,.inl (.int _),zV K,_,rfl,cS ?_⟩;refine⟨_,rfl,_,"bool",_,false,rfl,.inl (.int _),zW K,_,rfl,_,rfl,cS ?_⟩;refine⟨_,rfl,_,rfl,_,_,rfl,rfl,_,rfl,oA h1 ⟨_,rfl,_,rfl,_,_,rfl,rfl,?_⟩⟩;show Q (.bl (decide _)) H;rw[abh h2];exact k
theorem eJ:FnScope ["thing","number","many","spouts","pair","target","parts","word","spout"] ["thing","number","many","spouts"] (aI (bC 41)):={}
theorem j4 {f f1:Addr}{fd fd1:FuncData} (F:Fun K "_law_is_vessel" "_law_is_vessel" (bC 41) f fd) (T:Txt mg) (TS:TxtS mg) (G__law_whole:Callee P w K mg base "_law_whole" ["thing","low","high"] 1 kB f1 fd1) :
  FnOk P w K mg base iE 2 f fd ["thing","number","many","spouts"] (hW K):=by
 refine F.ok eJ (λ vs H Q E h=>?_) (λ cdv A outer s H vs Q E hr h=>?_)
 ·obtain⟨x,i,n,m,v,rfl,_⟩:=h;rfl
 ·obtain⟨x,i,n,m,v,rfl,hx,ok,fu,k⟩:=h;have sc:=eJ;refine⟨_,(aE (bL (PW.pt (cU (aW (aV (aU (bX (K:=K) rfl) rfl T.b_isinstance bI (aA (pv 0) (aA (bU (v:=.ty "tuple") rfl T.b_tuple bN rfl) aB))))) (cU (aY mI (lW K T.b_len (pv 0)) aC (aR _)) (cO (aW (aV (cJ G__law_whole hr (aA (px K (pv 0) aC) (aA aC (aA aC aB)))))))))) (aF (aL cM)) aQ)
   (aE (bL (PW.pt (cU (aW (aV (cJ G__law_whole hr (aA (px K (pv 0) aC) (aA (px K (pv 0) aC) (aA aC aB)))))) (cO (aW (aV (aU (bX (K:=K) rfl) rfl T.b_isinstance bI (aA (px K (pv 0) aC) (aA (bU (v:=.ty "bool") rfl T.b_bool gW rfl) aB)))))))) (aF (aL cM)) aQ)
   (aE (bL (PW.pt (cU (aW (aV (aU (bX (K:=K) rfl) rfl T.b_isinstance bI (aA (px K (pv 0) aC) (aA (bU (v:=.ty "tuple") rfl T.b_tuple bN rfl) aB))))) (cO (aW (oU gH gH aC (lW K T.b_len (px K (pv 0) aC)) aC))))) (aF (aL cM)) aQ)
   (aE (bL (PW.pt (cU (aW (aV (aU (bX (K:=K) rfl) rfl T.b_isinstance bI (aA (px K (pv 0) aC) (aA (bU (v:=.ty "tuple") rfl T.b_tuple bN rfl) aB))))) (cO (aY oX (lW K T.b_len (px K (pv 0) aC)) aC (aR _))))) (aF (aL cM)) aQ)
   (aE (cZ PassesOwn.never rfl (cB (K:=K) rfl (aT (sU (K:=K) rfl) (px K (pv 0) aC) (px K (pv 0) aC))) (gL 4 sc.nd) (aF (bL (PW.pt (cU (aW (aV (aU (bX (K:=K) rfl) rfl T.b_isinstance bI (aA (pv 4) (aA (bU (v:=.ty "tuple") rfl T.b_tuple bN rfl) aB))))) (cO (aY mI (lW K T.b_len (pv 4)) aC (aR _))))) (aF (aL cM)) aQ)))
   (aE (cZ PassesOwn.never rfl (cB (K:=K) rfl (px K (pv 0) aC)) (bT (K:=K) (n:=2) rfl rfl (aG (gL 5 sc.nd) (aG (gL 6 sc.nd) bJ))) (aF (bL (PW.pt (cU (PW.pt (nG (aY wU (pv 5) fI (aR _)) (kD (aW (aV (cJ G__law_whole hr (aA (pv 5) (aA aC (aA (aT eG (pv 2) aC) aB))))))))) (cO (aW (aV (cJ G__law_whole hr (aA (pv 6) (aA aC (aA aC aB))))))))) (aF (aL cM)) aQ)))
   (aE (cZ PassesOwn.never rfl (cB (K:=K) rfl (px K (pv 0) aC)) (bT (K:=K) (n:=2) rfl rfl (aG (gL 7 sc.nd) (aG (gL 8 sc.nd) bJ))) (aF (bL (PW.pt (cU (aW (aV (aU (bX (K:=K) rfl) rfl T.b_isinstance bI (aA (pv 7) (aA (bU (v:=.ty "str") rfl TS.b_str cQ rfl) aB))))) (cU (aY (wV (K:=K) rfl) (pv 7) (bG (aA aK (aA aK (aA aK aB)))) (by rfl)) (cO (aW (aV (cJ G__law_whole hr (aA (pv 8) (aA aC (aA (aT eG (pv 3) aC) aB)))))))))) (aF (aL cM)) aQ)))
   (aF (aL (uE (cK kX (px K (pv 0) aC) fI (aR _)) (eF (cJ G__law_whole hr (aA (px K (pv 0) aC) (aA (aT cW (pv 1) aC) (aA (aT eG (pv 2) aC) aB))))))))))))))),?_⟩
  obtain⟨va,o,cc,rfl,qv,ho,hc⟩:=tL hx;obtain⟨oa,os,rfl,qo,lo⟩:=ho.un;obtain⟨ca,cs,rfl,qc,lc⟩:=hc.un;have eol:os.length=v.outs.length:=by rw[lo.length,aab]
  have ecl:cs.length=v.acts.length:=by rw[lc.length,aab]
  have ne1:1<=v.outs.length:=by
   rcases Nat.eq_zero_or_pos v.outs.length with e | e
   ·exact absurd (List.eq_nil_of_length_eq_zero e) ok.ne
   ·exact e
  have o3:=ok.o3;have a3:=ok.a3;refine⟨_,rfl,_,"tuple",_,true,rfl,.inr ⟨va,_,rfl,qv,rfl⟩,iB K,_,rfl,bK ?_⟩;refine⟨_,rfl,va,_,rfl,.inr qv,rfl,_,rfl,bK ?_⟩;refine⟨_,rfl,.inr (.inl ⟨va,_,0,_,rfl,rfl,qv,rfl,v.size,1,60,rfl,ok.size,fu.sz,_,rfl,bK ?_⟩)⟩;refine⟨_,rfl,.inr (.inl ⟨va,_,1,_,rfl,rfl,qv,rfl,_,rfl,.inr (.inl ⟨va,_,0,_,rfl,rfl,qv,rfl,v.brim,v.size,200,rfl,fu.br,fu.bh,_,rfl,bK ?_⟩)⟩)⟩;refine⟨_,rfl,.inr (.inl ⟨va,_,3,_,rfl,rfl,qv,rfl,_,"bool",_,true,rfl,.inl (.bl _),uX K,_,rfl,bK ?_⟩)⟩;refine⟨_,rfl,.inr (.inl ⟨va,_,2,_,rfl,rfl,qv,rfl,_,"tuple",_,true,rfl,.inr ⟨oa,_,rfl,qo,rfl⟩,iB K,_,rfl,bK ?_⟩)⟩;refine⟨_,rfl,.inr (.inl ⟨va,_,2,_,rfl,rfl,qv,rfl,oa,os,rfl,.inr qo,_,_,rfl,rfl,_,rfl,oA (show (1:Int)<=(os.length:Int) by omega) ⟨_,_,rfl,rfl,_,rfl,?_⟩⟩)⟩;rw[abh (show (os.length:Int)<=3 by omega)];refine bK ?_;refine⟨_,rfl,.inr (.inl ⟨va,_,5,_,rfl,rfl,qv,rfl,_,"tuple",_,true,rfl,.inr ⟨ca,_,rfl,qc,rfl⟩,iB K,_,rfl,bK ?_⟩)⟩;refine⟨_,rfl,.inr (.inl ⟨va,_,5,_,rfl,rfl,qv,rfl,ca,cs,rfl,.inr qc,_,_,rfl,rfl,_,rfl,dS (λ z=>?_) λ _=>?_⟩)⟩
  ·have z':(3:Int) < (cs.length:Int):=aba z;omega
  refine⟨_,rfl,.inr (.inl ⟨va,_,2,_,rfl,rfl,qv,rfl,_,rfl,.inr (.inl ⟨va,_,5,_,rfl,rfl,qv,rfl,oa,ca,os,cs,rfl,rfl,qo,qc,acg (bF (by omega)),λ pp H1 s1 qp=>?_⟩)⟩)⟩;have pairs:∀ (j:Nat) (x:V),(os++cs)[j]? = some x->∃ a y z,x=.ref a/\cG K H a [y,z]:=λ j x hx=>by
   by_cases h:j < os.length
   ·rw[abw h] at hx;obtain⟨ot,_,oad,rfl,qot⟩:=kE lo hx;exact⟨oad,_,_,rfl,qot⟩
   ·rw[abv (by omega)] at hx;obtain⟨at',_,aa,rfl,qa⟩:=kM lc hx;exact⟨aa,_,_,rfl,qa⟩
  refine⟨pp,rfl,⟨_,qp⟩,gS (K:=K) (a:=pp) (xs:=os++cs) (λ j Z H'=>aH H1 H'/\∃ v4,Z=[some (.ref va),some (.int (i:Int)),some (.int (n:Int)),some (.int (m:Int)),v4,none,none,none,none]) ⟨aH.refl _,_,rfl⟩ (λ j Z H' _ p=>p.1.tup qp) ?_ ?_⟩
  ·rintro j x Z H2 hx ⟨s2,v4,rfl⟩;obtain⟨a,y,z,rfl,qa⟩:=pairs j x hx;have qa2:=(s1.trans s2).tup qa;dsimp only [bS];refine⟨_,rfl,_,"tuple",_,true,rfl,.inr ⟨a,_,rfl,qa2,rfl⟩,iB K,_,rfl,bK ?_⟩;refine⟨_,rfl,a,_,rfl,.inr qa2,rfl,_,rfl,rR rfl ?_⟩;exact⟨s2,_,rfl⟩
  rintro Z H2 ⟨s2,v4,rfl⟩;have s02:=s1.trans s2;refine⟨_,rfl,.inr (.inl ⟨va,_,2,_,rfl,rfl,s02.tup qv,rfl,oa,rfl,⟨_,s02.tup qo⟩,gS (K:=K) (a:=oa) (xs:=os) (λ j Z H'=>aH H2 H'/\∃ v5 v6,Z=[some (.ref va),some (.int (i:Int)),some (.int (n:Int)),some (.int (m:Int)),v4,v5,v6,none,none]) ⟨aH.refl _,_,_,rfl⟩ (λ j Z H' _ p=>(s02.trans p.1).tup qo) ?_ ?_⟩)⟩
  ·rintro j x Z H3 hx ⟨s3,v5,v6,rfl⟩;obtain⟨ot,hot,oad,rfl,qot⟩:=kE lo hx;have ook:=ok.outs _ (aak hot);refine⟨oad,_,rfl,(s02.trans s3).tup qot,rfl,_,_,rfl,_,_,rfl,rfl,?_⟩;cases ho1:ot.1 with
   | none=>
    refine⟨_,rfl,rfl,_,rfl,rR rfl (bK ?_)⟩;refine⟨_,rfl,ot.2,1,60,rfl,ook.lo,ook.hi,_,rfl,bK ?_⟩;exact⟨s3,_,_,rfl⟩
   | some t=>
    have ht:=ook.tg t ho1;refine⟨_,rfl,rfl,_,rfl,cS ?_⟩;refine⟨_,rfl,_,rfl,_,_,rfl,rfl,t,0,_,rfl,ht.1,by omega,_,rfl,bK ?_⟩;refine⟨_,rfl,ot.2,1,60,rfl,ook.lo,ook.hi,_,rfl,bK ?_⟩;exact⟨s3,_,_,rfl⟩
  rintro Z H3 ⟨s3,v5,v6,rfl⟩;have s03:=s02.trans s3;refine⟨_,rfl,.inr (.inl ⟨va,_,5,_,rfl,rfl,s03.tup qv,rfl,ca,rfl,⟨_,s03.tup qc⟩,gS (K:=K) (a:=ca) (xs:=cs) (λ j Z H'=>aH H3 H'/\∃ v7 v8,Z=[some (.ref va),some (.int (i:Int)),some (.int (n:Int)),some (.int (m:Int)),v4,v5,v6,v7,v8]) ⟨aH.refl _,_,_,rfl⟩ (λ j Z H' _ p=>(s03.trans p.1).tup qc) ?_ ?_⟩)⟩
  ·rintro j x Z H4 hx ⟨s4,v7,v8,rfl⟩;obtain⟨at',hat,aa,rfl,qa⟩:=kM lc hx;have aok:=ok.acts _ (aak hat);have ah:=aok.hi;refine⟨aa,_,rfl,(s03.trans s4).tup qa,rfl,_,_,rfl,_,_,rfl,rfl,?_⟩;refine⟨_,rfl,_,"str",_,true,rfl,.inl (.str _),zU K,_,rfl,bK ?_⟩;refine⟨_,rfl,(show 3<=sizeLine by decide),λ l hl=>?_⟩;have s5:=aH.new (o:=HO.lst [.str "open",.str "shut",.str "turn"]) hl;have hin:BK (.str at'.1) [.str "open",.str "shut",.str "turn"]=true:=by
    rcases aok.word with e | e | e <;> rw[e] <;> decide +kernel
   refine⟨l,_,rfl,.inl (bV.of aD),rfl,rfl,_,rfl,?_⟩;rw[show (if true=true then !BK (V.str at'.1) [.str "open",.str "shut",.str "turn"] else BK (V.str at'.1) [.str "open",.str "shut",.str "turn"])=false by rw[hin];rfl];refine bK ?_;refine⟨_,rfl,_,rfl,_,_,rfl,rfl,at'.2,0,_,rfl,aok.lo,by omega,_,rfl,bK ?_⟩;exact⟨s4.trans s5,_,_,rfl⟩
  rintro Z H4 ⟨s4,v7,v8,rfl⟩;have s04:=s03.trans s4;have qv4:=s04.tup qv;cases hsp:v.spill with
  | none=>
   rw[hsp] at qv4;exact⟨_,rfl,.inr (.inl ⟨va,_,4,_,rfl,rfl,qv4,rfl,rfl,_,rfl,cS (k _ s04)⟩)⟩
  | some t=>
   rw[hsp] at qv4;have h1:=ok.spill t hsp;have h2:=fu.sp t hsp;refine⟨_,rfl,.inr (.inl ⟨va,_,4,_,rfl,rfl,qv4,rfl,rfl,_,rfl,bK ?_⟩)⟩;exact⟨_,rfl,.inr (.inl ⟨va,_,4,_,rfl,rfl,qv4,rfl,_,rfl,_,_,rfl,rfl,_,rfl,_,_,rfl,rfl,t,_,_,rfl,by omega,by omega,k _ s04⟩)⟩
theorem gA:FnScope ["thing","number","spout"] ["thing"] (aI (bC 40)):={}
theorem lE {f f1 f2:Addr}{fd fd1 fd2:FuncData} (F:Fun K "_law_is_net" "_law_is_net" (bC 40) f fd) (T:Txt mg) (G__law_whole:Callee P w K mg base "_law_whole" ["thing","low","high"] 1 kB f1 fd1)
  (G__law_is_vessel:Callee P w K mg base "_law_is_vessel" ["thing","number","many","spouts"] 2 (hW K) f2 fd2):FnOk P w K mg base iE 3 f fd ["thing"] (mY K):=by
 refine F.ok gA (λ vs H Q E h=>?_) (λ cdv A outer s H vs Q E hr h=>?_)
 ·obtain⟨x,net,rfl,_⟩:=h;rfl
 ·obtain⟨x,net,rfl,hx,nok,nfu,k⟩:=h;have sc:=gA;refine⟨_,(aE (bL (PW.pt (cU (aW (aV (aU (bX (K:=K) rfl) rfl T.b_isinstance bI (aA (pv 0) (aA (bU (v:=.ty "tuple") rfl T.b_tuple bN rfl) aB))))) (cU (aY mI (lW K T.b_len (pv 0)) aC (aR _)) (cO (aW (aV (aU (gU (K:=K) rfl rfl) rfl T.b_all PyProof.Rows.boot_all (aA (hR (λ _ _ h=>h) rfl (LcOk.mk (N':=["part"]) (fr:=[none]) rfl trivial rfl rfl rfl rfl rfl trivial) (cB (K:=K) rfl (pv 0)) (λ _ _ _=>(gC 0 ["part"])) (λ _ _ _=>dA) (λ _ _ _=>(aU (bX (K:=K) rfl) rfl T.b_isinstance bI (aA (pv 0) (aA (bU (v:=.ty "tuple") rfl T.b_tuple bN rfl) aB))))) aB)))))))) (aF (aL cM)) aQ)
   (aE (bL (PW.pt (cU (aW (oU gH gH aC (lW K T.b_len (px K (pv 0) aC)) aC)) (cO (aY oX (lW K T.b_len (px K (pv 0) aC)) aC (aR _))))) (aF (aL cM)) aQ)
   (aE (cZ PassesOwn.never rfl (dY rfl T.b_range (aA (lW K T.b_len (px K (pv 0) aC)) aB)) (gL 1 sc.nd) (aF (bL (aW (aV (cJ G__law_is_vessel hr (aA (px K (px K (pv 0) aC) (pv 1)) (aA (pv 1) (aA (lW K T.b_len (px K (pv 0) aC)) (aA (lW K T.b_len (px K (pv 0) aC)) aB))))))) (aF (aL cM)) aQ)))
   (aE (cZ PassesOwn.never rfl (cB (K:=K) rfl (px K (pv 0) aC)) (gL 2 sc.nd) (aE (bL (PW.pt (cU (aW (aV (aU (bX (K:=K) rfl) rfl T.b_isinstance bI (aA (pv 2) (aA (bU (v:=.ty "tuple") rfl T.b_tuple bN rfl) aB))))) (cU (aY mI (lW K T.b_len (pv 2)) aC (aR _)) (cO (aW (aV (aU (bX (K:=K) rfl) rfl T.b_isinstance bI (aA (px K (pv 2) aC) (aA (bU (v:=.ty "bool") rfl T.b_bool gW rfl) aB))))))))) (aF (aL cM)) aQ)
   (aF (bL (PW.pt (cU (aW (aV (cJ G__law_whole hr (aA (px K (pv 2) aC) (aA aC (aA (aT eG (lW K T.b_len (px K (pv 0) aC)) aC) aB)))))) (cO (aW (aV (cJ G__law_whole hr (aA (px K (pv 2) aC) (aA aC (aA aC aB))))))))) (aF (aL cM)) aQ))))
   (aF (aL cM)))))),?_⟩
  obtain⟨a,b,c,xs,ys,rfl,q,q1,l1,q2,l2⟩:=qU hx;have exl:xs.length=net.vs.length:=by rw[l1.length,aab]
  have eyl:ys.length=net.sps.length:=by rw[l2.length,aab]
  have n1:=nok.lo;have n2:=nok.hi;have n3:=nok.sp;refine⟨_,rfl,_,"tuple",_,true,rfl,.inr ⟨a,_,rfl,q,rfl⟩,iB K,_,rfl,bK ?_⟩;refine⟨_,rfl,a,_,rfl,.inr q,rfl,_,rfl,rR rfl ?_⟩;refine⟨_,rfl,a,rfl,⟨_,q⟩,gJ (K:=K) (a:=a) (xs:=[.ref b,.ref c]) (λ D i r Z H'=>H D=none/\aH H H'/\H' D=some (.lst r)/\r=(List.replicate i true).map V.bl/\∃ u,Z=[u])
   (λ D i r Z H' p=>p.2.1.tup q) (λ D hD=>⟨hD,aH.new hD,aD,rfl,none,rfl⟩) ?_ ?_⟩
  rotate_left
  ·rintro D j y r Z H2 hy ⟨hD,sm,hDl,rfl,u,rfl⟩;have hjl:=(aan.mp hy).1;have hj2:j < 2:=hjl;have ty:∃ e zs,y=.ref e/\cG K H2 e zs:=by
    match j,hy with
    | 0,hy=>cases hy;exact⟨b,_,rfl,sm.tup q1⟩
    | 1,hy=>cases hy;exact⟨c,_,rfl,sm.tup q2⟩
   obtain⟨e,zs,rfl,qe⟩:=ty;refine lG ?_;refine⟨_,rfl,_,"tuple",_,true,rfl,.inr ⟨e,_,rfl,qe,rfl⟩,iB K,hDl,bF (by simp;omega),hD,sm.put hD,aD,?_,_,rfl⟩;rw[List.replicate_succ',aah];rfl
  rintro D r Z H2 ⟨hD,sm2,hDl,rfl,_⟩;refine⟨false,D,_,rfl,bV.of hDl,_,rfl,?_⟩;rw[w8];refine bK ?_;have qa:=sm2.tup q;have qb:=sm2.tup q1;have qc:=sm2.tup q2;refine⟨_,rfl,.inr (.inl ⟨a,_,0,_,rfl,rfl,qa,rfl,b,xs,rfl,.inr qb,_,_,rfl,rfl,_,rfl,oA (show (1:Int)<=(xs.length:Int) by omega) ⟨_,_,rfl,rfl,_,rfl,?_⟩⟩)⟩;rw[abh (show (xs.length:Int)<=12 by omega)];refine bK ?_;refine⟨_,rfl,.inr (.inl ⟨a,_,1,_,rfl,rfl,qa,rfl,c,ys,rfl,.inr qc,_,_,rfl,rfl,_,rfl,dS (λ z=>?_) λ _=>?_⟩)⟩
  ·have z':(12:Int) < (ys.length:Int):=aba z;omega
  refine⟨_,rfl,.inr (.inl ⟨a,_,0,_,rfl,rfl,qa,rfl,b,xs,rfl,.inr qb,?_⟩)⟩;rw[exl];refine⟨_,rfl,by omega,by omega,fA (lo:=0) (n:=net.vs.length) (λ j Z H'=>aH H2 H'/\∃ v1,Z=[some (.ref a),v1,none]) ⟨aH.refl _,_,rfl⟩ ?_ ?_⟩
  ·rintro j Z H3 hj ⟨s3,v1,rfl⟩;rw[Int.zero_add];have s03:=sm2.trans s3;obtain⟨xj,hxj⟩:∃ x,xs[j]? = some x:=⟨xs[j]'(by omega),by simp⟩;obtain⟨d,hd,iv⟩:=l1.get' hxj;rw[aaw] at hd;obtain⟨v,hv,rfl⟩:=abb.mp hd;dsimp only [bS];refine⟨_,rfl,.inr (.inl ⟨a,_,0,_,rfl,rfl,s03.tup q,rfl,_,rfl,.inr (.inl ⟨b,xs,(j:Int),_,rfl,rfl,s03.tup q1,sB hxj,_,rfl,?_⟩)⟩)⟩;refine⟨_,rfl,.inr (.inl ⟨a,_,0,_,rfl,rfl,s03.tup q,rfl,b,xs,rfl,.inr (s03.tup q1),_,rfl,.inr (.inl ⟨a,_,1,_,rfl,rfl,s03.tup q,rfl,c,ys,rfl,.inr (s03.tup q2),_,j,net.vs.length,net.sps.length,v,by rw[exl,eyl];rfl,Is.mono s03.ts _ _ iv,nok.vs v (aak hv),nfu.vs j v hv,λ H4 s4=>⟨_,rfl,bK ?_⟩⟩)⟩)⟩;exact⟨s3.trans s4,_,rfl⟩
  rintro Z H3 ⟨s3,v1,rfl⟩;have s03:=sm2.trans s3;refine⟨_,rfl,.inr (.inl ⟨a,_,1,_,rfl,rfl,s03.tup q,rfl,c,rfl,⟨_,s03.tup q2⟩,gS (K:=K) (a:=c) (xs:=ys) (λ j Z H'=>aH H3 H'/\∃ v2,Z=[some (.ref a),v1,v2]) ⟨aH.refl _,_,rfl⟩ (λ j Z H' _ p=>(s03.trans p.1).tup q2) ?_ ?_⟩)⟩
  ·rintro j x Z H4 hx' ⟨s4,v2,rfl⟩;have s04:=s03.trans s4;obtain⟨sp,hsi,sa,rfl,qs⟩:=yT l2 hx';have hm:=aak hsi;have h1:=nok.sps sp hm;have h2:=nfu.sps sp hm;have qs4:=s04.tup qs;dsimp only [bS];refine⟨_,rfl,_,"tuple",_,true,rfl,.inr ⟨sa,_,rfl,qs4,rfl⟩,iB K,_,rfl,bK ?_⟩;refine⟨_,rfl,sa,_,rfl,.inr qs4,rfl,_,rfl,rR rfl ?_⟩;refine⟨_,rfl,.inr (.inl ⟨sa,_,2,_,rfl,rfl,qs4,rfl,_,"bool",_,true,rfl,.inl (.bl _),uX K,_,rfl,bK ?_⟩)⟩;refine⟨_,rfl,.inr (.inl ⟨sa,_,0,_,rfl,rfl,qs4,rfl,_,rfl,.inr (.inl ⟨a,_,0,_,rfl,rfl,s04.tup q,rfl,b,xs,rfl,.inr (s04.tup q1),_,_,rfl,rfl,sp.1,0,_,rfl,h1.1,by omega,_,rfl,bK ?_⟩)⟩)⟩;refine⟨_,rfl,.inr (.inl ⟨sa,_,1,_,rfl,rfl,qs4,rfl,sp.2.1,0,60,rfl,h2.1,h2.2,_,rfl,bK ?_⟩)⟩;exact⟨s4,_,rfl⟩
  rintro Z H4 ⟨s4,v2,rfl⟩;exact k _ (s03.trans s4)
end
end Tw
namespace L2
open PySem PySem.Spec PyProof.Rows
section
variable {M:Model}{A:Around}{E:Value->Shared->Prop}{s:Shared}
end
section
variable {X:Cx}
end
end L2
namespace Tw
open PySem L2
end Tw
namespace L2
open PySem PySem.Spec PyProof.Rows TwZ
section
variable {g:TG}{tc:TT}{te:TE}{fr:List (Option Nat)}{σ:St}{H1:Hp}{Q:Addr->Hp->Prop}
end
end L2
namespace Tw
open PySem L2
section
variable {r dx R M T:Addr}{H H':Hp}{S:RunS}{fp:List Addr}{np mv:V}{ts:List Addr}{rs ms:List V}
end
end Tw
namespace L2
open PySem PySem.Spec PyProof.Rows TwZ
theorem Fun.okR {x qual:Str}{st:Stmt}{f:Addr}{fd:FuncData}{N ps:List Str}{k:Nat}{sp:Sp} (F:Fun K x qual st f fd) (S:FnScope N ps (aI st)) (len:∀ vs H Q E,sp vs H Q E->vs.length=ps.length)
  (hbody:∀ (cdv:Value) (A:Around) (outer:List Env) (s:Shared) (H:Hp) (vs:List V) (Q:VK) (E:XK),Room k (A.deeper (envOfC qual (aI st) s.heap.objs.size f cdv))->sp vs H Q E->
   Leaves (pO (sG P w) P w K mg base N qual (aI st) f cdv A outer s H E) E->
   ∃ t,tJ (pO (sG P w) P w K mg base N qual (aI st) f cdv A outer s H E) (eM st) t/\t { nx:=λ _ H'=>Q .non H',rt:=Q } (iM N vs) H):FnOk P w K mg base (sG P w) (k+1) f fd ps sp:=by
 obtain⟨oc,od,kV,doc,pm,an,cdv,ct,osl,rfl,lk,hcd⟩:=F.ex;exact yE lk hcd S len λ A outer s H vs Q E hr hsp=>hbody cdv A outer s H vs Q E hr hsp ⟨rfl,rfl,rfl,λ _ _ h=>h⟩
structure CalleeR (P:Program) (w:World) (K:aaa) (mg:Str->Option Value) (base:Heap) (x:Str) (ps:List Str) (k:Nat) (sp:Sp) (f:Addr) (fd:FuncData):Prop where
 ok:FnOk P w K mg base (sG P w) k f fd ps sp
 mg:mg x=some (.ref f)
 kp:PySem.W.keepIn K (.ref f)=true
 bd:lS K fd ps []
structure ExC (K:aaa) (x:Str) (C:Addr):Prop where
 ns:PySem.W.nsIn K mainGlobals x=some (some (.ref C))
 exc:PySem.W.excIn K C [.type "ValueError",.type "Exception",.type "BaseException",.type "object"] "ValueError.__new__" = true
end L2
namespace Tw
open PySem L2
theorem t7 (i:Str):(L2.D.str i).depth=0:=by rw[L2.D.depth] <;> intros <;> (first | rfl | (intro z;cases z) | (rename_i z;cases z))
end Tw
namespace L2
open PySem PySem.Spec PyProof.Rows TwZ
section
variable {prog:Program}
end
noncomputable instance decD:DecidableEq D:=λ a b=>Classical.propDecidable (a=b)
section
variable {prog:Program}
end
section
variable {X:Cx}{pins:List (Addr×Obj)}{σ:St}{H:Hp}{s:Shared}
end
section
variable {H H':Hp}{a:Addr}{S:D}{kvs:List (D×V)}
end
section
variable {X:Cx}{pins:List (Addr×Obj)}{σ:St}{H:Hp}{s:Shared}{a:Addr}{S:D}{kvs:List (D×V)}
end
end L2
namespace Tw
open PySem L2
end Tw
namespace L2
open PySem PySem.Spec PyProof.Rows TwZ
section
variable {X:Cx}
def tTru (K:aaa) (ta:TE):TT:=λ σ H Q=>ta σ H λ x H'=>∃ k,AD K x H' k/\Q k H'
theorem sQ {a:Expr}{ta:TE} (hK:X.K=K) (ha:PE X a ta) (he:∀ whole,isTrue a X.env whole=(do let v <- whole;standAt a.pos;holding [v] (truthy v))):PT X a (tTru K ta):=by subst hK;exact uA ha he
end
end L2
namespace Tw
open PySem L2
def kC:Sp:=λ vs H Q _=>∃ b:Bool,vs=[.bl b]/\Q (.str (eI b)) H
theorem iR:FnScope ["door"] ["door"] (aI (bC 26)):={}
theorem nR {f:Addr}{fd:FuncData} (F:Fun K "door_word" "door_word" (bC 26) f fd) (T:Txt mg):FnOk P w K mg base iE 1 f fd ["door"] kC:=by
 refine F.ok iR (λ vs H Q E h=>?_) (λ cdv A outer s H vs Q E hr h=>?_)
 ·obtain⟨b,rfl,_⟩:=h;rfl
 ·obtain⟨b,rfl,k⟩:=h;have sc:=iR;refine⟨_,(aF (aL (gF (aV (pv 0)) aK aK))),?_⟩;refine⟨_,rfl,_,rfl,?_⟩;cases b with
  | true=>exact k
  | false=>exact k
def mR:Sp:=λ vs H Q _=>∃ t:Option Int,vs=[kA t]/\oN t/\Q (.str (bD t)) H
theorem fW:FnScope ["target"] ["target"] (aI (bC 25)):={}
theorem kZ {f:Addr}{fd:FuncData} (F:Fun K "target_word" "target_word" (bC 25) f fd) (T:Txt mg) (TS:TxtS mg):FnOk P w K mg base iE 1 f fd ["target"] mR:=by
 refine F.ok fW (λ vs H Q E h=>?_) (λ cdv A outer s H vs Q E hr h=>?_)
 ·obtain⟨t,rfl,_⟩:=h;rfl
 ·obtain⟨t,rfl,ht,k⟩:=h;have sc:=fW;refine⟨_,(aF (aL (gF (aY kX (pv 0) fI (aR _)) aK (aM cT rfl TS.b_str cQ (aA (pv 0) aB))))),?_⟩;cases t with
  | none=>exact⟨_,rfl,rfl,_,rfl,k⟩
  | some i=>exact⟨_,rfl,rfl,_,rfl,_,rfl,.int i,aN i,rfl,d8 (ht i rfl).1 (ht i rfl).2,k⟩
section
variable {σ:St}{H:Hp}{Q:VK}{ts:List TE}{acc x:Str}{n m i:Nat}
theorem vA (ha:acc.length<=n) (hx:x.length<=m) (hn:n+m<=1000000) (k:(acc++x).length<=n+m->eS ts (acc++x) σ H Q):eS (tC (.str x)::ts) acc σ H Q:=by
 have h:(acc++x).length<=n+m:=by rw[Str.length_append];omega
 exact⟨x,rfl,by omega,k h⟩
theorem j_s (aj:σ[i]? = some (some (.str x))) (ha:acc.length<=n) (hx:x.length<=m) (hn:n+m<=1000000) (k:(acc++x).length<=n+m->eS ts (acc++x) σ H Q):eS (tS (bW i)::ts) acc σ H Q:=by
 have h:(acc++x).length<=n+m:=by rw[Str.length_append];omega
 exact⟨_,aj,x,rfl,by omega,x,rfl,by omega,k h⟩
theorem AN {j:Int} (aj:σ[i]? = some (some (.int j))) (h0:0<=j) (h1:j < 10 ^ 9) (ha:acc.length<=n) (hn:n+9<=1000000) (k:(acc++aN j).length<=n+9->eS ts (acc++aN j) σ H Q):eS (tS (bW i)::ts) acc σ H Q:=by
 have hx:=dB h0 h1;have h:(acc++aN j).length<=n+9:=by rw[Str.length_append];omega
 exact⟨_,aj,aN j,vS h0 h1,by omega,aN j,rfl,by omega,k h⟩
theorem j_t {t:Option Int} (aj:σ[i]? = some (some (kA t))) (ht:oN t) (ha:acc.length<=n) (hn:n+9<=1000000) (k:(acc++bD t).length<=n+9->eS ts (acc++bD t) σ H Q):eS (tS (iJ mR [] E0 (cE (bW i) fP))::ts) acc σ H Q:=by
 have hx:=j8 ht;have h:(acc++bD t).length<=n+9:=by rw[Str.length_append];omega
 exact⟨_,aj,t,rfl,ht,bD t,rfl,by omega,bD t,rfl,by omega,k h⟩
theorem j_d {b:Bool} (aj:σ[i]? = some (some (.bl b))) (ha:acc.length<=n) (hn:n+4<=1000000) (k:(acc++eI b).length<=n+4->eS ts (acc++eI b) σ H Q):eS (tS (iJ kC [] E0 (cE (bW i) fP))::ts) acc σ H Q:=by
 have hx:=pC b;have h:(acc++eI b).length<=n+4:=by rw[Str.length_append];omega
 exact⟨_,aj,b,rfl,eI b,rfl,by omega,eI b,rfl,by omega,k h⟩
theorem AS:(" " : Str)=one 32:=by decide +kernel
theorem AM:("," : Str)=one 44:=by decide +kernel
theorem w_s:("*" : Str)=one 42:=by decide +kernel
theorem w_p:("." : Str)=one 46:=by decide +kernel
theorem w_l:("\n" : Str)=one 10:=by decide +kernel
theorem AR:("spout " : Str) = "spout" ++ one 32:=by decide +kernel
theorem AQ:("vessel " : Str) = "vessel" ++ one 32:=by decide +kernel
theorem yS (sp:lU):Str.empty ++ "spout " ++ aN sp.1 ++ " " ++ aN sp.2.1 ++ " " ++ eI sp.2.2=fC sp:=by
 show _ = "spout" ++ one 32++(aN sp.1++one 32++(aN sp.2.1++one 32++eI sp.2.2));rw[AS,AR];simp only [Str.append_assoc,Str.empty_append]
theorem yL (v:Vs):Str.empty ++ "vessel " ++ aN v.size ++ " " ++ aN v.brim ++ " " ++ bR v.outs ++ " " ++ cI v.holds ++ " " ++ bD v.spill ++ " " ++ cN v.acts=eN v:=by
 show _ = "vessel" ++ one 32++(aN v.size++one 32++(aN v.brim++one 32++(bR v.outs++one 32++(cI v.holds++one 32++(bD v.spill++one 32++cN v.acts)))));rw[AS,AQ];simp only [Str.append_assoc,Str.empty_append]
end
def jE (K:aaa):Sp:=λ vs H Q _=>∃ (x:V) (sp:lU),vs=[x]/\Is K H (n4 sp) x/\SptIn sp/\Q (.str (fC sp)) H
theorem gZ:FnScope ["spout","target","flow","door"] ["spout"] (aI (bC 24)):={}
theorem lX {f f1:Addr}{fd fd1:FuncData} (F:Fun K "spout_line" "spout_line" (bC 24) f fd) (T:Txt mg) (G_door_word:Callee P w K mg base "door_word" ["door"] 1 kC f1 fd1):FnOk P w K mg base iE 2 f fd ["spout"] (jE K):=by
 refine F.ok gZ (λ vs H Q E h=>?_) (λ cdv A outer s H vs Q E hr h=>?_)
 ·obtain⟨x,sp,rfl,_⟩:=h;rfl
 ·obtain⟨x,sp,rfl,hx,hi,k⟩:=h;have sc:=gZ;refine⟨_,(aE (cP (pv 0) (bT (K:=K) (n:=3) rfl rfl (aG (gL 1 sc.nd) (aG (gL 2 sc.nd) (aG (gL 3 sc.nd) bJ)))))
   (aF (aL (rL (bB aK (bB (dF (pv 1)) (bB aK (bB (dF (pv 2)) (bB aK (bB (dF (cJ G_door_word hr (aA (pv 3) aB))) nH)))))))))),?_⟩
  obtain⟨a,xs,rfl,q,lx⟩:=(show Is K H (.tup [.int sp.1,.int sp.2.1,.bl sp.2.2]) x from hx).un;obtain⟨x1,r,rfl,h1,lx⟩:=lx.un;obtain⟨x2,r,rfl,h2,lx⟩:=lx.un;obtain⟨x3,r,rfl,h3,lx⟩:=lx.un;have:=lx.un0;subst this;have e1:=h1.ui;have e2:=h2.ui;have e3:=h3.ub;subst e1 e2 e3;refine⟨_,rfl,a,_,rfl,q,rfl,_,_,rfl,_,_,rfl,_,_,rfl,rfl,?_⟩;refine vA (n:=0) (m:=6) (aae _) (by decide) (by decide) λ l1=>?_;refine AN rfl hi.t0 hi.t1 l1 (by decide) λ l2=>?_;refine vA (m:=1) l2 (by decide) (by decide) λ l3=>?_;refine AN rfl hi.f0 hi.f1 l3 (by decide) λ l4=>?_;refine vA (m:=1) l4 (by decide) (by decide) λ l5=>?_;refine j_d rfl l5 (by decide) λ l6=>?_;show Q (.str _) H;rw[yS];exact k
def jD (K:aaa):Sp:=λ vs H Q _=>∃ (x:V) (v:Vs),vs=[x]/\Is K H (jZ v) x/\VsIn v/\∀ H',aH H H'->Q (.str (eN v)) H'
theorem zN (o:Option Int×Int):Str.empty++bD o.1 ++ "*" ++ aN o.2=fQ o:=by unfold fQ;rw[w_s,Str.empty_append]
theorem AC (a:Str×Int):Str.empty++a.1 ++ "." ++ aN a.2=dP a:=by unfold dP;rw[w_p,Str.empty_append]
theorem fU:FnScope ["vessel","size","brim","outs","holds","spill","acts","out_words","act_words","holds_word"] ["vessel"] (aI (bC 23)):={}
theorem kY {f f1:Addr}{fd fd1:FuncData} (F:Fun K "vessel_line" "vessel_line" (bC 23) f fd) (T:Txt mg) (G_target_word:Callee P w K mg base "target_word" ["target"] 1 mR f1 fd1):FnOk P w K mg base iE 2 f fd ["vessel"] (jD K):=by
 refine F.ok fU (λ vs H Q E h=>?_) (λ cdv A outer s H vs Q E hr h=>?_)
 ·obtain⟨x,v,rfl,_⟩:=h;rfl
 ·obtain⟨x,v,rfl,hx,hi,k⟩:=h;have sc:=fU;refine⟨_,(aE (cP (pv 0) (bT (K:=K) (n:=6) rfl rfl (aG (gL 1 sc.nd) (aG (gL 2 sc.nd) (aG (gL 3 sc.nd) (aG (gL 4 sc.nd) (aG (gL 5 sc.nd) (aG (gL 6 sc.nd) bJ))))))))
   (aE (pL 7 sc.nd (eK (K:=K) rfl PySem.F.slot_str_join PySem.F.type_str_join (d2 (K:=K) rfl) aK (aA (hR (λ _ _ h=>h) rfl (LcOk.mk (N':=["target","parts"]) (fr:=[none,none]) rfl trivial rfl rfl rfl rfl rfl trivial) (cB (K:=K) rfl (pv 3)) (λ _ _ _=>(bT (K:=K) (n:=2) rfl rfl (aG (gC 0 ["target","parts"]) (aG (gC 1 ["target","parts"]) bJ)))) (λ _ _ _=>dA) (λ _ _ _=>(rL (bB (dF (cJ G_target_word hr (aA (pv 0) aB))) (bB aK (bB (dF (pv 1)) nH)))))) aB)))
   (aE (pL 8 sc.nd (gF (sQ (K:=K) rfl (pv 6) (λ _=>rfl)) (eK (K:=K) rfl PySem.F.slot_str_join PySem.F.type_str_join (d2 (K:=K) rfl) aK (aA (hR (λ _ _ h=>h) rfl (LcOk.mk (N':=["word","spout"]) (fr:=[none,none]) rfl trivial rfl rfl rfl rfl rfl trivial) (cB (K:=K) rfl (pv 6)) (λ _ _ _=>(bT (K:=K) (n:=2) rfl rfl (aG (gC 0 ["word","spout"]) (aG (gC 1 ["word","spout"]) bJ)))) (λ _ _ _=>dA) (λ _ _ _=>(rL (bB (dF (pv 0)) (bB aK (bB (dF (pv 1)) nH)))))) aB)) aK))
   (aE (pL 9 sc.nd (gF (aV (pv 4)) aK aK))
   (aF (aL (rL (bB aK (bB (dF (pv 1)) (bB aK (bB (dF (pv 2)) (bB aK (bB (dF (pv 7)) (bB aK (bB (dF (pv 9)) (bB aK (bB (dF (cJ G_target_word hr (aA (pv 5) aB))) (bB aK (bB (dF (pv 8)) nH))))))))))))))))))),?_⟩
  obtain⟨va,o,c,rfl,qv,ho,hc⟩:=tL hx;obtain⟨oa,os,rfl,qo,lo⟩:=ho.un;obtain⟨ca,cs,rfl,qc,lc⟩:=hc.un;have eol:os.length=v.outs.length:=by rw[lo.length,aab]
  have ecl:cs.length=v.acts.length:=by rw[lc.length,aab]
  have o3:=hi.o3;have a3:=hi.a3;refine⟨_,rfl,va,_,rfl,qv,rfl,_,_,rfl,_,_,rfl,_,_,rfl,_,_,rfl,_,_,rfl,_,_,rfl,rfl,?_⟩;dsimp only [d7];have el:∀ i o,v.outs[i]? = some o->OutIn o:=λ i o e=>hi.os o (aak e);refine⟨rfl,_,rfl,oa,rfl,⟨_,qo⟩,gJ (K:=K) (a:=oa) (xs:=os) (λ D i r Z H'=>H D=none/\aH H H'/\H' D=some (.lst r)/\r=((v.outs.take i).map fQ).map V.str/\∃ u1 u2,Z=[u1,u2])
   (λ D i r Z H' p=>p.2.1.tup qo) (λ D hD=>⟨hD,aH.new hD,aD,rfl,none,none,rfl⟩) ?_ ?_⟩
  rotate_left
  ·rintro D i y r Z H1 hy ⟨hD,sm,hDl,rfl,u1,u2,rfl⟩;obtain⟨t,ht,ta,rfl,qt⟩:=kE lo hy;have ti:=el i t ht;refine⟨ta,_,rfl,sm.tup qt,rfl,_,_,rfl,_,_,rfl,rfl,?_⟩;refine j_t rfl ti.tg (n:=0) (aae _) (by decide) λ l1=>?_;refine vA (m:=1) l1 (by decide) (by decide) λ l2=>?_;refine AN rfl ti.lo ti.hi l2 (by decide) λ l3=>?_;refine⟨hDl,bF (by rw[aab,aab,abk];omega),hD,sm.put hD,aD,?_,_,_,rfl⟩;rw[abz,ht,aah,aah,zN];rfl
  rintro D1 r Z H1 ⟨hD1,s1,hD1l,rfl,_⟩;rw[eol,aar (aae _)] at hD1l;have e1:Str.join "," (v.outs.map fQ)=bR v.outs:=by rw[AM];rfl
  refine⟨",",D1,v.outs.map fQ,rfl,rfl,bV.of hD1l,eL (B:=19) (λ a ha=>by obtain⟨o,ho,rfl⟩:=aat.mp ha;exact o5 (hi.os o ho)) (by decide) (by rw[aab];omega),?_⟩;rw[e1];dsimp only [bS,d7];refine nB (λ Z H'=>aH H H'/\Z=[some (.ref va),some (.int v.size),some (.int v.brim),some (.ref oa),some (.bl v.holds),some (kA v.spill),some (.ref ca),some (.str (bR v.outs)),some (.str (cN v.acts)),none]) (λ D' hD'=>?_) ?_
  ·by_cases hn:v.acts=[]
   ·have hc0:cs=[]:=List.eq_nil_of_length_eq_zero (by rw[ecl,hn];rfl);refine⟨_,rfl,false,.inr (.inl ⟨cs,s1.tup qc,by rw[hc0];rfl⟩),bK ?_⟩;exact hD' _ _ ⟨s1,by rw[show cN v.acts = "-" from if_pos hn];rfl⟩
   ·have hc0:cs.isEmpty=false:=by
     cases cs with
     | nil=>exact absurd (List.eq_nil_of_length_eq_zero ecl.symm) hn
     | cons a b=>rfl
    refine⟨_,rfl,true,.inr (.inl ⟨cs,s1.tup qc,by rw[hc0];rfl⟩),cS ?_⟩;refine⟨rfl,_,rfl,ca,rfl,⟨_,s1.tup qc⟩,gJ (K:=K) (a:=ca) (xs:=cs) (λ D i r Z H'=>H1 D=none/\aH H1 H'/\H' D=some (.lst r)/\r=((v.acts.take i).map dP).map V.str/\∃ u1 u2,Z=[u1,u2])
     (λ D i r Z H' p=>p.2.1.tup (s1.tup qc)) (λ D hD=>⟨hD,aH.new hD,aD,rfl,none,none,rfl⟩) ?_ ?_⟩
    rotate_left
    ·rintro D i y r Z H2 hy ⟨hD,sm,hDl,rfl,u1,u2,rfl⟩;obtain⟨t,ht,ta,rfl,qt⟩:=kM lc hy;have ti:=hi.as t (aak ht);refine⟨ta,_,rfl,(s1.trans sm).tup qt,rfl,_,_,rfl,_,_,rfl,rfl,?_⟩;refine j_s rfl (n:=0) (m:=4) (aae _) (Nat.le_of_eq (uS ti)) (by decide) λ l1=>?_;refine vA (m:=1) l1 (by decide) (by decide) λ l2=>?_;refine AN rfl ti.lo ti.hi l2 (by decide) λ l3=>?_;refine⟨hDl,bF (by rw[aab,aab,abk];omega),hD,sm.put hD,aD,?_,_,_,rfl⟩;rw[abz,ht,aah,aah,AC];rfl
    rintro D2 r Z H2 ⟨hD2,s2,hD2l,rfl,_⟩;rw[ecl,aar (aae _)] at hD2l;have e2:Str.join "," (v.acts.map dP)=cN v.acts:=by unfold cN;rw[if_neg hn,AM]
    refine⟨",",D2,v.acts.map dP,rfl,rfl,bV.of hD2l,eL (B:=19) (λ a ha=>by obtain⟨o,ho,rfl⟩:=aat.mp ha;exact o6 (hi.as o ho)) (by decide) (by rw[aab];omega),?_⟩;rw[e2];exact hD' _ _ ⟨s1.trans s2,rfl⟩
  rintro Z H2 ⟨s2,rfl⟩;refine⟨_,rfl,v.holds,rfl,?_⟩;have eh:∀ {R:V->Hp->Prop},R (.str (cI v.holds)) H2->(if v.holds=true then tC (V.str "holds") [some (.ref va),some (.int v.size),some (.int v.brim),some (.ref oa),some (.bl v.holds),some (kA v.spill),some (.ref ca),some (.str (bR v.outs)),some (.str (cN v.acts)),none] H2 R else tC (V.str "loses") [some (.ref va),some (.int v.size),some (.int v.brim),some (.ref oa),some (.bl v.holds),some (kA v.spill),some (.ref ca),some (.str (bR v.outs)),some (.str (cN v.acts)),none] H2 R):=λ {R} h=>by
   cases e:v.holds with
   | true=>rw[e] at h;exact h
   | false=>rw[e] at h;exact h
  refine eh ?_;refine vA (n:=0) (m:=7) (aae _) (by decide) (by decide) λ l1=>?_;refine AN rfl hi.s0 hi.s1 l1 (by decide) λ l2=>?_;refine vA (m:=1) l2 (by decide) (by decide) λ l1=>?_;refine AN rfl hi.b0 hi.b1 l1 (by decide) λ l2=>?_;refine vA (m:=1) l2 (by decide) (by decide) λ l1=>?_;refine j_s rfl l1 (pA hi.os hi.o3) (by decide) λ l2=>?_;refine vA (m:=1) l2 (by decide) (by decide) λ l1=>?_;refine j_s rfl l1 (Nat.le_of_eq (pB v.holds)) (by decide) λ l2=>?_;refine vA (m:=1) l2 (by decide) (by decide) λ l1=>?_;refine j_t rfl hi.sp l1 (by decide) λ l2=>?_;refine vA (m:=1) l2 (by decide) (by decide) λ l1=>?_;refine j_s rfl l1 (pD hi.as hi.a3) (by decide) λ l2=>?_;show Q (.str _) H2;rw[yL];exact k _ s2
def gP (K:aaa):Sp:=λ vs H Q _=>∃ (x:V) (net:Net),vs=[x]/\Is K H (eX net) x/\NetIn net/\∀ H',aH H H'->Q (.str (fJ net)) H'
theorem jN:FnScope ["net","vessels","spouts"] ["net"] (aI (bC 22)):={}
theorem oZ {f f1 f2:Addr}{fd fd1 fd2:FuncData} (F:Fun K "net_text" "net_text" (bC 22) f fd) (T:Txt mg) (G_vessel_line:Callee P w K mg base "vessel_line" ["vessel"] 2 (jD K) f1 fd1) (G_spout_line:Callee P w K mg base "spout_line" ["spout"] 2 (jE K) f2 fd2):FnOk P w K mg base iE 3 f fd ["net"] (gP K):=by
 refine F.ok jN (λ vs H Q E h=>?_) (λ cdv A outer s H vs Q E hr h=>?_)
 ·obtain⟨x,v,rfl,_⟩:=h;rfl
 ·obtain⟨x,net,rfl,hx,hi,k⟩:=h;have sc:=jN;refine⟨_,(aE (cP (pv 0) (bT (K:=K) (n:=2) rfl rfl (aG (gL 1 sc.nd) (aG (gL 2 sc.nd) bJ))))
   (aF (aL (eK (K:=K) rfl PySem.F.slot_str_join PySem.F.type_str_join (d2 (K:=K) rfl) aK (aA (aT uI (hR (λ _ _ h=>h) rfl (LcOk.mk (N':=["vessel"]) (fr:=[none]) rfl trivial rfl rfl rfl rfl rfl trivial) (cB (K:=K) rfl (pv 1)) (λ _ _ _=>(gC 0 ["vessel"])) (λ _ _ _=>dA) (λ _ _ _=>(cJ G_vessel_line hr (aA (pv 0) aB)))) (hR (λ _ _ h=>h) rfl (LcOk.mk (N':=["spout"]) (fr:=[none]) rfl trivial rfl rfl rfl rfl rfl trivial) (cB (K:=K) rfl (pv 2)) (λ _ _ _=>(gC 0 ["spout"])) (λ _ _ _=>dA) (λ _ _ _=>(cJ G_spout_line hr (aA (pv 0) aB))))) aB))))),?_⟩
  obtain⟨na,nb,nc,xs,ys,rfl,qn,q1,l1,q2,l2⟩:=qU hx;have e1:xs.length=net.vs.length:=by rw[l1.length,aab]
  have e2:ys.length=net.sps.length:=by rw[l2.length,aab]
  have v12:=hi.v12;have s12:=hi.s12;refine⟨_,rfl,na,_,rfl,qn,rfl,_,_,rfl,_,_,rfl,rfl,?_⟩;dsimp only [d7];refine⟨rfl,_,rfl,nb,rfl,⟨_,q1⟩,gJ (K:=K) (a:=nb) (xs:=xs) (λ D i r Z H'=>H D=none/\aH H H'/\H' D=some (.lst r)/\r=((net.vs.take i).map eN).map V.str/\∃ u1,Z=[u1])
   (λ D i r Z H' p=>p.2.1.tup q1) (λ D hD=>⟨hD,aH.new hD,aD,rfl,none,rfl⟩) ?_ ?_⟩
  rotate_left
  ·rintro D i y r Z H1 hy ⟨hD,sm,hDl,rfl,u1,rfl⟩;obtain⟨d,hd,iy⟩:=l1.get' hy;rw[aaw] at hd;obtain⟨v,hv,rfl⟩:=abb.mp hd;refine⟨_,rfl,y,v,rfl,Is.mono sm.ts _ _ iy,hi.vs v (aak hv),λ H2 s2=>?_⟩;refine⟨s2 _ _ hDl,bF (by rw[aab,aab,abk];omega),hD,(sm.trans s2).put hD,aD,?_,_,rfl⟩;rw[abz,hv,aah,aah];rfl
  rintro D1 r Z H1 ⟨hD1,s1,hD1l,rfl,_⟩;rw[e1,aar (aae _)] at hD1l;refine⟨_,rfl,nc,rfl,⟨_,s1.tup q2⟩,gJ (K:=K) (a:=nc) (xs:=ys) (λ D i r Z H'=>H1 D=none/\aH H1 H'/\H' D=some (.lst r)/\r=((net.sps.take i).map fC).map V.str/\∃ u1,Z=[u1])
   (λ D i r Z H' p=>p.2.1.tup (s1.tup q2)) (λ D hD=>⟨hD,aH.new hD,aD,rfl,none,rfl⟩) ?_ ?_⟩
  rotate_left
  ·rintro D i y r Z H2 hy ⟨hD,sm,hDl,rfl,u1,rfl⟩;obtain⟨d,hd,iy⟩:=l2.get' hy;rw[aaw] at hd;obtain⟨v,hv,rfl⟩:=abb.mp hd;refine⟨_,rfl,y,v,rfl,Is.mono (s1.trans sm).ts _ _ iy,hi.sps v (aak hv),?_⟩;refine⟨hDl,bF (by rw[aab,aab,abk];omega),hD,sm.put hD,aD,?_,_,rfl⟩;rw[abz,hv,aah,aah];rfl
  rintro D2 r Z H2 ⟨hD2,s2,hD2l,rfl,_⟩;rw[e2,aar (aae _)] at hD2l;refine⟨D1,D2,_,_,rfl,rfl,s2 _ _ hD1l,hD2l,acg (bF (by rw[aab,aab,aab,aab];omega)),λ p hp=>?_⟩;have hp2:upd H2 p (.lst ((net.vs.map eN).map V.str++(net.sps.map fC).map V.str)) p=some (.lst ((net.vs.map eN++net.sps.map fC).map V.str)):=by rw[aD,aah]
  have e3:Str.join "\n" (net.vs.map eN++net.sps.map fC)=fJ net:=by rw[w_l];rfl
  refine⟨"\n",p,net.vs.map eN++net.sps.map fC,rfl,rfl,bV.of hp2,eL (jI hi) (by decide) (by rw[aas,aab,aab];omega),?_⟩;rw[e3];exact k _ ((s1.trans s2).trans (aH.new hp))
end Tw
namespace L2
open PySem PySem.Spec PyProof.Rows TwZ
inductive G where
 | non
 | bl (b:Bool)
 | int (i:Int)
 | str (z:Str)
 | tup (gs:List G)
 | lst (gs:List G)
mutual
def aJ (K:aaa) (H:Hp):G->V->Prop
 | .non,v=>v=.non
 | .bl b,v=>v=.bl b
 | .int i,v=>v=.int i
 | .str z,v=>v=.str z
 | .tup gs,v=>∃ a xs,v=.ref a/\cG K H a xs/\bH K H gs xs
 | .lst gs,v=>∃ a xs,v=.ref a/\bV K H a xs/\bH K H gs xs
def bH (K:aaa) (H:Hp):List G->List V->Prop
 | [],vs=>vs=[]
 | g::gs,vs=>∃ v r,vs=v::r/\aJ K H g v/\bH K H gs r
end
mutual
def aS:G->G->Bool
 | .non,.non=>true
 | .bl a,.bl b=>a == b
 | .bl a,.int b=>(if a then 1 else 0) == b
 | .int a,.bl b=>a == (if b then 1 else 0)
 | .int a,.int b=>a == b
 | .str a,.str b=>a == b
 | .tup a,.tup b=>dU a b
 | .lst a,.lst b=>dU a b
 | _,_=>false
def dU:List G->List G->Bool
 | [],[]=>true
 | a::as,b::bs=>aS a b && dU as bs
 | _,_=>false
end
mutual
def iC:G->Nat
 | .tup gs=>gN gs+1
 | .lst gs=>gN gs+1
 | _=>0
def gN:List G->Nat
 | []=>0
 | g::gs=>max (iC g) (gN gs)
end
mutual
theorem lN:∀ g:G,aS g g=true
 | .non=>by rw[aS]
 | .bl b=>by rw[aS];simp
 | .int i=>by rw[aS];simp
 | .str z=>by rw[aS];simp
 | .tup gs=>by rw[aS];exact jL gs
 | .lst gs=>by rw[aS];exact jL gs
theorem jL:∀ gs:List G,dU gs gs=true
 | []=>by rw[dU]
 | g::gs=>by rw[dU,lN g,jL gs];rfl
end
theorem bH.length {K:aaa}{H:Hp}:∀ {gs:List G}{xs:List V},bH K H gs xs->xs.length=gs.length
 | [],_,h=>by rw[bH] at h;subst h;rfl
 | g::gs,_,h=>by rw[bH] at h;obtain⟨v,r,rfl,_,h⟩:=h;rw[abj,abj,bH.length h]
theorem bH.get {K:aaa}{H:Hp}:∀ {gs:List G}{xs:List V}{i:Nat}{g:G},bH K H gs xs->gs[i]? = some g->∃ x,xs[i]? = some x/\aJ K H g x
 | [],_,_,_,_,e=>by simp at e
 | g::gs,_,0,g',h,e=>by rw[bH] at h;obtain⟨v,r,rfl,h1,_⟩:=h;simp at e;subst e;exact⟨v,by simp,h1⟩
 | g::gs,_,i+1,g',h,e=>by
  rw[bH] at h;obtain⟨v,r,rfl,_,h⟩:=h;obtain⟨x,h1,h2⟩:=bH.get h (i:=i) (by simpa using e);exact⟨x,by simpa using h1,h2⟩
theorem bH.get' {K:aaa}{H:Hp}{gs:List G}{xs:List V}{i:Nat}{x:V} (h:bH K H gs xs) (e:xs[i]? = some x):∃ g,gs[i]? = some g/\aJ K H g x:=by
 have hi:=(aan.mp e).1;rw[h.length] at hi;obtain⟨x',h1,h2⟩:=h.get (i:=i) (g:=gs[i]) (by simp [hi]);rw[e] at h1;cases h1;exact⟨gs[i],by simp [hi],h2⟩
theorem dZ {g:G}:∀ {gs:List G},g∈gs->iC g<=gN gs
 | [],h=>by cases h
 | a::gs,h=>by
  rw[gN];rcases aaq.1 h with rfl | h
  ·omega
  ·have:=dZ h;omega
def BR (gs hs:List G) (j:Nat):Bool:=match gs[j]?,hs[j]? with
 | some g,some h=>aS g h
 | _,_=>true
theorem gE (n:Nat) (e:Nat->Bool):(List.range (n+1)).all e=(e 0 && (List.range n).all λ j=>e (j+1)):=by
 rw[List.range_succ_eq_map,List.all_cons,List.all_map];rfl
theorem oM:∀ (gs hs:List G),gs.length=hs.length->(List.range gs.length).all (BR gs hs)=dU gs hs
 | [],[],_=>by rw[dU];rfl
 | [],_::_,h=>by simp at h
 | _::_,[],h=>by simp at h
 | g::gs,h::hs,hl=>by
  rw[abj,gE,dU,<- oM gs hs (by simpa using hl)];congr 1
theorem lP:∀ (gs hs:List G),((List.range (min gs.length hs.length)).all (BR gs hs) && gs.length == hs.length)=dU gs hs
 | [],[]=>by rw[dU];rfl
 | [],_::_=>by simp [dU]
 | _::_,[]=>by simp [dU]
 | g::gs,h::hs=>by
  have e1:min (g::gs).length (h::hs).length=min gs.length hs.length+1:=by rw[abj,abj];omega
  have e2:((g::gs).length == (h::hs).length)=(gs.length == hs.length):=by simp
  rw[e1,e2,gE,dU,<- lP gs hs,Bool.and_assoc];congr 1
theorem lO:∀ (gs hs:List G),gs.length≠hs.length->dU gs hs=false
 | [],[],h=>absurd rfl h
 | [],_::_,_=>by simp [dU]
 | _::_,[],_=>by simp [dU]
 | g::gs,h::hs,hl=>by rw[dU,lO gs hs (by simpa using hl),Bool.and_false]
theorem oB {h:Heap}{a:Addr}{xs ys:Array Value} (h1:h.IsTuple a xs) (h2:h.IsTuple a ys):xs=ys:=by
 obtain⟨o,e,_,n,d⟩:=h1;obtain⟨o',e',_,n',d'⟩:=h2;rw[e] at e';cases e';rw[d] at d';injection d'
theorem pI {h:Heap}{a:Addr}{xs ys:Array Value} (h1:h.IsList a xs) (h2:h.IsList a ys):xs=ys:=by
 obtain⟨o,e,_,n,d⟩:=h1;obtain⟨o',e',_,n',d'⟩:=h2;rw[e] at e';cases e';rw[d] at d';injection d'
section
variable {X:Cx}{pins:List (Addr×Obj)}{σ:St}{H:Hp}{s:Shared}
mutual
theorem rC (I:Inv X pins σ H s):∀ (g h:G) (x y:V) (u:Value),aJ X.K H g x->aJ X.K H h y->aX x u->aX y u->g=h
 | .non,h,x,y,u,hx,hy,rx,ry=>by
  rw[aJ] at hx;subst hx;cases rx;cases h <;> rw[aJ] at hy
  ·subst hy;cases ry
  ·subst hy;obtain⟨_,e⟩:=ry;cases e
  ·subst hy;obtain⟨_,e⟩:=ry;cases e
  ·obtain⟨_,_,rfl,_⟩:=hy;cases ry
  ·obtain⟨_,_,rfl,_⟩:=hy;cases ry
 | .bl b,h,x,y,u,hx,hy,rx,ry=>by
  rw[aJ] at hx;subst hx;cases rx;cases h <;> rw[aJ] at hy
  ·subst hy;cases ry
  ·subst hy;injection ry with e;rw[e]
  ·subst hy;obtain⟨_,e⟩:=ry;cases e
  ·subst hy;obtain⟨_,e⟩:=ry;cases e
  ·obtain⟨_,_,rfl,_⟩:=hy;cases ry
  ·obtain⟨_,_,rfl,_⟩:=hy;cases ry
 | .int b,h,x,y,u,hx,hy,rx,ry=>by
  rw[aJ] at hx;subst hx;obtain⟨t,rfl⟩:=rx;cases h <;> rw[aJ] at hy
  ·subst hy;cases ry
  ·subst hy;cases ry
  ·subst hy;obtain⟨_,e⟩:=ry;injection e with e;rw[e]
  ·subst hy;obtain⟨_,e⟩:=ry;cases e
  ·obtain⟨_,_,rfl,_⟩:=hy;cases ry
  ·obtain⟨_,_,rfl,_⟩:=hy;cases ry
 | .str b,h,x,y,u,hx,hy,rx,ry=>by
  rw[aJ] at hx;subst hx;obtain⟨t,rfl⟩:=rx;cases h <;> rw[aJ] at hy
  ·subst hy;cases ry
  ·subst hy;cases ry
  ·subst hy;obtain⟨_,e⟩:=ry;cases e
  ·subst hy;obtain⟨_,e⟩:=ry;injection e with e;rw[e]
  ·obtain⟨_,_,rfl,_⟩:=hy;cases ry
  ·obtain⟨_,_,rfl,_⟩:=hy;cases ry
 | .tup gs,h,x,y,u,hx,hy,rx,ry=>by
  rw[aJ] at hx;obtain⟨a,xs,rfl,q1,l1⟩:=hx;cases rx;cases h <;> rw[aJ] at hy
  ·subst hy;cases ry
  ·subst hy;cases ry
  ·subst hy;obtain⟨_,e⟩:=ry;cases e
  ·subst hy;obtain⟨_,e⟩:=ry;cases e
  ·obtain⟨b,ys,rfl,q2,l2⟩:=hy;cases ry;obtain⟨us,r1,p1,_⟩:=I.tuple q1;obtain⟨vs,r2,p2,_⟩:=I.tuple q2;have e:=oB p1 p2;have e':us=vs:=by simpa using e
   subst e';rw[pX I gs _ xs ys us l1 l2 r1 r2]
  ·obtain⟨b,ys,rfl,q2,l2⟩:=hy;cases ry;obtain⟨us,r1,p1,_⟩:=I.tuple q1;obtain⟨vs,r2,p2,_⟩:=I.list q2;exact absurd rfl (SeqAt.ne_of_list_tuple p2.isList p1)
 | .lst gs,h,x,y,u,hx,hy,rx,ry=>by
  rw[aJ] at hx;obtain⟨a,xs,rfl,q1,l1⟩:=hx;cases rx;cases h <;> rw[aJ] at hy
  ·subst hy;cases ry
  ·subst hy;cases ry
  ·subst hy;obtain⟨_,e⟩:=ry;cases e
  ·subst hy;obtain⟨_,e⟩:=ry;cases e
  ·obtain⟨b,ys,rfl,q2,l2⟩:=hy;cases ry;obtain⟨us,r1,p1,_⟩:=I.list q1;obtain⟨vs,r2,p2,_⟩:=I.tuple q2;exact absurd rfl (SeqAt.ne_of_list_tuple p1.isList p2)
  ·obtain⟨b,ys,rfl,q2,l2⟩:=hy;cases ry;obtain⟨us,r1,p1,_⟩:=I.list q1;obtain⟨vs,r2,p2,_⟩:=I.list q2;have e:=pI p1.isList p2.isList;have e':us=vs:=by simpa using e
   subst e';rw[pX I gs _ xs ys us l1 l2 r1 r2]
theorem pX (I:Inv X pins σ H s):∀ (gs hs:List G) (xs ys:List V) (us:List Value),bH X.K H gs xs->bH X.K H hs ys->aZ xs us->aZ ys us->gs=hs
 | [],hs,xs,ys,us,h1,h2,r1,r2=>by
  rw[bH] at h1;subst h1;cases r1;cases r2;cases hs with
  | nil=>rfl
  | cons h hs=>rw[bH] at h2;obtain⟨_,_,e,_⟩:=h2;cases e
 | g::gs,hs,xs,ys,us,h1,h2,r1,r2=>by
  rw[bH] at h1;obtain⟨x,r,rfl,i1,l1⟩:=h1;cases r1 with
  | cons ra rb=>
   cases hs with
   | nil=>rw[bH] at h2;subst h2;cases r2
   | cons h hs=>
    rw[bH] at h2;obtain⟨y,r',rfl,i2,l2⟩:=h2;cases r2 with
    | cons ra' rb'=>rw[rC I g h _ _ _ i1 i2 ra ra',pX I gs hs _ _ _ l1 l2 rb rb']
end
theorem rV {us:List Value}{j:Nat}{w:Value} (h1:j < us.toArray.size) (h:us[j]? = some w):us.toArray[j]=w:=by
 have:us[j]? = some us.toArray[j]:=by simp
 rw[this] at h;exact abe h
theorem kJ {n:Nat}{gs hs:List G}{xs ys:List V}{us vs:List Value}{A:Around}
  (ih:∀ (g h:G) (x y:V) (u v:Value),g∈gs->aJ X.K H g x->aJ X.K H h y->aX x u->aX y v->SeqAt.EqAt A s u v (aS g h))
  (l1:bH X.K H gs xs) (l2:bH X.K H hs ys) (r1:aZ xs us) (r2:aZ ys vs) (j:Nat) (h1:j < us.toArray.size) (h2:j < vs.toArray.size):SeqAt.EqAt A s us.toArray[j] vs.toArray[j] (BR gs hs j):=by
 have e1:=r1.length;have e2:=r2.length;have e3:=l1.length;have e4:=l2.length;have j1:j < gs.length:=by rw[<- e3,e1];simpa using h1
 have j2:j < hs.length:=by rw[<- e4,e2];simpa using h2
 obtain⟨x,gx,ix⟩:=l1.get (i:=j) (g:=gs[j]) (by simp);obtain⟨y,gy,iy⟩:=l2.get (i:=j) (g:=hs[j]) (by simp);obtain⟨w1,g1,t1⟩:=r1.get gx;obtain⟨w2,g2,t2⟩:=r2.get gy;rw[rV h1 g1,rV h2 g2];have:BR gs hs j=aS gs[j] hs[j]:=by unfold BR;simp [j1,j2]
 rw[this];exact ih _ _ x y w1 w2 (ace j1) ix iy t1 t2
theorem pK (I:Inv X pins σ H s):∀ (n:Nat) (g h:G) (A:Around) (x y:V) (u v:Value),iC g<=n->A.units+n < cLine->aJ X.K H g x->aJ X.K H h y->aX x u->aX y v->SeqAt.EqAt A s u v (aS g h)
 | n,.non,.non,A,x,y,u,v,hd,hu,hx,hy,rx,ry=>by
  rw[aJ] at hx;subst hx;cases rx;rw[aJ] at hy;subst hy;cases ry;rw[aS];exact SeqAt.EqAt.same _
 | n,.non,.bl gy,A,x,y,u,v,hd,hu,hx,hy,rx,ry=>by
  rw[aJ] at hx;subst hx;cases rx;rw[aJ] at hy;subst hy;cases ry;rw[show aS (.non) (.bl gy)=false from by simp [aS]];exact SeqAt.EqAt.none_bool gy
 | n,.non,.int gy,A,x,y,u,v,hd,hu,hx,hy,rx,ry=>by
  rw[aJ] at hx;subst hx;cases rx;rw[aJ] at hy;subst hy;obtain⟨ty,rfl⟩:=ry;rw[show aS (.non) (.int gy)=false from by simp [aS]];exact SeqAt.EqAt.none_int gy ty
 | n,.non,.str gy,A,x,y,u,v,hd,hu,hx,hy,rx,ry=>by
  rw[aJ] at hx;subst hx;cases rx;rw[aJ] at hy;subst hy;obtain⟨ty,rfl⟩:=ry;rw[show aS (.non) (.str gy)=false from by simp [aS]];exact SeqAt.EqAt.none_str gy ty
 | n,.non,.tup gy,A,x,y,u,v,hd,hu,hx,hy,rx,ry=>by
  rw[aJ] at hx;subst hx;cases rx;rw[aJ] at hy;obtain⟨ay,xsy,rfl,qy,ly⟩:=hy;cases ry;obtain⟨usy,vy,py,_⟩:=I.tuple qy;rw[show aS (.non) (.tup gy)=false from by simp [aS]];exact SeqAt.EqAt.none_tuple py (by omega)
 | n,.non,.lst gy,A,x,y,u,v,hd,hu,hx,hy,rx,ry=>by
  rw[aJ] at hx;subst hx;cases rx;rw[aJ] at hy;obtain⟨ay,xsy,rfl,qy,ly⟩:=hy;cases ry;obtain⟨usy,vy,py,_⟩:=I.list qy;rw[show aS (.non) (.lst gy)=false from by simp [aS]];exact SeqAt.EqAt.none_list py.isList (by omega)
 | n,.bl gx,.non,A,x,y,u,v,hd,hu,hx,hy,rx,ry=>by
  rw[aJ] at hx;subst hx;cases rx;rw[aJ] at hy;subst hy;cases ry;rw[show aS (.bl gx) (.non)=false from by simp [aS]];exact SeqAt.EqAt.bool_none gx
 | n,.bl gx,.bl gy,A,x,y,u,v,hd,hu,hx,hy,rx,ry=>by
  rw[aJ] at hx;subst hx;cases rx;rw[aJ] at hy;subst hy;cases ry;rw[aS];exact SeqAt.EqAt.bool_bool gx gy
 | n,.bl gx,.int gy,A,x,y,u,v,hd,hu,hx,hy,rx,ry=>by
  rw[aJ] at hx;subst hx;cases rx;rw[aJ] at hy;subst hy;obtain⟨ty,rfl⟩:=ry;rw[aS];exact SeqAt.EqAt.bool_int gx gy ty
 | n,.bl gx,.str gy,A,x,y,u,v,hd,hu,hx,hy,rx,ry=>by
  rw[aJ] at hx;subst hx;cases rx;rw[aJ] at hy;subst hy;obtain⟨ty,rfl⟩:=ry;rw[show aS (.bl gx) (.str gy)=false from by simp [aS]];exact SeqAt.EqAt.bool_str gx gy ty
 | n,.bl gx,.tup gy,A,x,y,u,v,hd,hu,hx,hy,rx,ry=>by
  rw[aJ] at hx;subst hx;cases rx;rw[aJ] at hy;obtain⟨ay,xsy,rfl,qy,ly⟩:=hy;cases ry;obtain⟨usy,vy,py,_⟩:=I.tuple qy;rw[show aS (.bl gx) (.tup gy)=false from by simp [aS]];exact SeqAt.EqAt.bool_tuple gx py (by omega)
 | n,.bl gx,.lst gy,A,x,y,u,v,hd,hu,hx,hy,rx,ry=>by
  rw[aJ] at hx;subst hx;cases rx;rw[aJ] at hy;obtain⟨ay,xsy,rfl,qy,ly⟩:=hy;cases ry;obtain⟨usy,vy,py,_⟩:=I.list qy;rw[show aS (.bl gx) (.lst gy)=false from by simp [aS]];exact SeqAt.EqAt.bool_list gx py.isList (by omega)
 | n,.int gx,.non,A,x,y,u,v,hd,hu,hx,hy,rx,ry=>by
  rw[aJ] at hx;subst hx;obtain⟨tx,rfl⟩:=rx;rw[aJ] at hy;subst hy;cases ry;rw[show aS (.int gx) (.non)=false from by simp [aS]];exact SeqAt.EqAt.int_none gx tx
 | n,.int gx,.bl gy,A,x,y,u,v,hd,hu,hx,hy,rx,ry=>by
  rw[aJ] at hx;subst hx;obtain⟨tx,rfl⟩:=rx;rw[aJ] at hy;subst hy;cases ry;rw[aS];exact SeqAt.EqAt.int_bool gx tx gy
 | n,.int gx,.int gy,A,x,y,u,v,hd,hu,hx,hy,rx,ry=>by
  rw[aJ] at hx;subst hx;obtain⟨tx,rfl⟩:=rx;rw[aJ] at hy;subst hy;obtain⟨ty,rfl⟩:=ry;rw[aS];exact SeqAt.EqAt.int_int gx tx gy ty
 | n,.int gx,.str gy,A,x,y,u,v,hd,hu,hx,hy,rx,ry=>by
  rw[aJ] at hx;subst hx;obtain⟨tx,rfl⟩:=rx;rw[aJ] at hy;subst hy;obtain⟨ty,rfl⟩:=ry;rw[show aS (.int gx) (.str gy)=false from by simp [aS]];exact SeqAt.EqAt.int_str gx tx gy ty
 | n,.int gx,.tup gy,A,x,y,u,v,hd,hu,hx,hy,rx,ry=>by
  rw[aJ] at hx;subst hx;obtain⟨tx,rfl⟩:=rx;rw[aJ] at hy;obtain⟨ay,xsy,rfl,qy,ly⟩:=hy;cases ry;obtain⟨usy,vy,py,_⟩:=I.tuple qy;rw[show aS (.int gx) (.tup gy)=false from by simp [aS]];exact SeqAt.EqAt.int_tuple gx tx py (by omega)
 | n,.int gx,.lst gy,A,x,y,u,v,hd,hu,hx,hy,rx,ry=>by
  rw[aJ] at hx;subst hx;obtain⟨tx,rfl⟩:=rx;rw[aJ] at hy;obtain⟨ay,xsy,rfl,qy,ly⟩:=hy;cases ry;obtain⟨usy,vy,py,_⟩:=I.list qy;rw[show aS (.int gx) (.lst gy)=false from by simp [aS]];exact SeqAt.EqAt.int_list gx tx py.isList (by omega)
 | n,.str gx,.non,A,x,y,u,v,hd,hu,hx,hy,rx,ry=>by
  rw[aJ] at hx;subst hx;obtain⟨tx,rfl⟩:=rx;rw[aJ] at hy;subst hy;cases ry;rw[show aS (.str gx) (.non)=false from by simp [aS]];exact SeqAt.EqAt.str_none gx tx
 | n,.str gx,.bl gy,A,x,y,u,v,hd,hu,hx,hy,rx,ry=>by
  rw[aJ] at hx;subst hx;obtain⟨tx,rfl⟩:=rx;rw[aJ] at hy;subst hy;cases ry;rw[show aS (.str gx) (.bl gy)=false from by simp [aS]];exact SeqAt.EqAt.str_bool gx tx gy
 | n,.str gx,.int gy,A,x,y,u,v,hd,hu,hx,hy,rx,ry=>by
  rw[aJ] at hx;subst hx;obtain⟨tx,rfl⟩:=rx;rw[aJ] at hy;subst hy;obtain⟨ty,rfl⟩:=ry;rw[show aS (.str gx) (.int gy)=false from by simp [aS]];exact SeqAt.EqAt.str_int gx tx gy ty
 | n,.str gx,.str gy,A,x,y,u,v,hd,hu,hx,hy,rx,ry=>by
  rw[aJ] at hx;subst hx;obtain⟨tx,rfl⟩:=rx;rw[aJ] at hy;subst hy;obtain⟨ty,rfl⟩:=ry;rw[aS];exact SeqAt.EqAt.str_str gx tx gy ty
 | n,.str gx,.tup gy,A,x,y,u,v,hd,hu,hx,hy,rx,ry=>by
  rw[aJ] at hx;subst hx;obtain⟨tx,rfl⟩:=rx;rw[aJ] at hy;obtain⟨ay,xsy,rfl,qy,ly⟩:=hy;cases ry;obtain⟨usy,vy,py,_⟩:=I.tuple qy;rw[show aS (.str gx) (.tup gy)=false from by simp [aS]];exact SeqAt.EqAt.str_tuple gx tx py (by omega)
 | n,.str gx,.lst gy,A,x,y,u,v,hd,hu,hx,hy,rx,ry=>by
  rw[aJ] at hx;subst hx;obtain⟨tx,rfl⟩:=rx;rw[aJ] at hy;obtain⟨ay,xsy,rfl,qy,ly⟩:=hy;cases ry;obtain⟨usy,vy,py,_⟩:=I.list qy;rw[show aS (.str gx) (.lst gy)=false from by simp [aS]];exact SeqAt.EqAt.str_list gx tx py.isList (by omega)
 | n,.tup gx,.non,A,x,y,u,v,hd,hu,hx,hy,rx,ry=>by
  rw[aJ] at hx;obtain⟨ax,xsx,rfl,qx,lx⟩:=hx;cases rx;obtain⟨usx,vx,px,_⟩:=I.tuple qx;rw[aJ] at hy;subst hy;cases ry;rw[show aS (.tup gx) (.non)=false from by simp [aS]];exact SeqAt.EqAt.tuple_none px (by omega)
 | n,.tup gx,.bl gy,A,x,y,u,v,hd,hu,hx,hy,rx,ry=>by
  rw[aJ] at hx;obtain⟨ax,xsx,rfl,qx,lx⟩:=hx;cases rx;obtain⟨usx,vx,px,_⟩:=I.tuple qx;rw[aJ] at hy;subst hy;cases ry;rw[show aS (.tup gx) (.bl gy)=false from by simp [aS]];exact SeqAt.EqAt.tuple_bool gy px (by omega)
 | n,.tup gx,.int gy,A,x,y,u,v,hd,hu,hx,hy,rx,ry=>by
  rw[aJ] at hx;obtain⟨ax,xsx,rfl,qx,lx⟩:=hx;cases rx;obtain⟨usx,vx,px,_⟩:=I.tuple qx;rw[aJ] at hy;subst hy;obtain⟨ty,rfl⟩:=ry;rw[show aS (.tup gx) (.int gy)=false from by simp [aS]];exact SeqAt.EqAt.tuple_int gy ty px (by omega)
 | n,.tup gx,.str gy,A,x,y,u,v,hd,hu,hx,hy,rx,ry=>by
  rw[aJ] at hx;obtain⟨ax,xsx,rfl,qx,lx⟩:=hx;cases rx;obtain⟨usx,vx,px,_⟩:=I.tuple qx;rw[aJ] at hy;subst hy;obtain⟨ty,rfl⟩:=ry;rw[show aS (.tup gx) (.str gy)=false from by simp [aS]];exact SeqAt.EqAt.tuple_str gy ty px (by omega)
 | 0,.tup gx,.tup gy,A,x,y,u,v,hd,_,_,_,_,_=>by rw[iC] at hd;omega
 | n+1,.tup gx,.tup gy,A,x,y,u,v,hd,hu,hx,hy,rx,ry=>by
  rw[aJ] at hx;obtain⟨ax,xsx,rfl,qx,lx⟩:=hx;cases rx;obtain⟨usx,vx,px,_⟩:=I.tuple qx;rw[aJ] at hy;obtain⟨ay,xsy,rfl,qy,ly⟩:=hy;cases ry;obtain⟨usy,vy,py,_⟩:=I.tuple qy
  by_cases hab:ax=ay
  ·subst hab;have e:=rC I (.tup gx) (.tup gy) (.ref ax) (.ref ax) _ (by rw[aJ];exact⟨_,_,rfl,qx,lx⟩) (by rw[aJ];exact⟨_,_,rfl,qy,ly⟩) rfl rfl;rw[e,lN];exact SeqAt.EqAt.same _
  have e1:=vx.length;have e2:=vy.length;have e3:=lx.length;have e4:=ly.length;rw[show aS (.tup gx) (.tup gy)=dU gx gy from by rw[aS],<- lP gx gy];have ex:gx.length=usx.toArray.size:=by rw[<- e3,e1,aad]
  have ey:gy.length=usy.toArray.size:=by rw[<- e4,e2,aad]
  rw[ex,ey];refine SeqAt.EqAt.of_refs hab ?_;exact SeqAt.RcAt.tuples px py (by omega) (λ j h1 h2=>kJ (n:=0) (λ g h x y u v hm ix iy tx ty=>pK I n g h A.in1 x y u v (by have:=dZ hm;rw[iC] at hd;omega) (by show A.units+1+n < cLine;omega) ix iy tx ty) lx ly vx vy j h1 h2)
 | n,.tup gx,.lst gy,A,x,y,u,v,hd,hu,hx,hy,rx,ry=>by
  rw[aJ] at hx;obtain⟨ax,xsx,rfl,qx,lx⟩:=hx;cases rx;obtain⟨usx,vx,px,_⟩:=I.tuple qx;rw[aJ] at hy;obtain⟨ay,xsy,rfl,qy,ly⟩:=hy;cases ry;obtain⟨usy,vy,py,_⟩:=I.list qy;rw[show aS (.tup gx) (.lst gy)=false from by simp [aS]];exact SeqAt.EqAt.tuple_list px py.isList (by omega)
 | n,.lst gx,.non,A,x,y,u,v,hd,hu,hx,hy,rx,ry=>by
  rw[aJ] at hx;obtain⟨ax,xsx,rfl,qx,lx⟩:=hx;cases rx;obtain⟨usx,vx,px,_⟩:=I.list qx;rw[aJ] at hy;subst hy;cases ry;rw[show aS (.lst gx) (.non)=false from by simp [aS]];exact SeqAt.EqAt.list_none px.isList (by omega)
 | n,.lst gx,.bl gy,A,x,y,u,v,hd,hu,hx,hy,rx,ry=>by
  rw[aJ] at hx;obtain⟨ax,xsx,rfl,qx,lx⟩:=hx;cases rx;obtain⟨usx,vx,px,_⟩:=I.list qx;rw[aJ] at hy;subst hy;cases ry;rw[show aS (.lst gx) (.bl gy)=false from by simp [aS]];exact SeqAt.EqAt.list_bool gy px.isList (by omega)
 | n,.lst gx,.int gy,A,x,y,u,v,hd,hu,hx,hy,rx,ry=>by
  rw[aJ] at hx;obtain⟨ax,xsx,rfl,qx,lx⟩:=hx;cases rx;obtain⟨usx,vx,px,_⟩:=I.list qx;rw[aJ] at hy;subst hy;obtain⟨ty,rfl⟩:=ry;rw[show aS (.lst gx) (.int gy)=false from by simp [aS]];exact SeqAt.EqAt.list_int gy ty px.isList (by omega)
 | n,.lst gx,.str gy,A,x,y,u,v,hd,hu,hx,hy,rx,ry=>by
  rw[aJ] at hx;obtain⟨ax,xsx,rfl,qx,lx⟩:=hx;cases rx;obtain⟨usx,vx,px,_⟩:=I.list qx;rw[aJ] at hy;subst hy;obtain⟨ty,rfl⟩:=ry;rw[show aS (.lst gx) (.str gy)=false from by simp [aS]];exact SeqAt.EqAt.list_str gy ty px.isList (by omega)
 | n,.lst gx,.tup gy,A,x,y,u,v,hd,hu,hx,hy,rx,ry=>by
  rw[aJ] at hx;obtain⟨ax,xsx,rfl,qx,lx⟩:=hx;cases rx;obtain⟨usx,vx,px,_⟩:=I.list qx;rw[aJ] at hy;obtain⟨ay,xsy,rfl,qy,ly⟩:=hy;cases ry;obtain⟨usy,vy,py,_⟩:=I.tuple qy;rw[show aS (.lst gx) (.tup gy)=false from by simp [aS]];exact SeqAt.EqAt.list_tuple px.isList py (by omega)
 | 0,.lst gx,.lst gy,A,x,y,u,v,hd,_,_,_,_,_=>by rw[iC] at hd;omega
 | n+1,.lst gx,.lst gy,A,x,y,u,v,hd,hu,hx,hy,rx,ry=>by
  rw[aJ] at hx;obtain⟨ax,xsx,rfl,qx,lx⟩:=hx;cases rx;obtain⟨usx,vx,px,_⟩:=I.list qx;rw[aJ] at hy;obtain⟨ay,xsy,rfl,qy,ly⟩:=hy;cases ry;obtain⟨usy,vy,py,_⟩:=I.list qy
  by_cases hab:ax=ay
  ·subst hab;have e:=rC I (.lst gx) (.lst gy) (.ref ax) (.ref ax) _ (by rw[aJ];exact⟨_,_,rfl,qx,lx⟩) (by rw[aJ];exact⟨_,_,rfl,qy,ly⟩) rfl rfl;rw[e,lN];exact SeqAt.EqAt.same _
  have e1:=vx.length;have e2:=vy.length;have e3:=lx.length;have e4:=ly.length;rw[show aS (.lst gx) (.lst gy)=dU gx gy from by rw[aS]];have ex:gx.length=usx.toArray.size:=by rw[<- e3,e1,aad]
  have ey:gy.length=usy.toArray.size:=by rw[<- e4,e2,aad]
  by_cases hl:gx.length=gy.length
  ·rw[<- oM gx gy hl,ex];refine SeqAt.EqAt.of_refs hab ?_;exact SeqAt.RcAt.lists px.isList py.isList (by omega) (by omega) (λ j h1 h2=>kJ (n:=0) (λ g h x y u v hm ix iy tx ty=>pK I n g h A.in1 x y u v (by have:=dZ hm;rw[iC] at hd;omega) (by show A.units+1+n < cLine;omega) ix iy tx ty) lx ly vx vy j h1 h2)
  ·rw[lO gx gy hl];refine SeqAt.EqAt.of_refs hab ?_;exact SeqAt.RcAt.lists_lengths px.isList py.isList (by rw[<- ex,<- ey];simpa using hl) (by omega)
theorem rcG (I:Inv X pins σ H s) {A:Around} (hu:A.units+40 < cLine):∀ (g h:G) (x y:V) (u v:Value),iC g<=30->aJ X.K H g x->aJ X.K H h y->aX x u->aX y v->SeqAt.RcAt A s u v (aS g h)
 | .non,.non,x,y,u,v,hd,hx,hy,rx,ry=>by
  rw[aJ] at hx;subst hx;cases rx;rw[aJ] at hy;subst hy;cases ry;rw[aS];exact SeqAt.RcAt.none_none
 | .non,.bl gy,x,y,u,v,hd,hx,hy,rx,ry=>by
  rw[aJ] at hx;subst hx;cases rx;rw[aJ] at hy;subst hy;cases ry;rw[show aS (.non) (.bl gy)=false from by simp [aS]];exact SeqAt.RcAt.none_bool gy
 | .non,.int gy,x,y,u,v,hd,hx,hy,rx,ry=>by
  rw[aJ] at hx;subst hx;cases rx;rw[aJ] at hy;subst hy;obtain⟨ty,rfl⟩:=ry;rw[show aS (.non) (.int gy)=false from by simp [aS]];exact SeqAt.RcAt.none_int gy ty
 | .non,.str gy,x,y,u,v,hd,hx,hy,rx,ry=>by
  rw[aJ] at hx;subst hx;cases rx;rw[aJ] at hy;subst hy;obtain⟨ty,rfl⟩:=ry;rw[show aS (.non) (.str gy)=false from by simp [aS]];exact SeqAt.RcAt.none_str gy ty
 | .non,.tup gy,x,y,u,v,hd,hx,hy,rx,ry=>by
  rw[aJ] at hx;subst hx;cases rx;rw[aJ] at hy;obtain⟨ay,xsy,rfl,qy,ly⟩:=hy;cases ry;obtain⟨usy,vy,py,_⟩:=I.tuple qy;rw[show aS (.non) (.tup gy)=false from by simp [aS]];exact SeqAt.RcAt.none_tuple py (by omega)
 | .non,.lst gy,x,y,u,v,hd,hx,hy,rx,ry=>by
  rw[aJ] at hx;subst hx;cases rx;rw[aJ] at hy;obtain⟨ay,xsy,rfl,qy,ly⟩:=hy;cases ry;obtain⟨usy,vy,py,_⟩:=I.list qy;rw[show aS (.non) (.lst gy)=false from by simp [aS]];exact SeqAt.RcAt.none_list py.isList (by omega)
 | .bl gx,.non,x,y,u,v,hd,hx,hy,rx,ry=>by
  rw[aJ] at hx;subst hx;cases rx;rw[aJ] at hy;subst hy;cases ry;rw[show aS (.bl gx) (.non)=false from by simp [aS]];exact SeqAt.RcAt.bool_none gx
 | .bl gx,.bl gy,x,y,u,v,hd,hx,hy,rx,ry=>by
  rw[aJ] at hx;subst hx;cases rx;rw[aJ] at hy;subst hy;cases ry;rw[aS];exact SeqAt.RcAt.bool_bool gx gy
 | .bl gx,.int gy,x,y,u,v,hd,hx,hy,rx,ry=>by
  rw[aJ] at hx;subst hx;cases rx;rw[aJ] at hy;subst hy;obtain⟨ty,rfl⟩:=ry;rw[aS];exact SeqAt.RcAt.bool_int gx gy ty
 | .bl gx,.str gy,x,y,u,v,hd,hx,hy,rx,ry=>by
  rw[aJ] at hx;subst hx;cases rx;rw[aJ] at hy;subst hy;obtain⟨ty,rfl⟩:=ry;rw[show aS (.bl gx) (.str gy)=false from by simp [aS]];exact SeqAt.RcAt.bool_str gx gy ty
 | .bl gx,.tup gy,x,y,u,v,hd,hx,hy,rx,ry=>by
  rw[aJ] at hx;subst hx;cases rx;rw[aJ] at hy;obtain⟨ay,xsy,rfl,qy,ly⟩:=hy;cases ry;obtain⟨usy,vy,py,_⟩:=I.tuple qy;rw[show aS (.bl gx) (.tup gy)=false from by simp [aS]];exact SeqAt.RcAt.bool_tuple gx py (by omega)
 | .bl gx,.lst gy,x,y,u,v,hd,hx,hy,rx,ry=>by
  rw[aJ] at hx;subst hx;cases rx;rw[aJ] at hy;obtain⟨ay,xsy,rfl,qy,ly⟩:=hy;cases ry;obtain⟨usy,vy,py,_⟩:=I.list qy;rw[show aS (.bl gx) (.lst gy)=false from by simp [aS]];exact SeqAt.RcAt.bool_list gx py.isList (by omega)
 | .int gx,.non,x,y,u,v,hd,hx,hy,rx,ry=>by
  rw[aJ] at hx;subst hx;obtain⟨tx,rfl⟩:=rx;rw[aJ] at hy;subst hy;cases ry;rw[show aS (.int gx) (.non)=false from by simp [aS]];exact SeqAt.RcAt.int_none gx tx
 | .int gx,.bl gy,x,y,u,v,hd,hx,hy,rx,ry=>by
  rw[aJ] at hx;subst hx;obtain⟨tx,rfl⟩:=rx;rw[aJ] at hy;subst hy;cases ry;rw[aS];exact SeqAt.RcAt.int_bool gx tx gy
 | .int gx,.int gy,x,y,u,v,hd,hx,hy,rx,ry=>by
  rw[aJ] at hx;subst hx;obtain⟨tx,rfl⟩:=rx;rw[aJ] at hy;subst hy;obtain⟨ty,rfl⟩:=ry;rw[aS];exact SeqAt.RcAt.int_int gx tx gy ty
 | .int gx,.str gy,x,y,u,v,hd,hx,hy,rx,ry=>by
  rw[aJ] at hx;subst hx;obtain⟨tx,rfl⟩:=rx;rw[aJ] at hy;subst hy;obtain⟨ty,rfl⟩:=ry;rw[show aS (.int gx) (.str gy)=false from by simp [aS]];exact SeqAt.RcAt.int_str gx tx gy ty
 | .int gx,.tup gy,x,y,u,v,hd,hx,hy,rx,ry=>by
  rw[aJ] at hx;subst hx;obtain⟨tx,rfl⟩:=rx;rw[aJ] at hy;obtain⟨ay,xsy,rfl,qy,ly⟩:=hy;cases ry;obtain⟨usy,vy,py,_⟩:=I.tuple qy;rw[show aS (.int gx) (.tup gy)=false from by simp [aS]];exact SeqAt.RcAt.int_tuple gx tx py (by omega)
 | .int gx,.lst gy,x,y,u,v,hd,hx,hy,rx,ry=>by
  rw[aJ] at hx;subst hx;obtain⟨tx,rfl⟩:=rx;rw[aJ] at hy;obtain⟨ay,xsy,rfl,qy,ly⟩:=hy;cases ry;obtain⟨usy,vy,py,_⟩:=I.list qy;rw[show aS (.int gx) (.lst gy)=false from by simp [aS]];exact SeqAt.RcAt.int_list gx tx py.isList (by omega)
 | .str gx,.non,x,y,u,v,hd,hx,hy,rx,ry=>by
  rw[aJ] at hx;subst hx;obtain⟨tx,rfl⟩:=rx;rw[aJ] at hy;subst hy;cases ry;rw[show aS (.str gx) (.non)=false from by simp [aS]];exact SeqAt.RcAt.str_none gx tx
 | .str gx,.bl gy,x,y,u,v,hd,hx,hy,rx,ry=>by
  rw[aJ] at hx;subst hx;obtain⟨tx,rfl⟩:=rx;rw[aJ] at hy;subst hy;cases ry;rw[show aS (.str gx) (.bl gy)=false from by simp [aS]];exact SeqAt.RcAt.str_bool gx tx gy
 | .str gx,.int gy,x,y,u,v,hd,hx,hy,rx,ry=>by
  rw[aJ] at hx;subst hx;obtain⟨tx,rfl⟩:=rx;rw[aJ] at hy;subst hy;obtain⟨ty,rfl⟩:=ry;rw[show aS (.str gx) (.int gy)=false from by simp [aS]];exact SeqAt.RcAt.str_int gx tx gy ty
 | .str gx,.str gy,x,y,u,v,hd,hx,hy,rx,ry=>by
  rw[aJ] at hx;subst hx;obtain⟨tx,rfl⟩:=rx;rw[aJ] at hy;subst hy;obtain⟨ty,rfl⟩:=ry;rw[aS];exact SeqAt.RcAt.str_str gx tx gy ty
 | .str gx,.tup gy,x,y,u,v,hd,hx,hy,rx,ry=>by
  rw[aJ] at hx;subst hx;obtain⟨tx,rfl⟩:=rx;rw[aJ] at hy;obtain⟨ay,xsy,rfl,qy,ly⟩:=hy;cases ry;obtain⟨usy,vy,py,_⟩:=I.tuple qy;rw[show aS (.str gx) (.tup gy)=false from by simp [aS]];exact SeqAt.RcAt.str_tuple gx tx py (by omega)
 | .str gx,.lst gy,x,y,u,v,hd,hx,hy,rx,ry=>by
  rw[aJ] at hx;subst hx;obtain⟨tx,rfl⟩:=rx;rw[aJ] at hy;obtain⟨ay,xsy,rfl,qy,ly⟩:=hy;cases ry;obtain⟨usy,vy,py,_⟩:=I.list qy;rw[show aS (.str gx) (.lst gy)=false from by simp [aS]];exact SeqAt.RcAt.str_list gx tx py.isList (by omega)
 | .tup gx,.non,x,y,u,v,hd,hx,hy,rx,ry=>by
  rw[aJ] at hx;obtain⟨ax,xsx,rfl,qx,lx⟩:=hx;cases rx;obtain⟨usx,vx,px,_⟩:=I.tuple qx;rw[aJ] at hy;subst hy;cases ry;rw[show aS (.tup gx) (.non)=false from by simp [aS]];exact SeqAt.RcAt.tuple_none px (by omega)
 | .tup gx,.bl gy,x,y,u,v,hd,hx,hy,rx,ry=>by
  rw[aJ] at hx;obtain⟨ax,xsx,rfl,qx,lx⟩:=hx;cases rx;obtain⟨usx,vx,px,_⟩:=I.tuple qx;rw[aJ] at hy;subst hy;cases ry;rw[show aS (.tup gx) (.bl gy)=false from by simp [aS]];exact SeqAt.RcAt.tuple_bool gy px (by omega)
 | .tup gx,.int gy,x,y,u,v,hd,hx,hy,rx,ry=>by
  rw[aJ] at hx;obtain⟨ax,xsx,rfl,qx,lx⟩:=hx;cases rx;obtain⟨usx,vx,px,_⟩:=I.tuple qx;rw[aJ] at hy;subst hy;obtain⟨ty,rfl⟩:=ry;rw[show aS (.tup gx) (.int gy)=false from by simp [aS]];exact SeqAt.RcAt.tuple_int gy ty px (by omega)
 | .tup gx,.str gy,x,y,u,v,hd,hx,hy,rx,ry=>by
  rw[aJ] at hx;obtain⟨ax,xsx,rfl,qx,lx⟩:=hx;cases rx;obtain⟨usx,vx,px,_⟩:=I.tuple qx;rw[aJ] at hy;subst hy;obtain⟨ty,rfl⟩:=ry;rw[show aS (.tup gx) (.str gy)=false from by simp [aS]];exact SeqAt.RcAt.tuple_str gy ty px (by omega)
 | .tup gx,.tup gy,x,y,u,v,hd,hx,hy,rx,ry=>by
  rw[aJ] at hx;obtain⟨ax,xsx,rfl,qx,lx⟩:=hx;cases rx;obtain⟨usx,vx,px,_⟩:=I.tuple qx;rw[aJ] at hy;obtain⟨ay,xsy,rfl,qy,ly⟩:=hy;cases ry;obtain⟨usy,vy,py,_⟩:=I.tuple qy;have e1:=vx.length;have e2:=vy.length;have e3:=lx.length;have e4:=ly.length;rw[show aS (.tup gx) (.tup gy)=dU gx gy from by rw[aS],<- lP gx gy];have ex:gx.length=usx.toArray.size:=by rw[<- e3,e1,aad]
  have ey:gy.length=usy.toArray.size:=by rw[<- e4,e2,aad]
  rw[ex,ey];exact SeqAt.RcAt.tuples px py (by omega) (λ j h1 h2=>kJ (n:=0) (λ g h x y u v hm ix iy tx ty=>pK I 30 g h A.in1 x y u v (by have:=dZ hm;rw[iC] at hd;omega) (by show A.units+1+30 < cLine;omega) ix iy tx ty) lx ly vx vy j h1 h2)
 | .tup gx,.lst gy,x,y,u,v,hd,hx,hy,rx,ry=>by
  rw[aJ] at hx;obtain⟨ax,xsx,rfl,qx,lx⟩:=hx;cases rx;obtain⟨usx,vx,px,_⟩:=I.tuple qx;rw[aJ] at hy;obtain⟨ay,xsy,rfl,qy,ly⟩:=hy;cases ry;obtain⟨usy,vy,py,_⟩:=I.list qy;rw[show aS (.tup gx) (.lst gy)=false from by simp [aS]];exact SeqAt.RcAt.tuple_list px py.isList (by omega)
 | .lst gx,.non,x,y,u,v,hd,hx,hy,rx,ry=>by
  rw[aJ] at hx;obtain⟨ax,xsx,rfl,qx,lx⟩:=hx;cases rx;obtain⟨usx,vx,px,_⟩:=I.list qx;rw[aJ] at hy;subst hy;cases ry;rw[show aS (.lst gx) (.non)=false from by simp [aS]];exact SeqAt.RcAt.list_none px.isList (by omega)
 | .lst gx,.bl gy,x,y,u,v,hd,hx,hy,rx,ry=>by
  rw[aJ] at hx;obtain⟨ax,xsx,rfl,qx,lx⟩:=hx;cases rx;obtain⟨usx,vx,px,_⟩:=I.list qx;rw[aJ] at hy;subst hy;cases ry;rw[show aS (.lst gx) (.bl gy)=false from by simp [aS]];exact SeqAt.RcAt.list_bool gy px.isList (by omega)
 | .lst gx,.int gy,x,y,u,v,hd,hx,hy,rx,ry=>by
  rw[aJ] at hx;obtain⟨ax,xsx,rfl,qx,lx⟩:=hx;cases rx;obtain⟨usx,vx,px,_⟩:=I.list qx;rw[aJ] at hy;subst hy;obtain⟨ty,rfl⟩:=ry;rw[show aS (.lst gx) (.int gy)=false from by simp [aS]];exact SeqAt.RcAt.list_int gy ty px.isList (by omega)
 | .lst gx,.str gy,x,y,u,v,hd,hx,hy,rx,ry=>by
  rw[aJ] at hx;obtain⟨ax,xsx,rfl,qx,lx⟩:=hx;cases rx;obtain⟨usx,vx,px,_⟩:=I.list qx;rw[aJ] at hy;subst hy;obtain⟨ty,rfl⟩:=ry;rw[show aS (.lst gx) (.str gy)=false from by simp [aS]];exact SeqAt.RcAt.list_str gy ty px.isList (by omega)
 | .lst gx,.tup gy,x,y,u,v,hd,hx,hy,rx,ry=>by
  rw[aJ] at hx;obtain⟨ax,xsx,rfl,qx,lx⟩:=hx;cases rx;obtain⟨usx,vx,px,_⟩:=I.list qx;rw[aJ] at hy;obtain⟨ay,xsy,rfl,qy,ly⟩:=hy;cases ry;obtain⟨usy,vy,py,_⟩:=I.tuple qy;rw[show aS (.lst gx) (.tup gy)=false from by simp [aS]];exact SeqAt.RcAt.list_tuple px.isList py (by omega)
 | .lst gx,.lst gy,x,y,u,v,hd,hx,hy,rx,ry=>by
  rw[aJ] at hx;obtain⟨ax,xsx,rfl,qx,lx⟩:=hx;cases rx;obtain⟨usx,vx,px,_⟩:=I.list qx;rw[aJ] at hy;obtain⟨ay,xsy,rfl,qy,ly⟩:=hy;cases ry;obtain⟨usy,vy,py,_⟩:=I.list qy;have e1:=vx.length;have e2:=vy.length;have e3:=lx.length;have e4:=ly.length;rw[show aS (.lst gx) (.lst gy)=dU gx gy from by rw[aS]];have ex:gx.length=usx.toArray.size:=by rw[<- e3,e1,aad]
  have ey:gy.length=usy.toArray.size:=by rw[<- e4,e2,aad]
  by_cases hl:gx.length=gy.length
  ·rw[<- oM gx gy hl,ex];exact SeqAt.RcAt.lists px.isList py.isList (by omega) (by omega) (λ j h1 h2=>kJ (n:=0) (λ g h x y u v hm ix iy tx ty=>pK I 30 g h A.in1 x y u v (by have:=dZ hm;rw[iC] at hd;omega) (by show A.units+1+30 < cLine;omega) ix iy tx ty) lx ly vx vy j h1 h2)
  ·rw[lO gx gy hl];exact SeqAt.RcAt.lists_lengths px.isList py.isList (by rw[<- ex,<- ey];simpa using hl) (by omega)
def B8 (K:aaa):R2:=λ x y H Q=>∃ g h,iC g<=30/\aJ K H g x/\aJ K H h y/\Q (.bl (aS g h)) H
theorem zQ (hu:X.A.units+64 < cLine):fM X (compareOp .Eq) (B8 X.K):=by
 intro pins s σ H x y v u Q I rx ry h;obtain⟨g,h,hd,ix,iy,q⟩:=h;exact rcG I (by omega) g h x y v u hd ix iy rx ry X.prog X.w X.xe _ ⟨.bl _,H,I,rfl,q⟩
theorem wX {K:aaa} (hK:X.K=K) (hu:X.A.units+64 < cLine):fM X (compareOp .Eq) (B8 K):=by subst hK;exact zQ hu
def vH (h:G) (gs:List G):Bool:=gs.any λ g=>aS g h
open Classical in
theorem vG (I:Inv X pins σ H s) {A:Around} (hu:A.units+40 < cLine) {h:G}{gs:List G}{x:V}{xs:List V}{u:Value}{us:List Value} (hd:gN gs<=30) (ix:aJ X.K H h x) (l:bH X.K H gs xs) (rx:aX x u) (r:aZ xs us) :
  ∃ e:Value->Bool,(∀ y∈us,SeqAt.EqAt A s y u (e y))/\us.any e=vH h gs:=by
 have e1:=r.length;have e2:=l.length;refine⟨λ y=>decide (∃ (i:Nat) (g:G),us[i]? = some y/\gs[i]? = some g/\aS g h=true),?_,?_⟩
 ·intro y hy;obtain⟨i,hi,rfl⟩:=List.mem_iff_getElem.1 hy;have hig:i < gs.length:=by omega
  obtain⟨z,gz,iz⟩:=l.get (i:=i) (g:=gs[i]) (by simp [hig]);obtain⟨w,gw,tw⟩:=r.get gz;have ew:us[i]=w:=by
   have:us[i]? = some us[i]:=by simp
   rw[this] at gw;exact abe gw
  have key:decide (∃ (i':Nat) (g:G),us[i']? = some us[i]/\gs[i']? = some g/\aS g h=true)=aS gs[i] h:=by
   rw[Bool.eq_iff_iff,decide_eq_true_iff];constructor
   ·rintro⟨i',g,h1,h2,h3⟩;obtain⟨z',gz',iz'⟩:=l.get h2;obtain⟨w',gw',tw'⟩:=r.get gz';rw[h1,ew] at gw';cases gw';have:=rC I _ _ _ _ _ iz iz' tw tw';rw[this];exact h3
   ·intro h3;exact⟨i,gs[i],by simp,by simp [hig],h3⟩
  show SeqAt.EqAt A s us[i] u (decide _);rw[key,ew];exact pK I 30 _ _ A z x w u (by have:=dZ (ace hig);omega) (by omega) iz ix tw rx
 ·rw[Bool.eq_iff_iff,List.any_eq_true];unfold vH;rw[List.any_eq_true];constructor
  ·rintro⟨y,hy,hq⟩;obtain⟨i,g,h1,h2,h3⟩:=aba hq;exact⟨g,aak h2,h3⟩
  ·rintro⟨g,hg,hq⟩;obtain⟨i,hi,rfl⟩:=List.mem_iff_getElem.1 hg;have hiu:i < us.length:=by omega
   exact⟨us[i],ace hiu,abh ⟨i,gs[i],by simp,by simp,hq⟩⟩
def B7 (K:aaa) (neg:Bool):R2:=λ x y H Q=>∃ h p gs xs,y=.ref p/\(bV K H p xs\/cG K H p xs)/\gN gs<=30/\aJ K H h x/\bH K H gs xs/\Q (.bl (if neg then !vH h gs else vH h gs)) H
theorem zP (hu:X.A.units+64 < cLine):fM X (compareOp .In) (B7 X.K false):=by
 intro pins s σ H x y v u Q I rx ry hh;obtain⟨h,p,gs,xs,rfl,hq,hd,ix,l,q⟩:=hh;cases ry;have hin:X.A.in1.units=X.A.units+1:=rfl;rcases hq with hq | hq
 ·obtain⟨its,r,pl,hz⟩:=I.list hq;obtain⟨e,he,ea⟩:=vG I (A:=X.A.in1) (by omega) hd ix l rx r;refine SeqAt.in_listAt e pl.isList (λ w hw=>he w (by simpa using hw)) ⟨.bl _,H,I,rfl,?_⟩;rw[show its.toArray.any e=its.any e by simp,ea];exact q
 ·obtain⟨its,r,pl,hz⟩:=I.tuple hq;obtain⟨e,he,ea⟩:=vG I (A:=X.A.in1) (by omega) hd ix l rx r;refine SeqAt.in_tupleAt e pl (λ w hw=>he w (by simpa using hw)) ⟨.bl _,H,I,rfl,?_⟩;rw[show its.toArray.any e=its.any e by simp,ea];exact q
theorem wW {K:aaa} (hK:X.K=K) (hu:X.A.units+64 < cLine):fM X (compareOp .In) (B7 K false):=by subst hK;exact zP hu
end
section
variable {H:Hp}
mutual
def d6:D->G
 | .non=>.non
 | .bl b=>.bl b
 | .int i=>.int i
 | .str z=>.str z
 | .tup ds=>.tup (bZ ds)
def bZ:List D->List G
 | []=>[]
 | d::ds=>d6 d::bZ ds
end
mutual
theorem Is.g:∀ {d:D}{x:V},Is K H d x->aJ K H (d6 d) x
 | .non,x,h=>by rw[Is] at h;rw[d6,aJ];exact h
 | .bl b,x,h=>by rw[Is] at h;rw[d6,aJ];exact h
 | .int i,x,h=>by rw[Is] at h;rw[d6,aJ];exact h
 | .str z,x,h=>by rw[Is] at h;rw[d6,aJ];exact h
 | .tup ds,x,h=>by
  rw[Is] at h;rw[d6,aJ];obtain⟨a,xs,e,q,l⟩:=h;exact⟨a,xs,e,q,IsL.g l⟩
theorem IsL.g:∀ {ds:List D}{xs:List V},IsL K H ds xs->bH K H (bZ ds) xs
 | [],xs,h=>by rw[IsL] at h;rw[bZ,bH];exact h
 | d::ds,xs,h=>by
  rw[IsL] at h;rw[bZ,bH];obtain⟨x,r,e,h1,h2⟩:=h;exact⟨x,r,e,Is.g h1,IsL.g h2⟩
end
theorem iI:∀ ds:List D,bZ ds=ds.map d6
 | []=>by rw[bZ];rfl
 | d::ds=>by rw[bZ,iI ds];rfl
theorem bH.nil:bH K H [] []:=by rw[bH]
theorem bH.cons {g:G}{gs:List G}{x:V}{xs:List V} (h1:aJ K H g x) (h2:bH K H gs xs):bH K H (g::gs) (x::xs):=by rw[bH];exact⟨x,xs,rfl,h1,h2⟩
theorem aJ.s (i:Str):aJ K H (.str i) (.str i):=by rw[aJ]
theorem aJ.t {a:Addr}{gs:List G}{xs:List V} (q:cG K H a xs) (l:bH K H gs xs):aJ K H (.tup gs) (.ref a):=by rw[aJ];exact⟨a,xs,rfl,q,l⟩
end
end L2
namespace L2
open PySem PySem.Spec PyProof.Rows TwZ Tw
section
variable {H H':Hp}{t:Addr}
theorem aH.lst {a:Addr}{xs:List V} (s:aH H H') (h:bV K H a xs):bV K H' a xs:=by
 rcases h with (h | ⟨o,h⟩) | h
 ·exact .inl (.inl (s _ _ h))
 ·exact .inl (.inr ⟨o,s _ _ h⟩)
 ·exact .inr h
mutual
theorem aJ.same (s:aH H H'):∀ {g:G}{v:V},aJ K H g v->aJ K H' g v
 | .non,v,h=>by rw[aJ] at h ⊢;exact h
 | .bl b,v,h=>by rw[aJ] at h ⊢;exact h
 | .int i,v,h=>by rw[aJ] at h ⊢;exact h
 | .str z,v,h=>by rw[aJ] at h ⊢;exact h
 | .tup gs,v,h=>by
  rw[aJ] at h ⊢;obtain⟨a,xs,e,q,l⟩:=h;exact⟨a,xs,e,s.tup q,bH.same s l⟩
 | .lst gs,v,h=>by
  rw[aJ] at h ⊢;obtain⟨a,xs,e,q,l⟩:=h;exact⟨a,xs,e,s.lst q,bH.same s l⟩
theorem bH.same (s:aH H H'):∀ {gs:List G}{vs:List V},bH K H gs vs->bH K H' gs vs
 | [],vs,h=>by rw[bH] at h ⊢;exact h
 | g::gs,vs,h=>by
  rw[bH] at h ⊢;obtain⟨x,r,e,h1,h2⟩:=h;exact⟨x,r,e,aJ.same s h1,bH.same s h2⟩
end
theorem aJ.ut {gs:List G}{v:V} (h:aJ K H (.tup gs) v):∃ a xs,v=.ref a/\cG K H a xs/\bH K H gs xs:=by rw[aJ] at h;exact h
theorem aJ.ul {gs:List G}{v:V} (h:aJ K H (.lst gs) v):∃ a xs,v=.ref a/\bV K H a xs/\bH K H gs xs:=by rw[aJ] at h;exact h
theorem aJ.ui {i:Int}{v:V} (h:aJ K H (.int i) v):v=.int i:=by rw[aJ] at h;exact h
theorem aJ.ub {i:Bool}{v:V} (h:aJ K H (.bl i) v):v=.bl i:=by rw[aJ] at h;exact h
theorem aJ.us {i:Str}{v:V} (h:aJ K H (.str i) v):v=.str i:=by rw[aJ] at h;exact h
theorem aJ.un {v:V} (h:aJ K H .non v):v=.non:=by rw[aJ] at h;exact h
theorem bH.un {g:G}{gs:List G}{xs:List V} (h:bH K H (g::gs) xs):∃ x r,xs=x::r/\aJ K H g x/\bH K H gs r:=by rw[bH] at h;exact h
theorem bH.un0 {xs:List V} (h:bH K H [] xs):xs=[]:=by rw[bH] at h;exact h
end
def rP:G->String
 | .non => "NoneType"
 | .bl _ => "bool"
 | .int _ => "int"
 | .str _ => "str"
 | .tup _ => "tuple"
 | .lst _ => "list"
def vD (g:G) (T:String):Bool:=rP g == T || (rP g == "bool" && T == "int")
def o9:List String:=["tuple","int","bool","str","list"]
theorem uW (K:aaa) {A T:String}{b:Bool} (h:A=T/\b=true\/¬ ((Value.type A == Value.type T)=true)/\PySem.W.kitMeta T=true/\PySem.W.subIn K (.type A) (.type T)=some b):PySem.W.kitOne K (.type A) (.type T)=some b:=by
 unfold PySem.W.kitOne;rcases h with ⟨rfl,rfl⟩ | ⟨h1,h2,h3⟩
 ·rw[if_pos (by simp)]
 ·rw[if_neg h1];show (if PySem.W.kitMeta T=true then PySem.W.subIn K (.type A) (.type T) else none)=some b;rw[if_pos h2,h3]
theorem xM (K:aaa):∀ A∈["NoneType","bool","int","str","tuple","list"],∀ T∈o9,PySem.W.kitOne K (.type A) (.type T)=some (A == T || (A == "bool" && T == "int")):=by
 intro A hA T hT;simp only [o9,aaq,abr,abl,or_false] at hA hT;rcases hA with rfl | rfl | rfl | rfl | rfl | rfl <;> rcases hT with rfl | rfl | rfl | rfl | rfl <;>
  first
   | exact uW K (.inl ⟨rfl,by decide +kernel⟩)
   | exact uW K (.inr ⟨by decide +kernel,by decide +kernel,rfl⟩)
theorem BJ (K:aaa) (g:G) {T:String} (h:T∈o9):PySem.W.kitOne K (.type (rP g)) (.type T)=some (vD g T):=xM K _ (by cases g <;> simp [rP]) T h
def y6 (K:aaa):List V->Hp->VK->Prop:=λ xs H Q=>∃ x T g,xs=[x,.ty T]/\T∈o9/\aJ K H g x/\Q (.bl (vD g T)) H
section
variable {X:Cx}
theorem tF:dC X (.builtin "isinstance") (y6 X.K):=by
 intro pins s σ H xs us Q I r h;obtain⟨x,T,g,rfl,hT,hg,q⟩:=h;obtain⟨u,v,rfl,ru,rv⟩:=r.two;cases rv;have e:=BJ X.K g hT;cases g with
 | non=>rw[aJ] at hg;subst hg;exact eZ I ru .non e λ tk=>⟨.bl _,H,I.tok tk,rfl,q⟩
 | bl b=>rw[aJ] at hg;subst hg;exact eZ I ru (.bl b) e λ tk=>⟨.bl _,H,I.tok tk,rfl,q⟩
 | int b=>rw[aJ] at hg;subst hg;exact eZ I ru (.int b) e λ tk=>⟨.bl _,H,I.tok tk,rfl,q⟩
 | str b=>rw[aJ] at hg;subst hg;exact eZ I ru (.str b) e λ tk=>⟨.bl _,H,I.tok tk,rfl,q⟩
 | tup gs=>
  obtain⟨a,ys,rfl,hq,_⟩:=hg.ut;cases (show u=Value.ref a from ru);obtain⟨its,rv',⟨o,h1,h2,_⟩,_⟩:=I.tuple hq;exact PySem.W.kia_one PySem.W.kitx_tuple I.kIn ⟨o,h1,h2⟩ e (λ z=>nomatch z) λ tk=>⟨.bl _,H,I.tok tk,rfl,q⟩
 | lst gs=>
  obtain⟨a,ys,rfl,hq,_⟩:=hg.ul;cases (show u=Value.ref a from ru);obtain⟨its,rv',⟨o,n,h1,h2,_⟩,_⟩:=I.list hq;exact PySem.W.kia_one PySem.W.kitx_list I.kIn ⟨o,h1,h2⟩ e (λ z=>nomatch z) λ tk=>⟨.bl _,H,I.tok tk,rfl,q⟩
theorem dI {K:aaa} (hK:X.K=K):dC X (.builtin "isinstance") (y6 K):=by subst hK;exact tF
end
end L2
namespace Tw
open PySem L2
def cD (lo hi:Int):G->Bool
 | .int n=>decide (lo<=n) && decide (n<=hi)
 | _=>false
def bP (lo hi:Int):G->Bool
 | .tup gs=>decide (lo<=(gs.length:Int)) && decide ((gs.length:Int)<=hi)
 | _=>false
def wH (lo hi:Int):G->Bool
 | .non=>true
 | g=>cD lo hi g
def AO:G->Bool
 | .bl _=>true
 | _=>false
def fS:List G:=[.str "open",.str "shut",.str "turn"]
def nK (n:Int):G->Bool
 | .tup [t,p]=>wH 0 (n - 1) t && cD 1 60 p
 | _=>false
def m8 (m:Int):G->Bool
 | .tup [w,s]=>vH w fS && cD 0 (m - 1) s
 | _=>false
def lV (n:Int):G->Bool
 | .tup [t,f,d]=>cD 0 (n - 1) t && cD 0 60 f && AO d
 | _=>false
def pQ (sz br:G):Bool:=match sz with
 | .int z=>cD z 200 br
 | _=>false
def m6:G->List G
 | .tup gs=>gs
 | _=>[]
def jB (i n m:Int):G->Bool
 | .tup [sz,br,os,ho,sp,ac]=>cD 1 60 sz && pQ sz br && bP 1 3 os && bP 0 3 ac && (m6 os).all (nK n) && AO ho && wH (i+1) (n - 1) sp && (m6 ac).all (m8 m)
 | _=>false
def sH (n m:Int) (vs:List G):Bool:=vs.zipIdx.all λ p=>jB p.2 n m p.1
def i8:G->Bool
 | .tup [.tup vs,.tup ss]=>decide (1<=vs.length) && decide (vs.length<=12) && decide (ss.length<=12) && sH vs.length ss.length vs && ss.all (lV vs.length)
 | _=>false
theorem iG {n m:Int}{vs:List G}:sH n m vs=true↔∀ (i:Nat) g,vs[i]? = some g->jB i n m g=true:=by
 unfold sH;rw[abo];constructor
 ·intro h i g hg;exact h (g,i) (by rw[List.mem_zipIdx_iff_getElem?];exact hg)
 ·rintro h ⟨g,i⟩ hp;rw[List.mem_zipIdx_iff_getElem?] at hp;exact h i g hp
theorem pW {n m:Int}{vs:List G}{i:Nat}{g:G} (h:vs[i]? = some g) (e:jB i n m g=false):sH n m vs=false:=by
 cases q:sH n m vs with
 | false=>rfl
 | true=>rw[iG.mp q i g h] at e;cases e
theorem eB {lo hi:Int}{g:G} (h:cD lo hi g=true):∃ n,g=.int n/\lo<=n/\n<=hi:=by
 cases g with
 | int n=>simp [cD] at h;exact⟨n,rfl,h⟩
 | _=>simp [cD] at h
theorem y2 {lo hi:Int}{g:G} (h:wH lo hi g=true):∃ t,g=d6 (lT t)/\∀ n,t=some n->lo<=n/\n<=hi:=by
 cases g with
 | non=>exact⟨none,by simp [lT,d6],λ n e=>(by cases e)⟩
 | int n=>simp [wH,cD] at h;exact⟨some n,by simp [lT,d6],λ n e=>by cases e;exact h⟩
 | _=>simp [wH,cD] at h
theorem vF {g:G} (h:AO g=true):∃ b,g=.bl b:=by
 cases g with
 | bl b=>exact⟨b,rfl⟩
 | _=>simp [AO] at h
theorem zL {n:Nat}{g:G} (h:nK n g=true):∃ o,g=d6 (gG o)/\OutOk n o:=by
 unfold nK at h
 split at h
 ·rename_i t p
  rw[Bool.and_eq_true] at h;obtain⟨t',rfl,h1⟩:=y2 h.1;obtain⟨p',rfl,h2,h3⟩:=eB h.2;exact⟨(t',p'),by simp [gG,d6,bZ],⟨λ z e=>by have:=h1 z e;omega,h2,h3⟩⟩
 ·cases h
theorem wG {g:G} (h:vH g fS=true):∃ z:Str,g=.str z/\(z = "open" \/ z = "shut" \/ z = "turn"):=by
 cases g with
 | str z=>
  simp [vH,fS,aS] at h;exact⟨z,rfl,h.imp Eq.symm (Or.imp Eq.symm Eq.symm)⟩
 | _=>simp [vH,fS,aS] at h
theorem AA {m:Nat}{g:G} (h:m8 m g=true):∃ a,g=d6 (dW a)/\ActOk m a:=by
 unfold m8 at h
 split at h
 ·rename_i w s
  rw[Bool.and_eq_true] at h;obtain⟨z,rfl,h1⟩:=wG h.1;obtain⟨p',rfl,h2,h3⟩:=eB h.2;exact⟨(z,p'),by simp [dW,d6,bZ],⟨h1,h2,by show p' < m;omega⟩⟩
 ·cases h
theorem yQ {n:Nat}{g:G} (h:lV n g=true):∃ s:lU,g=d6 (n4 s)/\(0<=s.1/\s.1 < n)/\0<=s.2.1/\s.2.1<=60:=by
 unfold lV at h
 split at h
 ·rw[Bool.and_eq_true,Bool.and_eq_true] at h;obtain⟨t,rfl,h1,h2⟩:=eB h.1.1;obtain⟨f,rfl,h3,h4⟩:=eB h.1.2;obtain⟨b,rfl⟩:=vF h.2;exact⟨(t,f,b),by simp [n4,d6,bZ],⟨h1,by show t < n;omega⟩,h3,h4⟩
 ·cases h
theorem oK {ae:Type}{f:ae->L2.D}{R:ae->Prop}{q:G->Bool} (hq:∀ g,q g=true->∃ a,g=d6 (f a)/\R a):∀ (gs:List G),gs.all q=true->∃ as:List ae,gs=bZ (as.map f)/\∀ a∈as,R a
 | [],_=>⟨[],by simp [bZ],λ a h=>(by cases h)⟩
 | g::gs,h=>by
  rw[List.all_cons,Bool.and_eq_true] at h;obtain⟨a,rfl,ra⟩:=hq g h.1;obtain⟨as,rfl,ras⟩:=oK hq gs h.2;exact⟨a::as,by rw[abg,bZ],λ x hx=>by
   rcases aaq.mp hx with rfl | hx
   ·exact ra
   ·exact ras x hx⟩
theorem eR (ds:List L2.D):(bZ ds).length=ds.length:=by rw[iI,aab]
theorem yJ {i n m:Nat}{g:G} (h:jB i n m g=true):∃ v,g=d6 (jZ v)/\VOk n m v/\VFull i v:=by
 unfold jB at h
 split at h
 ·rename_i sz br os ho sp ac
  simp only [Bool.and_eq_true] at h;obtain⟨⟨⟨⟨⟨⟨⟨h1,h2⟩,h3⟩,h4⟩,h5⟩,h6⟩,h7⟩,h8⟩:=h;obtain⟨s,rfl,s1,s2⟩:=eB h1;obtain⟨b,rfl,b1,b2⟩:=eB (show cD s 200 br=true from h2);obtain⟨ho,rfl⟩:=vF h6;obtain⟨t,rfl,t1⟩:=y2 h7;cases os with
  | tup os=>
   cases ac with
   | tup ac=>
    obtain⟨os,rfl,ro⟩:=oK (λ g=>zL) os h5;obtain⟨ac,rfl,ra⟩:=oK (λ g=>AA) ac h8;simp only [bP,Bool.and_eq_true,decide_eq_true_eq,eR,aab] at h3 h4;refine⟨⟨s,b,os,ho,t,ac⟩,by simp [jZ,d6,bZ],⟨s1,λ e=>?_,by show os.length<=3;omega,ro,λ z e=>by have:=t1 z e;omega,by show ac.length<=3;omega,ra⟩,⟨s2,b1,b2,λ z e=>by have:=t1 z e;omega⟩⟩;have:os=[]:=e;rw[this] at h3;simp at h3
   | _=>simp [bP] at h4
  | _=>simp [bP] at h3
 ·cases h
theorem rB {n m:Nat}:∀ (gs:List G) (k:Nat),(∀ (i:Nat) g,gs[i]? = some g->jB ((k+i:Nat):Int) n m g=true)->∃ vs:List Vs,gs=bZ (vs.map jZ)/\∀ (i:Nat) v,vs[i]? = some v->VOk n m v/\VFull (k+i) v
 | [],_,_=>⟨[],by simp [bZ],λ i v h=>(by simp at h)⟩
 | g::gs,k,h=>by
  obtain⟨v,rfl,hv⟩:=yJ (h 0 g rfl);obtain⟨vs,rfl,hvs⟩:=rB gs (k+1) λ i g hg=>by rw[show k+1+i=k+(i+1) by omega];exact h (i+1) g (by simpa using hg)
  refine⟨v::vs,by rw[abg,bZ],λ i u hu=>?_⟩;cases i with
  | zero=>simp at hu;subst hu;exact hv
  | succ i=>rw[show k+(i+1)=k+1+i by omega];exact hvs i u (by simpa using hu)
theorem x9 {g:G} (h:i8 g=true):∃ net,g=d6 (eX net)/\NetOk net/\NetFull net:=by
 unfold i8 at h
 split at h
 ·rename_i vs ss
  simp only [Bool.and_eq_true,decide_eq_true_eq] at h;obtain⟨⟨⟨⟨h1,h2⟩,h3⟩,h4⟩,h5⟩:=h;obtain⟨vs',rfl,hv⟩:=rB vs 0 λ i g hg=>by rw[Nat.zero_add];exact iG.mp h4 i g hg
  obtain⟨ss',rfl,hs⟩:=oK (λ g=>yQ) ss h5;simp only [eR,aab] at h1 h2 h3 hv hs;refine⟨⟨vs',ss'⟩,by simp [eX,d6,bZ],⟨h1,h2,h3,λ v hm=>?_,λ s hm=>(hs s hm).1⟩,⟨λ i v e=>by have:=(hv i v e).2;rwa [Nat.zero_add] at this,λ s hm=>(hs s hm).2⟩⟩;obtain⟨i,hi⟩:=List.mem_iff_getElem?.1 hm;exact (hv i v hi).1
 ·cases h
end Tw
namespace L2
open PySem PySem.Spec PyProof.Rows TwZ
end L2
namespace Tw
open PySem L2
section
variable {aw:Addr}
def hV (K:aaa):Sp:=λ vs H Q _=>∃ (x:V) (g:G) (lo hi:Int),vs=[x,.int lo,.int hi]/\aJ K H g x/\Q (.bl (bP lo hi g)) H
def eU (K:aaa):Sp:=λ vs H Q _=>∃ (x:V) (g:G) (lo hi:Int),vs=[x,.int lo,.int hi]/\aJ K H g x/\Q (.bl (cD lo hi g)) H
def qG (K:aaa):Sp:=λ vs H Q _=>∃ (x:V) (g:G) (n:Int),vs=[x,.int n]/\aJ K H g x/\Q (.bl (nK n g)) H
def n8 (K:aaa):Sp:=λ vs H Q _=>∃ (x:V) (g:G) (n:Int),vs=[x,.int n]/\aJ K H g x/\Q (.bl (m8 n g)) H
def qE (K:aaa):Sp:=λ vs H Q _=>∃ (x:V) (g:G) (n:Int),vs=[x,.int n]/\aJ K H g x/\Q (.bl (lV n g)) H
def qD (K:aaa):Sp:=λ vs H Q _=>∃ (x:V) (g:G) (i n m:Int),vs=[x,.int i,.int n,.int m]/\aJ K H g x/\∀ H',aH H H'->Q (.bl (jB i n m g)) H'
def qI (K:aaa):Sp:=λ vs H Q _=>∃ (x:V) (g:G),vs=[x]/\aJ K H g x/\∀ H',aH H H'->Q (.bl (i8 g)) H'
theorem nO {f:Addr}{fd:FuncData} (F:Fun K "is_tuple" "is_tuple" (bC 18) f fd) (T:Txt mg):FnOk P w K mg base iE 1 f fd ["thing","least","most"] (hV K):=by
 refine F.ok jP (λ vs H Q E h=>?_) (λ cdv A outer s H vs Q E hr h=>?_)
 ·obtain⟨x,g,lo,hi,rfl,_⟩:=h;rfl
 ·obtain⟨x,g,lo,hi,rfl,hg,k⟩:=h;have sc:=jP;refine⟨_,(aF (aL (d0 (aU (dI (K:=K) rfl) rfl T.b_isinstance bI (aA (pv 0) (aA (bU (v:=.ty "tuple") rfl T.b_tuple bN rfl) aB))) (eF (oV gH gH (pv 1) (lW K T.b_len (pv 0)) (pv 2)))))),?_⟩;refine⟨_,rfl,_,"tuple",g,rfl,by decide,hg,_,rfl,?_⟩;cases g with
  | tup gs=>
   refine cS ?_;obtain⟨a,xs,rfl,q,l⟩:=hg.ut;have el:=l.length;refine⟨_,rfl,_,rfl,a,xs,rfl,.inr q,_,_,rfl,rfl,_,rfl,?_⟩;rw[el];dsimp only [bP] at k;refine dS (λ h=>?_) (λ h=>?_)
   ·rw[h] at k;exact⟨_,rfl,_,_,rfl,rfl,k⟩
   ·rw[Bool.eq_false_iff.mpr h] at k;exact k
  | _=>exact bK k
theorem nN {f:Addr}{fd:FuncData} (F:Fun K "is_whole" "is_whole" (bC 19) f fd) (T:Txt mg):FnOk P w K mg base iE 1 f fd ["thing","least","most"] (eU K):=by
 refine F.ok jO (λ vs H Q E h=>?_) (λ cdv A outer s H vs Q E hr h=>?_)
 ·obtain⟨x,g,lo,hi,rfl,_⟩:=h;rfl
 ·obtain⟨x,g,lo,hi,rfl,hg,k⟩:=h;have sc:=jO;refine⟨_,(aF (aL (d0 (aU (dI (K:=K) rfl) rfl T.b_isinstance bI (aA (pv 0) (aA (bU (v:=.ty "int") rfl T.b_int dO rfl) aB))) (d0 (qN (aU (dI (K:=K) rfl) rfl T.b_isinstance bI (aA (pv 0) (aA (bU (v:=.ty "bool") rfl T.b_bool gW rfl) aB)))) (eF (oV gH gH (pv 1) (pv 0) (pv 2))))))),?_⟩;refine⟨_,rfl,_,"int",g,rfl,by decide,hg,_,rfl,?_⟩;cases g with
  | int n=>
   refine cS ?_;refine⟨_,rfl,_,"bool",.int n,rfl,by decide,hg,_,rfl,_,rfl,cS ?_⟩;obtain rfl:=hg.ui;refine⟨_,rfl,_,rfl,_,_,rfl,rfl,_,rfl,?_⟩;dsimp only [cD] at k;refine dS (λ h=>?_) (λ h=>?_)
   ·rw[h] at k;exact⟨_,rfl,_,_,rfl,rfl,k⟩
   ·rw[Bool.eq_false_iff.mpr h] at k;exact k
  | bl b=>
   refine cS ?_;exact⟨_,rfl,_,"bool",.bl b,rfl,by decide,hg,_,rfl,_,rfl,bK k⟩
  | _=>exact bK k
theorem pY {g:G} (h:bP 2 2 g=true):∃ a b,g=.tup [a,b]:=by
 cases g with
 | tup gs=>
  simp only [bP,Bool.and_eq_true,decide_eq_true_eq] at h
  match gs,h with
  | [a,b],_=>exact⟨a,b,rfl⟩
  | [],h=>simp at h
  | [_],h=>simp at h
  | _::_::_::_,h=>simp at h;omega
 | _=>simp [bP] at h
theorem tN {g:G} (h:bP 3 3 g=true):∃ a b c,g=.tup [a,b,c]:=by
 cases g with
 | tup gs=>
  simp only [bP,Bool.and_eq_true,decide_eq_true_eq] at h
  match gs,h with
  | [a,b,c],_=>exact⟨a,b,c,rfl⟩
  | [],h=>simp at h
  | [_],h=>simp at h
  | [_,_],h=>simp at h
  | _::_::_::_::_,h=>simp at h;omega
 | _=>simp [bP] at h
theorem yU {g:G} (h:bP 6 6 g=true):∃ a b c d e f,g=.tup [a,b,c,d,e,f]:=by
 cases g with
 | tup gs=>
  simp only [bP,Bool.and_eq_true,decide_eq_true_eq] at h
  match gs,h with
  | [a,b,c,d,e,f],_=>exact⟨a,b,c,d,e,f,rfl⟩
  | [],h=>simp at h
  | [_],h=>simp at h
  | [_,_],h=>simp at h
  | [_,_,_],h=>simp at h
  | [_,_,_,_],h=>simp at h
  | [_,_,_,_,_],h=>simp at h
  | _::_::_::_::_::_::_::_,h=>simp at h;omega
 | _=>simp [bP] at h
theorem zM {n:Int}{g:G} (h:bP 2 2 g=false):nK n g=false:=by
 unfold nK;split
 ·simp [bP] at h
 ·rfl
theorem AB {n:Int}{g:G} (h:bP 2 2 g=false):m8 n g=false:=by
 unfold m8;split
 ·simp [bP] at h
 ·rfl
theorem yR {n:Int}{g:G} (h:bP 3 3 g=false):lV n g=false:=by
 unfold lV;split
 ·simp [bP] at h
 ·rfl
theorem yK {i n m:Int}{g:G} (h:bP 6 6 g=false):jB i n m g=false:=by
 unfold jB;split
 ·simp [bP] at h
 ·rfl
theorem rS {H:Hp}{g:G}{x:V} (h:aJ K H g x):(x=.non/\g=.non)\/(x≠.non/\g≠.non):=by
 cases g with
 | non=>exact .inl ⟨h.un,rfl⟩
 | bl b=>exact .inr ⟨by rw[h.ub];exact λ z=>(by cases z),λ z=>(by cases z)⟩
 | int b=>exact .inr ⟨by rw[h.ui];exact λ z=>(by cases z),λ z=>(by cases z)⟩
 | str b=>exact .inr ⟨by rw[h.us];exact λ z=>(by cases z),λ z=>(by cases z)⟩
 | tup gs=>obtain⟨a,xs,rfl,_⟩:=h.ut;exact .inr ⟨λ z=>(by cases z),λ z=>(by cases z)⟩
 | lst gs=>obtain⟨a,xs,rfl,_⟩:=h.ul;exact .inr ⟨λ z=>(by cases z),λ z=>(by cases z)⟩
theorem tO {lo hi:Int}{g:G} (h:g≠.non):wH lo hi g=cD lo hi g:=by
 cases g <;> first | exact absurd rfl h | rfl
theorem qQ {f f1 f2:Addr}{fd fd1 fd2:FuncData} (F:Fun K "is_out" "is_out" (bC 15) f fd) (T:Txt mg) (U:TxtN K mg aw) (G_is_tuple:Callee P w K mg base "is_tuple" ["thing","least","most"] 1 (hV K) f1 fd1)
  (G_is_whole:Callee P w K mg base "is_whole" ["thing","least","most"] 1 (eU K) f2 fd2):FnOk P w K mg base iE 2 f fd ["thing","vessel_count"] (qG K):=by
 refine F.ok mE (λ vs H Q E h=>?_) (λ cdv A outer s H vs Q E hr h=>?_)
 ·obtain⟨x,g,n,rfl,_⟩:=h;rfl
 ·obtain⟨x,g,n,rfl,hg,k⟩:=h;have sc:=mE;refine⟨_,(aE (bL (aW (aV (cJ G_is_tuple hr (aA (pv 0) (aA aC (aA aC aB)))))) (aF (aL cM)) aQ)
   (aE (cP (pv 0) (bT (K:=K) (n:=2) rfl rfl (aG (gL 2 sc.nd) (aG (gL 3 sc.nd) bJ))))
   (aF (aL (d0 (uE (cK kX (pv 2) fI (aR _)) (eF (cJ G_is_whole hr (aA (pv 2) (aA aC (aA (aT eG (pv 1) aC) aB)))))) (eF (cJ G_is_whole hr (aA (pv 3) (aA aC (aA (cX rfl U.g_MOST_PARTS) aB)))))))))),?_⟩
  refine⟨_,rfl,x,g,2,2,rfl,hg,_,rfl,?_⟩;cases e:bP 2 2 g with
  | false=>refine cS ?_;rw[zM e] at k;exact k
  | true=>
   refine bK ?_;obtain⟨t,p,rfl⟩:=pY e;obtain⟨a,xs,rfl,q,l⟩:=hg.ut;obtain⟨xt,r,rfl,ht,l⟩:=l.un;obtain⟨xp,r,rfl,hp,l⟩:=l.un;obtain rfl:=l.un0;refine⟨_,rfl,a,_,rfl,q,rfl,_,_,rfl,_,_,rfl,rfl,?_⟩;dsimp only [nK] at k;rcases rS ht with ⟨rfl,rfl⟩ | ⟨n1,n2⟩
   ·refine⟨_,rfl,rfl,_,rfl,oA rfl ⟨_,rfl,cS ?_⟩⟩;exact⟨_,rfl,xp,p,1,60,rfl,hp,k⟩
   ·refine⟨_,rfl,rfl,_,rfl,?_⟩;rw[abf n1];refine bK ⟨_,rfl,_,rfl,_,_,rfl,rfl,xt,t,0,_,rfl,ht,_,rfl,?_⟩;rw[tO n2] at k;refine dS (λ h=>?_) (λ h=>?_)
    ·rw[h] at k;exact⟨_,rfl,xp,p,1,60,rfl,hp,k⟩
    ·rw[Bool.eq_false_iff.mpr h] at k;exact k
theorem qS {f f1 f2:Addr}{fd fd1 fd2:FuncData} (F:Fun K "is_act" "is_act" (bC 16) f fd) (T:Txt mg) (U:TxtN K mg aw) (G_is_tuple:Callee P w K mg base "is_tuple" ["thing","least","most"] 1 (hV K) f1 fd1)
  (G_is_whole:Callee P w K mg base "is_whole" ["thing","least","most"] 1 (eU K) f2 fd2):FnOk P w K mg base iE 2 f fd ["thing","spout_count"] (n8 K):=by
 refine F.ok mG (λ vs H Q E h=>?_) (λ cdv A outer s H vs Q E hr h=>?_)
 ·obtain⟨x,g,n,rfl,_⟩:=h;rfl
 ·obtain⟨x,g,n,rfl,hg,k⟩:=h;have sc:=mG;refine⟨_,(aE (bL (aW (aV (cJ G_is_tuple hr (aA (pv 0) (aA aC (aA aC aB)))))) (aF (aL cM)) aQ)
   (aE (cP (pv 0) (bT (K:=K) (n:=2) rfl rfl (aG (gL 2 sc.nd) (aG (gL 3 sc.nd) bJ))))
   (aF (aL (d0 (cK (wW (K:=K) rfl hr.units) (pv 2) (cX rfl U.g_ACT_WORDS) (by rfl)) (eF (cJ G_is_whole hr (aA (pv 3) (aA aC (aA (aT eG (pv 1) aC) aB)))))))))),?_⟩
  refine⟨_,rfl,x,g,2,2,rfl,hg,_,rfl,?_⟩;cases e:bP 2 2 g with
  | false=>refine cS ?_;rw[AB e] at k;exact k
  | true=>
   refine bK ?_;obtain⟨t,p,rfl⟩:=pY e;obtain⟨a,xs,rfl,q,l⟩:=hg.ut;obtain⟨xt,r,rfl,ht,l⟩:=l.un;obtain⟨xp,r,rfl,hp,l⟩:=l.un;obtain rfl:=l.un0;refine⟨_,rfl,a,_,rfl,q,rfl,_,_,rfl,_,_,rfl,rfl,?_⟩;dsimp only [m8] at k;refine⟨_,rfl,t,aw,fS,_,rfl,.inr (U.words H),by decide,ht,.cons (.s _) (.cons (.s _) (.cons (.s _) .nil)),_,rfl,?_⟩;refine dS (λ h=>?_) (λ h=>?_)
   ·have h:vH t fS=true:=h;rw[h] at k;exact⟨_,rfl,_,rfl,_,_,rfl,rfl,xp,p,0,_,rfl,hp,k⟩
   ·have h:vH t fS=false:=Bool.eq_false_iff.mpr h;rw[h] at k;exact k
theorem nP {f f1 f2:Addr}{fd fd1 fd2:FuncData} (F:Fun K "is_spout" "is_spout" (bC 17) f fd) (T:Txt mg) (U:TxtN K mg aw) (G_is_tuple:Callee P w K mg base "is_tuple" ["thing","least","most"] 1 (hV K) f1 fd1)
  (G_is_whole:Callee P w K mg base "is_whole" ["thing","least","most"] 1 (eU K) f2 fd2):FnOk P w K mg base iE 2 f fd ["thing","vessel_count"] (qE K):=by
 refine F.ok jQ (λ vs H Q E h=>?_) (λ cdv A outer s H vs Q E hr h=>?_)
 ·obtain⟨x,g,n,rfl,_⟩:=h;rfl
 ·obtain⟨x,g,n,rfl,hg,k⟩:=h;have sc:=jQ;refine⟨_,(aE (bL (aW (aV (cJ G_is_tuple hr (aA (pv 0) (aA aC (aA aC aB)))))) (aF (aL cM)) aQ)
   (aE (cP (pv 0) (bT (K:=K) (n:=3) rfl rfl (aG (gL 2 sc.nd) (aG (gL 3 sc.nd) (aG (gL 4 sc.nd) bJ)))))
   (aF (aL (d0 (cJ G_is_whole hr (aA (pv 2) (aA aC (aA (aT eG (pv 1) aC) aB)))) (d0 (cJ G_is_whole hr (aA (pv 3) (aA aC (aA (cX rfl U.g_MOST_FLOW) aB)))) (eF (aU (dI (K:=K) rfl) rfl T.b_isinstance bI (aA (pv 4) (aA (bU (v:=.ty "bool") rfl T.b_bool gW rfl) aB)))))))))),?_⟩
  refine⟨_,rfl,x,g,3,3,rfl,hg,_,rfl,?_⟩;cases e:bP 3 3 g with
  | false=>refine cS ?_;rw[yR e] at k;exact k
  | true=>
   refine bK ?_;obtain⟨t,p,d,rfl⟩:=tN e;obtain⟨a,xs,rfl,q,l⟩:=hg.ut;obtain⟨xt,r,rfl,ht,l⟩:=l.un;obtain⟨xp,r,rfl,hp,l⟩:=l.un;obtain⟨xd,r,rfl,hd,l⟩:=l.un;obtain rfl:=l.un0;refine⟨_,rfl,a,_,rfl,q,rfl,_,_,rfl,_,_,rfl,_,_,rfl,rfl,?_⟩;dsimp only [lV] at k;refine⟨_,rfl,_,rfl,_,_,rfl,rfl,xt,t,0,_,rfl,ht,_,rfl,dS (λ h=>?_) (λ h=>?_)⟩
   ·rw[h,Bool.true_and] at k;refine⟨_,rfl,xp,p,0,60,rfl,hp,_,rfl,dS (λ h=>?_) (λ h=>?_)⟩
    ·rw[h,Bool.true_and] at k;refine⟨_,rfl,_,"bool",d,rfl,by decide,hd,?_⟩;rw[show vD d "bool" = AO d by cases d <;> rfl];exact k
    ·rw[Bool.eq_false_iff.mpr h] at k;exact k
   ·rw[Bool.eq_false_iff.mpr h] at k;exact k
theorem o8 {te:TE}{H:Hp}{fr:List (Option Nat)}{σ:St}{ra:Addr}{xs:List V}{gs:List G}{q:G->Bool}{rest:List (Option V)}{Q:Addr->Hp->Prop} (hv:cG K H ra xs) (hl:bH K H gs xs) (hf:wC fr σ=none::rest)
  (hn:gs.length<=1000) (ht:∀ x g H' (Q:V->Hp->Prop),aH H H'->aJ K H' g x->Q (.bl (q g)) H'->te (some x::rest) H' Q) (k:∀ D H',aH H H'->H' D=some (.lst ((gs.map q).map V.bl))->Q D H'):jJ (AI K ra) (bS 0) tQ te fr σ H Q:=by
 have hlen:=hl.length;refine gJ (K:=K) (a:=ra) (xs:=xs) (λ D i ys Z H'=>H D=none/\aH H H'/\H' D=some (.lst ys)/\ys=(((gs.take i).map q).map V.bl)/\∃ u,Z=u::rest)
  (λ D i r Z H' p=>p.2.1.tup hv) (λ D hD=>⟨hD,aH.new hD,aD,rfl,none,hf⟩) ?_ ?_
 ·rintro D r Z H3 ⟨hDn,sm,hDl,rfl,_⟩;rw[hlen,List.take_length] at hDl;exact k D H3 sm hDl
 ·rintro D i y r Z H3 hy ⟨hDn,sm,hDl,rfl,u,rfl⟩;have hi:=(aan.mp hy).1;obtain⟨g,hg,ig⟩:=hl.get' hy;refine lG ?_;refine ht y g H3 _ sm (aJ.same sm ig) ⟨hDl,fT (by rw[aab,aab,abk];omega),hDn,sm.put hDn,aD,?_,_,rfl⟩;rw[List.take_add_one,hg,aah,aah];rfl
theorem rA (gs:List G) (q:G->Bool):(gs.map q).all id=gs.all q:=by rw[List.all_map];rfl
theorem lZ {f f1 f2 f3 f4:Addr}{fd fd1 fd2 fd3 fd4:FuncData} (F:Fun K "is_vessel" "is_vessel" (bC 14) f fd) (T:Txt mg) (U:TxtN K mg aw) (G_is_tuple:Callee P w K mg base "is_tuple" ["thing","least","most"] 1 (hV K) f1 fd1)
  (G_is_whole:Callee P w K mg base "is_whole" ["thing","least","most"] 1 (eU K) f2 fd2) (G_is_out:Callee P w K mg base "is_out" ["thing","vessel_count"] 2 (qG K) f3 fd3) (G_is_act:Callee P w K mg base "is_act" ["thing","spout_count"] 2 (n8 K) f4 fd4):FnOk P w K mg base iE 3 f fd ["thing","number","vessel_count","spout_count"] (qD K):=by
 refine F.ok iP (λ vs H Q E h=>?_) (λ cdv A outer s H vs Q E hr h=>?_)
 ·obtain⟨x,g,i,n,m,rfl,_⟩:=h;rfl
 ·obtain⟨x,g,i,n,m,rfl,hg,k⟩:=h;have sc:=iP;refine⟨_,(aE (bL (aW (aV (cJ G_is_tuple hr (aA (pv 0) (aA aC (aA aC aB)))))) (aF (aL cM)) aQ)
   (aE (cP (pv 0) (bT (K:=K) (n:=6) rfl rfl (aG (gL 4 sc.nd) (aG (gL 5 sc.nd) (aG (gL 6 sc.nd) (aG (gL 7 sc.nd) (aG (gL 8 sc.nd) (aG (gL 9 sc.nd) bJ))))))))
   (aE (bL (PW.pt (cU (aW (aV (cJ G_is_whole hr (aA (pv 4) (aA aC (aA (cX rfl U.g_MOST_SIZE) aB)))))) (cO (aW (aV (cJ G_is_whole hr (aA (pv 5) (aA (pv 4) (aA (cX rfl U.g_MOST_BRIM) aB))))))))) (aF (aL cM)) aQ)
   (aE (bL (PW.pt (cU (aW (aV (cJ G_is_tuple hr (aA (pv 6) (aA aC (aA (cX rfl U.g_MOST_OUTS) aB)))))) (cO (aW (aV (cJ G_is_tuple hr (aA (pv 9) (aA aC (aA (cX rfl U.g_MOST_ACTS) aB))))))))) (aF (aL cM)) aQ)
   (aF (aL (d0 (aU (gU (K:=K) rfl rfl) rfl T.b_all PyProof.Rows.boot_all (aA (hR (λ _ _ h=>h) rfl (LcOk.mk (N':=["out","vessel_count"]) (fr:=[none,some 2]) rfl ⟨rfl,trivial⟩ rfl rfl rfl rfl rfl ⟨⟨_,rfl,rfl,rfl,rfl⟩,trivial⟩) (cB (K:=K) rfl (pv 6)) (λ _ _ _=>(gC 0 ["out","vessel_count"])) (λ _ _ _=>dA) (λ _ _ _=>(cJ G_is_out hr (aA (pv 0) (aA (pv 1) aB))))) aB)) (d0 (aU (dI (K:=K) rfl) rfl T.b_isinstance bI (aA (pv 7) (aA (bU (v:=.ty "bool") rfl T.b_bool gW rfl) aB))) (d0 (uE (cK kX (pv 8) fI (aR _)) (eF (cJ G_is_whole hr (aA (pv 8) (aA (aT cW (pv 1) aC) (aA (aT eG (pv 2) aC) aB)))))) (eF (aU (gU (K:=K) rfl rfl) rfl T.b_all PyProof.Rows.boot_all (aA (hR (λ _ _ h=>h) rfl (LcOk.mk (N':=["act","spout_count"]) (fr:=[none,some 3]) rfl ⟨rfl,trivial⟩ rfl rfl rfl rfl rfl ⟨⟨_,rfl,rfl,rfl,rfl⟩,trivial⟩) (cB (K:=K) rfl (pv 9)) (λ _ _ _=>(gC 0 ["act","spout_count"])) (λ _ _ _=>dA) (λ _ _ _=>(cJ G_is_act hr (aA (pv 0) (aA (pv 1) aB))))) aB)))))))))))),?_⟩
  refine⟨_,rfl,x,g,6,6,rfl,hg,_,rfl,?_⟩;cases e:bP 6 6 g with
  | false=>refine cS ?_;have k:=k H (aH.refl _);rw[yK e] at k;exact k
  | true=>
   refine bK ?_;obtain⟨sz,br,os,ho,sp,ac,rfl⟩:=yU e;obtain⟨a,xs,rfl,q,l⟩:=hg.ut;obtain⟨x1,r,rfl,i1,l⟩:=l.un;obtain⟨x2,r,rfl,i2,l⟩:=l.un;obtain⟨x3,r,rfl,i3,l⟩:=l.un;obtain⟨x4,r,rfl,i4,l⟩:=l.un;obtain⟨x5,r,rfl,i5,l⟩:=l.un;obtain⟨x6,r,rfl,i6,l⟩:=l.un;obtain rfl:=l.un0;refine⟨_,rfl,a,_,rfl,q,rfl,_,_,rfl,_,_,rfl,_,_,rfl,_,_,rfl,_,_,rfl,_,_,rfl,rfl,?_⟩;dsimp only [jB] at k;have kF:∀ b:Bool,b=false->(∀ H',aH H H'->Q (.bl b) H')->Q (.bl false) H:=λ b e k=>by rw[e] at k;exact k H (aH.refl _)
   refine⟨_,rfl,x1,sz,1,60,rfl,i1,_,rfl,?_⟩;cases e1:cD 1 60 sz with
   | false=>refine cS (cS ?_);exact kF _ (by rw[e1];rfl) k
   | true=>
   refine bK ?_;obtain⟨z,rfl,_⟩:=eB e1;obtain rfl:=i1.ui;refine⟨_,rfl,_,rfl,x2,br,z,200,rfl,i2,_,rfl,?_⟩;cases e2:cD z 200 br with
   | false=>refine cS ?_;exact kF _ (by rw[e1,show pQ (.int z) br=false from e2];rfl) k
   | true=>
   refine bK ?_;refine⟨_,rfl,x3,os,1,3,rfl,i3,_,rfl,?_⟩;cases e3:bP 1 3 os with
   | false=>refine cS (cS ?_);exact kF _ (by rw[e1,show pQ (.int z) br=true from e2,e3];rfl) k
   | true=>
   refine bK ?_;refine⟨_,rfl,x6,ac,0,3,rfl,i6,_,rfl,?_⟩;cases e4:bP 0 3 ac with
   | false=>refine cS ?_;exact kF _ (by rw[e1,show pQ (.int z) br=true from e2,e3,e4];rfl) k
   | true=>
   refine bK ?_;rw[e1,show pQ (.int z) br=true from e2,e3,e4] at k;simp only [Bool.true_and] at k;cases os with
   | tup os=>
    cases ac with
    | tup ac=>
     obtain⟨oa,oxs,rfl,qo,lo⟩:=i3.ut;obtain⟨ca,cxs,rfl,qc,lc⟩:=i6.ut;simp only [bP,Bool.and_eq_true,decide_eq_true_eq] at e3 e4;dsimp only [m6] at k;refine⟨_,rfl,oa,rfl,⟨_,qo⟩,o8 (q:=nK n) (rest:=[some (.int n)]) qo lo rfl (by omega) (λ x g H' Q' s' ig k'=>⟨_,rfl,_,rfl,x,g,n,rfl,ig,k'⟩) λ D1 H1 s1 hD1=>?_⟩;refine⟨false,D1,_,rfl,bV.of hD1,_,rfl,?_⟩;rw[rA];refine dS (λ h=>?_) (λ h=>?_);rotate_left
     ·rw[Bool.eq_false_iff.mpr h] at k;exact k _ s1
     rw[h] at k;simp only [Bool.true_and] at k;refine⟨_,rfl,_,"bool",ho,rfl,by decide,aJ.same s1 i4,_,rfl,?_⟩;rw[show vD ho "bool" = AO ho by cases ho <;> rfl];refine dS (λ h=>?_) (λ h=>?_);rotate_left
     ·rw[Bool.eq_false_iff.mpr h] at k;exact k _ s1
     rw[h] at k;simp only [Bool.true_and] at k;have fin:∀ H2,aH H H2->(∀ H',aH H H'->Q (.bl (ac.all (m8 m))) H')->wJ (zC K) (cE (tLC (A5 K (bW 9)) [none,some 3] (bS 0) tQ (iJ (n8 K) [] E0 (cE (bW 0) (cE (bW 1) fP)))) fP) [some (.ref a),some (.int i),some (.int n),some (.int m),some (.int z),some x2,some (.ref oa),some x4,some x5,some (.ref ca)] H2 Q:=λ H2 s2 k2=>by
      refine⟨_,rfl,ca,rfl,⟨_,s2.tup qc⟩,o8 (q:=m8 m) (rest:=[some (.int m)]) (s2.tup qc) (bH.same s2 lc) rfl (by omega) (λ x g H' Q' s' ig k'=>⟨_,rfl,_,rfl,x,g,m,rfl,ig,k'⟩) λ D2 H3 s3 hD2=>?_⟩;refine⟨false,D2,_,rfl,bV.of hD2,?_⟩;rw[rA];exact k2 _ (s2.trans s3)
     rcases rS i5 with ⟨rfl,rfl⟩ | ⟨n1,n2⟩
     ·refine⟨_,rfl,rfl,_,rfl,oA rfl ⟨_,rfl,cS ?_⟩⟩;exact fin _ s1 k
     ·refine⟨_,rfl,rfl,_,rfl,?_⟩;rw[abf n1];refine bK ⟨_,rfl,_,rfl,_,_,rfl,rfl,_,rfl,_,_,rfl,rfl,x5,sp,i+1,n - 1,rfl,aJ.same s1 i5,_,rfl,?_⟩;rw[tO n2] at k;refine dS (λ h=>?_) (λ h=>?_)
      ·rw[h] at k;exact fin _ s1 k
      ·rw[Bool.eq_false_iff.mpr h] at k;exact k _ s1
    | _=>simp [bP] at e4
   | _=>simp [bP] at e3
theorem xB {g:G} (h:bP 2 2 g=false):i8 g=false:=by
 unfold i8;split
 ·simp [bP] at h
 ·rfl
theorem xA {a b:G}:i8 (.tup [a,b])=(bP 1 12 a && bP 0 12 b && sH (m6 a).length (m6 b).length (m6 a) && (m6 b).all (lV (m6 a).length)):=by
 cases a with
 | tup vs=>
  cases b with
  | tup ss=>
   simp only [i8,bP,m6];rw[show decide ((1:Int)<=(vs.length:Int))=decide (1<=vs.length) by congr 1;simp;omega,show decide ((vs.length:Int)<=12)=decide (vs.length<=12) by congr 1;simp;omega,show decide ((0:Int)<=(ss.length:Int))=true by simp,show decide ((ss.length:Int)<=12)=decide (ss.length<=12) by congr 1;simp;omega,Bool.true_and]
  | _=>simp [i8,bP]
 | _=>simp [i8,bP]
theorem qR {f f1 f2 f3:Addr}{fd fd1 fd2 fd3:FuncData} (F:Fun K "is_net" "is_net" (bC 13) f fd) (T:Txt mg) (U:TxtN K mg aw) (G_is_tuple:Callee P w K mg base "is_tuple" ["thing","least","most"] 1 (hV K) f1 fd1)
  (G_is_vessel:Callee P w K mg base "is_vessel" ["thing","number","vessel_count","spout_count"] 3 (qD K) f2 fd2) (G_is_spout:Callee P w K mg base "is_spout" ["thing","vessel_count"] 2 (qE K) f3 fd3):FnOk P w K mg base iE 4 f fd ["thing"] (qI K):=by
 refine F.ok mF (λ vs H Q E h=>?_) (λ cdv A outer s H vs Q E hr h=>?_)
 ·obtain⟨x,g,rfl,_⟩:=h;rfl
 ·obtain⟨x,g,rfl,hg,k⟩:=h;have sc:=mF;refine⟨_,(aE (bL (aW (aV (cJ G_is_tuple hr (aA (pv 0) (aA aC (aA aC aB)))))) (aF (aL cM)) aQ)
   (aE (cP (pv 0) (bT (K:=K) (n:=2) rfl rfl (aG (nJ (i:=1) sc.nd rfl (Or.inr rfl)) (aG (gL 2 sc.nd) bJ))))
   (aE (bL (PW.pt (cU (aW (aV (cJ G_is_tuple hr (aA (pv 1) (aA aC (aA (cX rfl U.g_MOST_VESSELS) aB)))))) (cO (aW (aV (cJ G_is_tuple hr (aA (pv 2) (aA aC (aA (cX rfl U.g_MOST_SPOUTS) aB))))))))) (aF (aL cM)) aQ)
   (aE (cZ PassesOwn.never rfl (uB (K:=K) rfl rfl T.b_enumerate (aA (pv 1) aB)) (bT (K:=K) (n:=2) rfl rfl (aG (gL 3 sc.nd) (aG (gL 4 sc.nd) bJ))) (aF (bL (aW (aV (cJ G_is_vessel hr (aA (pv 4) (aA (pv 3) (aA (lW K T.b_len (pv 1)) (aA (lW K T.b_len (pv 2)) aB))))))) (aF (aL cM)) aQ)))
   (aF (aL (aU (gU (K:=K) rfl rfl) rfl T.b_all PyProof.Rows.boot_all (aA (hR (λ _ _ h=>h) rfl (LcOk.mk (N':=["spout","vessels"]) (fr:=[none,some 1]) rfl ⟨rfl,trivial⟩ rfl rfl rfl rfl rfl ⟨⟨_,rfl,rfl,rfl,rfl⟩,trivial⟩) (cB (K:=K) rfl (pv 2)) (λ _ _ _=>(gC 0 ["spout","vessels"])) (λ _ _ _=>dA) (λ _ _ _=>(cJ G_is_spout hr (aA (pv 0) (aA (lW K T.b_len (pv 1)) aB))))) aB)))))))),?_⟩
  refine⟨_,rfl,x,g,2,2,rfl,hg,_,rfl,?_⟩;cases e:bP 2 2 g with
  | false=>refine cS ?_;have k:=k H (aH.refl _);rw[xB e] at k;exact k
  | true=>
   refine bK ?_;obtain⟨vs,ss,rfl⟩:=pY e;obtain⟨a,xs,rfl,q,l⟩:=hg.ut;obtain⟨x1,r,rfl,i1,l⟩:=l.un;obtain⟨x2,r,rfl,i2,l⟩:=l.un;obtain rfl:=l.un0;refine⟨_,rfl,a,_,rfl,q,rfl,_,_,rfl,_,_,rfl,rfl,?_⟩;rw[xA] at k;refine⟨_,rfl,x1,vs,1,12,rfl,i1,_,rfl,?_⟩;cases e1:bP 1 12 vs with
   | false=>refine cS (cS ?_);rw[e1] at k;exact k H (aH.refl _)
   | true=>
   refine bK ?_;refine⟨_,rfl,x2,ss,0,12,rfl,i2,_,rfl,?_⟩;cases e2:bP 0 12 ss with
   | false=>refine cS ?_;rw[e1,e2] at k;exact k H (aH.refl _)
   | true=>
   refine bK ?_;rw[e1,e2] at k;simp only [Bool.true_and] at k;cases vs with
   | tup vs=>
    cases ss with
    | tup ss=>
     obtain⟨va,vxs,rfl,qv,lv⟩:=i1.ut;obtain⟨sa,sxs,rfl,qs,ls⟩:=i2.ut;simp only [bP,Bool.and_eq_true,decide_eq_true_eq] at e1 e2;dsimp only [m6] at k;have evl:=lv.length;have esl:=ls.length;refine⟨_,rfl,true,va,rfl,⟨_,qv⟩,vR (K:=K) (xs:=vxs) (λ i Z H'=>aH H H'/\(∀ (j:Nat) g,j < i->vs[j]? = some g->jB j vs.length ss.length g=true)/\∃ v3 v4,Z=[some (.ref a),some (.ref va),some (.ref sa),v3,v4]) (λ i Z H' h=>h.1.tup qv) ⟨aH.refl _,λ j g h=>absurd h (Nat.not_lt_zero _),_,_,rfl⟩ ?_ ?_⟩
     ·rintro Z H1 ⟨s1,hall,v3,v4,rfl⟩;rw[iG.mpr λ i g hg=>hall i g (by have:=(aan.mp hg).1;omega) hg] at k;simp only [Bool.true_and] at k;refine⟨_,rfl,sa,rfl,⟨_,s1.tup qs⟩,o8 (q:=lV vs.length) (rest:=[some (.ref va)]) (s1.tup qs) (bH.same s1 ls) rfl (by omega) (λ x g H' Q' s' ig k'=>⟨_,rfl,_,rfl,va,vxs,rfl,.inr ((s1.trans s').tup qv),x,g,_,rfl,ig,by rw[evl];exact k'⟩) λ D2 H3 s3 hD2=>?_⟩;refine⟨false,D2,_,rfl,bV.of hD2,?_⟩;rw[rA];exact k _ (s1.trans s3)
     ·rintro i xi Z H1 Tt hxi ⟨s1,hall,v3,v4,rfl⟩ hTt;obtain⟨g,hg,ig⟩:=lv.get' hxi;have s2:=aH.new (o:=HO.tup [.int (i:Int),xi]) hTt;refine⟨Tt,_,rfl,cG.of aD,rfl,_,_,rfl,_,_,rfl,rfl,?_⟩;generalize upd H1 Tt (HO.tup [.int (i:Int),xi])=H2 at s2 ⊢;have s12:=s1.trans s2;refine⟨_,rfl,_,rfl,_,rfl,va,vxs,rfl,.inr (s12.tup qv),_,rfl,sa,sxs,rfl,.inr (s12.tup qs),xi,g,i,_,_,rfl,aJ.same s12 ig,λ H3 s3=>⟨_,rfl,?_⟩⟩;rw[evl,esl];cases e:jB i vs.length ss.length g with
      | false=>
       refine cS ?_;rw[pW hg e] at k;exact k _ (s12.trans s3)
      | true=>
       refine bK ?_;refine⟨s12.trans s3,λ j g' hj hg'=>?_,_,_,rfl⟩;rcases (show j < i\/j=i by omega) with z | rfl
       ·exact hall j g' z hg'
       ·rw[hg] at hg';cases hg';exact e
    | _=>simp [bP] at e2
   | _=>simp [bP] at e1
end
structure TxtF (mg:Str->Option Value):Prop where
 g_MOST_FIGURES:∃ u,mg "MOST_FIGURES" = some u/\aX (.int 9) u
def mX:Sp:=λ vs H Q _=>∃ x:Str,vs=[.str x]/\gY x/\x.length<=1000000/\Q (.bl (bQ x).isSome) H
theorem iQ:FnScope ["word"] ["word"] (aI (bC 33)):={}
theorem nQ {f:Addr}{fd:FuncData} (F:Fun K "is_number" "is_number" (bC 33) f fd) (T:Txt mg) (TS:TxtS mg) (UF:TxtF mg):FnOk P w K mg base iE 1 f fd ["word"] mX:=by
 refine F.ok iQ (λ vs H Q E h=>?_) (λ cdv A outer s H vs Q E hr h=>?_)
 ·obtain⟨x,rfl,_⟩:=h;rfl
 ·obtain⟨x,rfl,ha,hl,k⟩:=h;have sc:=iQ;refine⟨_,(aF (aL (d0 (zI (K:=K) rfl PySem.F.slot_str_isdecimal PySem.F.type_str_isdecimal uR (pv 0)) (d0 (cK gH (aU tD rfl T.b_len PySem.boot_len (aA (pv 0) aB)) (cX rfl UF.g_MOST_FIGURES) (aR _)) (eF (cK eV (aM cT rfl TS.b_str cQ (aA (aM mJ rfl T.b_int dO (aA (pv 0) aB)) aB)) (pv 0) (aR _))))))),?_⟩;refine⟨_,rfl,rfl,x,rfl,rfl,?_⟩;rcases tY ha with ⟨h1,h2⟩ | ⟨h1,h2,h3⟩ | ⟨n,h1,h2,h3,h4,h5,h6⟩
  ·rw[h2] at k;rw[h1];exact⟨_,rfl,bK k⟩
  ·rw[h3] at k;rw[h1];exact⟨_,rfl,cS ⟨_,rfl,x,rfl,hl,_,_,rfl,rfl,_,rfl,dS (λ z=>absurd (aba z) (by omega)) λ _=>k⟩⟩
  ·rw[h6] at k;rw[h1];refine⟨_,rfl,cS ⟨_,rfl,x,rfl,hl,_,_,rfl,rfl,_,rfl,oA (by omega) ?_⟩⟩;refine⟨_,rfl,x,n,rfl,h3,by omega,.int n,aN n,rfl,d8 h4 h5,_,rfl,rfl,?_⟩;rw[show decide (V.str (aN n)=V.str x)=decide (aN n=x) by simp];exact k
def gO (c:Addr):Sp:=λ vs H Q E=>∃ x:Str,vs=[.str x]/\gY x/\x.length<=1000000/\(∀ n,bQ x=some n->Q (.int n) H)/\(bQ x=none->E (.ref c) none H)
theorem fZ:FnScope ["word"] ["word"] (aI (bC 32)):={}
theorem lC {f f1:Addr}{fd fd1:FuncData} (F:Fun K "read_number" "read_number" (bC 32) f fd) (T:Txt mg) (XC_NoText:ExC K "NoText" c_NoText) (G_is_number:Callee P w K mg base "is_number" ["word"] 1 mX f1 fd1):FnOk P w K mg base (sG P w) 2 f fd ["word"] (gO c_NoText):=by
 refine F.okR fZ (λ vs H Q E h=>?_) (λ cdv A outer s H vs Q E hr h L=>?_)
 ·obtain⟨x,rfl,_⟩:=h;rfl
 ·obtain⟨x,rfl,ha,hl,k1,k2⟩:=h;have sc:=fZ;refine⟨_,(aE (bL (aW (aV (cJ G_is_number hr (aA (pv 0) aB)))) (aF (iY L rfl rfl XC_NoText.exc XC_NoText.ns PySem.F.excBase_ValueError (aA aK aB))) aQ)
   (aF (aL (aM mJ rfl T.b_int dO (aA (pv 0) aB))))),?_⟩
  refine⟨_,rfl,x,rfl,ha,hl,_,rfl,?_⟩;cases e:bQ x with
  | none=>exact⟨(show 1<=100 by decide),k2 e⟩
  | some n=>
   obtain⟨h0,h1,h2,h3⟩:=tZ ha e;exact⟨_,rfl,x,n,rfl,h2,by omega,k1 n e⟩
def mU (c:Addr):Sp:=λ vs H Q E=>∃ x:Str,vs=[.str x]/\gY x/\x.length<=1000000/\(∀ n,iW x=some n->Q (kA n) H)/\(iW x=none->E (.ref c) none H)
theorem fY:FnScope ["word"] ["word"] (aI (bC 31)):={}
theorem lB {f f1:Addr}{fd fd1:FuncData} (F:Fun K "read_target" "read_target" (bC 31) f fd) (T:Txt mg) (G_read_number:CalleeR P w K mg base "read_number" ["word"] 2 (gO c_NoText) f1 fd1):FnOk P w K mg base (sG P w) 3 f fd ["word"] (mU c_NoText):=by
 refine F.okR fY (λ vs H Q E h=>?_) (λ cdv A outer s H vs Q E hr h L=>?_)
 ·obtain⟨x,rfl,_⟩:=h;rfl
 ·obtain⟨x,rfl,ha,hl,k1,k2⟩:=h;have sc:=fY;refine⟨_,(aF (aL (gF (aY eV (pv 0) aK (aR _)) fI (cL G_read_number.ok (hr.mono (by decide)) rfl G_read_number.mg G_read_number.kp G_read_number.bd .nil (cY L) (aA (pv 0) aB))))),?_⟩;refine⟨_,rfl,rfl,_,rfl,?_⟩
  by_cases hx:x = "ground"
  ·subst hx;refine oA rfl ?_;exact k1 none rfl
  ·refine dS (λ z=>?_) λ _=>?_
   ·exact absurd (aba z) (λ z=>hx (by cases z;rfl))
   ·have e:iW x=(bQ x).map some:=if_neg hx;refine⟨_,rfl,x,rfl,ha,hl,λ n hn=>k1 (some n) (by rw[e,hn];rfl),λ hn=>k2 (by rw[e,hn];rfl)⟩
def mV (K:aaa) (c:Addr):Sp:=λ vs H Q E=>∃ (l:Addr) (x1 x2 x3:Str),vs=[.ref l]/\H l=some (.lst [.str x1,.str x2,.str x3])/\gY x1/\gY x2/\x1.length<=1000000/\x2.length<=1000000/\(∀ sp p H',oS [x1,x2,x3]=some sp->aH H H'->Is K H' (n4 sp) p->Q p H')/\(oS [x1,x2,x3]=none->E (.ref c) none H)
theorem hG:FnScope ["words","target","flow","door"] ["words"] (aI (bC 30)):={}
theorem lY {f f1:Addr}{fd fd1:FuncData} (F:Fun K "read_spout" "read_spout" (bC 30) f fd) (T:Txt mg) (G_read_number:CalleeR P w K mg base "read_number" ["word"] 2 (gO c_NoText) f1 fd1):FnOk P w K mg base (sG P w) 3 f fd ["words"] (mV K c_NoText):=by
 refine F.okR hG (λ vs H Q E h=>?_) (λ cdv A outer s H vs Q E hr h L=>?_)
 ·obtain⟨l,x1,x2,x3,rfl,_⟩:=h;rfl
 ·obtain⟨l,x1,x2,x3,rfl,hl,a1,a2,l1,l2,k1,k2⟩:=h;have sc:=hG;refine⟨_,(aE (cP (pv 0) (rK (K:=K) (n:=3) rfl rfl (aG (gL 1 sc.nd) (aG (gL 2 sc.nd) (aG (gL 3 sc.nd) bJ)))))
   (aF (aL (dN (aA (cL G_read_number.ok (hr.mono (by decide)) rfl G_read_number.mg G_read_number.kp G_read_number.bd .nil (cY L) (aA (pv 1) aB)) (aA (cL G_read_number.ok (hr.mono (by decide)) rfl G_read_number.mg G_read_number.kp G_read_number.bd .nil (cY L) (aA (pv 2) aB)) (aA (cK eV (pv 3) aK (aR _)) aB))))))),?_⟩
  refine⟨_,rfl,l,_,rfl,bV.of hl,rfl,_,_,rfl,_,_,rfl,_,_,rfl,rfl,?_⟩;dsimp only [d7];refine⟨_,rfl,x1,rfl,a1,l1,λ n hn=>?_,λ hn=>k2 (by rw[nE,hn];rfl)⟩;refine⟨_,rfl,x2,rfl,a2,l2,λ m hm=>?_,λ hm=>k2 (by rw[nE,hn,hm];rfl)⟩;refine⟨_,rfl,rfl,(show 3<=sizeLine by decide),λ p hp=>?_⟩;have e:decide (V.str x3=V.str "open")=decide (x3 = "open"):=by simp
  refine k1 (n,m,decide (x3 = "open")) _ _ (by rw[nE,hn,hm];rfl) (aH.new hp) (Is.tupOf (cG.of aD) (.cons (Is.i _) (.cons (Is.i _) (.cons ?_ .nil))));rw[e];exact Is.b _
def kP (K:aaa) (c:Addr):Sp:=λ vs H Q E=>∃ x:Str,vs=[.str x]/\gY x/\x.length<=100000/\(∀ as p H',gD x=some as->aH H H'->Is K H' (.tup (as.map dW)) p->Q p H')/\(gD x=none->∀ H',aH H H'->E (.ref c) none H')
theorem iO:FnScope ["act_words","acts","act_word","word","sign","spout"] ["act_words"] (aI (bC 29)):={}
theorem nM {f f1:Addr}{fd fd1:FuncData} (F:Fun K "read_acts" "read_acts" (bC 29) f fd) (T:Txt mg) (G_read_number:CalleeR P w K mg base "read_number" ["word"] 2 (gO c_NoText) f1 fd1):FnOk P w K mg base (sG P w) 3 f fd ["act_words"] (kP K c_NoText):=by
 refine F.okR iO (λ vs H Q E h=>?_) (λ cdv A outer s H vs Q E hr h L=>?_)
 ·obtain⟨x,rfl,_⟩:=h;rfl
 ·obtain⟨x,rfl,ha,hl,k1,k2⟩:=h;have sc:=iO;refine⟨_,(aE (bL (aY eV (pv 0) aK (aR _)) (aF (aL (dN aB))) aQ)
   (aE (pL 1 sc.nd (bG aB))
   (aE (cZ PassesOwn.leaving rfl (kT (K:=K) rfl (eK (K:=K) rfl PySem.F.slot_str_split PySem.F.type_str_split gQ (pv 0) (aA aK aB))) (gL 2 sc.nd) (aE (cP (eK (K:=K) rfl PySem.F.slot_str_partition PySem.F.type_str_partition p6 (pv 2) (aA aK aB)) (bT (K:=K) (n:=3) rfl rfl (aG (gL 3 sc.nd) (aG (gL 4 sc.nd) (aG (gL 5 sc.nd) bJ)))))
   (aF (dL (eO (K:=K) rfl aaz aax aay cF (pv 1) (aA (dN (aA (pv 3) (aA (cL G_read_number.ok (hr.mono (by decide)) rfl G_read_number.mg G_read_number.kp G_read_number.bd .nil (cY L) (aA (pv 5) aB)) aB))) aB))))))
   (aF (aL (aM (d3 (K:=K) rfl) rfl T.b_tuple bN (aA (pv 1) aB))))))),?_⟩
  refine⟨_,rfl,rfl,_,rfl,?_⟩
  by_cases hx:x = "-"
  ·subst hx;refine oA rfl ⟨abi _,λ p hp=>?_⟩;exact k1 [] _ _ rfl (aH.new hp) (Is.tupOf (cG.of aD) .nil)
  ·refine dS (λ z=>absurd (aba z) (λ z=>hx (by cases z;rfl))) λ _=>?_;have e:gD x=cH iX (Txt.split x (one 44)):=if_neg hx;have hw:∀ y∈Txt.split x (one 44),gY y/\y.length<=100000:=λ y hy=>⟨gX ha hy,abn (PyProof.Rows.part_short hy) hl⟩;have hsl:=eT x (one 44) (by decide);rw[e] at k1 k2;generalize hws:Txt.split x (one 44)=ws at k1 k2 hw hsl;refine⟨abi _,λ al hal=>?_⟩;refine⟨_,rfl,rfl,x,",",rfl,rfl,by decide,by omega,λ sp hsp=>?_⟩;rw[AM,hws];have nas:al≠sp:=aO (show upd H al (.lst []) al=_ from aD) hsp;have fs:H sp=none:=(aH.new hal).free hsp;have s1:aH H (upd (upd H al (.lst [])) sp (.lst (ws.map V.str))):=(aH.new hal).trans (aH.new hsp);have g1:upd (upd H al (.lst [])) sp (.lst (ws.map V.str)) al=some (.lst []):=by rw[aP nas];exact aD
   have g2:upd (upd H al (.lst [])) sp (.lst (ws.map V.str)) sp=some (.lst (ws.map V.str)):=aD;generalize upd (upd H al (.lst [])) sp (.lst (ws.map V.str))=H1 at s1 g1 g2 ⊢;refine⟨sp,rfl,⟨_,bV.of g2⟩,lM (K:=K) (a:=sp) (xs:=ws.map V.str) (λ i Z H'=>aH H H'/\H' sp=some (.lst (ws.map V.str))/\(∃ as us,cH iX (ws.take i)=some as/\as.length<=i/\H' al=some (.lst us)/\IsL K H' (as.map dW) us)/\
    ∃ v2 v3 v4 v5,Z=[some (.str x),some (.ref al),v2,v3,v4,v5]) ⟨s1,g2,⟨[],[],rfl,aae _,g1,.nil⟩,_,_,_,_,rfl⟩ ?_ ?_ ?_⟩
   ·rintro i Z H2 _ ⟨_,h2,_⟩;exact bV.of h2
   ·rintro i y Z H2 hy ⟨s2,hsp2,⟨as,us,er,ail,hal2,lu⟩,v2,v3,v4,v5,rfl⟩;rw[aaw] at hy;obtain⟨y,hyw,rfl⟩:=abb.mp hy;have hyi:i < ws.length:=(aan.mp hyw).1;obtain⟨ya,yl⟩:=hw y (aak hyw);obtain⟨pa1,pa2⟩:=pR (c:=46) ya;obtain⟨pl1,pl2⟩:=p9 (c:=46) (x:=y);have eul:us.length=as.length:=by rw[lu.length,aab]
    dsimp only [bS];refine⟨_,rfl,rfl,y,".",rfl,rfl,by decide,by omega,λ p hp=>?_⟩;rw[w_p];have s3:=aH.new (o:=HO.tup [.str (Txt.partition y (one 46)).1,.str (Txt.partition y (one 46)).2.1,.str (Txt.partition y (one 46)).2.2]) hp;refine⟨p,_,rfl,cG.of aD,rfl,_,_,rfl,_,_,rfl,_,_,rfl,rfl,?_⟩;dsimp only [d7];have hal3:=s3 _ _ hal2;have hsp3:=s3 _ _ hsp2;have lu3:=L2.IsL.mono s3.ts _ _ lu;have s23:=s2.trans s3;generalize upd H2 p (.tup [.str (Txt.partition y (one 46)).1,.str (Txt.partition y (one 46)).2.1,.str (Txt.partition y (one 46)).2.2])=H3 at s3 hal3 hsp3 lu3 s23 ⊢;refine⟨_,rfl,.inl ⟨rfl,_,bV.of hal3⟩,_,rfl,_,rfl,_,rfl,pa2,by omega,λ n hn=>?_,λ hn=>k2 (fH (show iX y=none by unfold iX;rw[hn];rfl) (aak hyw)) _ s23⟩;refine⟨(show 2<=sizeLine by decide),λ q hq=>⟨al,us,_,rfl,rfl,aH.new hq _ _ hal3,fT (by omega),?_⟩⟩;have s4:=aH.new (o:=HO.tup [.str (Txt.partition y (one 46)).1,.int n]) hq;have q4:cG K (upd H3 q (.tup [.str (Txt.partition y (one 46)).1,.int n])) q [.str (Txt.partition y (one 46)).1,.int n]:=cG.of aD;have hal4:=s4 _ _ hal3;have hsp4:=s4 _ _ hsp3;generalize upd H3 q (.tup [.str (Txt.partition y (one 46)).1,.int n])=H4 at s4 q4 hal4 hsp4 ⊢;have b5:eA al H4 (upd H4 al (.lst (us++[.ref q]))):=eA.upd;have ts5:=b5.ts (K:=K) (by rw[hal4];exact trivial);refine⟨(s23.trans s4).put hal,b5 _ _ (Ne.symm nas) hsp4,⟨as++[((Txt.partition y (one 46)).1,n)],us++[.ref q],?_,by rw[aas,acd];omega,aD,?_⟩,_,_,_,_,rfl⟩
    ·rw[dX hyw];exact fG er (show iX y=_ by unfold iX;rw[hn];rfl)
    ·rw[aah];exact L2.IsL.snoc (Is.mono ts5 _ _ (Is.tupOf q4 (.cons (Is.s _) (.cons (Is.i _) .nil)))) (L2.IsL.mono (s4.ts.trans ts5) _ _ lu3)
   ·rintro Z H2 ⟨s2,hsp2,⟨as,us,er,ail,hal2,lu⟩,v2,v3,v4,v5,rfl⟩;rw[aab,aar (aae _)] at er;refine⟨_,rfl,al,us,rfl,.inl ⟨bV.of hal2,λ p hp=>?_⟩⟩;have s3:=aH.new (o:=HO.tup us) hp;exact k1 as _ _ er (s2.trans s3) (Is.tupOf (cG.of aD) (L2.IsL.mono s3.ts _ _ lu))
mutual
theorem rD:∀ {a b:L2.D},d6 a=d6 b->a=b
 | .non,b,h=>by cases b <;> simp [d6] at h ⊢
 | .bl x,b,h=>by cases b <;> simp [d6] at h ⊢;exact h
 | .int x,b,h=>by cases b <;> simp [d6] at h ⊢;exact h
 | .str x,b,h=>by cases b <;> simp [d6] at h ⊢;exact h
 | .tup x,b,h=>by
  cases b with
  | tup y=>simp [d6] at h;rw[oQ h]
  | _=>simp [d6] at h
theorem oQ:∀ {a b:List L2.D},bZ a=bZ b->a=b
 | [],b,h=>by cases b <;> simp [bZ] at h ⊢
 | x::a,b,h=>by
  cases b with
  | nil=>simp [bZ] at h
  | cons y b=>simp [bZ] at h;rw[rD h.1,oQ h.2]
end
theorem j7 {ae:Type}{f:ae->L2.D} (hf:∀ a b,f a=f b->a=b):∀ {l m:List ae},l.map f=m.map f->l=m
 | [],m,h=>by cases m <;> simp at h ⊢
 | x::l,m,h=>by
  cases m with
  | nil=>simp at h
  | cons y m=>simp only [abg,List.cons.injEq] at h;rw[hf _ _ h.1,j7 hf h.2]
theorem rE {a b:Option Int} (h:lT a=lT b):a=b:=by cases a <;> cases b <;> simp [lT] at h ⊢;exact h
theorem uK {a b:Net} (h:eX a=eX b):a=b:=by
 simp only [eX,L2.D.tup.injEq,List.cons.injEq,and_true] at h;have h1:a.vs=b.vs:=j7 (f:=jZ) (λ v u e=>by
  simp only [jZ,L2.D.tup.injEq,List.cons.injEq,L2.D.int.injEq,L2.D.bl.injEq,and_true] at e;obtain⟨e1,e2,e3,e4,e5,e6⟩:=e;have e3:=j7 (f:=gG) (λ o p q=>by
   simp only [gG,L2.D.tup.injEq,List.cons.injEq,L2.D.int.injEq,and_true] at q;exact Prod.ext (rE q.1) q.2) e3
  have e6:=j7 (f:=dW) (λ o p q=>by
   simp only [dW,L2.D.tup.injEq,List.cons.injEq,L2.D.int.injEq,L2.D.str.injEq,and_true] at q;exact Prod.ext q.1 q.2) e6
  cases v;cases u;simp only [Vs.mk.injEq];exact⟨e1,e2,e3,e4,rE e5,e6⟩) h.1
 have h2:a.sps=b.sps:=j7 (f:=n4) (λ v u e=>by
  simp only [n4,L2.D.tup.injEq,List.cons.injEq,L2.D.int.injEq,L2.D.bl.injEq,and_true] at e;exact Prod.ext e.1 (Prod.ext e.2.1 e.2.2)) h.2
 cases a;cases b;simp only at h1 h2;rw[h1,h2]
theorem lF {net:Net} (ok:NetOk net) (fu:NetFull net):NetIn net where
 ne:=λ z=>by have:=ok.lo;rw[z] at this;exact absurd this (by decide)
 v12:=ok.hi
 s12:=ok.sp
 vs:=λ v hv=>by
  obtain⟨i,hi⟩:=List.mem_iff_getElem?.1 hv;have a:=ok.vs v hv;have b:=fu.vs i v hi;have h12:=ok.hi;have s12:=ok.sp;have:=a.size;have:=b.sz;have:=b.br;have:=b.bh;exact⟨by omega,by omega,by omega,by omega,a.ne,λ o ho=>⟨λ t e=>by have:=(a.outs o ho).tg t e;omega,by have:=(a.outs o ho).lo;omega,by have:=(a.outs o ho).hi;omega⟩,λ t e=>by have:=a.spill t e;omega,
   λ c hc=>⟨(a.acts c hc).word,(a.acts c hc).lo,by have:=(a.acts c hc).hi;omega⟩,a.o3,a.a3⟩
 sps:=λ s hs=>by
  have a:=ok.sps s hs;have b:=fu.sps s hs;have h12:=ok.hi;exact⟨by omega,by omega,by omega,by omega⟩
theorem xC {net:Net} (h:i8 (d6 (eX net))=true):NetOk net/\NetFull net:=by
 obtain⟨n,e,ok,fu⟩:=x9 h;obtain rfl:=uK (rD e);exact⟨ok,fu⟩
theorem r9 {ae:Type}{f:ae->L2.D}{q:G->Bool}{as:List ae} (h:∀ a∈as,q (d6 (f a))=true):(bZ (as.map f)).all q=true:=by
 rw[iI,List.map_map,List.all_map,abo];exact λ a ha=>h a ha
theorem eC {lo hi n:Int} (h1:lo<=n) (h2:n<=hi):cD lo hi (.int n)=true:=by simp [cD,h1,h2]
theorem y3 {lo hi:Int}{t:Option Int} (h:∀ n,t=some n->lo<=n/\n<=hi):wH lo hi (d6 (lT t))=true:=by
 cases t with
 | none=>simp [lT,d6,wH]
 | some n=>simp only [lT,d6,wH];exact eC (h n rfl).1 (h n rfl).2
theorem xD {net:Net} (ok:NetOk net) (fu:NetFull net):i8 (d6 (eX net))=true:=by
 have e:d6 (eX net)=.tup [.tup (bZ (net.vs.map jZ)),.tup (bZ (net.sps.map n4))]:=by simp [eX,d6,bZ]
 rw[e];have lv:(bZ (net.vs.map jZ)).length=net.vs.length:=by rw[eR,aab]
 have ls:(bZ (net.sps.map n4)).length=net.sps.length:=by rw[eR,aab]
 unfold i8;simp only [Bool.and_eq_true,decide_eq_true_eq,lv,ls];refine⟨⟨⟨⟨ok.lo,ok.hi⟩,ok.sp⟩,?_⟩,r9 λ s hs=>?_⟩
 ·rw[iG];intro i g hg;rw[iI,List.map_map,aaw] at hg;obtain⟨v,hv,rfl⟩:=abb.mp hg;have a:=ok.vs v (aak hv);have b:=fu.vs i v hv;have on:1<=v.outs.length:=List.length_pos_iff.mpr a.ne;have e2:(d6 ∘ jZ) v=.tup [.int v.size,.int v.brim,.tup (bZ (v.outs.map gG)),.bl v.holds,d6 (lT v.spill),.tup (bZ (v.acts.map dW))]:=by simp [jZ,d6,bZ]
  rw[e2];unfold jB;simp only [Bool.and_eq_true];have o3:=a.o3;have a3:=a.a3;refine⟨⟨⟨⟨⟨⟨⟨eC a.size b.sz,eC b.br b.bh⟩,?_⟩,?_⟩,r9 λ o ho=>?_⟩,rfl⟩,y3 λ n e=>?_⟩,r9 λ c hc=>?_⟩
  ·simp only [bP,eR,aab,Bool.and_eq_true,decide_eq_true_eq];omega
  ·simp only [bP,eR,aab,Bool.and_eq_true,decide_eq_true_eq];omega
  ·have:=a.outs o ho;have e3:d6 (gG o)=.tup [d6 (lT o.1),.int o.2]:=by simp [gG,d6,bZ]
   rw[e3];unfold nK;rw[Bool.and_eq_true];exact⟨y3 λ n e=>by have:=this.tg n e;omega,eC this.lo this.hi⟩
  ·have:=b.sp n e;have:=a.spill n e;omega
  ·have:=a.acts c hc;have e3:d6 (dW c)=.tup [.str c.1,.int c.2]:=by simp [dW,d6,bZ]
   rw[e3];unfold m8;rw[Bool.and_eq_true];refine⟨?_,eC this.lo (by have:=this.hi;omega)⟩;rcases this.word with e | e | e <;> rw[e] <;> simp [vH,fS,aS]
 ·have a:=ok.sps s hs;have b:=fu.sps s hs;have e3:d6 (n4 s)=.tup [.int s.1,.int s.2.1,.bl s.2.2]:=by simp [n4,d6,bZ]
  rw[e3];unfold lV;rw[Bool.and_eq_true,Bool.and_eq_true];exact⟨⟨eC a.1 (by omega),eC b.1 b.2⟩,rfl⟩
def rdN:G->Option Net
 | .str x=>(kR x).bind λ n=>if i8 (d6 (eX n))=true/\fJ n=x then some n else none
 | _=>none
theorem rG {net:Net} (ok:NetOk net) (fu:NetFull net):rdN (.str (fJ net))=some net:=by
 show (kR (fJ net)).bind _=_;rw[sO (lF ok fu)];exact if_pos ⟨xD ok fu,rfl⟩
theorem fB {c:Nat} (hc:c < 128):∀ {l:List Str},(∀ a∈l,gY a)->gY (Str.join (one c) l)
 | [],_=>λ c hc=>absurd hc (by simp [sg,Str.join,Str.empty])
 | [x],h=>h x (by simp)
 | x::y::r,h=>λ d hd=>by
  rw[d9] at hd;rcases abd.mp hd with h1 | h1
  ·exact h x (by simp) d h1
  ·rcases aaq.mp h1 with rfl | h1
   ·exact hc
   ·exact fB hc (l:=y::r) (λ a ha=>h a (aal _ ha)) d h1
theorem kL {a b:Str} (ha:gY a) (hb:gY b):gY (a++b):=λ c hc=>by
 rw[dM] at hc;rcases abd.mp hc with h | h
 ·exact ha c h
 ·exact hb c h
theorem fL {n:Int} (h0:0<=n):gY (aN n):=λ c hc=>by have:=eW h0 c hc;omega
theorem sC {c:Nat} (h:c < 128):gY (one c):=λ d hd=>by
 have:d=c:=by simpa [sg,one] using hd
 rw[this];exact h
theorem pS {t:Option Int} (h:oN t):gY (bD t):=by
 cases t with
 | none=>exact (by decide +kernel:∀ c∈sg (Str.ofString "ground"),c < 128)
 | some i=>exact fL (h i rfl).1
theorem w4 {os:List (Option Int×Int)} (h:∀ o∈os,OutIn o):gY (bR os):=fB (by decide) λ a ha=>by
 obtain⟨o,ho,rfl⟩:=aat.mp ha;exact kL (kL (pS (h o ho).tg) (sC (by decide))) (fL (h o ho).lo)
theorem w6 {as:List (Str×Int)} (h:∀ a∈as,ActIn a):gY (cN as):=by
 unfold cN
 split
 ·exact (by decide +kernel:∀ c∈sg (Str.ofString "-"),c < 128)
 ·exact fB (by decide) λ a ha=>by
   obtain⟨o,ho,rfl⟩:=aat.mp ha;exact kL (kL (λ c hc=>by have:=(h o ho).sg c hc;omega) (sC (by decide))) (fL (h o ho).lo)
theorem xX {n:Net} (h:NetIn n):gY (fJ n):=fB (by decide) λ a ha=>by
 rcases abd.mp ha with ha | ha
 ·obtain⟨v,hv,rfl⟩:=aat.mp ha;have hv:=h.vs v hv;refine fB (by decide) λ w hw=>?_;simp only [iF,aaq,abl,or_false] at hw;rcases hw with rfl | rfl | rfl | rfl | rfl | rfl | rfl
  ·exact (by decide +kernel:∀ c∈sg (Str.ofString "vessel"),c < 128)
  ·exact fL hv.s0
  ·exact fL hv.b0
  ·exact w4 hv.os
  ·cases v.holds
   ·exact (by decide +kernel:∀ c∈sg (Str.ofString "loses"),c < 128)
   ·exact (by decide +kernel:∀ c∈sg (Str.ofString "holds"),c < 128)
  ·exact pS hv.sp
  ·exact w6 hv.as
 ·obtain⟨s,hs,rfl⟩:=aat.mp ha;have hv:=h.sps s hs;refine fB (by decide) λ w hw=>?_;simp only [jW,aaq,abl,or_false] at hw;rcases hw with rfl | rfl | rfl | rfl
  ·exact (by decide +kernel:∀ c∈sg (Str.ofString "spout"),c < 128)
  ·exact fL hv.t0
  ·exact fL hv.f0
  ·cases s.2.2
   ·exact (by decide +kernel:∀ c∈sg (Str.ofString "shut"),c < 128)
   ·exact (by decide +kernel:∀ c∈sg (Str.ofString "open"),c < 128)
theorem tU (x:Str) (c:Nat):Txt.split x (one c)≠[]:=λ z=>by
 unfold Txt.split at z
 split at z
 ·cases z
 ·split at z
  ·cases z
  ·rw[StrLaws.partsBetween_eq] at z;obtain⟨p,r,e⟩:=StrLaws.partsFrom_ne x (one c).length 0 (Builtin.Str.occurrences x (one c) 0 x.length (x.length+1));rw[e] at z;cases z
theorem len6 {ae:Type}{l:List ae} (h:l.length=6):∃ a b c d e f,l=[a,b,c,d,e,f]:=by
 match l,h with
 | [a,b,c,d,e,f],_=>exact⟨a,b,c,d,e,f,rfl⟩
theorem len3 {ae:Type}{l:List ae} (h:l.length=3):∃ a b c,l=[a,b,c]:=by
 match l,h with
 | [a,b,c],_=>exact⟨a,b,c,rfl⟩
theorem tP {σ:St}{H:Hp}{Q:Bool->Hp->Prop}{z kw:Str}{q:Addr}{xs:List V}{n:Int} (h4:σ[4]? = some (some (.str z))) (h5:σ[5]? = some (some (.ref q))) (hq:H q=some (.lst xs)) (k:Q (decide (z=kw/\(xs.length:Int)=n)) H) :
  AX (kN (eQ B9 (bW 4) (tC (.str kw)))) (kN (eQ B9 (wJ (wN K) (cE (bW 5) fP)) (tC (.int n)))) σ H Q:=by
 refine⟨_,h4,rfl,_,rfl,?_⟩
 by_cases e:z=kw
 ·subst e;refine oA rfl ⟨_,h5,q,xs,rfl,.inl (bV.of hq),rfl,_,rfl,?_⟩;have:decide (V.int (xs.length:Int)=V.int n)=decide (z=z/\(xs.length:Int)=n):=by simp
  rw[this];exact k
 ·refine dS (λ h=>absurd (aba h) λ h=>e (by cases h;rfl)) λ _=>?_;rw[abf (λ h=>e h.1)] at k;exact k
def mT (K:aaa) (c:Addr):Sp:=λ vs H Q E=>∃ (l:Addr) (ws:List Str),vs=[.ref l]/\H l=some (.lst (ws.map V.str))/\ws.length=6/\(∀ x∈ws,gY x/\x.length<=100000)/\(∀ v p H',mH ws=some v->aH H H'->Is K H' (jZ v) p->Q p H')/\(mH ws=none->∀ H',aH H H'->E (.ref c) none H')
theorem fX:FnScope ["words","size","brim","out_words","holds_word","spill","act_words","outs","out_word","target","sign","parts"] ["words"] (aI (bC 28)):={}
theorem lA {f f1 f2 f3:Addr}{fd fd1 fd2 fd3:FuncData} (F:Fun K "read_vessel" "read_vessel" (bC 28) f fd) (T:Txt mg) (G_read_number:CalleeR P w K mg base "read_number" ["word"] 2 (gO c_NoText) f1 fd1) (G_read_target:CalleeR P w K mg base "read_target" ["word"] 3 (mU c_NoText) f2 fd2)
  (G_read_acts:CalleeR P w K mg base "read_acts" ["act_words"] 3 (kP K c_NoText) f3 fd3):FnOk P w K mg base (sG P w) 4 f fd ["words"] (mT K c_NoText):=by
 refine F.okR fX (λ vs H Q E h=>?_) (λ cdv A outer s H vs Q E hr h L=>?_)
 ·obtain⟨x,ws,rfl,_⟩:=h;rfl
 ·obtain⟨l,ws,rfl,hl,h6,hw,k1,k2⟩:=h;have sc:=fX;refine⟨_,(aE (cP (pv 0) (rK (K:=K) (n:=6) rfl rfl (aG (gL 1 sc.nd) (aG (gL 2 sc.nd) (aG (gL 3 sc.nd) (aG (gL 4 sc.nd) (aG (gL 5 sc.nd) (aG (gL 6 sc.nd) bJ))))))))
   (aE (pL 7 sc.nd (bG aB))
   (aE (cZ PassesOwn.leaving rfl (kT (K:=K) rfl (eK (K:=K) rfl PySem.F.slot_str_split PySem.F.type_str_split gQ (pv 3) (aA aK aB))) (gL 8 sc.nd) (aE (cP (eK (K:=K) rfl PySem.F.slot_str_partition PySem.F.type_str_partition p6 (pv 8) (aA aK aB)) (bT (K:=K) (n:=3) rfl rfl (aG (gL 9 sc.nd) (aG (gL 10 sc.nd) (aG (gL 11 sc.nd) bJ)))))
   (aF (dL (eO (K:=K) rfl aaz aax aay cF (pv 7) (aA (dN (aA (cL G_read_target.ok (hr.mono (by decide)) rfl G_read_target.mg G_read_target.kp G_read_target.bd .nil (cY L) (aA (pv 9) aB)) (aA (cL G_read_number.ok (hr.mono (by decide)) rfl G_read_number.mg G_read_number.kp G_read_number.bd .nil (cY L) (aA (pv 11) aB)) aB))) aB))))))
   (aF (aL (dN (aA (cL G_read_number.ok (hr.mono (by decide)) rfl G_read_number.mg G_read_number.kp G_read_number.bd .nil (cY L) (aA (pv 1) aB)) (aA (cL G_read_number.ok (hr.mono (by decide)) rfl G_read_number.mg G_read_number.kp G_read_number.bd .nil (cY L) (aA (pv 2) aB)) (aA (aM (d3 (K:=K) rfl) rfl T.b_tuple bN (aA (pv 7) aB)) (aA (cK eV (pv 4) aK (aR _)) (aA (cL G_read_target.ok (hr.mono (by decide)) rfl G_read_target.mg G_read_target.kp G_read_target.bd .nil (cY L) (aA (pv 5) aB)) (aA (cL G_read_acts.ok (hr.mono (by decide)) rfl G_read_acts.mg G_read_acts.kp G_read_acts.bd .nil (cY L) (aA (pv 6) aB)) aB)))))))))))),?_⟩
  obtain⟨x1,x2,x3,x4,x5,x6,rfl⟩:=len6 h6;obtain⟨a1,n1⟩:=hw x1 (by simp);obtain⟨a2,n2⟩:=hw x2 (by simp);obtain⟨a3,n3⟩:=hw x3 (by simp);obtain⟨a5,n5⟩:=hw x5 (by simp);obtain⟨a6,n6⟩:=hw x6 (by simp);clear hw h6;rw[wL] at k1 k2;refine⟨_,rfl,l,_,rfl,bV.of hl,rfl,_,_,rfl,_,_,rfl,_,_,rfl,_,_,rfl,_,_,rfl,_,_,rfl,rfl,?_⟩;dsimp only [d7];have hws:∀ y∈Txt.split x3 (one 44),gY y/\y.length<=100000:=λ y hy=>⟨gX a3 hy,abn (PyProof.Rows.part_short hy) n3⟩;have hsl:=eT x3 (one 44) (by decide);generalize hw3:Txt.split x3 (one 44)=ws at k1 k2 hws hsl;refine⟨abi _,λ al hal=>?_⟩;refine⟨_,rfl,rfl,x3,",",rfl,rfl,by decide,by omega,λ sp hsp=>?_⟩;rw[AM,hw3];have nas:al≠sp:=aO (show upd H al (.lst []) al=_ from aD) hsp;have s1:aH H (upd (upd H al (.lst [])) sp (.lst (ws.map V.str))):=(aH.new hal).trans (aH.new hsp);have g1:upd (upd H al (.lst [])) sp (.lst (ws.map V.str)) al=some (.lst []):=by rw[aP nas];exact aD
  have g2:upd (upd H al (.lst [])) sp (.lst (ws.map V.str)) sp=some (.lst (ws.map V.str)):=aD;generalize upd (upd H al (.lst [])) sp (.lst (ws.map V.str))=H1 at s1 g1 g2 ⊢;refine⟨sp,rfl,⟨_,bV.of g2⟩,lM (K:=K) (a:=sp) (xs:=ws.map V.str) (λ i Z H'=>aH H H'/\H' sp=some (.lst (ws.map V.str))/\(∃ as us,cH gB (ws.take i)=some as/\as.length<=i/\H' al=some (.lst us)/\IsL K H' (as.map gG) us)/\
   ∃ v8 v9 v10 v11,Z=[some (.ref l),some (.str x1),some (.str x2),some (.str x3),some (.str x4),some (.str x5),some (.str x6),some (.ref al),v8,v9,v10,v11]) ⟨s1,g2,⟨[],[],rfl,aae _,g1,.nil⟩,_,_,_,_,rfl⟩ ?_ ?_ ?_⟩
  ·rintro i Z H2 _ ⟨_,h2,_⟩;exact bV.of h2
  ·rintro i y Z H2 hy ⟨s2,hsp2,⟨as,us,er,ail,hal2,lu⟩,v8,v9,v10,v11,rfl⟩;rw[aaw] at hy;obtain⟨y,hyw,rfl⟩:=abb.mp hy;have hyi:i < ws.length:=(aan.mp hyw).1;obtain⟨ya,yl⟩:=hws y (aak hyw);obtain⟨pa1,pa2⟩:=pR (c:=42) ya;obtain⟨pl1,pl2⟩:=p9 (c:=42) (x:=y);have eul:us.length=as.length:=by rw[lu.length,aab]
   dsimp only [bS];refine⟨_,rfl,rfl,y,"*",rfl,rfl,by decide,by omega,λ p hp=>?_⟩;rw[w_s];have s3:=aH.new (o:=HO.tup [.str (Txt.partition y (one 42)).1,.str (Txt.partition y (one 42)).2.1,.str (Txt.partition y (one 42)).2.2]) hp;refine⟨p,_,rfl,cG.of aD,rfl,_,_,rfl,_,_,rfl,_,_,rfl,rfl,?_⟩;dsimp only [d7];have hal3:=s3 _ _ hal2;have hsp3:=s3 _ _ hsp2;have lu3:=L2.IsL.mono s3.ts _ _ lu;have s23:=s2.trans s3;generalize upd H2 p (.tup [.str (Txt.partition y (one 42)).1,.str (Txt.partition y (one 42)).2.1,.str (Txt.partition y (one 42)).2.2])=H3 at s3 hal3 hsp3 lu3 s23 ⊢;have bad:gB y=none->E (.ref c_NoText) none H3:=λ hn=>k2 (by rw[fH hn (aak hyw)];rfl) _ s23;refine⟨_,rfl,.inl ⟨rfl,_,bV.of hal3⟩,_,rfl,_,rfl,pa1,by omega,λ t ht=>?_,λ hn=>bad (by unfold gB;rw[hn];rfl)⟩;refine⟨_,rfl,_,rfl,pa2,by omega,λ n hn=>?_,λ hn=>bad (by unfold gB;rw[ht,hn];rfl)⟩;refine⟨(show 2<=sizeLine by decide),λ q hq=>⟨al,us,_,rfl,rfl,aH.new hq _ _ hal3,fT (by omega),?_⟩⟩;have s4:=aH.new (o:=HO.tup [kA t,.int n]) hq;have q4:cG K (upd H3 q (.tup [kA t,.int n])) q [kA t,.int n]:=cG.of aD;have hal4:=s4 _ _ hal3;have hsp4:=s4 _ _ hsp3;generalize upd H3 q (.tup [kA t,.int n])=H4 at s4 q4 hal4 hsp4 ⊢;have b5:eA al H4 (upd H4 al (.lst (us++[.ref q]))):=eA.upd;have ts5:=b5.ts (K:=K) (by rw[hal4];exact trivial);refine⟨(s23.trans s4).put hal,b5 _ _ (Ne.symm nas) hsp4,⟨as++[(t,n)],us++[.ref q],?_,by rw[aas,acd];omega,aD,?_⟩,_,_,_,_,rfl⟩
   ·rw[dX hyw];exact fG er (show gB y=_ by unfold gB;rw[ht,hn];rfl)
   ·rw[aah];exact L2.IsL.snoc (Is.mono ts5 _ _ (Is.tupOf q4 (.cons (Is.tgOf t) (.cons (Is.i _) .nil)))) (L2.IsL.mono (s4.ts.trans ts5) _ _ lu3)
  ·rintro Z H2 ⟨s2,hsp2,⟨as,us,er,ail,hal2,lu⟩,v8,v9,v10,v11,rfl⟩;rw[aab,aar (aae _)] at er;rw[er] at k1 k2;refine⟨_,rfl,x1,rfl,a1,by omega,λ z hz=>?_,λ hz=>k2 (by rw[hz];rfl) _ s2⟩;refine⟨_,rfl,x2,rfl,a2,by omega,λ m hm=>?_,λ hm=>k2 (by rw[hz,hm];rfl) _ s2⟩;refine⟨_,rfl,al,us,rfl,.inl ⟨bV.of hal2,λ p hp=>?_⟩⟩;have s3:=aH.new (o:=HO.tup us) hp;have q3:cG K (upd H2 p (.tup us)) p us:=cG.of aD;have lu3:=L2.IsL.mono s3.ts _ _ lu;have s23:=s2.trans s3;generalize upd H2 p (.tup us)=H3 at s3 q3 lu3 s23 ⊢;refine⟨_,rfl,rfl,?_⟩;have e4:decide (V.str x4=V.str "holds")=decide (x4 = "holds"):=by simp
   rw[e4];refine⟨_,rfl,x5,rfl,a5,by omega,λ t ht=>?_,λ ht=>k2 (by rw[hz,hm,ht];rfl) _ s23⟩;refine⟨_,rfl,x6,rfl,a6,n6,λ cs q H4 hcs s4 iq=>?_,λ hcs H4 s4=>k2 (by rw[hz,hm,ht,hcs];rfl) _ (s23.trans s4)⟩;refine⟨(show 6<=sizeLine by decide),λ r hr'=>?_⟩;have s5:=aH.new (o:=HO.tup [.int z,.int m,.ref p,.bl (decide (x4 = "holds")),kA t,q]) hr';refine k1 ⟨z,m,as,decide (x4 = "holds"),t,cs⟩ _ _ (by rw[hz,hm,ht,hcs];rfl) ((s23.trans s4).trans s5) ?_;exact Is.tupOf (cG.of aD) (.cons (Is.i _) (.cons (Is.i _) (.cons (Is.tupOf (s5.tup (s4.tup q3)) (L2.IsL.mono (s4.trans s5).ts _ _ lu3)) (.cons (Is.b _) (.cons (Is.tgOf t) (.cons (Is.mono s5.ts _ _ iq) .nil))))))
def mW (K:aaa) (c:Addr):Sp:=λ vs H Q E=>∃ (x:V) (g:G),vs=[x]/\aJ K H g x/\(∀ z,g=.str z->gY z/\z.length<=100000)/\(∀ net p H',rdN g=some net->NetOk net->NetFull net->aH H H'->Is K H' (eX net) p->Q p H')/\(rdN g=none->∀ H',aH H H'->E (.ref c) none H')
theorem jM:FnScope ["text","vessels","spouts","line","word","rest","net"] ["text"] (aI (bC 27)):={}
theorem oY {f f1 f2 f3 f4:Addr}{fd fd1 fd2 fd3 fd4:FuncData} (F:Fun K "read_net" "read_net" (bC 27) f fd) (T:Txt mg) (TS:TxtS mg) (XC_NoText:ExC K "NoText" c_NoText) (G_read_vessel:CalleeR P w K mg base "read_vessel" ["words"] 4 (mT K c_NoText) f1 fd1) (G_read_spout:CalleeR P w K mg base "read_spout" ["words"] 3 (mV K c_NoText) f2 fd2)
  (G_is_net:Callee P w K mg base "is_net" ["thing"] 4 (qI K) f3 fd3) (G_net_text:Callee P w K mg base "net_text" ["net"] 3 (gP K) f4 fd4):FnOk P w K mg base (sG P w) 5 f fd ["text"] (mW K c_NoText):=by
 refine F.okR jM (λ vs H Q E h=>?_) (λ cdv A outer s H vs Q E hr h L=>?_)
 ·obtain⟨x,g,rfl,_⟩:=h;rfl
 ·obtain⟨x,g,rfl,ig,hasc,k1,k2⟩:=h;have sc:=jM;refine⟨_,(aE (bL (aW (aV (aU (dI (K:=K) rfl) rfl T.b_isinstance bI (aA (pv 0) (aA (bU (v:=.ty "str") rfl TS.b_str cQ rfl) aB))))) (aF (iY L rfl rfl XC_NoText.exc XC_NoText.ns PySem.F.excBase_ValueError (aA aK aB))) aQ)
   (aE (zD (i:=1) (j:=2) rfl sc.nd rfl rfl (by decide) rfl rfl (aA (bG aB) (aA (bG aB) aB)) rfl)
   (aE (cZ PassesOwn.leaving rfl (kT (K:=K) rfl (eK (K:=K) rfl PySem.F.slot_str_split PySem.F.type_str_split gQ (pv 0) (aA aK aB))) (gL 3 sc.nd) (aE (cP (eK (K:=K) rfl PySem.F.slot_str_split PySem.F.type_str_split gQ (pv 3) (aA aK aB)) (uD (K:=K) rfl rfl (aG (gL 4 sc.nd) (uC (gL 5 sc.nd)))))
   (aF (bL (PW.pt (nG (aY eV (pv 4) aK (aR _)) (kD (aY eV (lW K T.b_len (pv 5)) aC (aR _))))) (aF (dL (eO (K:=K) rfl aaz aax aay cF (pv 1) (aA (cL G_read_vessel.ok (hr.mono (by decide)) rfl G_read_vessel.mg G_read_vessel.kp G_read_vessel.bd .nil (cY L) (aA (pv 5) aB)) aB)))) (aF (bL (PW.pt (nG (aY eV (pv 4) aK (aR _)) (kD (aY eV (lW K T.b_len (pv 5)) aC (aR _))))) (aF (dL (eO (K:=K) rfl aaz aax aay cF (pv 2) (aA (cL G_read_spout.ok (hr.mono (by decide)) rfl G_read_spout.mg G_read_spout.kp G_read_spout.bd .nil (cY L) (aA (pv 5) aB)) aB)))) (aF (iY L rfl rfl XC_NoText.exc XC_NoText.ns PySem.F.excBase_ValueError (aA aK aB)))))))))
   (aE (pL 6 sc.nd (dN (aA (aM (d3 (K:=K) rfl) rfl T.b_tuple bN (aA (pv 1) aB)) (aA (aM (d3 (K:=K) rfl) rfl T.b_tuple bN (aA (pv 2) aB)) aB))))
   (aE (bL (PW.pt (cU (aW (aV (cJ G_is_net hr (aA (pv 6) aB)))) (cO (aY mI (cJ G_net_text hr (aA (pv 6) aB)) (pv 0) (aR _))))) (aF (iY L rfl rfl XC_NoText.exc XC_NoText.ns PySem.F.excBase_ValueError (aA aK aB))) aQ)
   (aF (aL (pv 6)))))))),?_⟩
  refine⟨_,rfl,_,"str",g,rfl,by decide,ig,_,rfl,?_⟩
  by_cases hg:∃ z,g=.str z
  rotate_left
  ·have e:vD g "str" = false:=by
    cases g with
    | str z=>exact absurd ⟨z,rfl⟩ hg
    | _=>rfl
   rw[e];refine cS ⟨(show 1<=100 by decide),k2 ?_ _ (aH.refl _)⟩;cases g with
   | str z=>exact absurd ⟨z,rfl⟩ hg
   | _=>rfl
  obtain⟨z,rfl⟩:=hg;obtain rfl:x=.str z:=by rw[aJ] at ig;exact ig
  obtain⟨za,zl⟩:=hasc z rfl;clear hasc;refine bK ?_;have hls:∀ y∈Txt.split z (one 10),gY y/\y.length<=100000:=λ y hy=>⟨gX za hy,abn (PyProof.Rows.part_short hy) zl⟩;have hsl:=eT z (one 10) (by decide);have erd:kR z=(cH fF (Txt.split z (one 10))).map λ l=>⟨dR l,cV l⟩:=rfl;generalize hw3:Txt.split z (one 10)=ls at hls hsl erd;refine⟨abi _,λ vl hvl=>⟨abi _,λ sl hsl'=>⟨_,_,rfl,?_⟩⟩⟩;have nvs:vl≠sl:=aO (show upd H vl (.lst []) vl=_ from aD) hsl';have fsl:H sl=none:=(aH.new hvl).free hsl';have s1:aH H (upd (upd H vl (.lst [])) sl (.lst [])):=(aH.new hvl).trans (aH.new hsl');have g1:upd (upd H vl (.lst [])) sl (.lst []) vl=some (.lst []):=by rw[aP nvs];exact aD
  have g2:upd (upd H vl (.lst [])) sl (.lst []) sl=some (.lst []):=aD;dsimp only [d7];generalize upd (upd H vl (.lst [])) sl (.lst [])=H1 at s1 g1 g2 ⊢;refine⟨_,rfl,rfl,z,"\n",rfl,rfl,by decide,by omega,λ lp hlp=>?_⟩;rw[w_l,hw3];have nlv:vl≠lp:=aO g1 hlp;have nls:sl≠lp:=aO g2 hlp;have s2:aH H (upd H1 lp (.lst (ls.map V.str))):=s1.trans (aH.new hlp);have g3:upd H1 lp (.lst (ls.map V.str)) lp=some (.lst (ls.map V.str)):=aD;have g1:=aH.new (o:=.lst (ls.map V.str)) hlp _ _ g1;have g2:=aH.new (o:=.lst (ls.map V.str)) hlp _ _ g2;generalize upd H1 lp (.lst (ls.map V.str))=H2 at s2 g1 g2 g3 ⊢;refine⟨lp,rfl,⟨_,bV.of g3⟩,lM (K:=K) (a:=lp) (xs:=ls.map V.str) (λ i Z H'=>aH H H'/\H' lp=some (.lst (ls.map V.str))/\(∃ rs us ts,cH fF (ls.take i)=some rs/\(dR rs).length<=i/\(cV rs).length<=i/\H' vl=some (.lst us)/\IsL K H' ((dR rs).map jZ) us/\H' sl=some (.lst ts)/\IsL K H' ((cV rs).map n4) ts)/\
   ∃ v3 v4 v5,Z=[some (.str z),some (.ref vl),some (.ref sl),v3,v4,v5,none]) ⟨s2,g3,⟨[],[],[],rfl,aae _,aae _,g1,.nil,g2,.nil⟩,_,_,_,rfl⟩ ?_ ?_ ?_⟩
  ·rintro i Z H3 _ ⟨_,h2,_⟩;exact bV.of h2
  ·rintro i y Z H3 hy ⟨s3,hlp3,⟨rs,us,ts,er,li,ri,hvl3,lu,hsl3,lt⟩,v3,v4,v5,rfl⟩;rw[aaw] at hy;obtain⟨y,hyw,rfl⟩:=abb.mp hy;have hyi:i < ls.length:=(aan.mp hyw).1;obtain⟨ya,yl⟩:=hls y (aak hyw);have eul:us.length=(dR rs).length:=by rw[lu.length,aab]
   have etl:ts.length=(cV rs).length:=by rw[lt.length,aab]
   have hws:∀ u∈Txt.split y (one 32),gY u/\u.length<=100000:=λ u hu=>⟨gX ya hu,abn (PyProof.Rows.part_short hu) yl⟩;have hwl:=eT y (one 32) (by decide);have hne:=tU y 32;have elin:fF y=match Txt.split y (one 32) with
    | []=>none
    | w::r=>if w = "vessel" /\ r.length=6 then (mH r).map Sum.inl else if w = "spout" /\ r.length=3 then (oS r).map Sum.inr else none:=rfl
   dsimp only [bS];refine⟨_,rfl,rfl,y," ",rfl,rfl,by decide,by omega,λ p hp=>?_⟩;rw[AS];generalize Txt.split y (one 32)=ws at hws hwl hne elin ⊢;obtain⟨wd,r,rfl⟩:=List.exists_cons_of_ne_nil hne;simp only at elin;have s4:=aH.new (o:=HO.lst ((wd::r).map V.str)) hp;have g4:upd H3 p (.lst ((wd::r).map V.str)) p=some (.lst (.str wd::r.map V.str)):=aD;have s34:=s3.trans s4;have hlp4:=s4 _ _ hlp3;have hvl4:=s4 _ _ hvl3;have hsl4:=s4 _ _ hsl3;have lu4:=L2.IsL.mono s4.ts _ _ lu;have lt4:=L2.IsL.mono s4.ts _ _ lt;generalize upd H3 p (.lst ((wd::r).map V.str))=H4 at s4 g4 s34 hlp4 hvl4 hsl4 lu4 lt4 ⊢;clear s4 s3 hlp3 hvl3 hsl3 lu lt hp;refine⟨p,.str wd,r.map V.str,rfl,bV.of g4,by rw[aab];simp at hwl;omega,λ q hq=>⟨_,_,rfl,_,_,rfl,rfl,?_⟩⟩;have s5:=aH.new (o:=HO.lst (r.map V.str)) hq;have g5:upd H4 q (.lst (r.map V.str)) q=some (.lst (r.map V.str)):=aD;have s35:=s34.trans s5;have hlp5:=s5 _ _ hlp4;have hvl5:=s5 _ _ hvl4;have hsl5:=s5 _ _ hsl4;have lu5:=L2.IsL.mono s5.ts _ _ lu4;have lt5:=L2.IsL.mono s5.ts _ _ lt4;dsimp only [d7];generalize upd H4 q (.lst (r.map V.str))=H5 at s5 g5 s35 hlp5 hvl5 hsl5 lu5 lt5 ⊢;clear s5 s34 hlp4 hvl4 hsl4 lu4 lt4 hq g4;have bad:fF y=none->∀ H',aH H5 H'->E (.ref c_NoText) none H':=λ hn H' s'=>k2 (by show (kR z).bind _=none;rw[erd,fH hn (aak hyw)];rfl) _ (s35.trans s');have hr6:∀ x∈r,gY x/\x.length<=100000:=λ x hx=>hws x (aal _ hx);refine tP rfl rfl g5 ?_;refine dS (λ hT=>?_) λ hT=>?_
   ·
    have hT:=aba hT;rw[aab] at hT;have hr:r.length=6:=by have:=hT.2;omega
    rw[if_pos ⟨hT.1,hr⟩] at elin;refine⟨_,rfl,.inl ⟨rfl,_,bV.of hvl5⟩,_,rfl,q,r,rfl,g5,hr,hr6,λ v pv H6 ev s6 iv=>?_,λ hn H6 s6=>bad (by rw[elin,hn];rfl) _ s6⟩;have hvl6:=s6 _ _ hvl5;refine⟨vl,us,_,rfl,rfl,hvl6,fT (by omega),?_⟩;have b7:eA vl H6 (upd H6 vl (.lst (us++[pv]))):=eA.upd;have ts7:=b7.ts (K:=K) (by rw[hvl6];exact trivial);refine⟨(s35.trans s6).put hvl,b7 _ _ (Ne.symm nlv) (s6 _ _ hlp5),⟨rs++[.inl v],us++[pv],ts,?_,?_,?_,aD,?_,b7 _ _ (Ne.symm nvs) (s6 _ _ hsl5),?_⟩,_,_,_,rfl⟩
    ·rw[dX hyw];exact fG er (by rw[elin,ev];rfl)
    ·rw[eY,aas];show _+1<=_;omega
    ·rw[eE,aas];show _+0<=_;omega
    ·rw[eY,aah];exact L2.IsL.snoc (Is.mono ts7 _ _ iv) (L2.IsL.mono (s6.ts.trans ts7) _ _ lu5)
    ·rw[eE,aah];show IsL K _ (_++[]) _;rw[aca];exact L2.IsL.mono (s6.ts.trans ts7) _ _ lt5
   have hT:¬ (wd = "vessel" /\ r.length=6):=λ h=>hT (abh ⟨h.1,by rw[aab];omega⟩);rw[if_neg hT] at elin;refine tP rfl rfl g5 ?_;refine dS (λ hS=>?_) λ hS=>?_
   ·
    have hS:=aba hS;rw[aab] at hS;have hr:r.length=3:=by have:=hS.2;omega
    rw[if_pos ⟨hS.1,hr⟩] at elin;obtain⟨x1,x2,x3,rfl⟩:=len3 hr;obtain⟨a1,n1⟩:=hr6 x1 (by simp);obtain⟨a2,n2⟩:=hr6 x2 (by simp);refine⟨_,rfl,.inl ⟨rfl,_,bV.of hsl5⟩,_,rfl,q,x1,x2,x3,rfl,g5,a1,a2,by omega,by omega,λ v pv H6 ev s6 iv=>?_,λ hn=>bad (by rw[elin,hn];rfl) _ (aH.refl _)⟩;have hsl6:=s6 _ _ hsl5;refine⟨sl,ts,_,rfl,rfl,hsl6,fT (by omega),?_⟩;have b7:eA sl H6 (upd H6 sl (.lst (ts++[pv]))):=eA.upd;have ts7:=b7.ts (K:=K) (by rw[hsl6];exact trivial);refine⟨(s35.trans s6).put fsl,b7 _ _ (Ne.symm nls) (s6 _ _ hlp5),⟨rs++[.inr v],us,ts++[pv],?_,?_,?_,b7 _ _ nvs (s6 _ _ hvl5),?_,aD,?_⟩,_,_,_,rfl⟩
    ·rw[dX hyw];exact fG er (by rw[elin,ev];rfl)
    ·rw[eY,aas];show _+0<=_;omega
    ·rw[eE,aas];show _+1<=_;omega
    ·rw[eY,aah];show IsL K _ (_++[]) _;rw[aca];exact L2.IsL.mono (s6.ts.trans ts7) _ _ lu5
    ·rw[eE,aah];exact L2.IsL.snoc (Is.mono ts7 _ _ iv) (L2.IsL.mono (s6.ts.trans ts7) _ _ lt5)
   have hS:¬ (wd = "spout" /\ r.length=3):=λ h=>hS (abh ⟨h.1,by rw[aab];omega⟩);rw[if_neg hS] at elin;exact⟨(show 1<=100 by decide),bad elin _ (aH.refl _)⟩
  ·rintro Z H3 ⟨s3,hlp3,⟨rs,us,ts,er,li,ri,hvl3,lu,hsl3,lt⟩,v3,v4,v5,rfl⟩;rw[aab,aar (aae _)] at er;rw[er] at erd;have e2:rdN (.str z)=if i8 (d6 (eX ⟨dR rs,cV rs⟩))=true/\fJ ⟨dR rs,cV rs⟩=z then some ⟨dR rs,cV rs⟩ else none:=by show (kR z).bind _=_;rw[erd];rfl
   generalize hnet:(⟨dR rs,cV rs⟩:Net)=net at e2;refine⟨_,rfl,vl,us,rfl,.inl ⟨bV.of hvl3,λ pa hpa=>?_⟩⟩;have s4:=aH.new (o:=HO.tup us) hpa;have q4:cG K (upd H3 pa (.tup us)) pa us:=cG.of aD;have hsl4:=s4 _ _ hsl3;have lu4:=L2.IsL.mono s4.ts _ _ lu;have lt4:=L2.IsL.mono s4.ts _ _ lt;have s34:=s3.trans s4;generalize upd H3 pa (.tup us)=H4 at s4 q4 hsl4 lu4 lt4 s34 ⊢;refine⟨_,rfl,sl,ts,rfl,.inl ⟨bV.of hsl4,λ pb hpb=>⟨(show 2<=sizeLine by decide),λ pn hpn=>?_⟩⟩⟩;have s5:=(aH.new (o:=HO.tup ts) hpb).trans (aH.new (o:=HO.tup [.ref pa,.ref pb]) hpn);have q5:cG K (upd (upd H4 pb (.tup ts)) pn (.tup [.ref pa,.ref pb])) pb ts:=(aH.new hpn).tup (cG.of aD);have q6:cG K (upd (upd H4 pb (.tup ts)) pn (.tup [.ref pa,.ref pb])) pn [.ref pa,.ref pb]:=cG.of aD;generalize upd (upd H4 pb (.tup ts)) pn (.tup [.ref pa,.ref pb])=H5 at s5 q5 q6 ⊢;have s35:=s34.trans s5;have inet:Is K H5 (eX net) (.ref pn):=by
    rw[<- hnet];exact Is.tupOf q6 (.cons (Is.tupOf (s5.tup q4) (L2.IsL.mono s5.ts _ _ lu4)) (.cons (Is.tupOf q5 (L2.IsL.mono s5.ts _ _ lt4)) .nil))
   clear s3 hlp3 hvl3 lu hsl3 lt s4 q4 hsl4 lu4 lt4 s34 s5 q5 q6;dsimp only [d7];refine⟨_,rfl,_,d6 (eX net),rfl,inet.g,λ H6 s6=>⟨_,rfl,?_⟩⟩;cases hn:i8 (d6 (eX net)) with
   | false=>
    refine cS ?_;exact⟨(show 1<=100 by decide),k2 (by rw[e2,if_neg (λ h=>by rw[hn] at h;cases h.1)]) _ (s35.trans s6)⟩
   | true=>
    refine bK ?_;obtain⟨ok,fu⟩:=xC hn;refine⟨_,rfl,_,net,rfl,Is.mono s6.ts _ _ inet,lF ok fu,λ H7 s7=>⟨_,rfl,rfl,_,rfl,?_⟩⟩;have e7:(!decide (V.str (fJ net)=V.str z)) = !decide (fJ net=z):=by simp
    rw[e7]
    by_cases ez:fJ net=z
    ·rw[abh ez];refine bK ?_;exact⟨_,rfl,k1 net _ _ (by rw[e2,if_pos ⟨hn,ez⟩]) ok fu ((s35.trans s6).trans s7) (Is.mono (s6.trans s7).ts _ _ inet)⟩
    ·rw[abf ez];refine cS ?_;exact⟨(show 1<=100 by decide),k2 (by rw[e2,if_neg (λ h=>ez h.2)]) _ ((s35.trans s6).trans s7)⟩
def mZ:Sp:=λ vs H Q _=>∃ t:Option Int,vs=[kA t]/\oN t/\∀ H',aH H H'->Q (.str (bD t)) H'
theorem iU:FnScope ["target"] ["target"] (aI (bC 42)):={}
theorem nW {f:Addr}{fd:FuncData} (F:Fun K "_law_goal" "_law_goal" (bC 42) f fd) (T:Txt mg) (TS:TxtS mg):FnOk P w K mg base iE 1 f fd ["target"] mZ:=by
 refine F.ok iU (λ vs H Q E h=>?_) (λ cdv A outer s H vs Q E hr h=>?_)
 ·obtain⟨t,rfl,_⟩:=h;rfl
 ·obtain⟨t,rfl,ht,k⟩:=h;have sc:=iU;refine⟨_,(aF (aL (px K (bG (aA (aM cT rfl TS.b_str cQ (aA (pv 0) aB)) (aA aK aB))) (aM d4 rfl T.b_int dO (aA (cK kX (pv 0) fI (aR _)) aB))))),?_⟩;cases t with
  | none=>exact⟨_,rfl,.non,"None",rfl,rfl,(show 2<=sizeLine by decide),λ l hl=>⟨_,rfl,rfl,.inr ⟨_,rfl,.inl ⟨l,_,1,_,rfl,rfl,bV.of aD,rfl,k _ (aH.new hl)⟩⟩⟩⟩
  | some i=>exact⟨_,rfl,.int i,aN i,rfl,d8 (ht i rfl).1 (ht i rfl).2,(show 2<=sizeLine by decide),λ l hl=>⟨_,rfl,rfl,.inr ⟨_,rfl,.inl ⟨l,_,0,_,rfl,rfl,bV.of aD,rfl,k _ (aH.new hl)⟩⟩⟩⟩
def mS (K:aaa):Sp:=λ vs H Q _=>∃ (x:V) (net:Net),vs=[x]/\Is K H (eX net) x/\NetIn net/\∀ H',aH H H'->Q (.str (fJ net)) H'
theorem wT (o:Option Int×Int):bD o.1 ++ "*" ++ aN o.2=fQ o:=by unfold fQ;rw[w_s]
theorem xZ (a:Str×Int):a.1 ++ "." ++ aN a.2=dP a:=by unfold dP;rw[w_p]
theorem xS (as:List (Str×Int)):aS (d6 (.tup (as.map dW))) (.tup [])=decide (as=[]):=by
 cases as with
 | nil=>simp [d6,bZ,aS,dU]
 | cons a as=>simp [d6,bZ,aS,dU]
theorem vW (as:List (Str×Int)):iC (d6 (.tup (as.map dW)))<=30:=by
 have:gN (bZ (as.map dW))<=2:=by
  induction as with
  | nil=>simp [bZ,gN]
  | cons a as ih=>
   rw[abg,bZ,gN];have:iC (d6 (dW a))<=2:=by simp [dW,d6,bZ,iC,gN]
   omega
 rw[d6,iC];omega
theorem iS:FnScope ["net","rows","size","brim","outs","holds","spill","acts","words","target","flow","is_open"] ["net"] (aI (bC 43)):={}
theorem nS {f f1:Addr}{fd fd1:FuncData} (F:Fun K "_law_text" "_law_text" (bC 43) f fd) (T:Txt mg) (TS:TxtS mg) (G__law_goal:Callee P w K mg base "_law_goal" ["target"] 1 mZ f1 fd1):FnOk P w K mg base iE 2 f fd ["net"] (mS K):=by
 refine F.ok iS (λ vs H Q E h=>?_) (λ cdv A outer s H vs Q E hr h=>?_)
 ·obtain⟨x,net,rfl,_⟩:=h;rfl
 ·obtain⟨x,net,rfl,hx,hi,k⟩:=h;have sc:=iS;refine⟨_,(aE (pL 1 sc.nd (bG aB))
   (aE (cZ PassesOwn.never rfl (cB (K:=K) rfl (px K (pv 0) aC)) (bT (K:=K) (n:=6) rfl rfl (aG (gL 2 sc.nd) (aG (gL 3 sc.nd) (aG (gL 4 sc.nd) (aG (gL 5 sc.nd) (aG (gL 6 sc.nd) (aG (gL 7 sc.nd) bJ))))))) (aE (pL 8 sc.nd (bG (aA aK (aA (aM cT rfl TS.b_str cQ (aA (pv 2) aB)) (aA (aM cT rfl TS.b_str cQ (aA (pv 3) aB)) (aA (eK (K:=K) rfl PySem.F.slot_str_join PySem.F.type_str_join (d2 (K:=K) rfl) aK (aA (hR (λ _ _ h=>h) rfl (LcOk.mk (N':=["out"]) (fr:=[none]) rfl trivial rfl rfl rfl rfl rfl trivial) (cB (K:=K) rfl (pv 4)) (λ _ _ _=>(gC 0 ["out"])) (λ _ _ _=>dA) (λ _ _ _=>(aT kG (aT kG (cJ G__law_goal hr (aA (px K (pv 0) aC) aB)) aK) (aM cT rfl TS.b_str cQ (aA (px K (pv 0) aC) aB))))) aB)) aB))))))
   (aE (pL 8 sc.nd (aT uI (pv 8) (bG (aA (px K (bG (aA aK (aA aK aB))) (aM d4 rfl T.b_int dO (aA (pv 5) aB))) (aA (cJ G__law_goal hr (aA (pv 6) aB)) aB)))))
   (aE (dL (eO (K:=K) rfl aaz aax aay cF (pv 8) (aA (eK (K:=K) rfl PySem.F.slot_str_join PySem.F.type_str_join (d2 (K:=K) rfl) aK (aA (hR (λ _ _ h=>h) rfl (LcOk.mk (N':=["word","spout"]) (fr:=[none,none]) rfl trivial rfl rfl rfl rfl rfl trivial) (cB (K:=K) rfl (pv 7)) (λ _ _ _=>(bT (K:=K) (n:=2) rfl rfl (aG (gC 0 ["word","spout"]) (aG (gC 1 ["word","spout"]) bJ)))) (λ _ _ _=>dA) (λ _ _ _=>(aT kG (aT kG (pv 0) aK) (aM cT rfl TS.b_str cQ (aA (pv 1) aB))))) aB)) aB)))
   (aE (bL (aY (wX (K:=K) rfl hr.units) (pv 7) (dN aB) (aR _)) (aF (cP aK (nI (pv 8) (BC yN aC) iN))) aQ)
   (aF (dL (eO (K:=K) rfl aaz aax aay cF (pv 1) (aA (eK (K:=K) rfl PySem.F.slot_str_join PySem.F.type_str_join (d2 (K:=K) rfl) aK (aA (pv 8) aB)) aB)))))))))
   (aE (cZ PassesOwn.never rfl (cB (K:=K) rfl (px K (pv 0) aC)) (bT (K:=K) (n:=3) rfl rfl (aG (gL 9 sc.nd) (aG (gL 10 sc.nd) (aG (gL 11 sc.nd) bJ)))) (aF (dL (eO (K:=K) rfl aaz aax aay cF (pv 1) (aA (eK (K:=K) rfl PySem.F.slot_str_join PySem.F.type_str_join (d2 (K:=K) rfl) aK (aA (bG (aA aK (aA (aM cT rfl TS.b_str cQ (aA (pv 9) aB)) (aA (aM cT rfl TS.b_str cQ (aA (pv 10) aB)) (aA (px K (bG (aA aK (aA aK aB))) (aM d4 rfl T.b_int dO (aA (pv 11) aB))) aB))))) aB)) aB)))))
   (aF (aL (eK (K:=K) rfl PySem.F.slot_str_join PySem.F.type_str_join (d2 (K:=K) rfl) aK (aA (pv 1) aB))))))),?_⟩
  obtain⟨na,nb,nc,xs,ys,rfl,qn,q1,l1,q2,l2⟩:=qU hx;have e1:xs.length=net.vs.length:=by rw[l1.length,aab]
  have e2:ys.length=net.sps.length:=by rw[l2.length,aab]
  have v12:=hi.v12;have s12:=hi.s12;refine⟨abi _,λ rl hrl=>?_⟩;have s0:=aH.new (o:=HO.lst []) hrl;have g0:upd H rl (.lst []) rl=some (.lst []):=aD;generalize upd H rl (.lst [])=H0 at s0 g0 ⊢;dsimp only [bS,d7];refine nB (λ Z H'=>aH H H'/\H' rl=some (.lst ((net.vs.map eN).map V.str))/\∃ v2 v3 v4 v5 v6 v7 v8,Z=[some (.ref na),some (.ref rl),v2,v3,v4,v5,v6,v7,v8,none,none,none]) (λ D' hD'=>?_) ?_
  ·refine⟨_,rfl,.inr (.inl ⟨na,_,0,_,rfl,rfl,s0.tup qn,rfl,nb,rfl,⟨_,s0.tup q1⟩,gS (K:=K) (a:=nb) (xs:=xs) (λ i Z H'=>aH H H'/\H' rl=some (.lst (((net.vs.take i).map eN).map V.str))/\∃ v2 v3 v4 v5 v6 v7 v8,Z=[some (.ref na),some (.ref rl),v2,v3,v4,v5,v6,v7,v8,none,none,none])
    ⟨s0,g0,_,_,_,_,_,_,_,rfl⟩ (λ i Z H' _ p=>p.1.tup q1) ?_ ?_⟩)⟩
   rotate_left
   ·rintro Z H1 ⟨s1,h1,v2,v3,v4,v5,v6,v7,v8,rfl⟩;rw[e1,aar (aae _)] at h1;exact hD' _ _ ⟨s1,h1,_,_,_,_,_,_,_,rfl⟩
   rintro i y Z H1 hy ⟨s1,h1,v2,v3,v4,v5,v6,v7,v8,rfl⟩;obtain⟨d,hd,iy⟩:=l1.get' hy;rw[aaw] at hd;obtain⟨v,hv,rfl⟩:=abb.mp hd;have hvi:=hi.vs v (aak hv);obtain⟨va,o,c,rfl,qv,ho,hc⟩:=tL (Is.mono s1.ts _ _ iy);obtain⟨oa,os,rfl,qo,lo⟩:=ho.un;obtain⟨ca,cs,rfl,qc,lc⟩:=hc.un;have eol:os.length=v.outs.length:=by rw[lo.length,aab]
   have ecl:cs.length=v.acts.length:=by rw[lc.length,aab]
   have o3:=hvi.o3;have a3:=hvi.a3;refine⟨va,_,rfl,qv,rfl,_,_,rfl,_,_,rfl,_,_,rfl,_,_,rfl,_,_,rfl,_,_,rfl,rfl,?_⟩;dsimp only [bS,d7];refine⟨_,rfl,.int v.size,_,rfl,d8 hvi.s0 hvi.s1,_,rfl,.int v.brim,_,rfl,d8 hvi.b0 hvi.b1,rfl,_,rfl,oa,rfl,⟨_,qo⟩,gJ (K:=K) (a:=oa) (xs:=os) (λ D i r Z H'=>H1 D=none/\aH H1 H'/\H' D=some (.lst r)/\r=((v.outs.take i).map fQ).map V.str/\∃ u1,Z=[u1])
    (λ D i r Z H' p=>p.2.1.tup qo) (λ D hD=>⟨hD,aH.new hD,aD,rfl,none,rfl⟩) ?_ ?_⟩
   rotate_left
   ·rintro D j y r Z H2 hy ⟨hD,sm,hDl,rfl,u1,rfl⟩;obtain⟨t,ht,ta,rfl,qt⟩:=kE lo hy;have ti:=hvi.os t (aak ht);have lg:=j8 ti.tg;have ln:=dB ti.lo ti.hi;refine⟨_,rfl,.inr (.inl ⟨ta,_,0,_,rfl,rfl,sm.tup qt,rfl,t.1,rfl,ti.tg,λ H3 s3=>⟨_,_,rfl,rfl,(show (bD t.1).length+1<=1000000 by omega),?_⟩⟩)⟩;refine⟨_,rfl,.inr (.inl ⟨ta,_,1,_,rfl,rfl,(sm.trans s3).tup qt,rfl,.int t.2,_,rfl,d8 ti.lo ti.hi,_,_,rfl,rfl,?_,?_⟩)⟩
    ·rw[Str.length_append];show (bD t.1).length+1+_<=1000000;omega
    ·refine⟨s3 _ _ hDl,bF (by rw[aab,aab,abk];omega),hD,(sm.trans s3).put hD,aD,?_,_,rfl⟩;rw[abz,ht,aah,aah,wT];rfl
   rintro D1 r Z H2 ⟨hD1,s2,hD1l,rfl,_⟩;rw[eol,aar (aae _)] at hD1l;have ej:Str.join "," (v.outs.map fQ)=bR v.outs:=by rw[AM];rfl
   refine⟨",",D1,v.outs.map fQ,rfl,rfl,bV.of hD1l,eL (B:=19) (λ a ha=>by obtain⟨o,ho,rfl⟩:=aat.mp ha;exact o5 (hvi.os o ho)) (by decide) (by rw[aab];omega),(show 4<=sizeLine by decide),λ wl hwl=>?_⟩;rw[ej];have s3:=aH.new (o:=HO.lst [.str "vessel",.str (aN v.size),.str (aN v.brim),.str (bR v.outs)]) hwl;have g3:upd H2 wl (.lst [.str "vessel",.str (aN v.size),.str (aN v.brim),.str (bR v.outs)]) wl=some (.lst [.str "vessel",.str (aN v.size),.str (aN v.brim),.str (bR v.outs)]):=aD;have s13:=s2.trans s3;generalize upd H2 wl (.lst [.str "vessel",.str (aN v.size),.str (aN v.brim),.str (bR v.outs)])=H3 at s3 g3 s13 ⊢;dsimp only [bS,d7];refine⟨_,rfl,(show 2<=sizeLine by decide),λ l4 hl4=>⟨_,rfl,.inr ⟨_,rfl,.inl ⟨l4,_,_,.str (cI v.holds),rfl,rfl,bV.of aD,by cases v.holds <;> rfl,?_⟩⟩⟩⟩;have s4:=s13.trans (aH.new (o:=HO.lst [.str "loses",.str "holds"]) hl4);have g4:=aH.new (o:=HO.lst [.str "loses",.str "holds"]) hl4 _ _ g3;generalize upd H3 l4 (.lst [.str "loses",.str "holds"])=H4 at s4 g4 ⊢;refine⟨_,rfl,v.spill,rfl,hvi.sp,λ H5 s5=>⟨(show 2<=sizeLine by decide),λ l6 hl6=>⟨wl,l6,_,_,rfl,rfl,aH.new hl6 _ _ (s5 _ _ g4),aD,(show 6<=sizeLine by decide),λ w2 hw2=>?_⟩⟩⟩;have s6:=(s4.trans s5).trans ((aH.new (o:=HO.lst [.str (cI v.holds),.str (bD v.spill)]) hl6).trans (aH.new (o:=HO.lst [.str "vessel",.str (aN v.size),.str (aN v.brim),.str (bR v.outs),.str (cI v.holds),.str (bD v.spill)]) hw2));have fw:H1 w2=none:=((s4.trans s5).trans (aH.new (o:=HO.lst [.str (cI v.holds),.str (bD v.spill)]) hl6)).free hw2;have g6:upd (upd H5 l6 (.lst [.str (cI v.holds),.str (bD v.spill)])) w2 (.lst [.str "vessel",.str (aN v.size),.str (aN v.brim),.str (bR v.outs),.str (cI v.holds),.str (bD v.spill)]) w2=some (.lst [.str "vessel",.str (aN v.size),.str (aN v.brim),.str (bR v.outs),.str (cI v.holds),.str (bD v.spill)]):=aD;dsimp only [bS,d7];show jC _ _ _ _ (upd (upd H5 l6 (.lst [.str (cI v.holds),.str (bD v.spill)])) w2 (.lst [.str "vessel",.str (aN v.size),.str (aN v.brim),.str (bR v.outs),.str (cI v.holds),.str (bD v.spill)]));generalize upd (upd H5 l6 (.lst [.str (cI v.holds),.str (bD v.spill)])) w2 (.lst [.str "vessel",.str (aN v.size),.str (aN v.brim),.str (bR v.outs),.str (cI v.holds),.str (bD v.spill)])=H6 at s6 g6 ⊢;clear s5 hl6 hw2 s4 g4 hl4 s13 g3 s3 s2 hD1l hD1;have nwr:rl≠w2:=aO h1 fw;have qc6:=s6.tup qc;refine⟨_,rfl,.inl ⟨rfl,_,bV.of g6⟩,rfl,_,rfl,ca,rfl,⟨_,qc6⟩,gJ (K:=K) (a:=ca) (xs:=cs) (λ D i r Z H'=>H6 D=none/\aH H6 H'/\H' D=some (.lst r)/\r=((v.acts.take i).map dP).map V.str/\∃ u1 u2,Z=[u1,u2])
    (λ D i r Z H' p=>p.2.1.tup qc6) (λ D hD=>⟨hD,aH.new hD,aD,rfl,none,none,rfl⟩) ?_ ?_⟩
   rotate_left
   ·rintro D j y r Z H7 hy ⟨hD,sm,hDl,rfl,u1,u2,rfl⟩;obtain⟨t,ht,ta,rfl,qt⟩:=kM lc hy;have ti:=hvi.as t (aak ht);have lg:=uS ti;have ln:=dB ti.lo ti.hi;refine⟨ta,_,rfl,(s6.trans sm).tup qt,rfl,_,_,rfl,_,_,rfl,rfl,?_⟩;refine⟨_,rfl,_,_,rfl,rfl,(show t.1.length+1<=1000000 by omega),_,rfl,.int t.2,_,rfl,d8 ti.lo ti.hi,_,_,rfl,rfl,?_,?_⟩
    ·rw[Str.length_append];show t.1.length+1+_<=1000000;omega
    ·refine⟨hDl,bF (by rw[aab,aab,abk];omega),hD,sm.put hD,aD,?_,_,_,rfl⟩;rw[abz,ht,aah,aah,xZ];rfl
   rintro D2 r Z H7 ⟨hD2,s7,hD2l,rfl,_⟩;rw[ecl,aar (aae _)] at hD2l;refine⟨",",D2,v.acts.map dP,rfl,rfl,bV.of hD2l,eL (B:=19) (λ a ha=>by obtain⟨o,ho,rfl⟩:=aat.mp ha;exact o6 (hvi.as o ho)) (by decide) (by rw[aab];omega),w2,_,_,rfl,rfl,s7 _ _ g6,bF (show 6<=1000 by decide),?_⟩;have s8:=(s6.trans s7).put (o:=HO.lst [.str "vessel",.str (aN v.size),.str (aN v.brim),.str (bR v.outs),.str (cI v.holds),.str (bD v.spill),.str (Str.join "," (v.acts.map dP))]) fw;have g8:upd H7 w2 (.lst [.str "vessel",.str (aN v.size),.str (aN v.brim),.str (bR v.outs),.str (cI v.holds),.str (bD v.spill),.str (Str.join "," (v.acts.map dP))]) w2=some (.lst [.str "vessel",.str (aN v.size),.str (aN v.brim),.str (bR v.outs),.str (cI v.holds),.str (bD v.spill),.str (Str.join "," (v.acts.map dP))]):=aD;dsimp only [bS,d7];show jC _ _ _ _ (upd H7 w2 (.lst [.str "vessel",.str (aN v.size),.str (aN v.brim),.str (bR v.outs),.str (cI v.holds),.str (bD v.spill),.str (Str.join "," (v.acts.map dP))]));generalize upd H7 w2 (.lst [.str "vessel",.str (aN v.size),.str (aN v.brim),.str (bR v.outs),.str (cI v.holds),.str (bD v.spill),.str (Str.join "," (v.acts.map dP))])=H8 at s8 g8 ⊢;clear s6 g6 qc6 s7 hD2l hD2;refine nB (λ Z H'=>aH H1 H'/\H' w2=some (.lst ((("vessel" : Str)::iF v).map V.str))/\Z=[some (.ref na),some (.ref rl),some (.int v.size),some (.int v.brim),some (.ref oa),some (.bl v.holds),some (kA v.spill),some (.ref ca),some (.ref w2),none,none,none]) (λ D2' hD2'=>?_) ?_
   ·refine⟨_,rfl,abi _,λ pt hpt=>⟨d6 (.tup (v.acts.map dW)),.tup [],vW _,(Is.mono (s8.trans (aH.new hpt)).ts _ _ hc).g,aJ.t (cG.of aD) .nil,_,rfl,?_⟩⟩;rw[xS];have s9:=aH.new (o:=HO.tup []) hpt;have g9:=s9 _ _ g8;generalize upd H8 pt (.tup [])=H9 at s9 g9 ⊢;refine dS (λ hT=>?_) λ hT=>?_
    ·have hT:=aba hT;refine⟨_,rfl,1,rfl,w2,_,-1,6,rfl,rfl,g9,rfl,hD2' _ _ ⟨(s8.trans s9).put fw,?_,rfl⟩⟩;rw[aD];show some (HO.lst [V.str "vessel",.str (aN v.size),.str (aN v.brim),.str (bR v.outs),.str (cI v.holds),.str (bD v.spill),.str "-"])=_;rw[show iF v=[aN v.size,aN v.brim,bR v.outs,cI v.holds,bD v.spill,cN v.acts] from rfl,show cN v.acts = "-" from if_pos hT];rfl
    ·have hT:¬ v.acts=[]:=λ h=>hT (abh h);refine hD2' _ _ ⟨s8.trans s9,?_,rfl⟩;rw[g9,show iF v=[aN v.size,aN v.brim,bR v.outs,cI v.holds,bD v.spill,cN v.acts] from rfl,show cN v.acts=Str.join (one 44) (v.acts.map dP) from if_neg hT,AM];rfl
   rintro Z H9 ⟨s9,g9,rfl⟩;have h9:=s9 _ _ h1;have ew:Str.join " " (("vessel" : Str)::iF v)=eN v:=by rw[AS];rfl
   refine⟨_,rfl,.inl ⟨rfl,_,bV.of h9⟩,rfl,_,rfl," ",w2,("vessel" : Str)::iF v,rfl,rfl,bV.of g9,eL (p7 hvi) (by decide) (show 7 * 60+7<=1000000 by decide),rl,_,_,rfl,rfl,h9,bF (by rw[aab,aab,abk];omega),?_⟩;rw[ew];refine⟨(s1.trans s9).put hrl,?_,_,_,_,_,_,_,_,rfl⟩;rw[aD,dX hv,aah,aah];rfl
  rintro Z H1 ⟨s1,h1,v2,v3,v4,v5,v6,v7,v8,rfl⟩;refine nB (λ Z H'=>aH H H'/\H' rl=some (.lst ((net.vs.map eN++net.sps.map fC).map V.str))/\∃ v2 v3 v4 v5 v6 v7 v8 v9 v10 v11,Z=[some (.ref na),some (.ref rl),v2,v3,v4,v5,v6,v7,v8,v9,v10,v11]) (λ D' hD'=>?_) ?_
  ·refine⟨_,rfl,.inr (.inl ⟨na,_,1,_,rfl,rfl,s1.tup qn,rfl,nc,rfl,⟨_,s1.tup q2⟩,gS (K:=K) (a:=nc) (xs:=ys) (λ i Z H'=>aH H H'/\H' rl=some (.lst ((net.vs.map eN++(net.sps.take i).map fC).map V.str))/\∃ v2 v3 v4 v5 v6 v7 v8 v9 v10 v11,Z=[some (.ref na),some (.ref rl),v2,v3,v4,v5,v6,v7,v8,v9,v10,v11])
    ⟨s1,by rw[h1];simp,_,_,_,_,_,_,_,_,_,_,rfl⟩ (λ i Z H' _ p=>p.1.tup q2) ?_ ?_⟩)⟩
   rotate_left
   ·rintro Z H2 ⟨s2,h2,v2,v3,v4,v5,v6,v7,v8,v9,v10,v11,rfl⟩;rw[e2,aar (aae _)] at h2;exact hD' _ _ ⟨s2,h2,_,_,_,_,_,_,_,_,_,_,rfl⟩
   rintro i y Z H2 hy ⟨s2,h2,v2,v3,v4,v5,v6,v7,v8,v9,v10,v11,rfl⟩;obtain⟨d,hd,iy⟩:=l2.get' hy;rw[aaw] at hd;obtain⟨sp,hv,rfl⟩:=abb.mp hd;have hsi:=hi.sps sp (aak hv);obtain⟨a,zs,rfl,q,lx⟩:=(show Is K H (.tup [.int sp.1,.int sp.2.1,.bl sp.2.2]) y from iy).un;obtain⟨x1,r,rfl,j1,lx⟩:=lx.un;obtain⟨x2,r,rfl,j2,lx⟩:=lx.un;obtain⟨x3,r,rfl,j3,lx⟩:=lx.un;have:=lx.un0;subst this;have f1:=j1.ui;have f2:=j2.ui;have f3:=j3.ub;subst f1 f2 f3;refine⟨a,_,rfl,s2.tup q,rfl,_,_,rfl,_,_,rfl,_,_,rfl,rfl,?_⟩;dsimp only [bS,d7];refine⟨_,rfl,.inl ⟨rfl,_,bV.of h2⟩,rfl,_,rfl,.int sp.1,_,rfl,d8 hsi.t0 hsi.t1,_,rfl,.int sp.2.1,_,rfl,d8 hsi.f0 hsi.f1,(show 2<=sizeLine by decide),λ l3 hl3=>?_⟩;refine⟨_,rfl,.inr ⟨_,rfl,.inl ⟨l3,_,_,.str (eI sp.2.2),rfl,rfl,bV.of aD,by cases sp.2.2 <;> rfl,(show 4<=sizeLine by decide),λ l4 hl4=>?_⟩⟩⟩;have s4:=(aH.new (o:=HO.lst [.str "shut",.str "open"]) hl3).trans (aH.new (o:=HO.lst [.str "spout",.str (aN sp.1),.str (aN sp.2.1),.str (eI sp.2.2)]) hl4);have g4:upd (upd H2 l3 (.lst [.str "shut",.str "open"])) l4 (.lst [.str "spout",.str (aN sp.1),.str (aN sp.2.1),.str (eI sp.2.2)]) l4=some (.lst ((("spout" : Str)::jW sp).map V.str)):=aD;have ew:Str.join " " (("spout" : Str)::jW sp)=fC sp:=by rw[AS];rfl
   refine⟨" ",l4,("spout" : Str)::jW sp,rfl,rfl,bV.of g4,eL (p8 hsi) (by decide) (show 4 * 60+4<=1000000 by decide),rl,_,_,rfl,rfl,s4 _ _ h2,bF (by rw[aab,aas,aab,aab,abk];omega),?_⟩;rw[ew];refine⟨(s2.trans s4).put hrl,?_,_,_,_,_,_,_,_,_,_,_,rfl⟩;rw[aD,dX hv,aah,aah,aah,aah,List.append_assoc];rfl
  rintro Z H2 ⟨s2,h2,v2,v3,v4,v5,v6,v7,v8,v9,v10,v11,rfl⟩;have e3:Str.join "\n" (net.vs.map eN++net.sps.map fC)=fJ net:=by rw[w_l];rfl
  refine⟨rfl,_,rfl,"\n",rl,net.vs.map eN++net.sps.map fC,rfl,rfl,bV.of h2,eL (jI hi) (by decide) (by rw[aas,aab,aab];omega),?_⟩;rw[e3];exact k _ s2
theorem dH {n:Nat}:∀ {ds:List L2.D},(∀ d∈ds,d.depth<=n)->bO ds<=n
 | [],_=>abi _
 | d::ds,h=>by
  have h1:=h d abm;have h2:=dH λ e he=>h e (aal _ he);rw[bO];omega
theorem pM (t:Option Int):(lT t).depth=0:=by
 cases t with
 | none=>rfl
 | some i=>exact dG i
theorem r6 (os:List (Option Int×Int)):bO (os.map gG)<=1:=dH λ d hd=>by
 obtain⟨o,_,rfl⟩:=aat.mp hd;show (L2.D.tup [lT o.1,.int o.2]).depth<=1;rw[L2.D.depth,bO,bO,bO,pM,dG];decide
theorem r8 (os:List (Str×Int)):bO (os.map dW)<=1:=dH λ d hd=>by
 obtain⟨o,_,rfl⟩:=aat.mp hd;show (L2.D.tup [.str o.1,.int o.2]).depth<=1;rw[L2.D.depth,bO,bO,bO,t7,dG];decide
theorem vV (v:Vs):(jZ v).depth<=3:=by
 have h1:=r6 v.outs;have h2:=r8 v.acts;show (L2.D.tup [.int v.size,.int v.brim,.tup (v.outs.map gG),.bl v.holds,lT v.spill,.tup (v.acts.map dW)]).depth<=3;rw[L2.D.depth];have:=dH (n:=2) (ds:=[.int v.size,.int v.brim,.tup (v.outs.map gG),.bl v.holds,lT v.spill,.tup (v.acts.map dW)]) λ d hd=>by
  simp only [aaq,abl,or_false] at hd;rcases hd with rfl | rfl | rfl | rfl | rfl | rfl
  ·rw[dG];decide
  ·rw[dG];decide
  ·rw[L2.D.depth];omega
  ·rw[pN];decide
  ·rw[pM];decide
  ·rw[L2.D.depth];omega
 omega
theorem t8 (net:Net):bO [L2.D.tup (net.vs.map jZ),.tup (net.sps.map n4)]<=20:=by
 refine dH λ d hd=>?_;simp only [aaq,abl,or_false] at hd;rcases hd with rfl | rfl
 ·rw[L2.D.depth];have:=dH (n:=3) (ds:=net.vs.map jZ) λ d hd=>by obtain⟨v,_,rfl⟩:=aat.mp hd;exact vV v
  omega
 ·rw[L2.D.depth];have:=dH (n:=1) (ds:=net.sps.map n4) λ d hd=>by
   obtain⟨s,_,rfl⟩:=aat.mp hd;show (L2.D.tup [.int s.1,.int s.2.1,.bl s.2.2]).depth<=1;rw[L2.D.depth,bO,bO,bO,bO,dG,dG,pN];decide
  omega
theorem tV:FnScope ["script","tape","turn","net","text","found"] ["script"] (aI (bC 44)):={}
theorem zR {f f1 f2 f3 f4 f5:Addr}{fd fd1 fd2 fd3 fd4 fd5:FuncData} (F:Fun K "law" "law" (bC 44) f fd) (T:Txt mg)
  (G__law_net:Callee P w K mg base "_law_net" ["tape","most","small"] 4 (qH K) f1 fd1)
  (G__law_text:Callee P w K mg base "_law_text" ["net"] 2 (mS K) f2 fd2)
  (G_read_net:CalleeR P w K mg base "read_net" ["text"] 5 (mW K c_NoText) f3 fd3)
  (G_net_text:Callee P w K mg base "net_text" ["net"] 3 (gP K) f4 fd4)
  (G__law_is_net:Callee P w K mg base "_law_is_net" ["thing"] 3 (mY K) f5 fd5):FnOk P w K mg base iE 6 f fd ["script"] (rF K):=by
 refine F.ok tV (λ vs H Q E h=>?_) (λ cdv A outer s H vs Q E hr h=>?_)
 ·obtain⟨a,ns,rfl,_⟩:=h;rfl
 ·obtain⟨a,ns,rfl,hS,hlen,k⟩:=h;have sc:=tV;refine⟨_,(aE (pL 1 sc.nd (bG (aA (aM (t9 (K:=K) rfl) rfl T.b_list xV (aA (pv 0) aB)) (aA aC (aA aC aB)))))
   (aE (cZ PassesOwn.never rfl (dY rfl T.b_range (aA aC aB)) (gL 2 sc.nd) (aE (pL 3 sc.nd (cJ G__law_net hr (aA (pv 1) (aA aC (aA (cK eV (pv 2) aC (aR _)) aB)))))
   (aE (pL 4 sc.nd (cJ G__law_text hr (aA (pv 3) aB)))
   (aE (pL 5 sc.nd (cL G_read_net.ok (hr.mono (by decide)) rfl G_read_net.mg G_read_net.kp G_read_net.bd .nil zK (aA (pv 4) aB)))
   (aF (bL (PW.pt (cU (aY mI (cJ G_net_text hr (aA (pv 3) aB)) (pv 4) (aR _)) (cU (aY (qO (K:=K) rfl hr.units) (pv 5) (pv 3) (aR _)) (cO (aW (aV (cJ G__law_is_net hr (aA (pv 5) aB)))))))) (aF (aL cM)) aQ))))))
   (aF (aL cM)))),?_⟩
  refine⟨_,rfl,a,_,rfl,.inl hS,λ sl hsl=>⟨(show 3<=sizeLine by decide),λ t ht=>?_⟩⟩;have nst:sl≠t:=aO (show upd H sl (.lst (ns.map V.int)) sl=_ from aD) ht;have tp0:dJ (upd (upd H sl (.lst (ns.map V.int))) t (.lst [.ref sl,.int 0,.int 0])) t sl:=⟨ns,0,0,aD,by rw[aP nst];exact aD,by omega⟩;generalize upd (upd H sl (.lst (ns.map V.int))) t (.lst [.ref sl,.int 0,.int 0])=H0 at tp0;refine⟨4,rfl,by decide,by decide,?_⟩;refine fA (lo:=0) (n:=4) (λ i Z H'=>dJ H' t sl/\∃ v2 v3 v4 v5,Z=[some (.ref a),some (.ref t),v2,v3,v4,v5]) ⟨tp0,_,_,_,_,rfl⟩ ?_ ?_
  ·rintro i Z H1 hi ⟨tp1,v2,v3,v4,v5,rfl⟩;dsimp only [bS];refine⟨_,rfl,_,rfl,rfl,t,sl,12,_,rfl,by decide,by decide,tp1,λ net p H2 e2 nok nfu _ hp=>?_⟩;have nin:=lF nok nfu;refine⟨_,rfl,p,net,rfl,hp,nin,λ H3 s3=>?_⟩;refine⟨_,rfl,_,.str (fJ net),rfl,.s _,λ z e=>?_,λ net' q H4 e ok fu s4 iq=>?_,λ e=>?_⟩
   ·cases e;exact⟨xX nin,abn (xJ nin) (by decide)⟩
   rotate_left
   ·rw[rG nok nfu] at e;cases e
   rw[rG nok nfu] at e;cases e;have s34:=s3.trans s4;dsimp only [bS,d7];refine⟨_,rfl,p,net,rfl,Is.mono s34.ts _ _ hp,nin,λ H5 s5=>⟨_,rfl,rfl,_,rfl,?_⟩⟩;rw[show (!decide (V.str (fJ net)=V.str (fJ net)))=false by simp];refine bK ?_;have s35:=s34.trans s5;refine⟨_,rfl,_,rfl,[.tup (net.vs.map jZ),.tup (net.sps.map n4)],(show 2<=1000 by decide),t8 net,Is.mono s5.ts _ _ iq,Is.mono s35.ts _ _ hp,_,rfl,bK ?_⟩;refine⟨_,rfl,q,net,rfl,Is.mono s5.ts _ _ iq,nok,nfu,λ H6 s6=>⟨_,rfl,bK ?_⟩⟩;exact⟨e2.tp.same (s35.trans s6),_,_,_,_,rfl⟩
  ·rintro Z H1 ⟨tp1,v2,v3,v4,v5,rfl⟩;exact k _
theorem cC {ae:Type}{p:List ae->Prop} (h:∀ a0,p [a0]):∀ us:List ae,us.length=1->p us
 | [a0],_=>h a0
theorem kK {ae:Type}{p:List ae->Prop} (h:∀ a0 a1,p [a0,a1]):∀ us:List ae,us.length=2->p us
 | [a0,a1],_=>h a0 a1
theorem jA {ae:Type}{p:List ae->Prop} (h:∀ a0 a1 a2,p [a0,a1,a2]):∀ us:List ae,us.length=3->p us
 | [a0,a1,a2],_=>h a0 a1 a2
theorem sA {ae:Type}{p:List ae->Prop} (h:∀ a0 a1 a2 a3,p [a0,a1,a2,a3]):∀ us:List ae,us.length=4->p us
 | [a0,a1,a2,a3],_=>h a0 a1 a2 a3
theorem xU {ae:Type}{p:List ae->Prop} (h:∀ a0 a1 a2 a3 a4,p [a0,a1,a2,a3,a4]):∀ us:List ae,us.length=5->p us
 | [a0,a1,a2,a3,a4],_=>h a0 a1 a2 a3 a4
abbrev Na (K:aaa) (x:Str) (f:Addr):Prop:=PySem.W.nsIn K mainGlobals x=some (some (.ref f))
abbrev Nn (K:aaa) (x:Str):Prop:=PySem.W.nsIn K mainGlobals x=some none
abbrev Kp (K:aaa) (f:Addr):Prop:=PySem.W.keepIn K (.ref f)=true
abbrev Cd (K:aaa) (c:Value) (q:Str):Prop:=PySem.W.codeIn K c q=true
abbrev Lk (K:aaa) (f:Addr) (m q:Str) (s:Stmt) (oc:Value) (od:Option Addr) (kV dc pm:Value) (an:Option Addr) (cd ct:Value) (sl:Array (Option Value)):Prop:=K.lookup f=some ⟨oc,od,.func (PySem.W.fnOf m q (gT s) (eM s) (aI s) .none kV dc pm an cd ct),sl⟩
theorem all_mk {l:PySem.W.OpenLaw}{w:World}{K:aaa}{h:Heap}{mg:Str->Option Value}{fa f0 f1 f2 f3 f4 f5 f6 f7 f8 f9 f10 f11 f12 f13 f14 f15 f16 f17 f18 f19 f20 f21 f22 f23 f24 f25 f26 f27 f28 aw c_TipError c_NoText:Addr} (X:K.In h) (G:h.Ns mainGlobals mg) (hfa:mg "law" = some (.ref fa))
  {od0 an0 od1 an1 od2 an2 od3 an3 od4 an4 od5 an5 od6 an6 od7 an7 od8 an8 od9 an9 od10 an10 od11 an11 od12 an12 od13 an13 od14 an14 od15 an15 od16 an16 od17 an17 od18 an18 od19 an19 od20 an20 od21 an21 od22 an22 od23 an23 od24 an24 od25 an25 od26 an26 od27 an27 od28 an28:Option Addr}{sl0 sl1 sl2 sl3 sl4 sl5 sl6 sl7 sl8 sl9 sl10 sl11 sl12 sl13 sl14 sl15 sl16 sl17 sl18 sl19 sl20 sl21 sl22 sl23 sl24 sl25 sl26 sl27 sl28:Array (Option Value)}{oc0 kV0 dc0 pm0 ct0 cd0 oc1 kV1 dc1 pm1 ct1 cd1 oc2 kV2 dc2 pm2 ct2 cd2 oc3 kV3 dc3 pm3 ct3 cd3 oc4 kV4 dc4 pm4 ct4 cd4 oc5 kV5 dc5 pm5 ct5 cd5 oc6 kV6 dc6 pm6 ct6 cd6 oc7 kV7 dc7 pm7 ct7 cd7 oc8 kV8 dc8 pm8 ct8 cd8 oc9 kV9 dc9 pm9 ct9 cd9 oc10 kV10 dc10 pm10 ct10 cd10 oc11 kV11 dc11 pm11 ct11 cd11 oc12 kV12 dc12 pm12 ct12 cd12 oc13 kV13 dc13 pm13 ct13 cd13 oc14 kV14 dc14 pm14 ct14 cd14 oc15 kV15 dc15 pm15 ct15 cd15 oc16 kV16 dc16 pm16 ct16 cd16 oc17 kV17 dc17 pm17 ct17 cd17 oc18 kV18 dc18 pm18 ct18 cd18 oc19 kV19 dc19 pm19 ct19 cd19 oc20 kV20 dc20 pm20 ct20 cd20 oc21 kV21 dc21 pm21 ct21 cd21 oc22 kV22 dc22 pm22 ct22 cd22 oc23 kV23 dc23 pm23 ct23 cd23 oc24 kV24 dc24 pm24 ct24 cd24 oc25 kV25 dc25 pm25 ct25 cd25 oc26 kV26 dc26 pm26 ct26 cd26 oc27 kV27 dc27 pm27 ct27 cd27 oc28 kV28 dc28 pm28 ct28 cd28:Value}
  {tk0 tk1 tk2 tk3 tk4 tk5 tk6 tk7 tw1 tw2 tw3:Tok}{odw:Option Addr}{nw:Nat}{slw:Array (Option Value)}
  {tkF:Tok}
  (a0:Na K "_law_draw" f0)
  (l0:Lk K f0 "_law_draw" "_law_draw" (bC 35) oc0 od0 kV0 dc0 pm0 an0 cd0 ct0 sl0)
  (c0:Cd K cd0 "_law_draw")
  (k0:Kp K f0)
  (a1:Na K "_law_outs" f1)
  (l1:Lk K f1 "_law_outs" "_law_outs" (bC 37) oc1 od1 kV1 dc1 pm1 an1 cd1 ct1 sl1)
  (c1:Cd K cd1 "_law_outs")
  (k1:Kp K f1)
  (a2:Na K "_law_vessel" f2)
  (l2:Lk K f2 "_law_vessel" "_law_vessel" (bC 38) oc2 od2 kV2 dc2 pm2 an2 cd2 ct2 sl2)
  (c2:Cd K cd2 "_law_vessel")
  (k2:Kp K f2)
  (a3:Na K "_law_net" f3)
  (l3:Lk K f3 "_law_net" "_law_net" (bC 39) oc3 od3 kV3 dc3 pm3 an3 cd3 ct3 sl3)
  (c3:Cd K cd3 "_law_net")
  (k3:Kp K f3)
  (a4:Na K "_law_goal" f4)
  (l4:Lk K f4 "_law_goal" "_law_goal" (bC 42) oc4 od4 kV4 dc4 pm4 an4 cd4 ct4 sl4)
  (c4:Cd K cd4 "_law_goal")
  (k4:Kp K f4)
  (a5:Na K "_law_text" f5)
  (l5:Lk K f5 "_law_text" "_law_text" (bC 43) oc5 od5 kV5 dc5 pm5 an5 cd5 ct5 sl5)
  (c5:Cd K cd5 "_law_text")
  (k5:Kp K f5)
  (a6:Na K "is_number" f6)
  (l6:Lk K f6 "is_number" "is_number" (bC 33) oc6 od6 kV6 dc6 pm6 an6 cd6 ct6 sl6)
  (c6:Cd K cd6 "is_number")
  (k6:Kp K f6)
  (a7:Na K "read_number" f7)
  (l7:Lk K f7 "read_number" "read_number" (bC 32) oc7 od7 kV7 dc7 pm7 an7 cd7 ct7 sl7)
  (c7:Cd K cd7 "read_number")
  (k7:Kp K f7)
  (a8:Na K "read_target" f8)
  (l8:Lk K f8 "read_target" "read_target" (bC 31) oc8 od8 kV8 dc8 pm8 an8 cd8 ct8 sl8)
  (c8:Cd K cd8 "read_target")
  (k8:Kp K f8)
  (a9:Na K "read_acts" f9)
  (l9:Lk K f9 "read_acts" "read_acts" (bC 29) oc9 od9 kV9 dc9 pm9 an9 cd9 ct9 sl9)
  (c9:Cd K cd9 "read_acts")
  (k9:Kp K f9)
  (a10:Na K "read_vessel" f10)
  (l10:Lk K f10 "read_vessel" "read_vessel" (bC 28) oc10 od10 kV10 dc10 pm10 an10 cd10 ct10 sl10)
  (c10:Cd K cd10 "read_vessel")
  (k10:Kp K f10)
  (a11:Na K "read_spout" f11)
  (l11:Lk K f11 "read_spout" "read_spout" (bC 30) oc11 od11 kV11 dc11 pm11 an11 cd11 ct11 sl11)
  (c11:Cd K cd11 "read_spout")
  (k11:Kp K f11)
  (a12:Na K "is_tuple" f12)
  (l12:Lk K f12 "is_tuple" "is_tuple" (bC 18) oc12 od12 kV12 dc12 pm12 an12 cd12 ct12 sl12)
  (c12:Cd K cd12 "is_tuple")
  (k12:Kp K f12)
  (a13:Na K "is_whole" f13)
  (l13:Lk K f13 "is_whole" "is_whole" (bC 19) oc13 od13 kV13 dc13 pm13 an13 cd13 ct13 sl13)
  (c13:Cd K cd13 "is_whole")
  (k13:Kp K f13)
  (a14:Na K "is_out" f14)
  (l14:Lk K f14 "is_out" "is_out" (bC 15) oc14 od14 kV14 dc14 pm14 an14 cd14 ct14 sl14)
  (c14:Cd K cd14 "is_out")
  (k14:Kp K f14)
  (a15:Na K "is_act" f15)
  (l15:Lk K f15 "is_act" "is_act" (bC 16) oc15 od15 kV15 dc15 pm15 an15 cd15 ct15 sl15)
  (c15:Cd K cd15 "is_act")
  (k15:Kp K f15)
  (a16:Na K "is_vessel" f16)
  (l16:Lk K f16 "is_vessel" "is_vessel" (bC 14) oc16 od16 kV16 dc16 pm16 an16 cd16 ct16 sl16)
  (c16:Cd K cd16 "is_vessel")
  (k16:Kp K f16)
  (a17:Na K "is_spout" f17)
  (l17:Lk K f17 "is_spout" "is_spout" (bC 17) oc17 od17 kV17 dc17 pm17 an17 cd17 ct17 sl17)
  (c17:Cd K cd17 "is_spout")
  (k17:Kp K f17)
  (a18:Na K "is_net" f18)
  (l18:Lk K f18 "is_net" "is_net" (bC 13) oc18 od18 kV18 dc18 pm18 an18 cd18 ct18 sl18)
  (c18:Cd K cd18 "is_net")
  (k18:Kp K f18)
  (a19:Na K "target_word" f19)
  (l19:Lk K f19 "target_word" "target_word" (bC 25) oc19 od19 kV19 dc19 pm19 an19 cd19 ct19 sl19)
  (c19:Cd K cd19 "target_word")
  (k19:Kp K f19)
  (a20:Na K "vessel_line" f20)
  (l20:Lk K f20 "vessel_line" "vessel_line" (bC 23) oc20 od20 kV20 dc20 pm20 an20 cd20 ct20 sl20)
  (c20:Cd K cd20 "vessel_line")
  (k20:Kp K f20)
  (a21:Na K "door_word" f21)
  (l21:Lk K f21 "door_word" "door_word" (bC 26) oc21 od21 kV21 dc21 pm21 an21 cd21 ct21 sl21)
  (c21:Cd K cd21 "door_word")
  (k21:Kp K f21)
  (a22:Na K "spout_line" f22)
  (l22:Lk K f22 "spout_line" "spout_line" (bC 24) oc22 od22 kV22 dc22 pm22 an22 cd22 ct22 sl22)
  (c22:Cd K cd22 "spout_line")
  (k22:Kp K f22)
  (a23:Na K "net_text" f23)
  (l23:Lk K f23 "net_text" "net_text" (bC 22) oc23 od23 kV23 dc23 pm23 an23 cd23 ct23 sl23)
  (c23:Cd K cd23 "net_text")
  (k23:Kp K f23)
  (a24:Na K "read_net" f24)
  (l24:Lk K f24 "read_net" "read_net" (bC 27) oc24 od24 kV24 dc24 pm24 an24 cd24 ct24 sl24)
  (c24:Cd K cd24 "read_net")
  (k24:Kp K f24)
  (a25:Na K "_law_whole" f25)
  (l25:Lk K f25 "_law_whole" "_law_whole" (bC 36) oc25 od25 kV25 dc25 pm25 an25 cd25 ct25 sl25)
  (c25:Cd K cd25 "_law_whole")
  (k25:Kp K f25)
  (a26:Na K "_law_is_vessel" f26)
  (l26:Lk K f26 "_law_is_vessel" "_law_is_vessel" (bC 41) oc26 od26 kV26 dc26 pm26 an26 cd26 ct26 sl26)
  (c26:Cd K cd26 "_law_is_vessel")
  (k26:Kp K f26)
  (a27:Na K "_law_is_net" f27)
  (l27:Lk K f27 "_law_is_net" "_law_is_net" (bC 40) oc27 od27 kV27 dc27 pm27 an27 cd27 ct27 sl27)
  (c27:Cd K cd27 "_law_is_net")
  (k27:Kp K f27)
  (a28:Na K "law" f28)
  (l28:Lk K f28 "law" "law" (bC 44) oc28 od28 kV28 dc28 pm28 an28 cd28 ct28 sl28)
  (c28:Cd K cd28 "law")
  (k28:Kp K f28)
  (mc0:PySem.W.nsIn K mainGlobals "MOST_VESSELS" = some (some (.int 12 tk0)))
  (mc1:PySem.W.nsIn K mainGlobals "MOST_SPOUTS" = some (some (.int 12 tk1)))
  (mc2:PySem.W.nsIn K mainGlobals "MOST_SIZE" = some (some (.int 60 tk2)))
  (mc3:PySem.W.nsIn K mainGlobals "MOST_BRIM" = some (some (.int 200 tk3)))
  (mc4:PySem.W.nsIn K mainGlobals "MOST_OUTS" = some (some (.int 3 tk4)))
  (mc5:PySem.W.nsIn K mainGlobals "MOST_PARTS" = some (some (.int 60 tk5)))
  (mc6:PySem.W.nsIn K mainGlobals "MOST_ACTS" = some (some (.int 3 tk6)))
  (mc7:PySem.W.nsIn K mainGlobals "MOST_FLOW" = some (some (.int 60 tk7)))
  (mcw:Na K "ACT_WORDS" aw)
  (mlw:K.lookup aw=some ⟨.type "tuple",odw,.seq #[.str "open" tw1,.str "shut" tw2,.str "turn" tw3] nw,slw⟩)
  (mcF:PySem.W.nsIn K mainGlobals "MOST_FIGURES" = some (some (.int 9 tkF)))
  (zS:Nn K "str")
  (xcTipError:Na K "TipError" c_TipError)
  (xcNoText:Na K "NoText" c_NoText)
  (z0:Nn K "len")
  (z1:Nn K "sum")
  (z2:Nn K "all")
  (z3:Nn K "max")
  (z4:Nn K "min")
  (z5:Nn K "int")
  (z6:Nn K "tuple")
  (z7:Nn K "list")
  (z8:Nn K "bool")
  (z9:Nn K "range")
  (z10:Nn K "zip")
  (z11:Nn K "enumerate")
  (z12:Nn K "isinstance")
  (z13:Nn K "divmod")
  (z14:Nn K "set")
  (z15:Nn K "sorted")
  (exX:PySem.W.excIn K c_NoText [.type "ValueError",.type "Exception",.type "BaseException",.type "object"] "ValueError.__new__" = true) :
  ∃ fd:FuncData,(∀ (s:Shared) (v:Value),BindsTo s fd ⟨[v],[]⟩ [("script",v)])/\∀ base:Heap,K.In base->base.Ns mainGlobals mg->FnOk l.prog w K mg base iE 6 fa fd ["script"] (rF K):=by
 have e:=hfa.symm.trans (aag X G a28);cases e;have T:Txt mg:=⟨aao X G z0,aao X G z1,aao X G z2,aao X G z3,aao X G z4,aao X G z5,aao X G z6,aao X G z7,aao X G z8,aao X G z9,aao X G z10,aao X G z11,aao X G z12,aao X G z13,aao X G z14,aao X G z15⟩;have U:TxtN K mg aw:=⟨⟨_,aag X G mc0,_,rfl⟩,⟨_,aag X G mc1,_,rfl⟩,⟨_,aag X G mc2,_,rfl⟩,⟨_,aag X G mc3,_,rfl⟩,⟨_,aag X G mc4,_,rfl⟩,⟨_,aag X G mc5,_,rfl⟩,⟨_,aag X G mc6,_,rfl⟩,⟨_,aag X G mc7,_,rfl⟩,⟨_,aag X G mcw,rfl⟩,λ H=>.inr ⟨_,_,_,mlw,rfl,rfl,by show 3<=sizeLine;decide,.cons ⟨_,rfl⟩ (.cons ⟨_,rfl⟩ (.cons ⟨_,rfl⟩ .nil))⟩⟩;have UF:TxtF mg:=⟨⟨_,aag X G mcF,_,rfl⟩⟩;have TS:TxtS mg:=⟨aao X G zS⟩;have XC_NoText:ExC K "NoText" c_NoText:=⟨xcNoText,exX⟩;have F0:=bE (st:=(bC 35)) l0 c0 k0;have F1:=bE (st:=(bC 37)) l1 c1 k1;have F2:=bE (st:=(bC 38)) l2 c2 k2;have F3:=bE (st:=(bC 39)) l3 c3 k3;have F4:=bE (st:=(bC 42)) l4 c4 k4;have F5:=bE (st:=(bC 43)) l5 c5 k5;have F6:=bE (st:=(bC 33)) l6 c6 k6;have F7:=bE (st:=(bC 32)) l7 c7 k7;have F8:=bE (st:=(bC 31)) l8 c8 k8;have F9:=bE (st:=(bC 29)) l9 c9 k9;have F10:=bE (st:=(bC 28)) l10 c10 k10;have F11:=bE (st:=(bC 30)) l11 c11 k11;have F12:=bE (st:=(bC 18)) l12 c12 k12;have F13:=bE (st:=(bC 19)) l13 c13 k13;have F14:=bE (st:=(bC 15)) l14 c14 k14;have F15:=bE (st:=(bC 16)) l15 c15 k15;have F16:=bE (st:=(bC 14)) l16 c16 k16;have F17:=bE (st:=(bC 17)) l17 c17 k17;have F18:=bE (st:=(bC 13)) l18 c18 k18;have F19:=bE (st:=(bC 25)) l19 c19 k19;have F20:=bE (st:=(bC 23)) l20 c20 k20;have F21:=bE (st:=(bC 26)) l21 c21 k21;have F22:=bE (st:=(bC 24)) l22 c22 k22;have F23:=bE (st:=(bC 22)) l23 c23 k23;have F24:=bE (st:=(bC 27)) l24 c24 k24;have F25:=bE (st:=(bC 36)) l25 c25 k25;have F26:=bE (st:=(bC 41)) l26 c26 k26;have F27:=bE (st:=(bC 40)) l27 c27 k27;have F28:=bE (st:=(bC 44)) l28 c28 k28;refine⟨PySem.W.fnOf "law" "law" (gT (bC 44)) (eM (bC 44)) (aI (bC 44)) .none kV28 dc28 pm28 an28 cd28 ct28,λ s v=>.of_eq rfl,λ base _ _=>?_⟩;have C0:Callee l.prog w K mg base "_law_draw" ["tape","many"] 1 fE f0 _:=⟨nX F0 T,aag X G a0,k0,F0.binds λ _ _ _ _ _ _=>kK λ _ _=>rfl⟩;have C1:Callee l.prog w K mg base "_law_outs" ["tape","many","small"] 2 (qF K) f1 _:=⟨nU F1 T C0,aag X G a1,k1,F1.binds λ _ _ _ _ _ _=>jA λ _ _ _=>rfl⟩;have C2:Callee l.prog w K mg base "_law_vessel" ["tape","number","many","spouts","small"] 3 (kO K) f2 _:=⟨lD F2 T C0 C1,aag X G a2,k2,F2.binds λ _ _ _ _ _ _=>xU λ _ _ _ _ _=>rfl⟩;have C3:Callee l.prog w K mg base "_law_net" ["tape","most","small"] 4 (qH K) f3 _:=⟨nV F3 T C0 C2,aag X G a3,k3,F3.binds λ _ _ _ _ _ _=>jA λ _ _ _=>rfl⟩;have C4:Callee l.prog w K mg base "_law_goal" ["target"] 1 mZ f4 _:=⟨nW F4 T TS,aag X G a4,k4,F4.binds λ _ _ _ _ _ _=>cC λ _=>rfl⟩;have C5:Callee l.prog w K mg base "_law_text" ["net"] 2 (mS K) f5 _:=⟨nS F5 T TS C4,aag X G a5,k5,F5.binds λ _ _ _ _ _ _=>cC λ _=>rfl⟩;have C6:Callee l.prog w K mg base "is_number" ["word"] 1 mX f6 _:=⟨nQ F6 T TS UF,aag X G a6,k6,F6.binds λ _ _ _ _ _ _=>cC λ _=>rfl⟩;have C7:CalleeR l.prog w K mg base "read_number" ["word"] 2 (gO c_NoText) f7 _:=⟨lC F7 T XC_NoText C6,aag X G a7,k7,F7.binds λ _ _ _ _ _ _=>cC λ _=>rfl⟩;have C8:CalleeR l.prog w K mg base "read_target" ["word"] 3 (mU c_NoText) f8 _:=⟨lB F8 T C7,aag X G a8,k8,F8.binds λ _ _ _ _ _ _=>cC λ _=>rfl⟩;have C9:CalleeR l.prog w K mg base "read_acts" ["act_words"] 3 (kP K c_NoText) f9 _:=⟨nM F9 T C7,aag X G a9,k9,F9.binds λ _ _ _ _ _ _=>cC λ _=>rfl⟩;have C10:CalleeR l.prog w K mg base "read_vessel" ["words"] 4 (mT K c_NoText) f10 _:=⟨lA F10 T C7 C8 C9,aag X G a10,k10,F10.binds λ _ _ _ _ _ _=>cC λ _=>rfl⟩;have C11:CalleeR l.prog w K mg base "read_spout" ["words"] 3 (mV K c_NoText) f11 _:=⟨lY F11 T C7,aag X G a11,k11,F11.binds λ _ _ _ _ _ _=>cC λ _=>rfl⟩;have C12:Callee l.prog w K mg base "is_tuple" ["thing","least","most"] 1 (hV K) f12 _:=⟨nO F12 T,aag X G a12,k12,F12.binds λ _ _ _ _ _ _=>jA λ _ _ _=>rfl⟩;have C13:Callee l.prog w K mg base "is_whole" ["thing","least","most"] 1 (eU K) f13 _:=⟨nN F13 T,aag X G a13,k13,F13.binds λ _ _ _ _ _ _=>jA λ _ _ _=>rfl⟩;have C14:Callee l.prog w K mg base "is_out" ["thing","vessel_count"] 2 (qG K) f14 _:=⟨qQ F14 T U C12 C13,aag X G a14,k14,F14.binds λ _ _ _ _ _ _=>kK λ _ _=>rfl⟩;have C15:Callee l.prog w K mg base "is_act" ["thing","spout_count"] 2 (n8 K) f15 _:=⟨qS F15 T U C12 C13,aag X G a15,k15,F15.binds λ _ _ _ _ _ _=>kK λ _ _=>rfl⟩;have C16:Callee l.prog w K mg base "is_vessel" ["thing","number","vessel_count","spout_count"] 3 (qD K) f16 _:=⟨lZ F16 T U C12 C13 C14 C15,aag X G a16,k16,F16.binds λ _ _ _ _ _ _=>sA λ _ _ _ _=>rfl⟩;have C17:Callee l.prog w K mg base "is_spout" ["thing","vessel_count"] 2 (qE K) f17 _:=⟨nP F17 T U C12 C13,aag X G a17,k17,F17.binds λ _ _ _ _ _ _=>kK λ _ _=>rfl⟩;have C18:Callee l.prog w K mg base "is_net" ["thing"] 4 (qI K) f18 _:=⟨qR F18 T U C12 C16 C17,aag X G a18,k18,F18.binds λ _ _ _ _ _ _=>cC λ _=>rfl⟩;have C19:Callee l.prog w K mg base "target_word" ["target"] 1 mR f19 _:=⟨kZ F19 T TS,aag X G a19,k19,F19.binds λ _ _ _ _ _ _=>cC λ _=>rfl⟩;have C20:Callee l.prog w K mg base "vessel_line" ["vessel"] 2 (jD K) f20 _:=⟨kY F20 T C19,aag X G a20,k20,F20.binds λ _ _ _ _ _ _=>cC λ _=>rfl⟩;have C21:Callee l.prog w K mg base "door_word" ["door"] 1 kC f21 _:=⟨nR F21 T,aag X G a21,k21,F21.binds λ _ _ _ _ _ _=>cC λ _=>rfl⟩;have C22:Callee l.prog w K mg base "spout_line" ["spout"] 2 (jE K) f22 _:=⟨lX F22 T C21,aag X G a22,k22,F22.binds λ _ _ _ _ _ _=>cC λ _=>rfl⟩;have C23:Callee l.prog w K mg base "net_text" ["net"] 3 (gP K) f23 _:=⟨oZ F23 T C20 C22,aag X G a23,k23,F23.binds λ _ _ _ _ _ _=>cC λ _=>rfl⟩;have C24:CalleeR l.prog w K mg base "read_net" ["text"] 5 (mW K c_NoText) f24 _:=⟨oY F24 T TS XC_NoText C10 C11 C18 C23,aag X G a24,k24,F24.binds λ _ _ _ _ _ _=>cC λ _=>rfl⟩;have C25:Callee l.prog w K mg base "_law_whole" ["thing","low","high"] 1 kB f25 _:=⟨m4 F25 T,aag X G a25,k25,F25.binds λ _ _ _ _ _ _=>jA λ _ _ _=>rfl⟩;have C26:Callee l.prog w K mg base "_law_is_vessel" ["thing","number","many","spouts"] 2 (hW K) f26 _:=⟨j4 F26 T TS C25,aag X G a26,k26,F26.binds λ _ _ _ _ _ _=>sA λ _ _ _ _=>rfl⟩;have C27:Callee l.prog w K mg base "_law_is_net" ["thing"] 3 (mY K) f27 _:=⟨lE F27 T C25 C26,aag X G a27,k27,F27.binds λ _ _ _ _ _ _=>cC λ _=>rfl⟩;exact zR F28 T C3 C5 C24 C23 C27
theorem walk {l:PySem.W.OpenLaw}{q:Program}{loose:List Str}{XP:(Str->Option Value)->Heap->Prop}{YP:World->Heap->Prop}{d:DefRec}{K:Params->aaa} (hn:l.most=some 63) (hdf:d.params.defaults=[])
  (hY:∀ (w:World) (h:Heap),YP w h->(K w.params).In h)
  (F:∀ (w:World) (mg:Str->Option Value) (fa:Addr) (h:Heap),(K w.params).In h->h.Ns mainGlobals mg->mg d.name=some (.ref fa)->
   ∃ fd:FuncData,(∀ (s:Shared) (u:Value),BindsTo s fd ⟨[u],[]⟩ [("script",u)])/\∀ base:Heap,(K w.params).In base->base.Ns mainGlobals mg->FnOk l.prog w (K w.params) mg base iE 6 fa fd ["script"] (rF (K w.params))) :
  PySem.W.WalkO q loose XP YP l.row.toRowW d [] (λ f vs=>PySem.call f vs):=
 L2.walk_of (n:=63) (k:=6) (x := "script") (CX:=λ _=>iE) (sp:=λ w=>rF (K w.params)) hn (by decide) hdf ⟨rfl,by decide,by decide⟩ hY F (λ _ _ a ns hl _ hS=>⟨a,ns,rfl,hS,hl,λ _=>rfl⟩) λ _ _ _ _ _ z=>z
end Tw
def PySem.W.Fast.tw2494324735537050442:Nat:=0
theorem PySem.W.Fast.te2494324735537050442:PySem.W.Fast.tw2494324735537050442=PySem.W.Fast.tw2494324735537050442:=rfl
def PySem.W.Fast.tw10448436977999274761:PySem.Program:=PySem.Challenge.pw_tipwell_k14_nets_written_and_read
theorem PySem.W.Fast.te10448436977999274761:PySem.Challenge.pw_tipwell_k14_nets_written_and_read=PySem.W.Fast.tw10448436977999274761:=rfl
namespace PySem.W.Fast
def tw5647007115467319065:=0
def tw11911978149161200621:=0
def tw4642674134795139419:=0
def tw3719705941206601399:=0
def tw1097543480011726343:=0
def tw6530784945130613494:=0
def tw17227972337888428621:=0
def tw16323449371255641516:=0
def tw7984132138534309399:=0
def tw11856799011338112434:=0
def tw10953955457506464444:=0
def tw8853835436723242797:=0
def tw12151108961912909678:=0
def tw1943116642406823400:=0
def tw9384580974158105206:=0
def tw4899917401128396989:=0
def tw13334325631354818703:=0
def tw3425795820424002772:=0
def tw13547170883123235417:=0
def tw373641712891372257:=0
def tw3895115465239945969:=0
def tw15154238828204415705:=0
def tw8548005565439018967:=0
def tw17984125510336713075:=0
def tw8951808006789006297:=0
def tw8465719513046603239:=0
def tw1638501072931790739:=0
def tw18289859890699794740:=0
def tw11760548796500146569:=0
def tw17747385717613633649:=0
def tw17478305095837398725:=0
def tw2871798346592943066:=0
def tw12124546021706060455:=0
def tw13210688475912420060:=0
def tw17530673523764506477:=0
def tw11173234886190797417:=0
def tw17046136590143249409:=0
def tw1850204377114539625:=0
def tw4765515287883858429:=0
def tw1820828609954014673:=0
def tw11095358905815200564:=0
def tw5014935861987855043:=0
def tw13526940024355997567:=0
def tw7359165023070270619:=0
def tw15323303969078390209:=0
def tw9878588487596955214:=0
def tw10393024656480167064:=0
def tw18380386791705478774:=0
def tw11408126092085547444:=0
def tw7492970606875714676:=0
def tw7631306695586960314:=0
def tw10099411444216853505:=0
def tw2190406454013290431:=0
def tw6709474694051918489:=0
def tw1959114051431360608:=0
def tw6716432794057755231:=0
def tw6362093992734377687:=0
def tw3290808911922651606:=0
def tw8983643535031183487:=0
def tw15918001811252165127:=0
def tw770971825452191750:=0
def tw9725145066757215013:=0
def tw17485563828420798354:=0
def tw15010975469752302950:=0
def tw12854953210142228485:=0
def tw246638768723125374:=0
def tw3161049889521225276:=0
end PySem.W.Fast
open PySem PySem.W PyProof.Rows
set_option maxRecDepth 100000 in
set_option maxHeartbeats 0 in
theorem PySem.Challenge.cw_tipwell_k14_nets_written_and_read_holds : PySem.Challenge.rw_tipwell_k14_nets_written_and_read.Holds := by
 w_on;o_law;k_head;(case hw=>w_witness2)
 k_fill
 refine Tw.walk (l:=PySem.Challenge.rw_tipwell_k14_nets_written_and_read) rfl rfl (λ w h Y=>by first | exact PySem.W.kIn_of Y | exact PySem.W.km_in_of Y) ?F
 case F=>
  intro w mg fa h KX G hmg;refine' Tw.all_mk KX G hmg ?_ ?_ ?_ ?_ ?_ ?_ ?_ ?_ ?_ ?_ ?_ ?_ ?_ ?_ ?_ ?_ ?_ ?_ ?_ ?_ ?_ ?_ ?_ ?_ ?_ ?_ ?_ ?_ ?_ ?_ ?_ ?_ ?_ ?_ ?_ ?_ ?_ ?_ ?_ ?_ ?_ ?_ ?_ ?_ ?_ ?_ ?_ ?_ ?_ ?_ ?_ ?_ ?_ ?_ ?_ ?_ ?_ ?_ ?_ ?_ ?_ ?_ ?_ ?_ ?_ ?_ ?_ ?_ ?_ ?_ ?_ ?_ ?_ ?_ ?_ ?_ ?_ ?_ ?_ ?_ ?_ ?_ ?_ ?_ ?_ ?_ ?_ ?_ ?_ ?_ ?_ ?_ ?_ ?_ ?_ ?_ ?_ ?_ ?_ ?_ ?_ ?_ ?_ ?_ ?_ ?_ ?_ ?_ ?_ ?_ ?_ ?_ ?_ ?_ ?_ ?_ ?_ ?_ ?_ ?_ ?_ ?_ ?_ ?_ ?_ ?_ ?_ ?_ ?_ ?_ ?_ ?_ ?_ ?_ ?_ ?_ ?_ ?_ ?_ ?_ ?_ ?_ ?_ ?_ ?_ ?_ ?exX
  all_goals (try delta Tw.Na)
  all_goals (try delta Tw.Nn)
  all_goals (try delta Tw.Kp)
  all_goals (try delta Tw.Cd)
  all_goals (try delta Tw.Lk)
  all_goals try k_is
  (case exX=>k_exc)
#print axioms PySem.Challenge.cw_tipwell_k14_nets_written_and_read_holds