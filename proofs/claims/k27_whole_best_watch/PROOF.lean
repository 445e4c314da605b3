import PyProof.Rows.All
import Wide.All
import OpenK.AllK
import Wide.FinOn
import Lean
import PyProof.EqAt
import PyProof.EqKinds
import PyProof.TupleCall
import PyProof.FactsAll.NoneType
import PyProof.ZipIter
import PyProof.EnumMake
import KE.KUnpack
import KE.KTryMore
import PyProof.NsDelKeeps
import PyProof.TupleKey
import PyProof.FactsAll.bool_1
import PyProof.NeKinds
import PyProof.ListRange
import PyProof.Rows.SetFrom
import PyProof.CollectWalk
import PyProof.DictDisplay
import PyProof.DictTruth
import PyProof.TupleOfStr
import KE.RegKIsAll
import KE.RegKTryMore
import PySem.Challenge.RW_tipwell_k27_whole_best_watch
set_option Elab.async false
set_option linter.all false
set_option maxRecDepth 100000
noncomputable section
def aaa:=@PySem.wpAny_bind
abbrev aab:=PySem.W.Frag
def aac:=@PySem.Heap.get?_push_of_some
def aad:=@List.length_map
def aae:=@PySem.wpAny_pure
def aaf:=@List.getElem?_eq_some_iff
def aag:=@List.getElem?_map
def aah:=@List.size_toArray
def aai:=@Bool.false_ne_true
def aaj:=@Nat.le_refl
def aak:=@PySem.Heap.get?_push_size
def aal:=@List.map_append
def aam:=@PySem.Heap.lt_size
def aan:=@Array.getElem?_eq_getElem
def aao:=@List.length_append
def aap:=@List.map_cons
def aaq:=@Option.map_eq_some_iff
def aar:=@Array.length_toList
def aas:=@Nat.lt_of_lt_of_le
def aat:=@List.mem_append_right
def aau:=@List.mem_cons_of_mem
def aav:=@PySem.F.plainAttrs_list
def aaw:=@List.length_take
def aax:=@List.take_length
def aay:=@List.mem_cons
def aaz:=@PySem.W.mg_of
def aba:=@List.length_cons
def abb:=@Nat.ne_of_lt
def abc:=@List.mem_of_getElem?
def abd:=@PySem.F.slot_list_append
def abe:=@PySem.F.type_list_append
def abf:=@PySem.W.mg_none_of
def abg:=@PySem.wpAny_mono
def abh:=@PySem.Heap.size_push
def abi:=@List.mem_cons_self
def abj:=@PySem.wpAny_field
def abk:=@List.getElem?_append_left
def abl:=@List.take_of_length_le
def abm:=@decide_eq_true
def abn:=@Nat.zero_le
def abo:=@List.mem_map
def abp:=@List.getElem?_append_right
def abq:=@decide_eq_false
def abr:=@PySem.wpAny_holding
def abt:=@Array.getElem?_toList
def abu:=@List.mem_iff_getElem?
def abv:=@List.length_singleton
def abw:=@of_decide_eq_true
def abx:=@Option.some.inj
def aby:=@List.getElem?_eq_getElem
def abz:=@List.mem_range
def aca:=@List.all_eq_true
def acb:=@List.map_map
def acd:=@List.mem_singleton
def ace:=@PySem.mem_of_lookup
def acf:=@List.getElem_mem
def acg:=@List.length_range
def ach:=@Nat.lt_irrefl
def aci:=@List.mem_append
def acj:=@Nat.le_trans
def ack:=@List.map_nil
def acl:=@Nat.le_of_lt
def acm:=@List.append_assoc
def acn:=@List.append_nil
def aco:=@List.mem_append_left
def acp:=@List.getD_eq_getElem?_getD
def acq:=@PySem.Heap.get?_update_self
def acr:=@Nat.not_lt_zero
def acs:=@List.nodup_cons
def act:=@List.length_filter_le
def acu:=@PySem.wpAny_rule
def acv:=@List.mem_filter
def acw:=@List.getElem?_set_self
def acx:=@List.getElem?_set_ne
def acy:=@List.foldl_cons
def acz:=@List.range_succ
variable {P:PySem.Program}{w:PySem.World}{K:aab}{mg:PySem.Str->Option PySem.Value}{base:PySem.Heap}{C c_TipError c_NoNet c_NoVessel c_TooLong c_TooMany c_TooMuch c_Nothing c_NoText c_NoRow:PySem.Addr}
namespace L2
open PySem PySem.Spec PyProof.Rows
abbrev eB:=Sum Int (Option Str)
def zN:Value->Bool
 | .none=>true
 | _=>false
theorem rV {v:Value} (h:zN v=true):v=Value.none:=by
 cases v <;> simp_all [zN]
def oX:eB->Value->Bool
 | .inl k,v=>Value.isInt k v
 | .inr (some x),v=>Value.isStrOf x v
 | .inr none,v=>zN v
def kI:Int:=0xFCA86420
def keyH (w:World):eB->Int
 | .inl k=>hashInt k
 | .inr (some x)=>hashStr w x
 | .inr none=>kI
theorem bZ:∀ {k:eB}{v:Value},oX k v=true->(∃ i t,k=Sum.inl i/\v=Value.int i t)\/(∃ x t,k=Sum.inr (some x)/\v=Value.str x t)\/(k=Sum.inr none/\v=Value.none)
 | .inl i,v,h=>by
  obtain⟨t,e⟩:=Value.isInt_shape (k:=i) (v:=v) h;exact .inl ⟨i,t,rfl,e⟩
 | .inr (some x),v,h=>by
  obtain⟨t,e⟩:=Value.isStrOf_shape (x:=x) (v:=v) h;exact .inr (.inl ⟨x,t,rfl,e⟩)
 | .inr none,v,h=>.inr (.inr ⟨rfl,rV h⟩)
theorem wS (i:Int) (t:Tok):oX (.inl i) (.int i t)=true:=by simp [oX,Value.isInt]
theorem wR (x:Str) (t:Tok):oX (.inr (some x)) (.str x t)=true:=by simp [oX,Value.isStrOf]
theorem EH (a b:Int):decide ((Sum.inl a:eB)=Sum.inl b)=(a == b):=by
 by_cases e:a=b
 ·subst e;simp
 ·have h:¬ (Sum.inl a:eB)=Sum.inl b:=λ q=>e (Sum.inl.inj q);rw[abq h];exact (beq_eq_false_iff_ne.mpr e).symm
theorem EF (a b:Str):decide ((Sum.inr (some a):eB)=Sum.inr (some b))=decide (a=b):=by
 by_cases e:a=b
 ·subst e;simp
 ·have h:¬ (Sum.inr (some a):eB)=Sum.inr (some b):=λ q=>e (abx (Sum.inr.inj q));rw[abq h,abq e]
theorem zH (i:Int) (o:Option Str):decide ((Sum.inl i:eB)=Sum.inr o)=false:=abq (λ q=>nomatch q)
theorem zI (i:Int) (o:Option Str):decide ((Sum.inr o:eB)=Sum.inl i)=false:=abq (λ q=>nomatch q)
theorem EE (x:Str):decide ((Sum.inr (some x):eB)=Sum.inr none)=false:=abq (λ q=>nomatch (Sum.inr.inj q))
theorem EG (x:Str):decide ((Sum.inr none:eB)=Sum.inr (some x))=false:=abq (λ q=>nomatch (Sum.inr.inj q))
theorem zT {prog:Program}{w:World}{A:Around}{E:Value->Shared->Prop}{s:Shared}{Q:Int->Shared->Prop} (h:Q kI { s with toks:=s.toks+1 }) :
  wpAny (model prog w) A (pyHash .none) Q E s:=by
 have hT:s.TypeIs .none "NoneType" := rfl;unfold pyHash;have hv:[Value.none].any Value.onHeap=false:=rfl;refine aaa ?_;rw[cRoomFor,if_neg (by rw[hv];exact aai)];refine aae ?_;refine aaa (wpAny_specialOf hT F.slot_NoneType_hash.lookup ?_);show wpAny _ _ (if (some (Value.builtin "NoneType.__hash__") == some Value.none)=true then _ else _) Q E s;rw[if_neg (by rw[beq_builtin_none];exact aai)];refine aaa (wpAny_specialOf hT F.slot_NoneType_hash.lookup ?_);show wpAny _ _ (callSpecialIfBoundUnlessNone? .none "__hash__" _ >>= _) Q E s;refine aaa (wpAny_callSpecialIfBoundUnlessNone?_slot hT F.slot_NoneType_hash
  (wpAny_call_entry F.slot_NoneType_hash hT F.entry_NoneType_hash
   (show wpAny _ _ (do ret (<- mkInt kI)) _ _ s from wpAny_ret_mkInt ?_) (F.args_NoneType_hash_1 _)))
 show wpAny _ _ (if (decide (-(2:Int) ^ 63<=kI) && decide (kI < 2 ^ 63))=true then _ else _) Q E _;rw[if_pos (by decide)];exact aae h
def cY (prog:Program) (w:World):PySem.KeyKind prog w eB where
 is:=oX
 hash:=keyH w
 inj:=λ v a b ha hb=>by
  rcases bZ ha with ⟨i,t,rfl,rfl⟩ | ⟨x,t,rfl,rfl⟩ | ⟨rfl,rfl⟩
  ·rcases bZ hb with ⟨j,u,rfl,e⟩ | ⟨y,u,rfl,e⟩ | ⟨rfl,e⟩
   ·injection e with e1 _;rw[e1]
   ·exact nomatch e
   ·exact nomatch e
  ·rcases bZ hb with ⟨j,u,rfl,e⟩ | ⟨y,u,rfl,e⟩ | ⟨rfl,e⟩
   ·exact nomatch e
   ·injection e with e1 _;rw[e1]
   ·exact nomatch e
  ·rcases bZ hb with ⟨j,u,rfl,e⟩ | ⟨y,u,rfl,e⟩ | ⟨rfl,e⟩
   ·exact nomatch e
   ·exact nomatch e
   ·rfl
 byValue:=λ k v h=>by
  rcases bZ h with ⟨i,t,rfl,rfl⟩ | ⟨x,t,rfl,rfl⟩ | ⟨rfl,rfl⟩ <;> rfl
 pyHash:=λ hv h=>by
  rcases bZ hv with ⟨i,t,rfl,rfl⟩ | ⟨x,t,rfl,rfl⟩ | ⟨rfl,rfl⟩
  ·exact wpAny_pyHash_int h
  ·exact wpAny_pyHash_str h
  ·exact zT h
 eqBool:=λ hu hv h=>by
  rcases bZ hu with ⟨i,t,rfl,rfl⟩ | ⟨x,t,rfl,rfl⟩ | ⟨rfl,rfl⟩
  ·rcases bZ hv with ⟨j,u,rfl,rfl⟩ | ⟨y,u,rfl,rfl⟩ | ⟨rfl,rfl⟩
   ·rw[EH] at h;exact wpAny_eqBool_int h
   ·rw[zH] at h;exact SeqAt.EqAt.int_str i t y u _ _ _ _ h
   ·rw[zH] at h;exact SeqAt.EqAt.int_none i t _ _ _ _ h
  ·rcases bZ hv with ⟨j,u,rfl,rfl⟩ | ⟨y,u,rfl,rfl⟩ | ⟨rfl,rfl⟩
   ·rw[zI] at h;exact SeqAt.EqAt.str_int x t j u _ _ _ _ h
   ·rw[EF] at h;exact wpAny_eqBool_str h
   ·rw[EE] at h;exact SeqAt.EqAt.str_none x t _ _ _ _ h
  ·rcases bZ hv with ⟨j,u,rfl,rfl⟩ | ⟨y,u,rfl,rfl⟩ | ⟨rfl,rfl⟩
   ·rw[zI] at h;exact SeqAt.EqAt.none_int j u _ _ _ _ h
   ·rw[EG] at h;exact SeqAt.EqAt.none_str y u _ _ _ _ h
   ·rw[abm rfl] at h;exact SeqAt.EqAt.same Value.none _ _ _ _ h
 «strs»:=λ k x t v h=>by
  rcases bZ h with ⟨i,u,rfl,e⟩ | ⟨y,u,rfl,e⟩ | ⟨rfl,e⟩
  ·exact nomatch e
  ·injection e with e1 _;subst e1;cases v <;> rfl
  ·exact nomatch e
theorem rP (prog:Program) (w:World) (i:Int) (t:Tok):(cY prog w).is (.inl i) (.int i t)=true:=wS i t
theorem rO (prog:Program) (w:World) (x:Str) (t:Tok):(cY prog w).is (.inr (some x)) (.str x t)=true:=wR x t
inductive V where
 | non | bl (b:Bool) | int (i:Int) | str (x:Str) | byt (b:Array UInt8) | flt (b:UInt64) | ref (a:Addr) | ty (n:String)
 deriving DecidableEq
def bA:V->Value->Prop
 | .non,u=>u=Value.none
 | .bl b,u=>u=Value.bool b
 | .int i,u=>∃ t,u=Value.int i t
 | .str x,u=>∃ t,u=Value.str x t
 | .byt b,u=>∃ t,u=Value.bytes b t
 | .flt b,u=>∃ t,u=Value.float b t
 | .ref a,u=>u=Value.ref a
 | .ty n,u=>u=Value.type n
abbrev b9:List V->List Value->Prop:=Paired bA
theorem b9.length {xs:List V}{us:List Value} (r:b9 xs us):xs.length=us.length:=Paired.length r
theorem b9.get:∀ {xs:List V}{us:List Value}{i:Nat}{x:V},b9 xs us->xs[i]? = some x->∃ u,us[i]? = some u/\bA x u
 | _,_,_,_,.nil,e=>by simp at e
 | _,_,0,_,.cons r _,e=>by simp at e;subst e;exact⟨_,rfl,r⟩
 | _,_,i+1,x,.cons _ t,e=>by
  obtain⟨u,h1,h2⟩:=b9.get (i:=i) (x:=x) t (by simpa using e);exact⟨u,by simpa using h1,h2⟩
theorem b9.set {x:V}{u:Value} (r:bA x u):∀ {xs:List V}{us:List Value} (i:Nat),b9 xs us->b9 (xs.set i x) (us.set i u)
 | _,_,_,.nil=>.nil
 | _,_,0,.cons _ t=>.cons r t
 | _,_,i+1,.cons q t=>.cons q (b9.set r i t)
theorem b9.append:∀ {xs ys:List V}{us ws:List Value},b9 xs us->b9 ys ws->b9 (xs++ys) (us++ws)
 | _,_,_,_,.nil,s=>s
 | _,_,_,_,.cons r t,s=>.cons r (b9.append t s)
theorem b9.take:∀ {xs:List V}{us:List Value} (n:Nat),b9 xs us->b9 (xs.take n) (us.take n)
 | _,_,0,_=>.nil
 | _,_,_+1,.nil=>.nil
 | _,_,n+1,.cons r t=>.cons r (b9.take n t)
theorem b9.drop:∀ {xs:List V}{us:List Value} (n:Nat),b9 xs us->b9 (xs.drop n) (us.drop n)
 | _,_,0,r=>r
 | _,_,_+1,.nil=>.nil
 | _,_,n+1,.cons _ t=>b9.drop n t
def qV:Option V->Option Value->Prop
 | some v,some u=>bA v u
 | none,none=>True
 | _,_=>False
def KV {az:Type}:List (az×V)->List (az×Value)->Prop:=Paired λ (p:az×V) (q:az×Value)=>p.1=q.1/\bA p.2 q.2
def kV:eB->V
 | .inl i=>.int i
 | .inr (some x)=>.str x
 | .inr none=>.non
inductive HO where
 | lst (xs:List V)
 | tup (xs:List V)
 | dK (kvs:List (eB×V)) | dT (kvs:List (List eB×V))
 | set (S:Int->Bool) (n:Nat)
 | ins (C dx:Addr) (fs:List (Str×V))
 | own (x:Addr)
 | xd (fs:List (Str×V))
 | met (f x:Addr)
 | rng (lo hi:Int)
 | frz (o:Obj) (u:HO)
 | tbl (ps:Array Value)
 | ext (em:Heap->Prop)
abbrev Hp:=Addr->Option HO
def upd (H:Hp) (a:Addr) (o:HO):Hp:=λ b=>if b=a then some o else H b
theorem aB {H:Hp}{a:Addr}{o:HO}:upd H a o a=some o:=by unfold upd;rw[if_pos rfl]
theorem aH {H:Hp}{a b:Addr}{o:HO} (h:b≠a):upd H a o b=H b:=by unfold upd;rw[if_neg h]
theorem D0 {H:Hp}{a b:Addr}{o u:HO} (h:H a=some o) (h':H b=some u) (d:o≠u):a≠b:=by
 intro e;subst e;rw[h] at h';exact d (abx h')
theorem aJ {H:Hp}{a b:Addr}{o:HO} (h:H a=some o) (h':H b=none):a≠b:=by
 intro e;subst e;rw[h] at h';cases h'
section
variable (P:Program)(w:World)
def cJ (H:Hp) (h:Heap) (a:Addr):HO->Prop
 | .lst xs=>xs.length<=sizeLine/\∃ (its:List Value) (n:Nat),b9 xs its/\h.get? a=some { cls:=.type "list",data:=.seq its.toArray n }
 | .tup xs=>xs.length<=sizeLine/\∃ its:List Value,b9 xs its/\IsTup h a its.toArray
 | .dK kvs=>kvs.length<=sizeLine/\(a == sysModules)=false/\∃ vs,KV kvs vs/\h.DictOf (cY P w) a vs
 | .dT kvs=>kvs.length<=sizeLine/\(a == sysModules)=false/\∃ xs:List (List eB×Addr×Value),
   Paired (λ (p:List eB×V) (q:List eB×Addr×Value)=>p.1=q.1/\H q.2.1=some (.tup (p.1.map kV))/\bA p.2 q.2.2) kvs xs/\
   ∃ o es ep,h.get? a=some o/\o.ExactDict/\o.data=.dict es ep/\es.toList=xs.map (entryOfKey (tupleKind (cY P w)))/\(xs.map (·.1)).Nodup
 | .set S n=>h.SetOf (intKind P w) a S n
 | .ins C dx fs=>H dx=some (.own a)/\fs.length<=1000/\dx≠a/\h.get? a=some (PySem.W.instObj C dx)/\
   ∃ mA,h.Ns1 dx mA/\(∀ f,qV (fs.lookup f) (mA f))/\PySem.Within mA (fs.map (·.1))
 | .own _=>∃ o,h.get? a=some o
 | .xd fs=>∃ mA,h.Ns1 a mA/\∀ f,qV (fs.lookup f) (mA f)
 | .rng lo hi=>∃ t u v,h.get? a=some { cls:=.type "range",data:=.fields #[.int lo t,.int hi u,.int 1 v] }
 | .frz o u=>h.get? a=some o/\cJ H h a u
 | .tbl ps=>h.get? a=some { cls:=.none,data:=.fields ps }
 | .met f x=>h.get? a=some (PySem.W.methodObj (.ref f) (.ref x))
 | .ext em=>em h/\(∃ o,h.get? a=some o)/\∀ h1 h2:Heap,em h1->(∀ o,h1.get? a=some o->h2.get? a=some o)->em h2
def jN (H:Hp) (h:Heap):Prop:=∀ a o,H a=some o->cJ P w H h a o
end
section
variable {H H':Hp}{h h':Heap}{a:Addr}{o:HO}
theorem cJ.lt (x:cJ P w H h a o):a < h.objs.size:=by
 cases o with
 | lst xs=>obtain⟨_,_,_,_,e⟩:=x;exact aam e
 | tup xs=>obtain⟨_,_,_,p⟩:=x;exact p.lt
 | dK kvs=>obtain⟨_,_,_,_,o,_,_,e,_⟩:=x;exact aam e
 | dT kvs=>obtain⟨_,_,_,_,o,_,_,e,_⟩:=x;exact aam e
 | set S n=>obtain⟨o,_,_,_,e,_⟩:=x;exact aam e
 | ins C dx fs=>obtain⟨_,_,_,e,_⟩:=x;exact aam e
 | own y=>obtain⟨_,e⟩:=x;exact aam e
 | xd fs=>obtain⟨_,⟨_,_,_,e,_⟩,_⟩:=x;exact aam e
 | rng lo hi=>obtain⟨_,_,_,e⟩:=x;exact aam e
 | frz ob u=>obtain⟨e,_⟩:=x;exact aam e
 | tbl ps=>exact aam (show h.get? a=some _ from x)
 | met f y=>exact aam (show h.get? a=some _ from x)
 | ext em=>obtain⟨_,⟨_,e⟩,_⟩:=x;exact aam e
theorem Paired.mapP {ap dw:Type}{F G:ap->dw->Prop}:∀ {fc:List ap}{l₂:List dw},Paired F fc l₂->(∀ a b,F a b->G a b)->Paired G fc l₂
 | _,_,.nil,_=>.nil
 | _,_,.cons r t,f=>.cons (f _ _ r) (Paired.mapP t f)
theorem cJ.stay (x:cJ P w H h a o) (k:∀ b u,(b=a\/H b=some (.own a))->h.get? b=some u->h'.get? b=some u)
  (ho:∀ b,H b=some (.own a)->H' b=some (.own a)) (ht:∀ b xs,H b=some (.tup xs)->H' b=some (.tup xs)):cJ P w H' h' a o:=by
 induction o with
 | lst xs=>obtain⟨z,its,n,r,e⟩:=x;exact⟨z,its,n,r,k _ _ (.inl rfl) e⟩
 | tup xs=>obtain⟨z,its,r,ob,e,c⟩:=x;exact⟨z,its,r,ob,k _ _ (.inl rfl) e,c⟩
 | dK kvs=>obtain⟨z,y,vs,r,ob,es,ep,e,c⟩:=x;exact⟨z,y,vs,r,ob,es,ep,k _ _ (.inl rfl) e,c⟩
 | dT kvs=>
  obtain⟨z,y,xs,r,ob,es,ep,e,c⟩:=x;exact⟨z,y,xs,Paired.mapP r λ p q z=>⟨z.1,ht _ _ z.2.1,z.2.2⟩,ob,es,ep,k _ _ (.inl rfl) e,c⟩
 | set S n=>obtain⟨ob,es,ep,t,e,c⟩:=x;exact⟨ob,es,ep,t,k _ _ (.inl rfl) e,c⟩
 | ins C dx fs=>
  obtain⟨d,z,ne,e,mA,⟨od,es,ep,e2,c⟩,r⟩:=x;exact⟨ho _ d,z,ne,k _ _ (.inl rfl) e,mA,⟨od,es,ep,k _ _ (.inr d) e2,c⟩,r⟩
 | own y=>obtain⟨ob,e⟩:=x;exact⟨ob,k _ _ (.inl rfl) e⟩
 | xd fs=>obtain⟨mA,⟨od,es,ep,e,c⟩,r⟩:=x;exact⟨mA,⟨od,es,ep,k _ _ (.inl rfl) e,c⟩,r⟩
 | rng lo hi=>obtain⟨t,u,v,e⟩:=x;exact⟨t,u,v,k _ _ (.inl rfl) e⟩
 | frz ob u ih=>obtain⟨e,q⟩:=x;exact⟨k _ _ (.inl rfl) e,ih q⟩
 | tbl ps=>
  have e:h.get? a=some { cls:=.none,data:=.fields ps }:=x;show h'.get? a=some { cls:=.none,data:=.fields ps };exact k a _ (.inl rfl) e
 | met f y=>
  have e:h.get? a=some (PySem.W.methodObj (.ref f) (.ref y)):=x;show h'.get? a=some (PySem.W.methodObj (.ref f) (.ref y));exact k a _ (.inl rfl) e
 | ext em=>obtain⟨p,⟨o,e⟩,st⟩:=x;exact⟨st _ _ p λ o q=>k _ _ (.inl rfl) q,⟨o,k _ _ (.inl rfl) e⟩,st⟩
theorem jN.lt (x:jN P w H h) (e:H a=some o):a < h.objs.size:=(x a o e).lt
theorem jN.fresh (x:jN P w H h) (e:h.objs.size<=a):H a=none:=by
 cases q:H a with
 | none=>rfl
 | some u=>exact absurd (aas (x.lt q) e) (ach _)
theorem jN.kept (x:jN P w H h) (k:∀ b u,h.get? b=some u->h'.get? b=some u):jN P w H h':=λ a o e=>
 (x a o e).stay (λ b u _ q=>k b u q) (λ _ q=>q) λ _ _ q=>q
theorem jN.laid (x:jN P w H h) (k:∀ b u,h.get? b=some u->h'.get? b=some u) (hp:h.objs.size<=a) (new:cJ P w (upd H a o) h' a o):jN P w (upd H a o) h':=λ b u e=>by
 have hn:=x.fresh hp
 by_cases hb:b=a
 ·subst hb;rw[aB] at e;cases e;exact new
 ·rw[aH hb] at e;exact (x b u e).stay (λ c v _ q=>k c v q) (λ c q=>by rw[aH (aJ q hn)];exact q) λ c xs q=>by rw[aH (aJ q hn)];exact q
end
def Rd (H:Hp) (a:Addr) (u:HO):Prop:=H a=some u\/∃ o,H a=some (.frz o u)
theorem Rd.ok {P:Program}{w:World}{H:Hp}{h:Heap}{a:Addr}{u:HO} (r:Rd H a u) (x:jN P w H h):cJ P w H h a u:=by
 rcases r with r | ⟨o,r⟩
 ·exact x a u r
 ·obtain⟨_,q⟩:=x a _ r;exact q
def oM:Option HO->Prop
 | some (.lst _)=>True
 | some (.dK _)=>True
 | some (.dT _)=>True
 | some (.set _ _)=>True
 | some (.ins _ _ _)=>True
 | some (.ext _)=>True
 | _=>False
section
variable {H:Hp}{h h':Heap}{x e:Addr}{o':HO}
theorem jN.write (ok:jN P w H h) (mu:oM (H x)) (he:e=x\/H e=some (.own x)) (k:∀ b u,b≠e->h.get? b=some u->h'.get? b=some u) (heo:∃ u,h'.get? e=some u)
  (new:cJ P w (upd H x o') h' x o'):jN P w (upd H x o') h':=λ b u q=>by
 have nown:∀ c y,H c=some (.own y)->c≠x:=λ c y r z=>by subst z;rw[r] at mu;exact mu
 have ntup:∀ c xs,H c=some (.tup xs)->c≠x:=λ c xs r z=>by subst z;rw[r] at mu;exact mu
 by_cases hb:b=x
 ·subst hb;rw[aB] at q;cases q;exact new
 ·rw[aH hb] at q
  by_cases hbe:b=e
  ·have q':H b=some (.own x):=by
    rcases he with z | z
    ·exact absurd (hbe.trans z) hb
    ·rw[hbe];exact z
   rw[q] at q';cases q';obtain⟨v,hv⟩:=heo;exact⟨v,by rw[hbe];exact hv⟩
  ·refine (ok b u q).stay (λ c v hc r=>k c v ?_ r) (λ c r=>by rw[aH (nown c b r)];exact r) λ c xs r=>by rw[aH (ntup c xs r)];exact r
   rcases hc with rfl | hc
   ·exact hbe
   ·rintro rfl;rcases he with z | z
    ·exact nown c b hc z
    ·rw[hc] at z;cases z;exact hb rfl
end
structure Un (fs ex:List Addr) (H H':Hp) (h h':Heap):Prop where
 keep:∀ b o,h.get? b=some o->H b=none->b∉fs->b∉ex->h'.get? b=some o
 slot:∀ b o,h.get? b=some o->H b=none->b∈fs->b∉ex->∃ sl,h'.get? b=some { o with slots:=sl }
 free:∀ b o,h.get? b=some o->H b=none->b∉ex->H' b=none
 there:∀ b o,h.get? b=some o->b∉ex->∃ o',h'.get? b=some o'
 tups:∀ b xs,H b=some (.tup xs)->H' b=some (.tup xs)
 frzs:∀ b o u,H b=some (.frz o u)->H' b=some (.frz o u)
 tbls:∀ b ps,H b=some (.tbl ps)->∃ more,H' b=some (.tbl (ps++more))
section
variable {fs fs' ex ex':List Addr}{H H1 H2:Hp}{h h1 h2 h':Heap}{a x e:Addr}{o:HO}
theorem Un.any (u:Un fs ex H H1 h h1) {b:Addr}{ob:Obj} (q:h.get? b=some ob) (n:H b=none) (hx:b∉ex):∃ sl,h1.get? b=some { ob with slots:=sl }:=by
 by_cases hb:b∈fs
 ·exact u.slot b ob q n hb hx
 ·exact⟨ob.slots,u.keep b ob q n hb hx⟩
theorem Un.kept (k:∀ b u,h.get? b=some u->h'.get? b=some u):Un fs ex H H h h':=
 ⟨λ b ob q _ _ _=>k b ob q,λ b ob q _ _ _=>⟨ob.slots,k b ob q⟩,λ _ _ _ n _=>n,λ b ob q _=>⟨ob,k b ob q⟩,λ _ _ q=>q,λ _ _ _ q=>q,λ _ ps q=>⟨#[],by rw[q];simp⟩⟩
theorem Un.refl:Un fs ex H H h h:=Un.kept λ _ _ q=>q
theorem Un.laid (k:∀ b u,h.get? b=some u->h'.get? b=some u) (hp:h.objs.size<=a) (hn:H a=none):Un fs ex H (upd H a o) h h' where
 keep:=λ b u q _ _ _=>k b u q
 slot:=λ b u q _ _ _=>⟨u.slots,k b u q⟩
 free:=λ b u q n _=>by rw[aH (abb (aas (aam q) hp))];exact n
 there:=λ b u q _=>⟨u,k b u q⟩
 tups:=λ b xs q=>by rw[aH (aJ q hn)];exact q
 frzs:=λ b u xs q=>by rw[aH (aJ q hn)];exact q
 tbls:=λ b ps q=>⟨#[],by rw[aH (aJ q hn),q];simp⟩
theorem Un.write (mu:oM (H x)) (he:e=x\/H e=some (.own x)) (k:∀ b u,b≠e->h.get? b=some u->h'.get? b=some u) (heo:∃ u,h'.get? e=some u):Un fs ex H (upd H x o) h h':=by
 have hx:∀ b,H b=none->b≠x:=λ b n z=>by subst z;rw[n] at mu;exact mu
 have hb:∀ b,H b=none->b≠e:=λ b n z=>by
  subst z;rcases he with r | r
  ·exact hx b n r
  ·rw[n] at r;cases r
 have hm:∀ b u,H b=some u->¬ oM (some u)->b≠x:=λ b u q nm z=>by subst z;rw[q] at mu;exact nm mu
 refine⟨λ b u q n _ _=>k b u (hb b n) q,λ b u q n _ _=>⟨u.slots,k b u (hb b n) q⟩,λ b u q n _=>by rw[aH (hx b n)];exact n,λ b u q _=>?_,
  λ b xs q=>by rw[aH (hm b _ q λ z=>z)];exact q,λ b u xs q=>by rw[aH (hm b _ q λ z=>z)];exact q,λ b ps q=>⟨#[],by rw[aH (hm b _ q λ z=>z),q];simp⟩⟩
 by_cases hbe:b=e
 ·subst hbe;exact heo
 ·exact⟨u,k b u hbe q⟩
end
def trk (h:Heap) (H:Hp):List Addr:=(List.range h.objs.size).filter λ a=>(H a).isSome
def qG (h:Heap) (H:Hp):Heap:=PySem.W.hideAll h (trk h H)
theorem wV (h:Heap) (H:Hp):(qG h H).objs.size=h.objs.size:=PySem.W.hideAll_size _ _
theorem zS {h:Heap}{H:Hp}{b:Addr}{o:Obj} (e:h.get? b=some o) (n:H b=none):(qG h H).get? b=some o:=
 PySem.W.hideAll_get _ e λ hm=>by
  have q:(H b).isSome=true:=(acv.mp hm).2;rw[n] at q;simp at q
theorem BP {h:Heap}{H:Hp}{b:Addr}{o:Obj} (e:(qG h H).get? b=some o):h.get? b=some o/\H b=none:=by
 have e':h.get? b=some o:=PySem.W.of_hideAll (trk h H) e;refine⟨e',?_⟩;cases q:H b with
 | none=>rfl
 | some x=>
  have hm:b∈trk h H:=acv.mpr ⟨abz.mpr (aam e'),by simp [q]⟩;have z:(qG h H).get? b=none:=PySem.W.hideAll_none (trk h H) hm;rw[z] at e;cases e
structure Mod (K:aab) (mg:Str->Option Value) (base:Heap):Prop where
 kin:K.In base
 glob:base.Ns mainGlobals mg
 blt:∃ mb,base.Ns builtinsNs mb/\∀ x:Str,x ≠ "__name__" -> mb x=bootBuiltins x
 nolimit:base.NoLimit
structure Cx where
 prog:Program
 w:World
 K:aab
 mg:Str->Option Value
 base:Heap
 A:Around
 N:List Str
 s₀:Shared
 H₀:Hp
 env:Env
 outer:List Env
 stack:List Env
 ex:List Addr
 fn:Str->Bool
 calm:Bool
 pn:List (Addr×Obj)
 xe:Value->Shared->Prop
def lD (l:List Env):List Addr:=l.filterMap (·.frame)
abbrev Cx.fs (X:Cx):List Addr:=lD X.outer
def Vis (sc:Scope) (x:Str):Prop:=sc.names.lookup x=some .local\/sc.names.lookup x=some .cell\/sc.names.lookup x=some .free
def DA (sc:Scope) (x:Str):Prop:=sc.names.lookup x=some .local\/sc.names.lookup x=some .cell
def Look (env:Env) (h:Heap) (m:Str->Option Value) (x:Str) (u:Value):Prop:=
 (env.kindOf x=some .local/\m x=some u)\/((env.kindOf x=some .cell\/env.kindOf x=some .free)/\∃ c,env.cells.lookup x=some c/\h.IsCell c (some u))
structure Cx.Ok (X:Cx):Prop where
 mod:Mod X.K X.mg X.base
 kind:X.env.scope.kind=.function
 glob:X.env.globals=mainGlobals
 blt:X.env.builtins=builtinsNs
 above:X.s₀.heap.objs.size<=X.env.locals
 inj:∀ x y c,X.env.cells.lookup x=some c->X.env.cells.lookup y=some c->x=y
 has:∀ x,(X.env.kindOf x=some .cell\/X.env.kindOf x=some .free)->∃ c,X.env.cells.lookup x=some c
 cab:∀ x c,X.fn x=true->X.env.cells.lookup x=some c->X.s₀.heap.objs.size<=c
 hd:X.calm=true->X.A.handled=none
 frames:X.A.frames=some X.stack
 stk:X.stack=X.outer\/(X.stack=X.env::X.outer/\X.env.frame=some X.env.locals)
 exf:∀ b∈X.ex,b≠X.env.locals/\∀ x c,X.env.cells.lookup x=some c->c≠b
 bs:∀ b o,X.base.get? b=some o->X.s₀.heap.get? b=some o/\X.H₀ b=none
 bsz:X.base.objs.size<=X.s₀.heap.objs.size
 noex:∀ b o,X.base.get? b=some o->b∉X.ex
 exfs:∀ b∈X.ex,b∉X.fs
 funs:X.s₀.heap.FunFrames X.base X.outer
 frf:∀ b∈X.fs,X.H₀ b=none
structure Inv (X:Cx) (pins:List (Addr×Obj)) (σ:List (Option V)) (H:Hp) (s:Shared):Prop where
 ok:X.Ok
 os:s.os=X.s₀.os
 bare:AllBare s.gens
 base:Un X.fs X.ex X.H₀ H X.s₀.heap s.heap
 loc:∃ m,s.heap.Ns X.env.locals m/\∀ (i:Nat) (x:Str) (v:V),X.N[i]? = some x->σ[i]? = some (some v)->Vis X.env.scope x->∃ u,bA v u/\Look X.env s.heap m x u
 cell:∀ x c,X.env.cells.lookup x=some c->∃ v,s.heap.IsCell c v
 free:H X.env.locals=none
 freeC:∀ x c,X.env.cells.lookup x=some c->H c=none
 pin:∀ p∈X.pn++pins,s.heap.get? p.1=some p.2/\H p.1=none/\p.1≠X.env.locals/\p.1∉X.fs/\∀ v,p.2.data≠.cell v
 hok:jN X.prog X.w H s.heap
 len:σ.length=X.N.length
section
variable {X:Cx}{pins:List (Addr×Obj)}{σ:List (Option V)}{H H':Hp}{s:Shared}{h':Heap}
theorem Cx.Ok.nofr (ok:X.Ok) {b:Addr}{o:Obj} (e:X.base.get? b=some o):b∉X.fs:=λ hb=>by
 have:=(ok.funs.mem hb).1;rw[e] at this;cases this
theorem Inv.bs (I:Inv X pins σ H s):∀ b o,X.base.get? b=some o->s.heap.get? b=some o/\H b=none:=λ b o e=>
 ⟨I.base.keep b o (I.ok.bs b o e).1 (I.ok.bs b o e).2 (I.ok.nofr e) (I.ok.noex b o e),I.base.free b o (I.ok.bs b o e).1 (I.ok.bs b o e).2 (I.ok.noex b o e)⟩
theorem Inv.bk (I:Inv X pins σ H s):∀ b o,X.base.get? b=some o->s.heap.get? b=some o:=λ b o e=>(I.bs b o e).1
theorem Inv.mod (I:Inv X pins σ H s):Mod X.K X.mg X.base:=I.ok.mod
theorem Inv.kIn (I:Inv X pins σ H s):X.K.In s.heap:=I.ok.mod.kin.keeps I.bk
theorem Inv.lt (I:Inv X pins σ H s):X.env.locals < s.heap.objs.size:=let ⟨_,hn,_⟩:=I.loc;hn.lt
theorem Inv.sz (I:Inv X pins σ H s):X.s₀.heap.objs.size<=s.heap.objs.size:=acj I.ok.above (acl I.lt)
theorem Inv.nofs (I:Inv X pins σ H s) {a:Addr} (h:s.heap.objs.size<=a):a∉X.fs:=λ hb=>by
 obtain⟨_,o,ho,_⟩:=I.ok.funs.mem hb;exact absurd (aas (aam ho) (acj I.sz h)) (ach _)
theorem Inv.cne (I:Inv X pins σ H s):∀ x c,X.env.cells.lookup x=some c->c≠X.env.locals:=λ x c e z=>by
 obtain⟨v,o,ho,hd⟩:=I.cell x c e;obtain⟨m,⟨o',es,ep,ho',hd',_⟩,_⟩:=I.loc;rw[z,ho'] at ho;cases ho;rw[hd'] at hd;cases hd
theorem Inv.funs (I:Inv X pins σ H s):s.heap.FunFrames X.base X.outer:=by
 have all:∀ (l:List Env),(∀ b∈lD l,b∈X.fs)->X.s₀.heap.FunFrames X.base l->s.heap.FunFrames X.base l:=by
  intro l
  induction l with
  | nil=>intro _ _;trivial
  | cons env r ih=>
   intro hs hl;obtain⟨hk,⟨L,o,hf,hn,ho,hd⟩,hr⟩:=hl;have hL:L∈X.fs:=hs L (by unfold lD;rw[List.filterMap_cons,hf];exact abi);obtain⟨sl,e⟩:=I.base.slot L o ho (I.ok.frf L hL) hL λ z=>I.ok.exfs L z hL;exact⟨hk,⟨L,_,hf,hn,e,hd⟩,ih (λ b hb=>hs b (by unfold lD;rw[List.filterMap_cons,hf];exact aau _ hb)) hr⟩
 exact all X.outer (λ _ hb=>hb) I.ok.funs
theorem Inv.stack (I:Inv X pins σ H s):s.heap.FunFrames X.base X.stack:=by
 rcases I.ok.stk with e | ⟨e,hf⟩
 ·rw[e];exact I.funs
 ·rw[e];obtain⟨m,hn,_⟩:=I.loc;refine .cons (by rw[I.ok.kind];decide) hf hn ?_ I.funs;exact Heap.get?_none_of_le (acj I.ok.bsz I.ok.above)
theorem Inv.stkSub (I:Inv X pins σ H s):∀ b∈lD X.stack,b∈X.env.locals::X.fs:=λ b hb=>by
 rcases I.ok.stk with e | ⟨e,hf⟩
 ·rw[e] at hb;exact aau _ hb
 ·rw[e] at hb;unfold lD at hb;rw[List.filterMap_cons,hf] at hb;exact hb
theorem Inv.stkFree (I:Inv X pins σ H s):∀ b∈lD X.stack,H b=none:=λ b hb=>by
 rcases aay.mp (I.stkSub b hb) with e | hb
 ·rw[e];exact I.free
 ·obtain⟨_,o,ho,_⟩:=I.ok.funs.mem hb;exact I.base.free b o ho (I.ok.frf b hb) λ z=>I.ok.exfs b z hb
theorem Inv.step {g':Array GenState}{t':Nat}{d':Drawn}{ch:List Addr} (I:Inv X pins σ H s)
  (hch:∀ b∈ch,(b∈X.ex\/X.s₀.heap.objs.size<=b)/\b≠X.env.locals/\(∀ x c,X.env.cells.lookup x=some c->c≠b)/\∀ p∈X.pn++pins,p.1≠b)
  (keep:∀ b o,b≠X.env.locals->b∉X.fs->b∉ch->s.heap.get? b=some o->H b=none->h'.get? b=some o)
  (slot:∀ b o,b≠X.env.locals->b∈X.fs->b∉ch->s.heap.get? b=some o->H b=none->∃ sl,h'.get? b=some { o with slots:=sl }) (free:∀ b o,b∉ch->s.heap.get? b=some o->H b=none->H' b=none)
  (there:∀ b o,b∉ch->s.heap.get? b=some o->∃ o',h'.get? b=some o')
  (tups:∀ b xs,H b=some (.tup xs)->H' b=some (.tup xs)) (frzs:∀ b o u,H b=some (.frz o u)->H' b=some (.frz o u)) (tbls:∀ b ps,H b=some (.tbl ps)->∃ more,H' b=some (.tbl (ps++more)))
  (ns:∀ m,s.heap.Ns X.env.locals m->h'.Ns X.env.locals m) (hok:jN X.prog X.w H' h') (hg:AllBare g') :
  Inv X pins σ H' { s with heap:=h',gens:=g',drawn:=d',toks:=t' }:=by
 have neL:∀ b o,X.s₀.heap.get? b=some o->b≠X.env.locals:=λ b o e=>abb (aas (aam e) I.ok.above);have neC:∀ b o,X.s₀.heap.get? b=some o->b∉X.ex->b∉ch:=λ b o e hx hb=>by
  rcases (hch b hb).1 with z | z
  ·exact hx z
  ·exact absurd (aas (aam e) z) (ach _)
 have cellK:∀ x c,X.env.cells.lookup x=some c->∀ v,s.heap.IsCell c v->h'.IsCell c v:=λ x c e v ⟨o,ho,hd⟩=>by
  have nch:c∉ch:=λ z=>(hch c z).2.2.1 x c e rfl
  by_cases hc:c∈X.fs
  ·obtain⟨sl,q⟩:=slot c o (I.cne x c e) hc nch ho (I.freeC x c e);exact⟨_,q,hd⟩
  ·exact⟨o,keep c o (I.cne x c e) hc nch ho (I.freeC x c e),hd⟩
 refine⟨I.ok,I.os,hg,⟨λ b o e n hb hx=>?_,λ b o e n hb hx=>?_,λ b o e n hx=>?_,λ b o e hx=>?_,λ b xs e=>tups b xs (I.base.tups b xs e),λ b o xs e=>frzs b o xs (I.base.frzs b o xs e),λ b ps e=>?_⟩,?_,λ x c e=>?_,?_,λ x c e=>?_,λ p hp=>?_,hok,I.len⟩
 ·exact keep b o (neL b o e) hb (neC b o e hx) (I.base.keep b o e n hb hx) (I.base.free b o e n hx)
 ·obtain⟨sl,e1⟩:=I.base.slot b o e n hb hx;obtain⟨sl',e2⟩:=slot b _ (neL b o e) hb (neC b o e hx) e1 (I.base.free b o e n hx);exact⟨sl',e2⟩
 ·obtain⟨o',e1⟩:=I.base.there b o e hx;exact free b o' (neC b o e hx) e1 (I.base.free b o e n hx)
 ·obtain⟨o',e1⟩:=I.base.there b o e hx;exact there b o' (neC b o e hx) e1
 ·obtain⟨m1,e1⟩:=I.base.tbls b ps e;obtain⟨m2,e2⟩:=tbls b _ e1;exact⟨m1++m2,by rw[e2,Array.append_assoc]⟩
 ·obtain⟨m,hn,hl⟩:=I.loc;refine⟨m,ns m hn,λ i x v e1 e2 e3=>?_⟩;obtain⟨u,r,l⟩:=hl i x v e1 e2 e3;refine⟨u,r,?_⟩;rcases l with l | ⟨k,c,e,z⟩
  ·exact .inl l
  ·exact .inr ⟨k,c,e,cellK x c e _ z⟩
 ·obtain⟨v,z⟩:=I.cell x c e;exact⟨v,cellK x c e v z⟩
 ·obtain⟨m,⟨o,_,_,ho,_⟩,_⟩:=I.loc;exact free _ o (λ z=>(hch _ z).2.1 rfl) ho I.free
 ·obtain⟨v,o,ho,hd⟩:=I.cell x c e;exact free c o (λ z=>(hch c z).2.2.1 x c e rfl) ho (I.freeC x c e)
 ·obtain⟨e,n,ne,nf,d⟩:=I.pin p hp;have nch:p.1∉ch:=λ z=>(hch p.1 z).2.2.2 p hp rfl;exact⟨keep p.1 p.2 ne nf nch e n,free p.1 p.2 nch e n,ne,nf,d⟩
theorem Inv.un {t':Nat} (I:Inv X pins σ H s) (u:Un X.fs [] H H' s.heap h') (hok:jN X.prog X.w H' h'):Inv X pins σ H' { s with heap:=h',toks:=t' }:=by
 obtain⟨m,⟨o,es,ep,ho,r⟩,_⟩:=id I.loc;obtain⟨sl,hL⟩:=u.any ho I.free (by simp);exact I.step (g':=s.gens) (d':=s.drawn) (ch:=[]) (λ _ z=>nomatch z) (λ b o _ hb _ e n=>u.keep b o e n hb (by simp)) (λ b o _ hb _ e n=>u.slot b o e n hb (by simp)) (λ b o _ e n=>u.free b o e n (by simp)) (λ b o _ e=>u.there b o e (by simp)) u.tups u.frzs u.tbls (λ m' hm=>by
  obtain⟨o',es',ep',ho',r'⟩:=hm;rw[ho] at ho';cases ho';exact⟨_,es',ep',hL,r'⟩) hok I.bare
theorem Inv.call {g':Array GenState}{t':Nat}{d':Drawn}{ch:List Addr} (I:Inv X pins σ H s) (u:Un (lD X.stack) ch H H' s.heap h') (hok:jN X.prog X.w H' h') (hg:AllBare g')
  (hch:∀ b∈ch,(b∈X.ex\/X.s₀.heap.objs.size<=b)/\b≠X.env.locals/\(∀ x c,X.env.cells.lookup x=some c->c≠b)/\∀ p∈X.pn++pins,p.1≠b) :
  Inv X pins σ H' { s with heap:=h',gens:=g',drawn:=d',toks:=t' }:=by
 obtain⟨m,⟨o,es,ep,ho,r⟩,_⟩:=id I.loc;obtain⟨sl,hL⟩:=u.any ho I.free λ z=>(hch _ z).2.1 rfl;exact I.step (ch:=ch) hch (λ b o hL hb hc e n=>u.keep b o e n (λ z=>(aay.mp (I.stkSub b z)).elim hL hb) hc) (λ b o _ _ hc e n=>u.any e n hc) (λ b o hc e n=>u.free b o e n hc) (λ b o hc e=>u.there b o e hc) u.tups u.frzs u.tbls (λ m' hm=>by
  obtain⟨o',es',ep',ho',r'⟩:=hm;rw[ho] at ho';cases ho';exact⟨_,es',ep',hL,r'⟩) hok hg
theorem Inv.turned {t':Nat}{it:Addr} (I:Inv X pins σ H s) (k:∀ b o,b≠it->s.heap.get? b=some o->h'.get? b=some o) (hn:H it=none) (hL:it≠X.env.locals)
  (h1:it∈X.ex\/X.s₀.heap.objs.size<=it) (h2:∀ x c,X.env.cells.lookup x=some c->c≠it) (h3:∀ p∈X.pn++pins,p.1≠it):Inv X pins σ H { s with heap:=h',toks:=t' }:=by
 have nit:∀ b u,H b=some u->b≠it:=λ b u e z=>by rw[z,hn] at e;cases e
 refine I.step (g':=s.gens) (d':=s.drawn) (ch:=[it]) (λ b hb=>?_) (λ b o _ _ hc e _=>k b o (λ z=>hc (by simp [z])) e) (λ b o _ _ hc e _=>⟨o.slots,k b o (λ z=>hc (by simp [z])) e⟩) (λ _ _ _ _ n=>n)
  (λ b o hc e=>⟨o,k b o (λ z=>hc (by simp [z])) e⟩) (λ _ _ e=>e) (λ _ _ _ e=>e) (λ b ps e=>⟨#[],by rw[e];simp⟩) (λ m hm=>?_) (λ b u e=>?_) I.bare
 ·have e:b=it:=by simpa using hb
  subst e;exact⟨h1,hL,h2,h3⟩
 ·obtain⟨o,es,ep,ho,r⟩:=hm;exact⟨o,es,ep,k _ o (Ne.symm hL) ho,r⟩
 ·refine (I.hok b u e).stay (λ c v hc q=>k c v ?_ q) (λ _ q=>q) λ _ _ q=>q;rcases hc with z | z
  ·rw[z];exact nit b u e
  ·exact nit c _ z
theorem Inv.tok (I:Inv X pins σ H s) (t:Nat):Inv X pins σ H { s with toks:=t }:=I.un (h':=s.heap) (t':=t) Un.refl I.hok
theorem Inv.kept {t':Nat} (I:Inv X pins σ H s) (k:∀ b u,s.heap.get? b=some u->h'.get? b=some u):Inv X pins σ H { s with heap:=h',toks:=t' }:=I.un (Un.kept k) (I.hok.kept k)
theorem Inv.laid {a:Addr}{o:HO}{t':Nat} (I:Inv X pins σ H s) (k:∀ b u,s.heap.get? b=some u->h'.get? b=some u) (hp:s.heap.objs.size<=a) (new:cJ X.prog X.w (upd H a o) h' a o) :
  Inv X pins σ (upd H a o) { s with heap:=h',toks:=t' }:=I.un (Un.laid k hp (I.hok.fresh hp)) (I.hok.laid k hp new)
theorem Inv.write {x e:Addr}{o:HO}{t':Nat} (I:Inv X pins σ H s) (mu:oM (H x)) (he:e=x\/H e=some (.own x)) (k:∀ b u,b≠e->s.heap.get? b=some u->h'.get? b=some u) (heo:∃ u,h'.get? e=some u)
  (new:cJ X.prog X.w (upd H x o) h' x o):Inv X pins σ (upd H x o) { s with heap:=h',toks:=t' }:=I.un (Un.write mu he k heo) (I.hok.write mu he k heo new)
theorem Inv.pins_of {pins':List (Addr×Obj)} (I:Inv X pins σ H s) (h:∀ p∈pins',s.heap.get? p.1=some p.2/\H p.1=none/\p.1≠X.env.locals/\p.1∉X.fs/\∀ v,p.2.data≠.cell v):Inv X pins' σ H s:=
 ⟨I.ok,I.os,I.bare,I.base,I.loc,I.cell,I.free,I.freeC,λ p hp=>(aci.mp hp).elim (λ z=>I.pin p (aco _ z)) (h p),I.hok,I.len⟩
theorem rM {N:List Str} (hN:N.Nodup) {i j:Nat}{x:Str} (a:N[i]? = some x) (b:N[j]? = some x):i=j:=by
 obtain⟨h1,e1⟩:=aaf.mp a;obtain⟨h2,e2⟩:=aaf.mp b;exact (List.getElem_inj hN).mp (e1.trans e2.symm)
theorem kT {M:Model}{A:Around}{E:Value->Shared->Prop}{i:Nat}{x:Str}{v:V}{u:Value}{Q:Unit->Shared->Prop} (I:Inv X pins σ H s) (hN:X.N.Nodup) (hi:X.N[i]? = some x) (hx:DA X.env.scope x) (r:bA v u)
  (h:∀ s',Inv X pins (σ.set i (some v)) H s'->(∃ a,Heap.SameBut a s.heap s'.heap/\(a=X.env.locals\/X.env.cells.lookup x=some a))->Q () s') (hf:X.fn x=true\/X.env.scope.names.lookup x=some .local:=by with_unfolding_all first | exact .inl rfl | exact .inr rfl | assumption):wpAny M A (storeName X.env x u) Q E s:=by
 obtain⟨m,hn,hl⟩:=id I.loc;have hcls:(X.env.scope.kind == .class || (X.env.scope.kind == .module && X.env.locals != X.env.globals))=false:=by rw[I.ok.kind];rfl
 have fe:i < σ.length:=by rw[I.len];exact (aaf.mp hi).1
 have cne:=I.cne;have tracked:∀ {a:Addr}{h':Heap},(∃ o,s.heap.get? a=some o/\H a=none)->Heap.SameBut a s.heap h'->jN X.prog X.w H h':=λ {a h'} ha hs b ob e=>by
  obtain⟨_,_,hfree⟩:=ha;refine (I.hok b ob e).stay (λ c w' hc q=>(hs.2 c ?_).trans q) (λ _ q=>q) λ _ _ q=>q;rintro rfl;rcases hc with rfl | hc
  ·rw[hfree] at e;cases e
  ·rw[hfree] at hc;cases hc
 rcases hx with hk | hk
 ·refine wpAny_storeName_local hk hn (λ h' hn' hs=>?_) hcls;obtain⟨oL,_,_,hoL,_⟩:=id hn;refine h _ ⟨I.ok,I.os,I.bare,⟨λ b o e n hb hx=>?_,λ b o e n hb hx=>?_,I.base.free,λ b o e hx=>?_,I.base.tups,I.base.frzs,I.base.tbls⟩,⟨_,hn',λ j y v' e1 e2 e3=>?_⟩,λ y c e=>?_,I.free,I.freeC,λ p hp=>?_,tracked ⟨oL,hoL,I.free⟩ hs,by simpa using I.len⟩ ⟨_,hs,.inl rfl⟩
  ·exact (hs.2 b (abb (aas (aam e) I.ok.above))).trans (I.base.keep b o e n hb hx)
  ·obtain⟨sl,e1⟩:=I.base.slot b o e n hb hx;exact⟨sl,(hs.2 b (abb (aas (aam e) I.ok.above))).trans e1⟩
  ·obtain⟨o',e1⟩:=I.base.there b o e hx;exact⟨o',(hs.2 b (abb (aas (aam e) I.ok.above))).trans e1⟩
  ·by_cases hj:j=i
   ·subst hj;rw[hi] at e1;cases e1;rw[acw fe] at e2;cases e2;exact⟨u,r,.inl ⟨hk,by simp⟩⟩
   ·rw[acx (Ne.symm hj)] at e2;obtain⟨u',r',q⟩:=hl j y v' e1 e2 e3;refine⟨u',r',?_⟩;rcases q with ⟨k,e⟩ | ⟨k,c,e,z⟩
    ·refine .inl ⟨k,?_⟩;have:y≠x:=λ e=>hj (rM hN e1 (e ▸ hi));simp [this,e]
    ·exact .inr ⟨k,c,e,z.sameBut hs (cne y c e)⟩
  ·obtain⟨w',z⟩:=I.cell y c e;exact⟨w',z.sameBut hs (cne y c e)⟩
  ·obtain⟨e,n,ne,nf,d⟩:=I.pin p hp;exact⟨(hs.2 p.1 ne).trans e,n,ne,nf,d⟩
 ·have hfn:X.fn x=true:=by
   rcases hf with z | z
   ·exact z
   ·rw[z] at hk;cases hk
  obtain⟨c,hc⟩:=I.ok.has x (.inl hk);obtain⟨w',z⟩:=I.cell x c hc;refine wpAny_storeName_cell I.ok.kind hk hc z (λ h' hc' hs=>?_);obtain⟨oc,hoc,hocd⟩:=id z;refine h { s with heap:=h' } ⟨I.ok,I.os,I.bare,⟨λ b o e n hb hx=>?_,λ b o e n hb hx=>?_,I.base.free,λ b o e hx=>?_,I.base.tups,I.base.frzs,I.base.tbls⟩,⟨m,hn.sameBut hs (Ne.symm (cne x c hc)),λ j y v' e1 e2 e3=>?_⟩,λ y c' e=>?_,I.free,I.freeC,λ p hp=>?_,tracked ⟨oc,hoc,I.freeC x c hc⟩ hs,by simpa using I.len⟩ ⟨c,hs,.inr hc⟩
  ·exact (hs.2 b (abb (aas (aam e) (I.ok.cab x c hfn hc)))).trans (I.base.keep b o e n hb hx)
  ·obtain⟨sl,e1⟩:=I.base.slot b o e n hb hx;exact⟨sl,(hs.2 b (abb (aas (aam e) (I.ok.cab x c hfn hc)))).trans e1⟩
  ·obtain⟨o',e1⟩:=I.base.there b o e hx;exact⟨o',(hs.2 b (abb (aas (aam e) (I.ok.cab x c hfn hc)))).trans e1⟩
  ·by_cases hj:j=i
   ·subst hj;rw[hi] at e1;cases e1;rw[acw fe] at e2;cases e2;exact⟨u,r,.inr ⟨.inl hk,c,hc,hc'⟩⟩
   ·rw[acx (Ne.symm hj)] at e2;obtain⟨u',r',q⟩:=hl j y v' e1 e2 e3;refine⟨u',r',?_⟩;rcases q with q | ⟨k,c',e,z'⟩
    ·exact .inl q
    ·refine .inr ⟨k,c',e,z'.sameBut hs ?_⟩;rintro rfl;exact hj (rM hN e1 (I.ok.inj _ _ _ e hc ▸ hi))
  ·by_cases hcc:c'=c
   ·subst hcc;exact⟨_,hc'⟩
   ·obtain⟨w2,z2⟩:=I.cell y c' e;exact⟨w2,z2.sameBut hs hcc⟩
  ·obtain⟨e,n,ne,nf,d⟩:=I.pin p hp;refine⟨(hs.2 p.1 ?_).trans e,n,ne,nf,d⟩;intro q;rw[q,hoc] at e;have q':oc=p.2:=abx e;exact d w' (by rw[<- q'];exact hocd)
theorem mP {M:Model}{A:Around}{E:Value->Shared->Prop}{i:Nat}{x:Str}{v:V}{u:Value}{Q:Unit->Shared->Prop} (I:Inv X pins σ H s) (hN:X.N.Nodup) (hi:X.N[i]? = some x) (hx:DA X.env.scope x) (r:bA v u)
  (h:∀ s',Inv X pins (σ.set i (some v)) H s'->Q () s') (hf:X.fn x=true\/X.env.scope.names.lookup x=some .local:=by with_unfolding_all first | exact .inl rfl | exact .inr rfl | assumption):wpAny M A (storeName X.env x u) Q E s:=
 kT I hN hi hx r (λ s' I' _=>h s' I') hf
theorem Inv.call' {s':Shared}{ch:List Addr} (I:Inv X pins σ H s) (ho:s'.os=s.os) (u:Un (lD X.stack) ch H H' s.heap s'.heap) (hok:jN X.prog X.w H' s'.heap) (hg:AllBare s'.gens)
  (hch:∀ b∈ch,(b∈X.ex\/X.s₀.heap.objs.size<=b)/\b≠X.env.locals/\(∀ x c,X.env.cells.lookup x=some c->c≠b)/\∀ p∈X.pn++pins,p.1≠b):Inv X pins σ H' s':=by
 obtain⟨h',g',d',t',o'⟩:=s';have e:o'=s.os:=ho;subst e;exact I.call (g':=g') (t':=t') (d':=d') u hok hg hch
end
abbrev XK:=Value->Option Addr->Hp->Prop
abbrev St:=List (Option V)
abbrev VK:=V->Hp->Prop
abbrev TE:=St->Hp->VK->Prop
abbrev TT:=St->Hp->(Bool->Hp->Prop)->Prop
abbrev TA:=St->Hp->(List V->Hp->Prop)->Prop
structure Ends where
 nx:St->Hp->Prop
 rt:VK
 bk:St->Hp->Prop:=λ _ _=>False
 ct:St->Hp->Prop:=λ _ _=>False
abbrev TS:=Ends->St->Hp->Prop
def EP (X:Cx) (pins:List (Addr×Obj)) (σ:St) (Q:VK) (u:Value) (s':Shared):Prop:=∃ v H',Inv X pins σ H' s'/\bA v u/\Q v H'
def TP (X:Cx) (pins:List (Addr×Obj)) (σ:St) (Q:Bool->Hp->Prop) (b:Bool) (s':Shared):Prop:=∃ H',Inv X pins σ H' s'/\Q b H'
def AP (X:Cx) (pins:List (Addr×Obj)) (σ:St) (Q:List V->Hp->Prop) (us:List Value) (s':Shared):Prop:=∃ vs H',Inv X pins σ H' s'/\b9 vs us/\Q vs H'
def SP (X:Cx) (pins:List (Addr×Obj)) (D:Ends) (f:Flow) (s':Shared):Prop:=
 match f with
 | .next=>∃ Z H',Inv X pins Z H' s'/\D.nx Z H'
 | .brk=>∃ Z H',Inv X pins Z H' s'/\D.bk Z H'
 | .cont=>∃ Z H',Inv X pins Z H' s'/\D.ct Z H'
 | .ret u=>∃ v Z H',Inv X pins Z H' s'/\bA v u/\D.rt v H'
def PE (X:Cx) (e:Expr) (t:TE):Prop:=
 ∀ (pins:List (Addr×Obj)) (s:Shared) (σ:St) (H:Hp) (Q:VK),Inv X pins σ H s->t σ H Q->wpAny (model X.prog X.w) X.A (eval e X.env) (EP X pins σ Q) X.xe s
def PT (X:Cx) (e:Expr) (t:TT):Prop:=
 ∀ (pins:List (Addr×Obj)) (s:Shared) (σ:St) (H:Hp) (Q:Bool->Hp->Prop),Inv X pins σ H s->t σ H Q->wpAny (model X.prog X.w) X.A (isTrue e X.env (eval e X.env)) (TP X pins σ Q) X.xe s
def PW (X:Cx) (e:Expr) (t:TT):Prop:=
 ∀ (whole:Sem Value) (pins:List (Addr×Obj)) (s:Shared) (σ:St) (H:Hp) (Q:Bool->Hp->Prop),Inv X pins σ H s->t σ H Q->wpAny (model X.prog X.w) X.A (isTrue e X.env whole) (TP X pins σ Q) X.xe s
theorem PW.pt {X:Cx}{e:Expr}{t:TT} (h:PW X e t):PT X e t:=h _
def PA (X:Cx) (es:List Expr) (t:TA):Prop:=
 ∀ (pos:Pos) (pins:List (Addr×Obj)) (s:Shared) (σ:St) (H:Hp) (Q:List V->Hp->Prop),Inv X pins σ H s->t σ H Q->wpAny (model X.prog X.w) X.A (spliced (backTo pos (starEach es X.env))) (AP X pins σ Q) X.xe s
def PS (X:Cx) (st:Stmt) (t:TS):Prop:=
 ∀ (pins:List (Addr×Obj)) (s:Shared) (σ:St) (H:Hp) (D:Ends),Inv X pins σ H s->t D σ H->wpAny (model X.prog X.w) X.A (exec st X.env) (SP X pins D) X.xe s
def xK (X:Cx) (st:List Stmt) (t:TS):Prop:=
 ∀ (pins:List (Addr×Obj)) (s:Shared) (σ:St) (H:Hp) (D:Ends),Inv X pins σ H s->t D σ H->wpAny (model X.prog X.w) X.A (execs st X.env) (SP X pins D) X.xe s
theorem cI {ap:Type}{t:Sem ap}{Q Q':ap->Shared->Prop}{M:Model}{A:Around}{E:Value->Shared->Prop}{s:Shared} (h:wpAny M A t Q E s) (hQ:∀ a s,Q a s->Q' a s):wpAny M A t Q' E s:=abg h hQ λ _ _ x=>x
section
variable {X:Cx}
def cN (i:Nat):TE:=λ σ H Q=>∃ v,σ[i]? = some (some v)/\Q v H
def tC (v:V):TE:=λ _ H Q=>Q v H
theorem E4 {i:Nat}{x:Str}{pos:Pos} (hN:X.N[i]? = some x) (hv:Vis X.env.scope x) (hd:(x == ("__debug__" : Str))=false:=by decide) (hcd:(x == ("__classdict__" : Str))=false:=by decide):PE X (.Name x pos) (cN i):=by
 intro pins s σ H Q I h;obtain⟨v,e,h⟩:=h;obtain⟨m,hn,hl⟩:=I.loc;obtain⟨u,r,l⟩:=hl i x v hN e hv;have fin:EP X pins σ Q u s:=⟨v,H,I,r,h⟩;rcases l with ⟨hk,hm⟩ | ⟨hk,c,hc,hcell⟩
 ·exact wpAny_Name (wpAny_loadName_local I.ok.kind hk hn hm fin) hd
 ·rcases hk with hk | hk
  ·exact wpAny_Name (wpAny_loadName_cell I.ok.kind hk hc hcell fin) hd
  ·exact wpAny_Name (wpAny_loadName_free I.ok.kind hk hc hcell fin hcd) hd
theorem aG {i j pos}:PE X (.Constant (.int i) j pos) (tC (.int i)):=λ _ _ _ H _ I h=>wpAny_Constant_int ⟨.int i,H,I.tok _,⟨_,rfl⟩,h⟩
theorem j9 {b j pos}:PE X (.Constant (.bool b) j pos) (tC (.bl b)):=λ _ _ _ H _ I h=>Constant_bool ⟨.bl b,H,I,rfl,h⟩
theorem fM {j pos}:PE X (.Constant .none j pos) (tC .non):=λ _ _ _ H _ I h=>Constant_none ⟨.non,H,I,rfl,h⟩
theorem gG {x j pos}:PE X (.Constant (.str x) j pos) (tC (.str x)):=λ _ _ _ H _ I h=>Calls.Constant_str ⟨.str x,H,I.tok _,⟨_,rfl⟩,h⟩
def Gl (X:Cx) (x:Str):Prop:=X.env.kindOf x=some .globalImplicit
theorem vC {E:Value->Shared->Prop}{pins:List (Addr×Obj)}{s:Shared}{σ:St}{H:Hp}{x:Str}{u:Value}{pos:Pos}{Q:Value->Shared->Prop} (I:Inv X pins σ H s) (hg:Gl X x) (hm:X.mg x=some u) (h:Q u s)
  (hd:(x == ("__debug__" : Str))=false:=by decide):wpAny (model X.prog X.w) X.A (eval (.Name x pos) X.env) Q E s:=
 Calls.Name_function_global I.ok.kind hg (Calls.loadGlobal_global (by rw[I.ok.glob];exact I.mod.glob.keeps I.bk) hm h) hd
theorem gI {E:Value->Shared->Prop}{pins:List (Addr×Obj)}{s:Shared}{σ:St}{H:Hp}{x:Str}{u:Value}{pos:Pos}{Q:Value->Shared->Prop} (I:Inv X pins σ H s) (hg:Gl X x) (hm:X.mg x=none) (hv:bootBuiltins x=some u) (h:Q u s)
  (hn:x ≠ "__name__" := by decide) (hd:(x == ("__debug__" : Str))=false:=by decide):wpAny (model X.prog X.w) X.A (eval (.Name x pos) X.env) Q E s:=by
 obtain⟨mb,h1,h2⟩:=I.mod.blt;exact Calls.Name_function_global I.ok.kind hg (Calls.loadGlobal_builtin (by rw[I.ok.glob];exact I.mod.glob.keeps I.bk) hm (by rw[I.ok.blt];exact h1.keeps I.bk) ((h2 x hn).trans hv) h) hd
theorem m7 {x:Str}{v:V}{u:Value}{pos:Pos} (hg:Gl X x) (hm:X.mg x=none) (hv:bootBuiltins x=some u) (r:bA v u) (hn:x ≠ "__name__" := by decide) (hd:(x == ("__debug__" : Str))=false:=by decide):PE X (.Name x pos) (tC v):=
 λ _ _ _ H _ I h=>gI I hg hm hv ⟨v,H,I,r,h⟩ hn hd
variable {a b:Expr}{ta tb:TE}{pos:Pos}
def tB (t:TE):TT:=λ σ H Q=>t σ H λ x H1=>∃ c,x=.bl c/\Q c H1
theorem i5 {e:Expr}{t:TE} (h:PE X e t) (he:∀ whole,isTrue e X.env whole=(do let v <- whole;standAt e.pos;holding [v] (truthy v)):=by intro _;with_unfolding_all rfl):PT X e (tB t):=by
 intro pins s σ H Q I hw;refine isTrue_plain (cI (h pins s σ H _ I hw) λ v s1 ⟨x,H1,I1,r1,q1⟩=>?_) (he _);obtain⟨d,rfl,q⟩:=q1;cases r1;exact wpAny_truthy_bool ⟨H1,I1,q⟩
variable {tA tB':TT}{rest:List Expr}
def tAnd (t u:TT):TT:=λ σ H Q=>t σ H λ c H1=>if c=true then u σ H1 Q else Q false H1
def tOr (t u:TT):TT:=λ σ H Q=>t σ H λ c H1=>if c=true then Q true H1 else u σ H1 Q
def tNot (t:TT):TT:=λ σ H Q=>t σ H λ c H1=>Q (!c) H1
theorem uR (ha:PT X a tA):PW X (.BoolOp .And [a] pos) tA:=by
 intro wh pins s σ H Q I h;refine isTrue_and (cI (ha pins s σ H Q I h) λ c s1 e=>?_);cases c with
 | true=>exact isTrue_and_nil e
 | false=>exact e
theorem yF (ha:PT X a tA):PW X (.BoolOp .Or [a] pos) tA:=by
 intro wh pins s σ H Q I h;refine isTrue_or (cI (ha pins s σ H Q I h) λ c s1 e=>?_);cases c with
 | false=>exact isTrue_or_nil e
 | true=>exact e
theorem yG (ha:PT X a tA) (hb:PW X (.BoolOp .And (b::rest) pos) tB'):PW X (.BoolOp .And (a::b::rest) pos) (tAnd tA tB'):=by
 intro wh pins s σ H Q I h;refine isTrue_and (cI (ha pins s σ H _ I h) λ c s1 ⟨H1,I1,q1⟩=>?_);cases c with
 | true=>exact hb wh pins s1 σ H1 Q I1 q1
 | false=>exact⟨H1,I1,q1⟩
theorem CW (ha:PT X a tA) (hb:PW X (.BoolOp .Or (b::rest) pos) tB'):PW X (.BoolOp .Or (a::b::rest) pos) (tOr tA tB'):=by
 intro wh pins s σ H Q I h;refine isTrue_or (cI (ha pins s σ H _ I h) λ c s1 ⟨H1,I1,q1⟩=>?_);cases c with
 | true=>exact⟨H1,I1,q1⟩
 | false=>exact hb wh pins s1 σ H1 Q I1 q1
theorem tI (ha:PT X a tA):PT X (.UnaryOp .Not a pos) (tNot tA):=by
 intro pins s σ H Q I h;exact isTrue_not (ha pins s σ H (λ c H1=>Q (!c) H1) I h)
def FS (ta tb:TE):TE:=λ σ H Q=>ta σ H λ x H1=>∃ c,x=.bl c/\if c=true then tb σ H1 Q else Q (.bl false) H1
def tOrV (ta tb:TE):TE:=λ σ H Q=>ta σ H λ x H1=>∃ c,x=.bl c/\if c=true then Q (.bl true) H1 else tb σ H1 Q
def CJ (ta:TE):TE:=λ σ H Q=>ta σ H λ x H1=>∃ c,x=.bl c/\Q (.bl (!c)) H1
theorem tK {op}{t:TE} (h:PE X a t):PE X (.BoolOp op [a] pos) t:=λ pins s σ H Q I hw=>BoolOp_one (h pins s σ H Q I hw)
theorem tL (ha:PE X a ta) (hb:PE X (.BoolOp .And (b::rest) pos) tb):PE X (.BoolOp .And (a::b::rest) pos) (FS ta tb):=by
 intro pins s σ H Q I h;refine BoolOp_and (cI (ha pins s σ H _ I h) λ v s1 ⟨x,H1,I1,r1,q1⟩=>?_);obtain⟨c,rfl,q1⟩:=q1;cases r1;refine wpAny_truthy_bool ?_;cases c with
 | true=>exact hb pins s1 σ H1 Q I1 q1
 | false=>exact⟨.bl false,H1,I1,rfl,q1⟩
theorem G8 (ha:PE X a ta) (hb:PE X (.BoolOp .Or (b::rest) pos) tb):PE X (.BoolOp .Or (a::b::rest) pos) (tOrV ta tb):=by
 intro pins s σ H Q I h;refine BoolOp_or (cI (ha pins s σ H _ I h) λ v s1 ⟨x,H1,I1,r1,q1⟩=>?_);obtain⟨c,rfl,q1⟩:=q1;cases r1;refine wpAny_truthy_bool ?_;cases c with
 | false=>exact hb pins s1 σ H1 Q I1 q1
 | true=>exact⟨.bl true,H1,I1,rfl,q1⟩
theorem pR (ha:PE X a ta):PE X (.UnaryOp .Not a pos) (CJ ta):=by
 intro pins s σ H Q I h;refine UnaryOp_ (cI (ha pins s σ H _ I h) λ v s1 ⟨x,H1,I1,r1,q1⟩=>?_);obtain⟨c,rfl,q1⟩:=q1;cases r1;exact not_of (wpAny_truthy_bool ⟨.bl (!c),H1,I1,rfl,q1⟩)
def tIf (t:TT) (ta tb:TE):TE:=λ σ H Q=>t σ H λ c H1=>if c=true then ta σ H1 Q else tb σ H1 Q
theorem yM {c:Expr} (hc:PT X c tA) (ha:PE X a ta) (hb:PE X b tb):PE X (.IfExp c a b pos) (tIf tA ta tb):=by
 intro pins s σ H Q I h;refine wpAny_IfExp (cI (hc pins s σ H _ I h) λ d s1 ⟨H1,I1,q1⟩=>?_);cases d with
 | true=>exact ha pins s1 σ H1 Q I1 q1
 | false=>exact hb pins s1 σ H1 Q I1 q1
end
def bF (K:aab) (H:Hp) (a:Addr) (xs:List V):Prop:=
 Rd H a (.lst xs)\/
  ∃ (o:Obj) (its:Array Value) (n:Nat),K.lookup a=some o/\o.cls=.type "list" /\ o.dict=none/\o.data=.seq its n/\its.size<=sizeLine/\b9 xs its.toList
def bB (K:aab) (H:Hp) (a:Addr) (xs:List V):Prop:=
 Rd H a (.tup xs)\/
  ∃ (o:Obj) (its:Array Value) (n:Nat),K.lookup a=some o/\o.cls=.type "tuple" /\ o.data=.seq its n/\its.size<=sizeLine/\b9 xs its.toList
def absV:Value->Option V
 | .none=>some .non
 | .bool b=>some (.bl b)
 | .int i _=>some (.int i)
 | .str x _=>some (.str x)
 | .bytes b _=>some (.byt b)
 | .float b _=>some (.flt b)
 | .ref a=>some (.ref a)
 | .type n=>some (.ty n)
 | _=>none
theorem bA.abs {x:V}{u:Value} (r:bA x u):absV u=some x:=by
 cases x with
 | non=>cases r;rfl
 | bl _=>cases r;rfl
 | int _=>obtain⟨t,rfl⟩:=r;rfl
 | str _=>obtain⟨t,rfl⟩:=r;rfl
 | byt _=>obtain⟨t,rfl⟩:=r;rfl
 | flt _=>obtain⟨t,rfl⟩:=r;rfl
 | ref _=>cases r;rfl
 | ty _=>cases r;rfl
theorem bA.inj {x y:V}{u:Value} (r:bA x u) (q:bA y u):x=y:=abx (r.abs.symm.trans q.abs)
theorem b9.inj:∀ {xs ys:List V}{us:List Value},b9 xs us->b9 ys us->xs=ys
 | _,_,_,.nil,.nil=>rfl
 | _,_,_,.cons r t,.cons r' t'=>by rw[r.inj r',b9.inj t t']
section
variable {X:Cx}{pins:List (Addr×Obj)}{σ:St}{H:Hp}{s:Shared}{a:Addr}{xs ys:List V}
theorem bF.of {K:aab} (h:H a=some (.lst xs)):bF K H a xs:=.inl (.inl h)
theorem bB.of {K:aab} (h:H a=some (.tup xs)):bB K H a xs:=.inl (.inl h)
theorem Inv.list (I:Inv X pins σ H s) (h:bF X.K H a xs):∃ its:List Value,b9 xs its/\PlainL s.heap a its.toArray/\xs.length<=sizeLine:=by
 rcases h with h | ⟨o,its,n,hk,hc,hd,hs,hz,r⟩
 ·obtain⟨z,its,n,r,e⟩:=h.ok I.hok;exact⟨its,r,⟨_,n,e,rfl,rfl,rfl⟩,z⟩
 ·refine⟨its.toList,r,⟨o,n,I.kIn a o hk,hc,hd,by simpa using hs⟩,?_⟩;have e:=r.length;simp only [aar] at e;omega
theorem Inv.tuple (I:Inv X pins σ H s) (h:bB X.K H a xs):∃ its:List Value,b9 xs its/\IsTup s.heap a its.toArray/\xs.length<=sizeLine:=by
 rcases h with h | ⟨o,its,n,hk,hc,hs,hz,r⟩
 ·obtain⟨z,its,r,p⟩:=h.ok I.hok;exact⟨its,r,p,z⟩
 ·refine⟨its.toList,r,⟨o,I.kIn a o hk,hc,n,by simpa using hs⟩,?_⟩;have e:=r.length;simp only [aar] at e;omega
theorem Inv.list_inj (I:Inv X pins σ H s) (h:bF X.K H a xs) (h':bF X.K H a ys):xs=ys:=by
 obtain⟨its,r,⟨o,n,e,_,_,d⟩,_⟩:=I.list h;obtain⟨its',r',⟨o',n',e',_,_,d'⟩,_⟩:=I.list h';rw[e] at e';cases e';rw[d] at d';injection d' with d1 _;have:its=its':=by simpa using congrArg Array.toList d1
 subst this;exact r.inj r'
theorem Inv.tuple_inj (I:Inv X pins σ H s) (h:bB X.K H a xs) (h':bB X.K H a ys):xs=ys:=by
 obtain⟨its,r,⟨o,e,_,n,d⟩,_⟩:=I.tuple h;obtain⟨its',r',⟨o',e',_,n',d'⟩,_⟩:=I.tuple h';rw[e] at e';cases e';rw[d] at d';injection d' with d1 _;have:its=its':=by simpa using congrArg Array.toList d1
 subst this;exact r.inj r'
end
abbrev Cx.wish (X:Cx) (E:Value->Shared->Prop):Cx:={ X with xe:=E }
abbrev Cx.nox (X:Cx):Cx:=X.wish λ _ _=>False
theorem Cx.Ok.wish {X:Cx} (ok:X.Ok) (E:Value->Shared->Prop):(X.wish E).Ok:=
 ⟨ok.mod,ok.kind,ok.glob,ok.blt,ok.above,ok.inj,ok.has,ok.cab,ok.hd,ok.frames,ok.stk,ok.exf,ok.bs,ok.bsz,ok.noex,ok.exfs,ok.funs,ok.frf⟩
theorem Cx.Ok.unwish {X:Cx}{E:Value->Shared->Prop} (ok:(X.wish E).Ok):X.Ok:=
 ⟨ok.mod,ok.kind,ok.glob,ok.blt,ok.above,ok.inj,ok.has,ok.cab,ok.hd,ok.frames,ok.stk,ok.exf,ok.bs,ok.bsz,ok.noex,ok.exfs,ok.funs,ok.frf⟩
section
variable {X:Cx}{pins:List (Addr×Obj)}{σ:St}{H:Hp}{s:Shared}{E:Value->Shared->Prop}
theorem Inv.wish (I:Inv X pins σ H s) (E:Value->Shared->Prop):Inv (X.wish E) pins σ H s:=⟨I.ok.wish E,I.os,I.bare,I.base,I.loc,I.cell,I.free,I.freeC,I.pin,I.hok,I.len⟩
theorem Inv.unwish (I:Inv (X.wish E) pins σ H s):Inv X pins σ H s:=⟨I.ok.unwish,I.os,I.bare,I.base,I.loc,I.cell,I.free,I.freeC,I.pin,I.hok,I.len⟩
theorem SP.unwish {D:Ends}{f:Flow}{s':Shared} (h:SP (X.wish E) pins D f s'):SP X pins D f s':=by
 cases f with
 | next=>obtain⟨Z,H',I,q⟩:=h;exact⟨Z,H',I.unwish,q⟩
 | brk=>obtain⟨Z,H',I,q⟩:=h;exact⟨Z,H',I.unwish,q⟩
 | cont=>obtain⟨Z,H',I,q⟩:=h;exact⟨Z,H',I.unwish,q⟩
 | ret u=>obtain⟨v,Z,H',I,r,q⟩:=h;exact⟨v,Z,H',I.unwish,r,q⟩
theorem xK.nox {st:List Stmt}{t:TS} (h:xK X.nox st t):xK X st t:=λ pins s σ H D I hw=>
 abg (h pins s σ H D (I.wish _) hw) (λ _ _ q=>q.unwish) λ _ _ z=>False.elim z
end
section
variable {X:Cx}{st:Stmt}{rest:List Stmt}{t u:TS}{e:Expr}{te:TE}{pos:Pos}
def CK:TS:=λ D σ H=>D.nx σ H
def iZ (t u:TS):TS:=λ D σ H=>t { D with nx:=u D } σ H
theorem cB:xK X [] CK:=λ _ _ σ H _ I h=>wpAny_execs_nil ⟨σ,H,I,h⟩
theorem aD (h1:PS X st t) (h2:xK X rest u):xK X (st::rest) (iZ t u):=by
 intro pins s σ H D I h;refine wpAny_execs_cons (cI (h1 pins s σ H { D with nx:=u D } I h) λ f s1 q=>?_);cases f with
 | next=>
  obtain⟨Z,H',I',q⟩:=q;exact h2 pins s1 Z H' D I' q
 | ret v=>exact q
 | brk=>exact q
 | cont=>exact q
theorem aK (h1:PS X st t):xK X [st] t:=by
 intro pins s σ H D I h;refine wpAny_execs_cons (cI (h1 pins s σ H D I h) λ f s1 q=>?_);cases f with
 | next=>exact wpAny_execs_nil q
 | ret v=>exact q
 | brk=>exact q
 | cont=>exact q
theorem Inv.quiet {pins:List (Addr×Obj)}{σ:St}{H:Hp}{s:Shared} (I:Inv X pins σ H s):interactive X.env=false:=by simp [interactive,I.ok.kind]
def FQ (te:TE):TS:=λ D σ H=>te σ H λ _ H1=>D.nx σ H1
theorem cG (he:PE X e te) (hs:swapsWith e none pos.line X.env=pure false:=by with_unfolding_all rfl):PS X (.Expr e pos) (FQ te):=by
 intro pins s σ H D I h;exact wpAny_Expr_any (cI (he pins s σ H _ I h) λ v s1 ⟨x,H1,I1,r1,q1⟩=>⟨σ,H1,I1,q1⟩) I.quiet hs
def AX (te:TE):TS:=λ D σ H=>te σ H D.rt
theorem bE (he:PE X e te):PS X (.Return (some e) pos) (AX te):=by
 intro pins s σ H D I h;exact wpAny_Return_some (cI (he pins s σ H _ I h) λ v s1 ⟨x,H1,I1,r1,q1⟩=>⟨x,σ,H1,I1,r1,q1⟩)
def xV (c:TT) (t u:TS):TS:=λ D σ H=>c σ H λ b H1=>if b=true then t D σ H1 else u D σ H1
theorem dR {c:Expr}{a b:List Stmt}{tc:TT} (hc:PT X c tc) (ha:xK X a t) (hb:xK X b u):PS X (.If c a b pos) (xV tc t u):=by
 intro pins s σ H D I h;refine wpAny_If (cI (hc pins s σ H _ I h) λ d s1 ⟨H1,I1,q1⟩=>?_);cases d with
 | true=>exact ha pins s1 σ H1 D I1 q1
 | false=>exact hb pins s1 σ H1 D I1 q1
end
abbrev TG:=V->St->Hp->(St->Hp->Prop)->Prop
abbrev AL:=List V->St->Hp->(St->Hp->Prop)->Prop
def PG (X:Cx) (target:Expr) (t:TG):Prop:=
 ∀ (pins:List (Addr×Obj)) (s:Shared) (σ:St) (H:Hp) (v:V) (u:Value) (Q:St->Hp->Prop),Inv X pins σ H s->bA v u->t v σ H Q->
  wpAny (model X.prog X.w) X.A (assign target X.env u) (λ _ s'=>∃ Z H',Inv X pins Z H' s'/\Q Z H') X.xe s
def EX (X:Cx) (ts:List Expr) (t:AL):Prop:=
 ∀ (pins:List (Addr×Obj)) (s:Shared) (σ:St) (H:Hp) (vs:List V) (us:List Value) (Q:St->Hp->Prop),Inv X pins σ H s->b9 vs us->t vs σ H Q->
  wpAny (model X.prog X.w) X.A (assignInOrder ((assignEach ts X.env).map (·.2)) us) (λ _ s'=>∃ Z H',Inv X pins Z H' s'/\Q Z H') X.xe s
abbrev AK:=V->V->V->Hp->(Hp->Prop)->Prop
def EW (X:Cx) (t:AK):Prop:=
 ∀ (pins:List (Addr×Obj)) (s:Shared) (σ:St) (H:Hp) (o i v:V) (ov iv u:Value) (Q:Hp->Prop),Inv X pins σ H s->bA o ov->bA i iv->bA v u->t o i v H Q->
  wpAny (model X.prog X.w) X.A (setItem ov iv u) (λ _ s'=>∃ H',Inv X pins σ H' s'/\Q H') X.xe s
abbrev FG:=V->V->Hp->VK->Prop
def PIp (X:Cx) (op:Operator) (t:FG):Prop:=
 ∀ (pins:List (Addr×Obj)) (s:Shared) (σ:St) (H:Hp) (x y:V) (v u:Value) (Q:VK),Inv X pins σ H s->bA x v->bA y u->t x y H Q->
  wpAny (model X.prog X.w) X.A (inplaceOp op v u) (EP X pins σ Q) X.xe s
section
variable {X:Cx}{pos:Pos}
def cX (i:Nat):TG:=λ v σ H Q=>Q (σ.set i (some v)) H
theorem fH {i:Nat}{x:Str} (hN:X.N.Nodup) (hi:X.N[i]? = some x) (hx:DA X.env.scope x) (hf:X.fn x=true\/X.env.scope.names.lookup x=some .local:=by with_unfolding_all first | exact .inl rfl | exact .inr rfl | assumption):PG X (.Name x pos) (cX i):=by
 intro pins s σ H v u Q I r h;exact wpAny_assign_Name (mP I hN hi hx r (λ s' I'=>⟨_,H,I',h⟩) hf)
def GL:AL:=λ vs σ H Q=>vs=[]/\Q σ H
def A2 (t:TG) (u:AL):AL:=λ vs σ H Q=>∃ v r,vs=v::r/\t v σ H λ Z H'=>u r Z H' Q
theorem aW:EX X [] GL:=by
 intro pins s σ H vs us Q I r h;obtain⟨e,h⟩:=h;subst e;cases r;exact assignInOrder_nil ⟨σ,H,I,h⟩
theorem aE {e:Expr}{es:List Expr}{t:TG}{u:AL} (h1:PG X e t) (h2:EX X es u)
  (hs:(assignEach (e::es) X.env).map (·.2)=assign e X.env::(assignEach es X.env).map (·.2):=by with_unfolding_all rfl):EX X (e::es) (A2 t u):=by
 intro pins s σ H vs us Q I r h;obtain⟨v,vr,e1,h⟩:=h;subst e1;cases r with
 | cons r rr=>
  rw[hs];refine assignInOrder_cons (cI (h1 pins s σ H _ _ _ I r h) λ _ s1 ⟨σ1,H1,I1,q1⟩=>?_);exact h2 pins s1 σ1 H1 _ _ Q I1 rr q1
def EO (K:aab) (n:Nat) (t:AL):TG:=λ v σ H Q=>∃ a xs,v=.ref a/\bB K H a xs/\xs.length=n/\t xs σ H Q
theorem E2 {es:List Expr}{k:Nat}{t:AL}{n:Nat} (hc:X.calm=true) (h:EX X es t)
  (hn:(assignEach es X.env).length=n:=by with_unfolding_all rfl) (hst:(assignEach es X.env).findIdx? (·.1)=none:=by with_unfolding_all rfl):PG X (.Tuple es k pos) (EO X.K n t):=by
 intro pins s σ H v u Q I r hw;obtain⟨a,xs,e1,hq,hl,hw⟩:=hw;subst e1;cases r;obtain⟨its,rv,ht,hz⟩:=I.tuple hq;refine assign_Tuple_tuple (I.ok.hd hc) ht (by simp [hn,<- hl,rv.length]) hst λ h' hx=>?_;have I1:Inv X pins σ H { s with heap:=h' }:=I.kept (t':=s.toks) λ b o e=>hx b o (abb (aam e)) e;exact h pins _ σ H xs _ Q I1 (by simpa using rv) hw
def A1 (to ti:TE) (t:AK):TG:=λ v σ H Q=>to σ H λ o H1=>ti σ H1 λ i H2=>t o i v H2 λ H3=>Q σ H3
theorem kY {o i:Expr}{to ti:TE}{t:AK} (ho:PE X o to) (hi:PE X i ti) (hs:EW X t)
  (ha:∀ v,assign (.Subscript o i pos) X.env v=(do
   let ov <- holding [v] (eval o X.env);let iv <- holding [v,ov] (eval i X.env)
   standAt pos
   holding [v,ov,iv] (setItem ov iv v)
   release [v,ov,iv] []):=by intro _;with_unfolding_all rfl):PG X (.Subscript o i pos) (A1 to ti t):=by
 intro pins s σ H v u Q I r h;rw[ha];refine aaa (abr (cI (ho pins s σ H _ I h) λ ov s1 ⟨x,H1,I1,r1,q1⟩=>?_));refine aaa (abr (cI (hi pins s1 σ H1 _ I1 q1) λ iv s2 ⟨y,H2,I2,r2,q2⟩=>?_));refine aaa (wpAny_standAt (aaa (abr (cI (hs pins s2 σ H2 x y v ov iv u _ I2 r1 r2 r q2) λ _ s3 ⟨H3,I3,q3⟩=>?_))));exact wpAny_release ⟨σ,H3,I3,q3⟩
def h7 (te:TE) (g:TG):TS:=λ D σ H=>te σ H λ x H1=>g x σ H1 D.nx
theorem bY {tg e:Expr}{te:TE}{g:TG} (he:PE X e te) (hg:PG X tg g) (hs:swapsWithSole [tg] e pos.line X.env=pure false:=by with_unfolding_all rfl) (hw:swappedStores [tg] e X.env=pure none:=by with_unfolding_all rfl)
  (h1:(assignEach [tg] X.env).map (·.2)=[assign tg X.env]:=by with_unfolding_all rfl):PS X (.Assign [tg] e pos) (h7 te g):=by
 intro pins s σ H D I h;refine wpAny_Assign_stores (cI (he pins s σ H _ I h) λ v s1 ⟨x,H1,I1,r1,q1⟩=>?_) hs hw;rw[h1];exact cI (hg pins s1 σ H1 x v _ I1 r1 q1) λ _ s2 q=>q
theorem dY {i:Nat}{x:Str}{e:Expr}{te:TE}{pos':Pos} (hN:X.N.Nodup) (hi:X.N[i]? = some x) (hx:DA X.env.scope x) (he:PE X e te) (hs:swapsWith e (some (.Name x pos')) pos.line X.env=pure false:=by with_unfolding_all rfl) (hf:X.fn x=true\/X.env.scope.names.lookup x=some .local:=by with_unfolding_all first | exact .inl rfl | exact .inr rfl | assumption) :
  PS X (.Assign [.Name x pos'] e pos) (h7 te (cX i)):=by
 intro pins s σ H D I h;refine wpAny_Assign_Name (cI (he pins s σ H _ I h) λ v s1 ⟨y,H1,I1,r1,q1⟩=>?_) hs;exact mP I1 hN hi hx r1 (λ s2 I2=>⟨_,H1,I2,q1⟩) hf
def tAug (i:Nat) (te:TE) (ti:FG):TS:=λ D σ H=>∃ x,σ[i]? = some (some x)/\te σ H λ y H1=>ti x y H1 λ z H2=>D.nx (σ.set i (some z)) H2
theorem yI {i:Nat}{x:Str}{e:Expr}{te:TE}{op:Operator}{ti:FG}{pos':Pos} (hN:X.N.Nodup) (hi:X.N[i]? = some x) (hx:DA X.env.scope x) (he:PE X e te) (ho:PIp X op ti) (hf:X.fn x=true\/X.env.scope.names.lookup x=some .local:=by with_unfolding_all first | exact .inl rfl | exact .inr rfl | assumption) :
  PS X (.AugAssign (.Name x pos') op e pos) (tAug i te ti):=by
 intro pins s σ H D I h;obtain⟨v,e1,h⟩:=h;obtain⟨m,hn,hl⟩:=I.loc;have vis:Vis X.env.scope x:=by rcases hx with k | k;exact .inl k;exact .inr (.inl k)
 obtain⟨u,r,l⟩:=hl i x v hi e1 vis;refine wpAny_AugAssign_Name ?_;have go:wpAny (model X.prog X.w) X.A (eval e X.env) (λ w ci=>wpAny (model X.prog X.w) X.A (inplaceOp op u w) (λ r bn=>wpAny (model X.prog X.w) X.A (storeName X.env x r) (λ _=>SP X pins D .next) X.xe bn) X.xe ci) X.xe s:=by
  refine cI (he pins s σ H _ I h) λ w s1 ⟨y,H1,I1,r1,q1⟩=>?_;refine cI (ho pins s1 σ H1 v y u w _ I1 r r1 q1) λ z s2 ⟨zv,H2,I2,r2,q2⟩=>?_;exact mP I2 hN hi hx r2 (λ s3 I3=>⟨_,H2,I3,q2⟩) hf
 rcases l with ⟨hk,hm⟩ | ⟨hk,c,hc,hcell⟩
 ·exact wpAny_loadName_local I.ok.kind hk hn hm go
 ·rcases hk with hk | hk
  ·exact wpAny_loadName_cell I.ok.kind hk hc hcell go
  ·rcases hx with k | k
   ·have:X.env.scope.names.lookup x=some .free:=hk;rw[k] at this;cases this
   ·have:X.env.scope.names.lookup x=some .free:=hk;rw[k] at this;cases this
def FR (to ti te:TE) (tget:V->V->Hp->VK->Prop) (tip:FG) (tset:AK):TS:=λ D σ H=>to σ H λ o H1=>ti σ H1 λ i H2=>tget o i H2 λ x H3=>te σ H3 λ y H4=>tip x y H4 λ z H5=>tset o i z H5 λ H6=>D.nx σ H6
def EY (X:Cx) (t:V->V->Hp->VK->Prop):Prop:=
 ∀ (pins:List (Addr×Obj)) (s:Shared) (σ:St) (H:Hp) (o i:V) (ov iv:Value) (Q:VK),Inv X pins σ H s->bA o ov->bA i iv->t o i H Q->
  wpAny (model X.prog X.w) X.A (getItem ov iv) (EP X pins σ Q) X.xe s
theorem BC {o i e:Expr}{to ti te:TE}{tget:V->V->Hp->VK->Prop}{tip:FG}{tset:AK}{op:Operator}{tpos:Pos} (ho:PE X o to) (hi:PE X i ti) (hg:EY X tget) (he:PE X e te) (hp:PIp X op tip) (hs:EW X tset)
  (ha:∀ ov iv new,augStore i ov iv new=(do holding [new,ov,iv] (setItem ov iv new);release [new,ov,iv] [];pure .next):=by intros;with_unfolding_all rfl):PS X (.AugAssign (.Subscript o i tpos) op e pos) (FR to ti te tget tip tset):=by
 intro pins s σ H D I h;refine wpAny_AugAssign_SubscriptAny (cI (ho pins s σ H _ I h) λ ov s1 ⟨x1,H1,I1,r1,q1⟩=>?_) ha;refine cI (hi pins s1 σ H1 _ I1 q1) λ iv s2 ⟨x2,H2,I2,r2,q2⟩=>?_;refine cI (hg pins s2 σ H2 x1 x2 ov iv _ I2 r1 r2 q2) λ old s3 ⟨x3,H3,I3,r3,q3⟩=>?_;refine cI (he pins s3 σ H3 _ I3 q3) λ v s4 ⟨x4,H4,I4,r4,q4⟩=>?_;refine cI (hp pins s4 σ H4 x3 x4 old v _ I4 r3 r4 q4) λ new s5 ⟨x5,H5,I5,r5,q5⟩=>?_;exact cI (hs pins s5 σ H5 x1 x2 x5 ov iv new _ I5 r1 r2 r5 q5) λ _ s6 ⟨H6,I6,q6⟩=>⟨σ,H6,I6,q6⟩
def ipI (f:Int->Int->Int):FG:=λ x y H Q=>∃ i j,x=.int i/\y=.int j/\Q (.int (f i j)) H
theorem zO:PIp X .Add (ipI λ i j=>i+j):=by
 intro pins s σ H x y v u Q I r1 r2 h;obtain⟨i,j,e1,e2,q⟩:=h;subst e1;subst e2;obtain⟨t,rfl⟩:=r1;obtain⟨t',rfl⟩:=r2;exact iadd_int ⟨.int _,H,I.tok _,⟨_,rfl⟩,q⟩
theorem EM:PIp X .Sub (ipI λ i j=>i - j):=by
 intro pins s σ H x y v u Q I r1 r2 h;obtain⟨i,j,e1,e2,q⟩:=h;subst e1;subst e2;obtain⟨t,rfl⟩:=r1;obtain⟨t',rfl⟩:=r2;exact isub_int ⟨.int _,H,I.tok _,⟨_,rfl⟩,q⟩
end
structure It where
 go:Nat->Hp->Prop
 yld:Nat->Hp->V->Hp->Prop
 stop:Nat->Hp->Prop
def eP (X:Cx) (pins:List (Addr×Obj)) (H:Hp) (b:Addr):Prop:=
 H b=none/\b≠X.env.locals/\b∉X.fs/\(b∈X.ex\/X.s₀.heap.objs.size<=b)/\(∀ x c,X.env.cells.lookup x=some c->c≠b)/\∀ p∈X.pn++pins,p.1≠b
theorem Inv.fpOk {X:Cx}{pins:List (Addr×Obj)}{σ:St}{H H':Hp}{s:Shared}{b:Addr} (I:Inv X pins σ H s) (hb:s.heap.objs.size<=b) (hn:H' b=none):eP X pins H' b:=by
 refine⟨hn,Nat.ne_of_gt (aas I.lt hb),I.nofs hb,.inr (acj I.sz hb),λ x c e z=>?_,λ p hp z=>?_⟩
 ·obtain⟨v,q⟩:=I.cell x c e;exact absurd (aas q.lt (by rw[z];exact hb)) (ach _)
 ·exact absurd (aas (aam (I.pin p hp).1) (by rw[z];exact hb)) (ach _)
structure Turn (P:Program) (w:World) (K:aab) (tg:Expr) (J:It) (fp:List Addr) (it:Addr) (tn:Nat->Heap->Prop):Prop where
 mem:it∈fp
 obj:∀ i h,tn i h->∀ b∈fp,∃ o,h.get? b=some o/\∀ v,o.data≠.cell v
 keep:∀ i h h',tn i h->(∀ b∈fp,∀ o,h.get? b=some o->h'.get? b=some o)->tn i h'
 item:∀ (X:Cx),X.prog=P->X.w=w->X.K=K->X.calm=true->∀ (i:Nat) (pins:List (Addr×Obj)) (s:Shared) (σ:St) (H:Hp) (E:Value->Shared->Prop),Inv X pins σ H s->(∀ b∈fp,eP X pins H b)->tn i s.heap->J.go i H->
  wpAny (model P w) X.A (pyNext (.ref it)) (λ r s1=>∃ u,r=some u/\
   wpAny (model P w) X.A (letOwnedTupleGo tg (.ref it) u) (λ _ s2=>∃ x H',Inv X pins σ H' s2/\bA x u/\J.yld i H x H'/\tn (i+1) s2.heap/\∀ b∈fp,H' b=none) E s1) E s
 done:∀ (X:Cx),X.prog=P->X.w=w->X.K=K->X.calm=true->∀ (i:Nat) (pins:List (Addr×Obj)) (s:Shared) (σ:St) (H:Hp) (E:Value->Shared->Prop),Inv X pins σ H s->(∀ b∈fp,eP X pins H b)->tn i s.heap->J.stop i H->
  wpAny (model P w) X.A (pyNext (.ref it)) (λ r s1=>r=none/\Inv X pins σ H s1) E s
 self:∀ (A:Around) (i:Nat) (s:Shared) (Q:Value->Shared->Prop) (E:Value->Shared->Prop),tn i s.heap->Q (.ref it) s->wpAny (model P w) A (pyIter (.ref it)) Q E s
abbrev TI:=St->Hp->(It->Hp->Prop)->Prop
def PIE (X:Cx) (pins:List (Addr×Obj)) (σ:St) (tg:Expr) (R:It->Hp->Prop) (itv:Value) (s2:Shared):Prop:=
 ∃ (it:Addr) (fp:List Addr) (tn:Nat->Heap->Prop) (J:It) (H':Hp),itv=.ref it/\Inv X pins σ H' s2/\Turn X.prog X.w X.K tg J fp it tn/\tn 0 s2.heap/\(∀ b∈fp,eP X pins H' b)/\R J H'
def PI (X:Cx) (tg iter:Expr) (wi:TI):Prop:=
 ∀ (pins:List (Addr×Obj)) (s:Shared) (σ:St) (H:Hp) (R:It->Hp->Prop),Inv X pins σ H s->wi σ H R->
  wpAny (model X.prog X.w) X.A (eval iter X.env) (λ v s1=>wpAny (model X.prog X.w) X.A (pyIter v) (PIE X pins σ tg R) X.xe s1) X.xe s
theorem zW {M:Model}{A:Around}{E:Value->Shared->Prop}{s:Shared}{tg:Expr}{it:Addr}{u:Value}{o:Obj}{n:String}{vs:Array Value}{Q:Unit->Shared->Prop} (ho:s.heap.get? it=some o) (hc:o.cls=.type n) (hd:o.data=.fields vs)
  (hn:["enumerate","zip","dict_itemiterator","dict_reverseitemiterator","odict_iterator","itertools.zip_longest","itertools.pairwise"].contains n=false) (hQ:Q () s):wpAny M A (letOwnedTupleGo tg (.ref it) u) Q E s:=by
 unfold letOwnedTupleGo;cases tg <;> first
  | exact aae hQ
  | (cases u <;> first
    | exact aae hQ
    | (refine aaa (wpAny_load ho ?_)
       rw[hc,hd];show wpAny M A (if (["enumerate","zip","dict_itemiterator","dict_reverseitemiterator","odict_iterator","itertools.zip_longest","itertools.pairwise"].contains n && vs[0]? == some (rawInt _))=true then _ else _) Q E s;rw[if_neg (by intro h;rw[hn,Bool.false_and] at h;cases h)];exact aae hQ))
def FD (K:aab) (a:Addr):It:=
 ⟨λ i H=>∃ xs x,bF K H a xs/\xs[i]? = some x,λ i H x H'=>H'=H/\∀ xs,bF K H a xs->xs[i]? = some x,λ i H=>∃ xs,bF K H a xs/\xs.length<=i⟩
def FI (K:aab) (a:Addr):It:=
 ⟨λ i H=>∃ xs x,bB K H a xs/\xs[i]? = some x,λ i H x H'=>H'=H/\∀ xs,bB K H a xs->xs[i]? = some x,λ i H=>∃ xs,bB K H a xs/\xs.length<=i⟩
def FC (lo:Int) (n:Nat):It:=⟨λ i _=>i < n,λ i H x H'=>H'=H/\x=.int (lo+i),λ i _=>n<=i⟩
theorem w9 {P:Program}{w:World}{K:aab}{tg:Expr} (a it:Addr):Turn P w K tg (FD K a) [it] it (λ i h=>h.IsListIter it a i) where
 mem:=by simp
 obj:=λ i h st b hb=>by
  have e:b=it:=by simpa using hb
  subst e;obtain⟨o,e,c,d⟩:=st;exact⟨o,e,λ v z=>by rw[d] at z;cases z⟩
 keep:=λ i h h' st k=>st.at λ o e=>k it (by simp) o e
 item:=by
  intro X hP hw hK hc i pins s σ H E I hf st hg;subst hP hw hK;obtain⟨xs,x,hq,hx⟩:=hg;obtain⟨its,rv,p,hz⟩:=I.list hq;obtain⟨u,hu,ru⟩:=rv.get hx;obtain⟨f0,f1,f2,f3,f4,f5⟩:=hf it (by simp);refine wpAny_pyNext_list_item st p.isList (x:=u) (by simpa using hu) λ h' st' sb=>?_;have I1:Inv X pins σ H { s with heap:=h' }:=I.turned (t':=s.toks) (λ b o hb e=>(sb.2 b hb).trans e) f0 f1 f3 f4 f5;obtain⟨o,e,c,d⟩:=id st';exact⟨u,rfl,zW (s:={ s with heap:=h' }) e c d (by decide) ⟨x,H,I1,ru,⟨rfl,λ ys hy=>by rw[I.list_inj hy hq];exact hx⟩,st',λ b hb=>(hf b hb).1⟩⟩
 done:=by
  intro X hP hw hK hc i pins s σ H E I hf st hg;subst hP hw hK;obtain⟨xs,hq,hx⟩:=hg;obtain⟨its,rv,p,hz⟩:=I.list hq;obtain⟨f0,f1,f2,f3,f4,f5⟩:=hf it (by simp);have hl:=rv.length;exact wpAny_pyNext_list_end (I.ok.hd hc) st p.isList (by simp;omega) λ h' eb=>⟨rfl,I.turned (t':=s.toks) (λ b o hb e=>eb b o hb e) f0 f1 f3 f4 f5⟩
 self:=λ _ _ _ _ _ st h=>wpAny_pyIter_listiter st h
theorem sS {P:Program}{w:World}{K:aab}{tg:Expr} (a it:Addr):Turn P w K tg (FI K a) [it] it (λ i h=>h.IsTupleIter it a i) where
 mem:=by simp
 obj:=λ i h st b hb=>by
  have e:b=it:=by simpa using hb
  subst e;obtain⟨o,e,c,d⟩:=st;exact⟨o,e,λ v z=>by rw[d] at z;cases z⟩
 keep:=λ i h h' st k=>st.at λ o e=>k it (by simp) o e
 item:=by
  intro X hP hw hK hc i pins s σ H E I hf st hg;subst hP hw hK;obtain⟨xs,x,hq,hx⟩:=hg;obtain⟨its,rv,p,hz⟩:=I.tuple hq;obtain⟨u,hu,ru⟩:=rv.get hx;obtain⟨f0,f1,f2,f3,f4,f5⟩:=hf it (by simp);refine wpAny_pyNext_tuple_item st (show s.heap.IsTuple a its.toArray from p) (x:=u) (by simpa using hu) λ h' st' sb=>?_;have I1:Inv X pins σ H { s with heap:=h' }:=I.turned (t':=s.toks) (λ b o hb e=>(sb.2 b hb).trans e) f0 f1 f3 f4 f5;obtain⟨o,e,c,d⟩:=id st';exact⟨u,rfl,zW (s:={ s with heap:=h' }) e c d (by decide) ⟨x,H,I1,ru,⟨rfl,λ ys hy=>by rw[I.tuple_inj hy hq];exact hx⟩,st',λ b hb=>(hf b hb).1⟩⟩
 done:=by
  intro X hP hw hK hc i pins s σ H E I hf st hg;subst hP hw hK;obtain⟨xs,hq,hx⟩:=hg;obtain⟨its,rv,p,hz⟩:=I.tuple hq;obtain⟨f0,f1,f2,f3,f4,f5⟩:=hf it (by simp);have hl:=rv.length;exact wpAny_pyNext_tuple_end (I.ok.hd hc) st (show s.heap.IsTuple a its.toArray from p) (by simp;omega) λ h' eb=>⟨rfl,I.turned (t':=s.toks) (λ b o hb e=>eb b o hb e) f0 f1 f3 f4 f5⟩
 self:=λ _ _ _ _ _ st h=>wpAny_pyIter_tupleiter st h
theorem sT {P:Program}{w:World}{K:aab}{tg:Expr} (it:Addr) (lo:Int) (n:Nat):Turn P w K tg (FC lo n) [it] it (λ i h=>IsRangeIter h it (lo+(i:Nat) * 1) ((n:Int) - (i:Nat)) 1) where
 mem:=by simp
 obj:=λ i h st b hb=>by
  have e:b=it:=by simpa using hb
  subst e;exact⟨_,st,λ v z=>by
   have z':Data.fields _=Data.cell v:=z;cases z'⟩
 keep:=λ i h h' st k=>k it (by simp) _ st
 item:=by
  intro X hP hw hK hc i pins s σ H E I hf st hg;subst hP hw hK;obtain⟨f0,f1,f2,f3,f4,f5⟩:=hf it (by simp);have W:=Walks.range (prog:=X.prog) (w:=X.w) (I.ok.hd hc) it lo 1 n;refine W.item i s _ _ hg st λ v h' tk hv st' kk=>?_;obtain⟨t,rfl⟩:=hv;have I1:Inv X pins σ H { s with heap:=h',toks:=tk }:=I.turned (λ b o hb e=>kk b o (by simpa using hb) e) f0 f1 f3 f4 f5;refine⟨_,rfl,zW (s:={ s with heap:=h',toks:=tk }) (n := "range_iterator") st' rfl rfl (by decide) ⟨.int (lo+i),H,I1,⟨t,?_⟩,⟨rfl,rfl⟩,st',λ b hb=>(hf b hb).1⟩⟩;rw[Int.mul_one]
 done:=by
  intro X hP hw hK hc i pins s σ H E I hf st hg;subst hP hw hK;obtain⟨f0,f1,f2,f3,f4,f5⟩:=hf it (by simp);exact wpAny_pyNext_range_end (I.ok.hd hc) st (by have:n<=i:=hg;omega) λ h' eb=>⟨rfl,I.turned (t':=s.toks) (λ b o hb e=>eb b o hb e) f0 f1 f3 f4 f5⟩
 self:=λ _ _ _ _ _ st h=>wpAny_pyIter_rangeiter st h
section
variable {X:Cx}{tg:Expr}
def D6 (K:aab) (tl:TE):TI:=λ σ H R=>tl σ H λ x H1=>∃ a,x=.ref a/\(∃ xs,bF K H1 a xs)/\R (FD K a) H1
def GI (K:aab) (tl:TE):TI:=λ σ H R=>tl σ H λ x H1=>∃ a,x=.ref a/\(∃ xs,bB K H1 a xs)/\R (FI K a) H1
theorem BF {l:Expr}{tl:TE} (hl:PE X l tl):PI X tg l (D6 X.K tl):=by
 intro pins s σ H R I h;refine cI (hl pins s σ H _ I h) λ v s1 ⟨x,H1,I1,r1,q1⟩=>?_;obtain⟨a,e,⟨xs,hq⟩,q⟩:=q1;subst e;cases r1;obtain⟨its,rv,p,hz⟩:=I1.list hq;refine wpAny_pyIter_list p.isList ?_;refine⟨s1.heap.objs.size,[s1.heap.objs.size],_,_,H1,rfl,I1.kept (t':=s1.toks) λ b o e=>aac _ e,w9 a _,⟨_,aak _ rfl,rfl,rfl⟩,λ b hb=>?_,q⟩;have e:b=s1.heap.objs.size:=by simpa using hb
 subst e;exact I1.fpOk (aaj _) (I1.hok.fresh (aaj _))
theorem E1 {l:Expr}{tl:TE} (hl:PE X l tl):PI X tg l (GI X.K tl):=by
 intro pins s σ H R I h;refine cI (hl pins s σ H _ I h) λ v s1 ⟨x,H1,I1,r1,q1⟩=>?_;obtain⟨a,e,⟨xs,hq⟩,q⟩:=q1;subst e;cases r1;obtain⟨its,rv,p,hz⟩:=I1.tuple hq;refine wpAny_pyIter_tuple (show s1.heap.IsTuple a its.toArray from p) ?_;refine⟨s1.heap.objs.size,[s1.heap.objs.size],_,_,H1,rfl,I1.kept (t':=s1.toks) λ b o e=>aac _ e,sS a _,⟨_,aak _ rfl,rfl,rfl⟩,λ b hb=>?_,q⟩;have e:b=s1.heap.objs.size:=by simpa using hb
 subst e;exact I1.fpOk (aaj _) (I1.hok.fresh (aaj _))
theorem yB {pins:List (Addr×Obj)}{σ:St}{H:Hp}{s:Shared}{R:It->Hp->Prop}{E:Value->Shared->Prop}{lo hi:Int}{t u v:Tok}{tk:Nat} (I:Inv X pins σ H s) (h1 : -(2 ^ 62)<=lo) (h2:lo < 2 ^ 62) (h3 : -(2 ^ 62)<=hi) (h4:hi < 2 ^ 62)
  (q:R (FC lo (hi - lo).toNat) H):wpAny (model X.prog X.w) X.A (pyIter (.ref s.heap.objs.size)) (PIE X pins σ tg R) E { s with heap:=s.heap.push { cls:=.type "range",data:=.fields #[.int lo t,.int hi u,.int 1 v] },toks:=tk }:=by
 refine wpAny_pyIter_range (IsRange.new ..) (small_one h1 h2 h3 h4) ?_;have I1:Inv X pins σ H { s with heap:=s.heap.push { cls:=.type "range",data:=.fields #[.int lo t,.int hi u,.int 1 v] },toks:=tk }:=I.kept λ b o e=>aac _ e;refine⟨(s.heap.push { cls:=.type "range",data:=.fields #[.int lo t,.int hi u,.int 1 v] }).objs.size,[(s.heap.push { cls:=.type "range",data:=.fields #[.int lo t,.int hi u,.int 1 v] }).objs.size],_,_,H,rfl,
  I1.kept (t':=tk) λ b o e=>aac _ e,sT _ lo (hi - lo).toNat,?_,λ b hb=>?_,q⟩
 ·have e1:lo+((0:Nat):Int) * 1=lo:=by simp
  have e2:(((hi - lo).toNat:Nat):Int) - ((0:Nat):Int)=Builtin.Range.rangeSize lo hi 1:=by rw[rangeSize_one];split <;> omega
  show IsRangeIter _ _ (lo+((0:Nat):Int) * 1) ((((hi - lo).toNat:Nat):Int) - ((0:Nat):Int)) 1;rw[e1,e2];exact aak _ rfl
 ·have e:b=(s.heap.push { cls:=.type "range",data:=.fields #[.int lo t,.int hi u,.int 1 v] }).objs.size:=by simpa using hb
  subst e;exact I1.fpOk (aaj _) (I1.hok.fresh (aaj _))
def GJ (ta:TA):TI:=λ σ H R=>ta σ H λ vs H1=>∃ j:Int,vs=[.int j]/\-(2 ^ 62)<=j/\j < 2 ^ 62/\R (FC 0 j.toNat) H1
theorem bT {a:Expr}{ta:TA}{p pos:Pos} (hg:Gl X "range") (hm:X.mg "range" = none) (ha:PA X [a] ta) (hs:starEach [a] X.env=[(false,eval a X.env)]:=by with_unfolding_all rfl):PI X tg (.Call (.Name "range" p) [a] [] pos) (GJ ta):=by
 intro pins s σ H R I h;refine Call_ (gI I hg hm boot_range (PyProof.Rows.callWith_type1 (cI (ha pos pins s σ H _ I h) λ us s1 ⟨vs,H1,I1,r1,q1⟩=>?_) hs rfl));obtain⟨j,e,q1,q2,q⟩:=q1;subst e;cases r1 with
 | cons r rr=>
  cases rr;obtain⟨t,rfl⟩:=r;exact call_range_1 (yB I1 (by omega) (by omega) q1 q2 (by simpa using q))
def DL (wi:TI) (g:TG) (tb:TS):TS:=λ D σ H=>wi σ H λ J H1=>∃ W:Nat->Nat->St->Hp->Prop,(∃ m,W 0 m σ H1)/\∀ i m σ H,W i m σ H->
 (J.stop i H/\D.nx σ H)\/(J.go i H/\∃ N:St->Hp->Prop,(∀ Z H',N Z H'->∃ m',m' < m/\W (i+1) m' Z H')/\∀ x H',J.yld i H x H'->g x σ H' λ bf H2=>tb { D with nx:=N,ct:=N,bk:=D.nx } bf H2)
def jE (fp:List Addr) (h:Heap):List (Addr×Obj):=fp.filterMap λ b=>(h.get? b).map λ o=>(b,o)
theorem d9 {fp:List Addr}{h:Heap}{b:Addr}{o:Obj} (hb:b∈fp) (e:h.get? b=some o):(b,o)∈jE fp h:=List.mem_filterMap.mpr ⟨b,hb,by rw[e];rfl⟩
theorem wO {fp:List Addr}{h:Heap}{p:Addr×Obj} (hp:p∈jE fp h):p.1∈fp/\h.get? p.1=some p.2:=by
 obtain⟨b,hb,e⟩:=List.mem_filterMap.mp hp;cases q:h.get? b with
 | none=>rw[q] at e;cases e
 | some o=>
  rw[q] at e;have e':(b,o)=p:=abx e;subst e';exact⟨hb,q⟩
theorem Inv.pinned {pins:List (Addr×Obj)}{σ:St}{H:Hp}{s:Shared}{fp:List Addr} (I:Inv X pins σ H s) (hf:∀ b∈fp,eP X pins H b) (ho:∀ b∈fp,∃ o,s.heap.get? b=some o/\∀ v,o.data≠.cell v):Inv X (pins++jE fp s.heap) σ H s:=
 I.pins_of λ p hp=>(aci.mp hp).elim (λ z=>I.pin p (aat _ z)) λ z=>by
  obtain⟨hb,e⟩:=wO z;obtain⟨f0,f1,f2,_⟩:=hf p.1 hb;obtain⟨o,e',d⟩:=ho p.1 hb;rw[e] at e';cases e';exact⟨e,f0,f1,f2,d⟩
theorem Inv.unpinned {pins pl:List (Addr×Obj)}{σ:St}{H:Hp}{s:Shared} (I:Inv X (pins++pl) σ H s):Inv X pins σ H s:=I.pins_of λ p hp=>I.pin p (aat _ (aco _ hp))
theorem dD {iter:Expr}{body:List Stmt}{wi:TI}{g:TG}{tb:TS}{pos:Pos} (hp:PassesOwn (model X.prog X.w) X.A X.env X.xe) (hc:X.calm=true) (hi:PI X tg iter wi) (hg:PG X tg g) (hb:xK X body tb)
  (hs:∀ x,foldedSetIterable iter X.env x=pure x:=by intro _;with_unfolding_all rfl):PS X (.For tg iter body [] pos) (DL wi g tb):=by
 intro pins s σ H D I h;refine wpAny_For (cI (hi pins s σ H _ I h) λ v s1 h1=>cI h1 λ itv s2 h2=>?_) hs;obtain⟨it,fp,tn,J,H2,e,I2,T,st2,f2,W,⟨m0,w0⟩,turn⟩:=h2;subst e;have stat:∀ {H':Hp},(∀ b∈fp,H' b=none)->∀ b∈fp,eP X pins H' b:=λ hn b hb=>⟨hn b hb,(f2 b hb).2⟩;refine codeAny_forLoop_any (λ n s'=>∃ i Z H',Inv X pins Z H' s'/\tn i s'.heap/\(∀ b∈fp,H' b=none)/\W i n Z H') ?_ m0 ⟨0,σ,H2,I2,st2,λ b hb=>(f2 b hb).1,w0⟩;rintro n s3 ⟨i,am,H3,I3,st3,fr3,w3⟩;rcases turn i n am H3 w3 with ⟨stop,qn⟩ | ⟨go,N,hN,step⟩
 ·refine wpAny_passesOwn hp (cI (T.done X rfl rfl rfl hc i pins s3 am H3 X.xe I3 (stat fr3) st3 stop) λ r s4 ⟨hr,I4⟩=>?_);subst hr;exact wpAny_execs_nil ⟨am,H3,I4,qn⟩
 ·refine wpAny_passesOwn hp (cI (T.item X rfl rfl rfl hc i pins s3 am H3 X.xe I3 (stat fr3) st3 go) λ r s4 ⟨u,hr,h4⟩=>?_);subst hr;refine wpAny_passesOwn hp (cI h4 λ _ s5 ⟨x,H5,I5,r5,y5,st5,fr5⟩=>?_);have I5':=I5.pinned (stat fr5) (T.obj _ _ st5);refine wpAny_passesOwn hp (cI (hg _ s5 am H5 x u _ I5' r5 (step x H5 y5)) λ _ s6 ⟨σ6,H6,I6,q6⟩=>?_);refine wpAny_passesOwn hp (cI (hb _ s6 σ6 H6 _ I6 q6) λ f s7 q7=>?_);have again:∀ {ck:St}{H7:Hp},Inv X (pins++jE fp s5.heap) ck H7 s7->N ck H7->∃ m,m < n/\∃ i Z H',Inv X pins Z H' s7/\tn i s7.heap/\(∀ b∈fp,H' b=none)/\W i m Z H':=λ {ck H7} I7 n7=>by
   obtain⟨m',hm,w7⟩:=hN ck H7 n7;refine⟨m',hm,i+1,ck,H7,I7.unpinned,T.keep _ _ _ st5 λ b hb o e=>(I7.pin (b,o) (aat _ (aat _ (d9 hb e)))).1,λ b hb=>?_,w7⟩;obtain⟨o,e,d⟩:=T.obj _ _ st5 b hb;exact (I7.pin (b,o) (aat _ (aat _ (d9 hb e)))).2.1
  cases f with
  | next=>obtain⟨ck,H7,I7,n7⟩:=q7;exact again I7 n7
  | cont=>obtain⟨ck,H7,I7,n7⟩:=q7;exact again I7 n7
  | brk=>obtain⟨ck,H7,I7,q7⟩:=q7;exact⟨ck,H7,I7.unpinned,q7⟩
  | ret v=>obtain⟨x7,ck,H7,I7,r7,q7⟩:=q7;exact⟨x7,ck,H7,I7.unpinned,r7,q7⟩
end
theorem sC {K:aab}{a:Addr}{xs:List V}{g:TG}{tb:TS}{D:Ends}{σ:St}{H:Hp} (Pv:Nat->St->Hp->Prop) (h0:Pv 0 σ H) (hl:∀ i σ H,i<=xs.length->Pv i σ H->bF K H a xs)
  (hs:∀ i x σ H,xs[i]? = some x->Pv i σ H->g x σ H λ bf H2=>tb { D with nx:=Pv (i+1),ct:=Pv (i+1),bk:=D.nx } bf H2) (hd:∀ σ H,Pv xs.length σ H->D.nx σ H) :
  ∃ W:Nat->Nat->St->Hp->Prop,(∃ m,W 0 m σ H)/\∀ i m σ H,W i m σ H->
   ((FD K a).stop i H/\D.nx σ H)\/((FD K a).go i H/\∃ N:St->Hp->Prop,(∀ Z H',N Z H'->∃ m',m' < m/\W (i+1) m' Z H')/\∀ x H',(FD K a).yld i H x H'->g x σ H' λ bf H2=>tb { D with nx:=N,ct:=N,bk:=D.nx } bf H2):=by
 refine⟨λ i m σ H=>m=xs.length - i/\i<=xs.length/\Pv i σ H,⟨xs.length,by simp,abn _,h0⟩,?_⟩;rintro i m σ H ⟨rfl,hi,p⟩;have q:=hl i σ H hi p
 by_cases hlt:i < xs.length
 ·refine .inr ⟨⟨xs,xs[i],q,by simp [hlt]⟩,Pv (i+1),λ Z H' p'=>⟨xs.length - (i+1),by omega,rfl,hlt,p'⟩,λ x H' y=>?_⟩;obtain⟨e,y⟩:=y;subst e;exact hs i x σ _ (y xs q) p
 ·have e:i=xs.length:=by omega
  subst e;exact .inl ⟨⟨xs,q,aaj _⟩,hd σ H p⟩
theorem qJ {K:aab}{a:Addr}{xs:List V}{g:TG}{tb:TS}{D:Ends}{σ:St}{H:Hp} (Pv:Nat->St->Hp->Prop) (h0:Pv 0 σ H) (hl:∀ i σ H,i<=xs.length->Pv i σ H->bB K H a xs)
  (hs:∀ i x σ H,xs[i]? = some x->Pv i σ H->g x σ H λ bf H2=>tb { D with nx:=Pv (i+1),ct:=Pv (i+1),bk:=D.nx } bf H2) (hd:∀ σ H,Pv xs.length σ H->D.nx σ H) :
  ∃ W:Nat->Nat->St->Hp->Prop,(∃ m,W 0 m σ H)/\∀ i m σ H,W i m σ H->
   ((FI K a).stop i H/\D.nx σ H)\/((FI K a).go i H/\∃ N:St->Hp->Prop,(∀ Z H',N Z H'->∃ m',m' < m/\W (i+1) m' Z H')/\∀ x H',(FI K a).yld i H x H'->g x σ H' λ bf H2=>tb { D with nx:=N,ct:=N,bk:=D.nx } bf H2):=by
 refine⟨λ i m σ H=>m=xs.length - i/\i<=xs.length/\Pv i σ H,⟨xs.length,by simp,abn _,h0⟩,?_⟩;rintro i m σ H ⟨rfl,hi,p⟩;have q:=hl i σ H hi p
 by_cases hlt:i < xs.length
 ·refine .inr ⟨⟨xs,xs[i],q,by simp [hlt]⟩,Pv (i+1),λ Z H' p'=>⟨xs.length - (i+1),by omega,rfl,hlt,p'⟩,λ x H' y=>?_⟩;obtain⟨e,y⟩:=y;subst e;exact hs i x σ _ (y xs q) p
 ·have e:i=xs.length:=by omega
  subst e;exact .inl ⟨⟨xs,q,aaj _⟩,hd σ H p⟩
theorem dA {lo:Int}{n:Nat}{g:TG}{tb:TS}{D:Ends}{σ:St}{H:Hp} (Pv:Nat->St->Hp->Prop) (h0:Pv 0 σ H)
  (hs:∀ i σ H,i < n->Pv i σ H->g (.int (lo+i)) σ H λ bf H2=>tb { D with nx:=Pv (i+1),ct:=Pv (i+1),bk:=D.nx } bf H2) (hd:∀ σ H,Pv n σ H->D.nx σ H) :
  ∃ W:Nat->Nat->St->Hp->Prop,(∃ m,W 0 m σ H)/\∀ i m σ H,W i m σ H->
   ((FC lo n).stop i H/\D.nx σ H)\/((FC lo n).go i H/\∃ N:St->Hp->Prop,(∀ Z H',N Z H'->∃ m',m' < m/\W (i+1) m' Z H')/\∀ x H',(FC lo n).yld i H x H'->g x σ H' λ bf H2=>tb { D with nx:=N,ct:=N,bk:=D.nx } bf H2):=by
 refine⟨λ i m σ H=>m=n - i/\i<=n/\Pv i σ H,⟨n,by simp,abn _,h0⟩,?_⟩;rintro i m σ H ⟨rfl,hi,p⟩
 by_cases hlt:i < n
 ·refine .inr ⟨hlt,Pv (i+1),λ Z H' p'=>⟨n - (i+1),by omega,rfl,hlt,p'⟩,λ x H' y=>?_⟩;obtain⟨e,y⟩:=y;subst e y;exact hs i σ _ hlt p
 ·have e:i=n:=by omega
  subst e;exact .inl ⟨aaj _,hd σ H p⟩
abbrev R2:=V->V->Hp->VK->Prop
def gA (X:Cx) (f:Value->Value->Sem Value) (r:R2):Prop:=
 ∀ (pins:List (Addr×Obj)) (s:Shared) (σ:St) (H:Hp) (x y:V) (v u:Value) (Q:VK),Inv X pins σ H s->bA x v->bA y u->r x y H Q->
  wpAny (model X.prog X.w) X.A (f v u) (EP X pins σ Q) X.xe s
def UnR (X:Cx) (f:Value->Sem Value) (r:V->Hp->VK->Prop):Prop:=
 ∀ (pins:List (Addr×Obj)) (s:Shared) (σ:St) (H:Hp) (x:V) (v:Value) (Q:VK),Inv X pins σ H s->bA x v->r x H Q->
  wpAny (model X.prog X.w) X.A (f v) (EP X pins σ Q) X.xe s
def dI (X:Cx) (f:Value) (r:List V->Hp->VK->Prop):Prop:=
 ∀ (pins:List (Addr×Obj)) (s:Shared) (σ:St) (H:Hp) (xs:List V) (us:List Value) (Q:VK),Inv X pins σ H s->b9 xs us->r xs H Q->
  wpAny (model X.prog X.w) X.A (call f us) (EP X pins σ Q) X.xe s
def fT (r:R2) (ta tb:TE):TE:=λ σ H Q=>ta σ H λ x H1=>tb σ H1 λ y H2=>r x y H2 Q
def tUn (r:V->Hp->VK->Prop) (ta:TE):TE:=λ σ H Q=>ta σ H λ x H1=>r x H1 Q
def rI (C:Int->Int->Prop) (g:Int->Int->V):R2:=λ x y H Q=>∃ i j,x=.int i/\y=.int j/\C i j/\Q (g i j) H
def pQ (g:Int->Int->V):R2:=λ x y H Q=>∃ i j,x=.int i/\y=.int j/\Q (g i j) H
def rU (g:Int->V):V->Hp->VK->Prop:=λ x H Q=>∃ i,x=.int i/\Q (g i) H
section
variable {X:Cx}{a b c:Expr}{ta tb tc:TE}{pos:Pos}
theorem EU (ha:PE X a ta) (hb:PE X b tb) {pins:List (Addr×Obj)}{s:Shared}{σ:St}{H:Hp}{R:V->V->Hp->Prop} (I:Inv X pins σ H s)
  (h:ta σ H λ x H1=>tb σ H1 λ y H2=>R x y H2) {Q:Value->Shared->Prop}{f:Value->Value->Sem Value}
  (hf:∀ v u s2 x y H2,Inv X pins σ H2 s2->bA x v->bA y u->R x y H2->wpAny (model X.prog X.w) X.A (f v u) Q X.xe s2) :
  wpAny (model X.prog X.w) X.A (eval a X.env) (λ v ah=>wpAny (model X.prog X.w) X.A (eval b X.env) (λ u ci=>wpAny (model X.prog X.w) X.A (f v u) Q X.xe ci) X.xe ah) X.xe s:=by
 refine cI (ha pins s σ H _ I h) λ v s1 ⟨x,H1,I1,r1,q1⟩=>?_;refine cI (hb pins s1 σ H1 _ I1 q1) λ u s2 ⟨y,H2,I2,r2,q2⟩=>?_;exact hf v u s2 x y H2 I2 r1 r2 q2
theorem aT {op:Operator}{r:R2} (ho:gA X (binaryOp op) r) (ha:PE X a ta) (hb:PE X b tb):PE X (.BinOp a op b pos) (fT r ta tb):=by
 intro pins s σ H Q I h;exact wpAny_BinOp (EU ha hb I h λ v u s2 x y H2 I2 rx ry q=>ho pins s2 σ H2 x y v u Q I2 rx ry q)
theorem G6 {op:UnaryOp}{r:V->Hp->VK->Prop} (ho:UnR X (unaryOp op) r) (ha:PE X a ta):PE X (.UnaryOp op a pos) (tUn r ta):=by
 intro pins s σ H Q I h;exact UnaryOp_ (cI (ha pins s σ H _ I h) λ v s1 ⟨x,H1,I1,r1,q1⟩=>ho pins s1 σ H1 x v Q I1 r1 q1)
theorem GE {f:Value->Value->Sem Value}{C:Int->Int->Prop}{g:Int->Int->Int}
  (rule:∀ (i j:Int) (t u:Tok) (s:Shared) (Q:Value->Shared->Prop) (E:Value->Shared->Prop),C i j->Q (.int (g i j) s.toks) { s with toks:=s.toks+1 }->wpAny (model X.prog X.w) X.A (f (.int i t) (.int j u)) Q E s) :
  gA X f (rI C λ i j=>.int (g i j)):=by
 intro pins s σ H x y v u Q I rx ry h;obtain⟨i,j,rfl,rfl,hc,q⟩:=h;obtain⟨t,rfl⟩:=rx;obtain⟨t',rfl⟩:=ry;exact rule i j t t' s _ _ hc ⟨.int (g i j),H,I.tok _,⟨_,rfl⟩,q⟩
theorem GD {f:Value->Value->Sem Value}{g:Int->Int->Int}
  (rule:∀ (i j:Int) (t u:Tok) (s:Shared) (Q:Value->Shared->Prop) (E:Value->Shared->Prop),Q (.int (g i j) s.toks) { s with toks:=s.toks+1 }->wpAny (model X.prog X.w) X.A (f (.int i t) (.int j u)) Q E s) :
  gA X f (pQ λ i j=>.int (g i j)):=by
 intro pins s σ H x y v u Q I rx ry h;obtain⟨i,j,rfl,rfl,q⟩:=h;obtain⟨t,rfl⟩:=rx;obtain⟨t',rfl⟩:=ry;exact rule i j t t' s _ _ ⟨.int (g i j),H,I.tok _,⟨_,rfl⟩,q⟩
theorem BN {f:Value->Value->Sem Value}{g:Int->Int->Bool}
  (rule:∀ (i j:Int) (t u:Tok) (s:Shared) (Q:Value->Shared->Prop) (E:Value->Shared->Prop),Q (.bool (g i j)) s->wpAny (model X.prog X.w) X.A (f (.int i t) (.int j u)) Q E s) :
  gA X f (pQ λ i j=>.bl (g i j)):=by
 intro pins s σ H x y v u Q I rx ry h;obtain⟨i,j,rfl,rfl,q⟩:=h;obtain⟨t,rfl⟩:=rx;obtain⟨t',rfl⟩:=ry;exact rule i j t t' s _ _ ⟨.bl (g i j),H,I,rfl,q⟩
def CI (i j:Int):Prop:=0 < j/\j < 1073741824
def GT (i j:Int):Prop:=0<=j/\j<=1000000/\i.natAbs < 2 ^ 64
def sN (i j:Int):Prop:=(-(2 ^ 64) < i/\i < 2 ^ 64)\/(-(2 ^ 64) < j/\j < 2 ^ 64)
theorem sN.ok {i j:Int} (h:sN i j):IntMulOk i j:=by
 rcases h with ⟨h1,h2⟩ | ⟨h1,h2⟩
 ·exact .of_left (intBits_le_64 h1 h2)
 ·exact .of_right (intBits_le_64 h1 h2)
theorem cC:gA X (binaryOp .Add) (pQ λ i j=>.int (i+j)):=GD λ _ _ _ _ _ _ _ q=>add_int q
theorem i6:gA X (binaryOp .Sub) (pQ λ i j=>.int (i - j)):=GD λ _ _ _ _ _ _ _ q=>sub_int q
theorem i7:gA X (binaryOp .Mult) (rI sN λ i j=>.int (i * j)):=GE λ _ _ _ _ _ _ _ hc q=>mul_int q hc.ok
theorem fI:gA X (binaryOp .FloorDiv) (rI CI λ i j=>.int (i / j)):=GE λ i j _ _ _ _ _ hc q=>by
 have h1:(0:Int) < j:=hc.1;have h2:j < 1073741824:=hc.2;exact floordiv_int (by omega) (by rw[Int.fdiv_eq_ediv_of_nonneg i (by omega)];exact q) (.inl (PyProof.noPylong_small (by omega)))
theorem kZ:gA X (binaryOp .Mod) (rI (λ _ j=>0 < j) λ i j=>.int (i % j)):=GE λ i j _ _ _ _ _ hc q=>by
 have h1:(0:Int) < j:=hc;exact mod_int' (by omega) (by rw[Int.fmod_eq_emod_of_nonneg i (by omega)];exact q)
theorem E8:gA X (binaryOp .Pow) (rI GT λ i j=>.int (i ^ j.toNat)):=GE λ _ _ _ _ _ _ _ hc q=>pow_int_small hc.1 hc.2.1 hc.2.2 q
theorem unI {f:Value->Sem Value}{g:Int->Int}
  (rule:∀ (i:Int) (t:Tok) (s:Shared) (Q:Value->Shared->Prop) (E:Value->Shared->Prop),Q (.int (g i) s.toks) { s with toks:=s.toks+1 }->wpAny (model X.prog X.w) X.A (f (.int i t)) Q E s) :
  UnR X f (rU λ i=>.int (g i)):=by
 intro pins s σ H x v Q I rx h;obtain⟨i,rfl,q⟩:=h;obtain⟨t,rfl⟩:=rx;exact rule i t s _ _ ⟨.int (g i),H,I.tok _,⟨_,rfl⟩,q⟩
theorem DG:UnR X (unaryOp .USub) (rU λ i=>.int (-i)):=unI λ _ _ _ _ _ q=>neg_int q
end
def B5:V->V->Bool
 | .non,.non=>true | .non,.int _=>true | .int _,.non=>true | .non,.bl _=>true | .bl _,.non=>true | .non,.str _=>true | .str _,.non=>true
 | .int _,.int _=>true | .bl _,.bl _=>true | .str _,.str _=>true | .byt _,.byt _=>true
 | .int _,.str _=>true | .str _,.int _=>true | .bl _,.str _=>true | .str _,.bl _=>true
 | _,_=>false
def rEq:R2:=λ x y H Q=>B5 x y=true/\Q (.bl (decide (x=y))) H
def rNe:R2:=λ x y H Q=>B5 x y=true/\Q (.bl (!decide (x=y))) H
theorem vL {i j:Int}:decide (V.int i=V.int j)=(i == j):=by
 rw[Bool.eq_iff_iff];simp
theorem AA {i j:Bool}:decide (V.bl i=V.bl j)=(i == j):=by
 rw[Bool.eq_iff_iff];simp
theorem vK {i j:Str}:decide (V.str i=V.str j)=(i == j):=by
 rw[Bool.eq_iff_iff];simp
theorem vM {i j:Array UInt8}:decide (V.byt i=V.byt j)=(i.toList == j.toList):=by
 rw[Bool.eq_iff_iff];cases i;cases j;simp
section
variable {X:Cx}{a b c:Expr}{ta tb tc:TE}{pos:Pos}
theorem bK {pins:List (Addr×Obj)}{σ:St}{H:Hp}{s:Shared}{Q:VK}{k k':Bool} (I:Inv X pins σ H s) (q:Q (.bl k) H) (e:k=k'):EP X pins σ Q (.bool k') s:=by
 subst e;exact⟨.bl k,H,I,rfl,q⟩
theorem lP:gA X (compareOp .Eq) rEq:=by
 intro pins s σ H x y v u Q I rx ry h;obtain⟨hs,q⟩:=h;cases x with
 | non=>
  cases rx;cases y with
  | non=>cases ry;exact PySem.EqNone.eq_none_none (bK I q (by simp))
  | bl j=>cases ry;exact PySem.EqNone.eq_none_bool (bK I q (by simp))
  | int j=>obtain⟨t',rfl⟩:=ry;exact PySem.EqNone.eq_none_int (bK I q (by simp))
  | str j=>obtain⟨t',rfl⟩:=ry;exact PySem.EqNone.eq_none_str (bK I q (by simp))
  | _=>exact absurd (show false=true from hs) aai
 | bl i=>
  cases rx;cases y with
  | non=>cases ry;exact PySem.EqNone.eq_bool_none (bK I q (by simp))
  | bl j=>cases ry;exact eq_bool (bK I q AA)
  | str j=>obtain⟨t',rfl⟩:=ry;exact PySem.EqMixed.eq_bool_str (bK I q (by simp))
  | _=>exact absurd (show false=true from hs) aai
 | int i=>
  obtain⟨t,rfl⟩:=rx;cases y with
  | non=>cases ry;exact PySem.EqNone.eq_int_none (bK I q (by simp))
  | int j=>obtain⟨t',rfl⟩:=ry;exact eq_int (bK I q vL)
  | str j=>obtain⟨t',rfl⟩:=ry;exact PySem.EqMixed.eq_int_str (bK I q (by simp))
  | _=>exact absurd (show false=true from hs) aai
 | str i=>
  obtain⟨t,rfl⟩:=rx;cases y with
  | non=>cases ry;exact PySem.EqNone.eq_str_none (bK I q (by simp))
  | bl j=>cases ry;exact PySem.EqMixed.eq_str_bool (bK I q (by simp))
  | int j=>obtain⟨t',rfl⟩:=ry;exact PySem.EqMixed.eq_str_int (bK I q (by simp))
  | str j=>obtain⟨t',rfl⟩:=ry;exact eq_str (bK I q vK)
  | _=>exact absurd (show false=true from hs) aai
 | byt i=>
  obtain⟨t,rfl⟩:=rx;cases y with
  | byt j=>obtain⟨t',rfl⟩:=ry;exact PySem.W.eq_bytes (bK I q vM)
  | _=>exact absurd (show false=true from hs) aai
 | _=>cases y <;> exact absurd (show false=true from hs) aai
theorem GC:gA X (compareOp .NotEq) rNe:=by
 intro pins s σ H x y v u Q I rx ry h;obtain⟨hs,q⟩:=h;cases x with
 | non=>
  cases rx;cases y with
  | non=>cases ry;exact PySem.EqNone.ne_none_none (bK I q (by simp))
  | bl j=>cases ry;exact PySem.EqNone.ne_none_bool (bK I q (by simp))
  | int j=>obtain⟨t',rfl⟩:=ry;exact PySem.EqNone.ne_none_int (bK I q (by simp))
  | str j=>obtain⟨t',rfl⟩:=ry;exact PySem.EqNone.ne_none_str (bK I q (by simp))
  | _=>exact absurd (show false=true from hs) aai
 | bl i=>
  cases rx;cases y with
  | non=>cases ry;exact PySem.EqNone.ne_bool_none (bK I q (by simp))
  | bl j=>cases ry;exact ne_bool (bK I q (congrArg not AA))
  | str j=>obtain⟨t',rfl⟩:=ry;exact PySem.EqMixed.ne_bool_str (bK I q (by simp))
  | _=>exact absurd (show false=true from hs) aai
 | int i=>
  obtain⟨t,rfl⟩:=rx;cases y with
  | non=>cases ry;exact PySem.EqNone.ne_int_none (bK I q (by simp))
  | int j=>obtain⟨t',rfl⟩:=ry;exact ne_int (bK I q (congrArg not vL))
  | str j=>obtain⟨t',rfl⟩:=ry;exact PySem.EqMixed.ne_int_str (bK I q (by simp))
  | _=>exact absurd (show false=true from hs) aai
 | str i=>
  obtain⟨t,rfl⟩:=rx;cases y with
  | non=>cases ry;exact PySem.EqNone.ne_str_none (bK I q (by simp))
  | bl j=>cases ry;exact PySem.EqMixed.ne_str_bool (bK I q (by simp))
  | int j=>obtain⟨t',rfl⟩:=ry;exact PySem.EqMixed.ne_str_int (bK I q (by simp))
  | str j=>obtain⟨t',rfl⟩:=ry;exact ne_str (bK I q (congrArg not vK))
  | _=>exact absurd (show false=true from hs) aai
 | byt i=>
  obtain⟨t,rfl⟩:=rx;cases y with
  | byt j=>obtain⟨t',rfl⟩:=ry;exact PySem.W.ne_bytes (bK I q (congrArg not vM))
  | _=>exact absurd (show false=true from hs) aai
 | _=>cases y <;> exact absurd (show false=true from hs) aai
theorem uW:gA X (compareOp .Lt) (pQ λ i j=>.bl (decide (i < j))):=BN λ _ _ _ _ _ _ _ q=>lt_int q
theorem CY:gA X (compareOp .LtE) (pQ λ i j=>.bl (decide (i<=j))):=BN λ _ _ _ _ _ _ _ q=>le_int q
theorem rL:gA X (compareOp .Gt) (pQ λ i j=>.bl (decide (j < i))):=BN λ _ _ _ _ _ _ _ q=>gt_int q
theorem CZ:gA X (compareOp .GtE) (pQ λ i j=>.bl (decide (j<=i))):=BN λ _ _ _ _ _ _ _ q=>ge_int q
theorem yR:gA X (compareOp .Is) (λ x y H Q=>y=.non/\Q (.bl (decide (x=.non))) H):=by
 intro pins s σ H x y v u Q I rx ry h;obtain⟨rfl,q⟩:=h;cases ry;refine is_none_gen (bK I q ?_);cases x <;> first
  | (cases rx;rfl)
  | (obtain⟨t,rfl⟩:=rx;rfl)
theorem cD (b:Expr) {op:CmpOp} (h:op≠.In:=by decide) (h2:op≠.NotIn:=by decide):behindInMarks op b=false:=by
 have e1:(op == CmpOp.In)=false:=by cases op <;> first | rfl | exact absurd rfl h
 have e2:(op == CmpOp.NotIn)=false:=by cases op <;> first | rfl | exact absurd rfl h2
 cases b <;> simp [behindInMarks,e1,e2]
theorem iM {op:CmpOp}{r:R2} (ho:gA X (compareOp op) r) (ha:PE X a ta) (hb:PE X b tb) (hm:behindInMarks op b=false):PE X (.Compare a [op] [b] pos) (fT r ta tb):=by
 intro pins s σ H Q I h;exact wpAny_Compare1 (EU ha hb I h λ v u s2 x y H2 I2 rx ry q=>ho pins s2 σ H2 x y v u Q I2 rx ry q) hm
def uJ (t:TE):TT:=λ σ H Q=>t σ H λ x H'=>∃ k,x=.bl k/\Q k H'
theorem bQ {op:CmpOp}{r:R2} (ho:gA X (compareOp op) r) (ha:PE X a ta) (hb:PE X b tb) (hm:behindInMarks op b=false):PT X (.Compare a [op] [b] pos) (uJ (fT r ta tb)):=by
 intro pins s σ H Q I h;refine wpAny_isTrue_Compare1 (cI (ha pins s σ H _ I h) λ v s1 ⟨x,H1,I1,r1,q1⟩=>cI (hb pins s1 σ H1 _ I1 q1) λ u s2 ⟨y,H2,I2,r2,q2⟩=>
  cI (ho pins s2 σ H2 x y v u _ I2 r1 r2 q2) λ c s3 ⟨z,H3,I3,r3,k,e,q3⟩=>?_) hm
 subst e;cases r3;exact wpAny_truthy_bool ⟨H3,I3,q3⟩
def DO (r r':R2) (ta tb tc:TE):TE:=λ σ H Q=>ta σ H λ x H1=>tb σ H1 λ y H2=>r x y H2 λ z H3=>∃ k,z=.bl k/\
 (if k=true then tc σ H3 λ w' H4=>r' y w' H4 Q else Q (.bl false) H3)
theorem yO {op op':CmpOp}{r r':R2} (ho:gA X (compareOp op) r) (ho':gA X (compareOp op') r') (ha:PE X a ta) (hb:PE X b tb) (hc:PE X c tc)
  (hm:lastMarks [op,op'] [b,c]=false:=by with_unfolding_all rfl):PE X (.Compare a [op,op'] [b,c] pos) (DO r r' ta tb tc):=by
 intro pins s σ H Q I h;refine Compare_chain (cI (ha pins s σ H _ I h) λ v s1 ⟨x,H1,I1,r1,q1⟩=>chain_link (cI (hb pins s1 σ H1 _ I1 q1) λ u s2 ⟨y,H2,I2,r2,q2⟩=>
  cI (ho pins s2 σ H2 x y v u _ I2 r1 r2 q2) λ d s3 ⟨z,H3,I3,r3,k,e,q3⟩=>?_)) hm
 subst e;cases r3;refine wpAny_truthy_bool ?_;cases k with
 | false=>exact ite_ff ⟨.bl false,H3,I3,rfl,q3⟩
 | true=>exact ite_tt (chain_last (cI (hc pins s3 σ H3 _ I3 q3) λ w' s4 ⟨z',H4,I4,r4,q4⟩=>ho' pins s4 σ H4 y z' u w' Q I4 r2 r4 q4))
theorem nL:(sizeLine:Nat) < 2 ^ 63:=by rw[sizeLine_eq];decide
theorem mI {x:V}{us:List Value} (r:b9 [x] us):∃ u,us=[u]/\bA x u:=by
 cases r with
 | cons r1 r2=>cases r2;exact⟨_,rfl,r1⟩
theorem xQ {x y:V}{us:List Value} (r:b9 [x,y] us):∃ u w',us=[u,w']/\bA x u/\bA y w':=by
 cases r with
 | cons r1 r2=>
  cases r2 with
  | cons r3 r4=>cases r4;exact⟨_,_,rfl,r1,r3⟩
theorem p9 (hc:X.calm=true):dI X (.builtin "max") (λ xs H Q=>∃ i j,xs=[.int i,.int j]/\Q (.int (if j > i then j else i)) H):=by
 intro pins s σ H xs us Q I r h;obtain⟨i,j,rfl,q⟩:=h;obtain⟨u,w',rfl,⟨t,rfl⟩,⟨t',rfl⟩⟩:=xQ r;refine max_two_ints (I.ok.hd hc) λ h' tk k=>⟨_,H,I.kept k,?_,q⟩
 by_cases hj:j > i
 ·rw[if_pos hj,if_pos hj];exact⟨_,rfl⟩
 ·rw[if_neg hj,if_neg hj];exact⟨_,rfl⟩
theorem xE (hc:X.calm=true):dI X (.builtin "min") (λ xs H Q=>∃ i j,xs=[.int i,.int j]/\Q (.int (if j < i then j else i)) H):=by
 intro pins s σ H xs us Q I r h;obtain⟨i,j,rfl,q⟩:=h;obtain⟨u,w',rfl,⟨t,rfl⟩,⟨t',rfl⟩⟩:=xQ r;refine min_two_ints (I.ok.hd hc) λ h' tk k=>⟨_,H,I.kept k,?_,q⟩
 by_cases hj:j < i
 ·rw[if_pos hj,if_pos hj];exact⟨_,rfl⟩
 ·rw[if_neg hj,if_neg hj];exact⟨_,rfl⟩
theorem g9:dI X (.type "int") (λ xs H Q=>(∃ i,xs=[.int i]/\Q (.int i) H)\/∃ k,xs=[.bl k]/\Q (.int (if k then 1 else 0)) H):=by
 intro pins s σ H xs us Q I r h;rcases h with ⟨i,rfl,q⟩ | ⟨k,rfl,q⟩
 ·obtain⟨u,rfl,t,rfl⟩:=mI r;exact call_int_int ⟨.int i,H,I,⟨_,rfl⟩,q⟩
 ·obtain⟨u,rfl,r1⟩:=mI r;cases r1;exact call_int_bool ⟨.int (if k then 1 else 0),H,I.tok _,⟨_,rfl⟩,q⟩
end
structure ObjM (h:Heap) (x dx C:Addr) (mA:Str->Option Value):Prop where
 obj:h.get? x=some (PySem.W.instObj C dx)
 ns:h.Ns1 dx mA
 ne:dx≠x
theorem wQ {h:Heap}{dx:Addr}{mA:Str->Option Value} (n:h.Ns1 dx mA):∃ od,h.get? dx=some od/\∀ name,PySem.W.lookIn name od=some (mA name):=by
 obtain⟨o,es,ep,ho,hd,hk,_,hm⟩:=n;refine⟨o,ho,λ name=>?_⟩;have e:=hm name;unfold nsFind findBy at e;rw[<- Array.find?_toList] at e;unfold PySem.W.lookIn;rw[hd];dsimp only
 split
 ·rename_i y q
  rw[q] at e;exact congrArg some e
 ·rename_i q
  rw[q] at e;have a:es.toList.any (·.refKey)=false:=by
   rw[List.any_eq_false];intro y hy;obtain⟨z,t,hkey⟩:=hk y (Array.mem_toList_iff.mp hy);simp [DictEntry.refKey,hkey]
  have a':¬ es.toList.any (·.refKey)=true:=by rw[a];exact aai
  rw[if_neg a'];exact congrArg some e
theorem ObjM.look {h:Heap}{x dx C:Addr}{mA:Str->Option Value} (I:ObjM h x dx C mA):∃ od,PySem.W.InstAt h x (PySem.W.instObj C dx) C (some od)/\∀ name,PySem.W.lookIn name od=some (mA name):=
 let ⟨od,ho,hl⟩:=wQ I.ns
 ⟨od,⟨I.obj,rfl,rfl,ho⟩,hl⟩
section
variable {prog:Program}{A:Around}{E:Value->Shared->Prop}{s:Shared}{x dx f:Addr}{mA:Str->Option Value}{name:Str}{v:Value}
end
section
variable {H H':Hp}{h h':Heap}{a dx:Addr}{fs fs':List (Str×V)}
theorem CA (hok:jN P w H h) (e:H a=some (.ins C dx fs)):∃ mA,ObjM h a dx C mA/\(∀ f,qV (fs.lookup f) (mA f))/\PySem.Within mA (fs.map (·.1))/\fs.length<=1000/\H dx=some (.own a):=by
 obtain⟨d,z,ne,ob,mA,n,r,q⟩:=(show cJ P w H h a (.ins C dx fs) from hok a _ e);exact⟨mA,⟨ob,n,ne⟩,r,q,z,d⟩
end
structure Cls (K:aab) (C:Addr):Prop where
 pg:PySem.W.plainGet K C Str.empty=true
 hd:PySem.W.hasDictIn K C=true
 po:PySem.W.plainOver K C=true
 sa:PySem.W.findIn K (.ref C) "__setattr__" = some (some (.builtin "object.__setattr__"))
theorem Cls.get {K:aab}{C:Addr} (c:Cls K C) (f:Str):PySem.W.plainGet K C f=true:=c.pg
section
variable {X:Cx}{pins:List (Addr×Obj)}{σ:St}{H:Hp}{s:Shared}{a dx:Addr}{fs:List (Str×V)}{f:Str}{v:V}{A:Around}{E:Value->Shared->Prop}
end
section
variable {X:Cx}{o e value:Expr}{f:Str}{pos pos' tpos:Pos}{ta tv:TE}
end
section
variable {X:Cx}{pins:List (Addr×Obj)}{σ:St}{H:Hp}{s:Shared}{A:Around}{E:Value->Shared->Prop}{Q:Value->Shared->Prop}{c:Value}{b:Bool}
inductive TyOf (K:aab) (H:Hp):V->Value->Prop where
 | non:TyOf K H .non (.type "NoneType")
 | bl (x:Bool):TyOf K H (.bl x) (.type "bool")
 | int (i:Int):TyOf K H (.int i) (.type "int")
 | str (x:Str):TyOf K H (.str x) (.type "str")
 | flt (x:UInt64):TyOf K H (.flt x) (.type "float")
 | lst {a:Addr}{xs:List V} (e:H a=some (.lst xs)):TyOf K H (.ref a) (.type "list")
 | frz {a:Addr}{o:Obj}{xs:List V} (e:H a=some (.frz o (.lst xs))):TyOf K H (.ref a) (.type "list")
 | tup {a:Addr}{xs:List V} (e:H a=some (.tup xs)):TyOf K H (.ref a) (.type "tuple")
 | dK {a:Addr}{kvs:List (eB×V)} (e:H a=some (.dK kvs)):TyOf K H (.ref a) (.type "dict")
 | dT {a:Addr}{kvs:List (List eB×V)} (e:H a=some (.dT kvs)):TyOf K H (.ref a) (.type "dict")
 | ins {a C dx:Addr}{fs:List (Str×V)} (e:H a=some (.ins C dx fs)) (cl:Cls K C) (ha:PySem.W.findIn K (.ref C) "__class__" = some (some (.builtin "object.__class__")))
   (hn:PySem.W.specialIn K (.builtin "object.__class__") "__get__" = some (some (.builtin "getset_descriptor.__get__"))) (htk:PySem.W.takesIn K (.builtin "object.__class__")=some true)
   (hm:PySem.W.mroIn K C (.type "object")=some true):TyOf K H (.ref a) (.ref C)
theorem wT {x:V}{u t:Value} (I:Inv X pins σ H s) (rx:bA x u) (ty:TyOf X.K H x t) (e:PySem.W.kitOne X.K t c=some b) (h:∀ tk,Q (.bool b) { s with toks:=tk }) :
  wpAny (model X.prog X.w) A (call (.builtin "isinstance") [u,c]) Q E s:=by
 cases ty with
 | non=>cases (show u=Value.none from rx);exact PySem.W.kia_one PySem.W.kitx_none I.kIn True.intro e (λ z=>nomatch z) h
 | bl y=>cases (show u=Value.bool y from rx);exact PySem.W.kia_one PySem.W.kitx_bool I.kIn True.intro e (λ z=>nomatch z) h
 | int i=>obtain⟨t,q⟩:=(show ∃ t,u=Value.int i t from rx);cases q;exact PySem.W.kia_one PySem.W.kitx_int I.kIn True.intro e (λ z=>nomatch z) h
 | str y=>obtain⟨t,q⟩:=(show ∃ t,u=Value.str y t from rx);cases q;exact PySem.W.kia_one PySem.W.kitx_str I.kIn True.intro e (λ z=>nomatch z) h
 | flt y=>obtain⟨t,q⟩:=(show ∃ t,u=Value.float y t from rx);cases q;exact PySem.W.kia_one PySem.W.kitx_float I.kIn True.intro e (λ z=>nomatch z) h
 | @lst a xs ea=>
  cases (show u=Value.ref a from rx);obtain⟨_,_,n,_,h1⟩:=(show cJ X.prog X.w H s.heap a (.lst xs) from I.hok a _ ea);exact PySem.W.kia_one PySem.W.kitx_list I.kIn ⟨_,h1,rfl⟩ e (λ z=>nomatch z) h
 | @frz a ob xs ea=>
  cases (show u=Value.ref a from rx);obtain⟨_,_,_,n,_,h1⟩:=(show cJ X.prog X.w H s.heap a (.frz ob (.lst xs)) from I.hok a _ ea);exact PySem.W.kia_one PySem.W.kitx_list I.kIn ⟨_,h1,rfl⟩ e (λ z=>nomatch z) h
 | @tup a xs ea=>
  cases (show u=Value.ref a from rx);obtain⟨_,_,_,p⟩:=(show cJ X.prog X.w H s.heap a (.tup xs) from I.hok a _ ea);obtain⟨o,h1,h2,_⟩:=p;exact PySem.W.kia_one PySem.W.kitx_tuple I.kIn ⟨o,h1,h2⟩ e (λ z=>nomatch z) h
 | @dK a kvs ea=>
  cases (show u=Value.ref a from rx);obtain⟨_,_,vs,_,p⟩:=(show cJ X.prog X.w H s.heap a (.dK kvs) from I.hok a _ ea);obtain⟨o,es,ep,h1,h2,_⟩:=p;exact PySem.W.kia_one PySem.W.kitx_dict I.kIn ⟨o,h1,h2.1⟩ e (λ z=>nomatch z) h
 | @dT a kvs ea=>
  cases (show u=Value.ref a from rx);obtain⟨_,_,xs,_,o,es,ep,h1,h2,_⟩:=(show cJ X.prog X.w H s.heap a (.dT kvs) from I.hok a _ ea);exact PySem.W.kia_one PySem.W.kitx_dict I.kIn ⟨o,h1,h2.1⟩ e (λ z=>nomatch z) h
 | @ins a C dx fs ea cl ha hn htk hm=>
  cases (show u=Value.ref a from rx);obtain⟨mA,O,_⟩:=CA I.hok ea;obtain⟨od,J,_⟩:=O.look;exact PySem.W.kia_one (PySem.W.kitx_own (cl.get _) cl.hd ha hn htk hm) I.kIn J e (λ z=>nomatch z) h
end
structure Room (k:Nat) (A:Around):Prop where
 hd:A.handled=none
 dp:A.depth+3 * k+5 < recursionLimit
 un:A.units+16 * k+200 < cLine
theorem Room.mono {j k:Nat}{A:Around} (r:Room k A) (h:j<=k):Room j A:=⟨r.hd,by have:=r.dp;omega,by have:=r.un;omega⟩
theorem Room.deeper {k:Nat}{A:Around} (r:Room (k+1) A) (env:Env):Room k (A.deeper env):=
 ⟨r.hd,by have:=r.dp;show A.depth+1+3 * k+5 < _;omega,by have:=r.un;show A.units+3+16 * k+200 < _;omega⟩
theorem Room.depth {k:Nat}{A:Around} (r:Room k A):A.depth < recursionLimit:=by have:=r.dp;omega
theorem Room.units {k:Nat}{A:Around} (r:Room k A):A.units+64 < cLine:=by have:=r.un;omega
def gZ:TA:=λ _ H Q=>Q [] H
def cU (ta:TE) (tr:TA):TA:=λ σ H Q=>ta σ H λ x H1=>tr σ H1 λ xs H2=>Q (x::xs) H2
section
variable {X:Cx}{e:Expr}{es:List Expr}{te:TE}{t:TA}{pos:Pos}
theorem aC:PA X [] gZ:=λ _ _ _ _ H Q I h=>Calls.spliced_nil ⟨[],H,I,.nil,h⟩
theorem aA (ha:PE X e te) (hr:PA X es t) (hs:starEach (e::es) X.env=(false,eval e X.env)::starEach es X.env:=by with_unfolding_all rfl):PA X (e::es) (cU te t):=by
 intro pos pins s σ H Q I h;rw[hs];show wpAny _ _ (spliced ((false,eval e X.env)::backTo pos (starEach es X.env))) _ _ s;refine Calls.spliced_cons (cI (ha pins s σ H _ I h) λ u s1 ⟨x,H1,I1,r1,q1⟩=>?_);exact cI (hr pos pins s1 σ H1 _ I1 q1) λ us s2 ⟨xs,H2,I2,r2,q2⟩=>⟨x::xs,H2,I2,.cons r1 r2,q2⟩
def FN (t:TA):TE:=λ σ H Q=>t σ H λ xs H1=>xs.length<=sizeLine/\∀ p,H1 p=none->Q (.ref p) (upd H1 p (.tup xs))
def AZ (t:TA):TE:=λ σ H Q=>t σ H λ xs H1=>xs.length<=sizeLine/\∀ p,H1 p=none->Q (.ref p) (upd H1 p (.lst xs))
theorem bG {x1} (h:PA X es t):PE X (.Tuple es x1 pos) (FN t):=by
 intro pins s σ H Q I hq;refine wpAny_Tuple_spliced (cI (h pos pins s σ H _ I hq) λ us s1 ⟨xs,H1,I1,r,z,q⟩=>⟨by rw[<- r.length];exact z,?_⟩);have hf:H1 s1.heap.objs.size=none:=I1.hok.fresh (aaj _);refine⟨.ref s1.heap.objs.size,upd H1 s1.heap.objs.size (.tup xs),I1.laid (t':=s1.toks) (λ b u e=>aac _ e) (aaj _) ?_,rfl,q _ hf⟩;exact⟨z,us,r,⟨_,aak _ rfl,rfl,_,rfl⟩⟩
theorem bD (h:PA X es t):PE X (.List es pos) (AZ t):=by
 intro pins s σ H Q I hq;refine wpAny_List_spliced (cI (h pos pins s σ H _ I hq) λ us s1 ⟨xs,H1,I1,r,z,q⟩=>⟨by rw[<- r.length];exact z,?_⟩);have hf:H1 s1.heap.objs.size=none:=I1.hok.fresh (aaj _);refine⟨.ref s1.heap.objs.size,upd H1 s1.heap.objs.size (.lst xs),I1.laid (t':=s1.toks) (λ b u e=>aac _ e) (aaj _) ?_,rfl,q _ hf⟩;exact⟨z,us,0,r,aak _ rfl⟩
end
abbrev Sp:=List V->Hp->VK->XK->Prop
abbrev xM:=List Env->Hp->Shared->XK->Value->Shared->Prop
structure Env0 (P:Program) (w:World) (K:aab) (mg:Str->Option Value) (base:Heap) (A:Around) (outer:List Env) (s:Shared) (H:Hp):Prop where
 frames:A.frames=some outer
 mod:Mod K mg base
 bs:∀ b o,base.get? b=some o->s.heap.get? b=some o/\H b=none
 bsz:base.objs.size<=s.heap.objs.size
 funs:s.heap.FunFrames base outer
 frf:∀ b∈lD outer,H b=none
 hok:jN P w H s.heap
 bare:AllBare s.gens
def CE (outer:List Env) (P:Program) (w:World) (H:Hp) (s:Shared) (Q:VK) (u:Value) (s':Shared):Prop:=
 ∃ v H',s'.os=s.os/\AllBare s'.gens/\Un (lD outer) [] H H' s.heap s'.heap/\jN P w H' s'.heap/\bA v u/\Q v H'
def CR (CX:xM) (outer:List Env) (P:Program) (w:World) (H:Hp) (s:Shared) (Q:VK) (E:XK) (r:Result) (s':Shared):Prop:=
 match r with
 | .ok (.ret u)=>CE outer P w H s Q u s'
 | .ok _=>False
 | .error e=>CX outer H s E e s'
structure FnOk (P:Program) (w:World) (K:aab) (mg:Str->Option Value) (base:Heap) (CX:xM) (k:Nat) (f:Addr) (fd:FuncData) (ps:List Str) (sp:Sp):Prop where
 len:∀ vs H Q E,sp vs H Q E->vs.length=ps.length
 run:∀ (A:Around) (outer:List Env) (s:Shared) (H:Hp) (args:Args) (us:List Value) (vs:List V) (Q:VK) (E:XK),Room k A->Env0 P w K mg base A outer s H->BindsTo s fd args (ps.zip us)->b9 vs us->sp vs H Q E->
  codeAny (model P w) A (.call (.ref f) args) (CR CX outer P w H s Q E) s
theorem FnOk.imp {P:Program}{w:World}{K:aab}{mg:Str->Option Value}{base:Heap}{CX:xM}{k:Nat}{f:Addr}{fd:FuncData}{ps:List Str}{sp sp':Sp} (F:FnOk P w K mg base CX k f fd ps sp)
  (h:∀ vs H Q E,sp' vs H Q E->sp vs H Q E):FnOk P w K mg base CX k f fd ps sp':=
 ⟨λ vs H Q E q=>F.len vs H Q E (h _ _ _ _ q),λ A outer s H args us vs Q E hr he hb hv hs=>F.run A outer s H args us vs Q E hr he hb hv (h _ _ _ _ hs)⟩
section
variable {X:Cx}{pins:List (Addr×Obj)}{σ:St}{H:Hp}{s s':Shared}
theorem Inv.env0 (I:Inv X pins σ H s):Env0 X.prog X.w X.K X.mg X.base X.A X.stack s H:=
 ⟨I.ok.frames,I.ok.mod,I.bs,acj I.ok.bsz I.sz,I.stack,I.stkFree,I.hok,I.bare⟩
theorem Inv.after {Q:VK}{u:Value} (I:Inv X pins σ H s) (h:CE X.stack X.prog X.w H s Q u s'):EP X pins σ Q u s':=by
 obtain⟨v,H',os,bare,un,hok,r,q⟩:=h;obtain⟨hh,g,d,t,os'⟩:=s';obtain rfl:os'=s.os:=os;exact⟨v,H',I.call (h':=hh) (g':=g) (d':=d) (t':=t) (ch:=[]) un hok bare (λ b z=>absurd z (by simp)),r,q⟩
end
def lJ (sp:Sp) (dvs:List V) (E:XK) (t:TA):TE:=λ σ H Q=>t σ H λ vs H1=>sp (vs++dvs) H1 Q E
def oA (K:aab) (fd:FuncData) (ps:List Str) (ds:List Value):Prop:=
 ∀ (s:Shared) (us:List Value),K.In s.heap->(us++ds).length=ps.length->BindsTo s fd ⟨us,[]⟩ (ps.zip (us++ds))
theorem oA.all {K:aab}{fd:FuncData}{ps:List Str} (h:∀ us:List Value,us.length=ps.length->bindArgs fd ⟨us,[]⟩=pure (ps.zip us)):oA K fd ps []:=λ s us _ hl=>by
 rw[acn] at hl ⊢;exact .of_eq (h us hl)
def o9 (CX:xM) (X:Cx) (E:XK):Prop:=∀ (pins:List (Addr×Obj)) (σ:St) (H:Hp) (s:Shared) (e:Value) (s':Shared),Inv X pins σ H s->CX X.stack H s E e s'->X.xe e s'
section
variable {X:Cx}{CX:xM}{k:Nat}{f:Addr}{fd:FuncData}{ps:List Str}{sp:Sp}{dvs:List V}{ds:List Value}{E:XK}{x m:Str}{p pos apos:Pos}{e o:Expr}{es:List Expr}{ta:TE}{t:TA}
theorem DU {pins:List (Addr×Obj)}{σ:St}{H:Hp}{s:Shared}{Q:VK}{us:List Value}{vs:List V} (F:FnOk X.prog X.w X.K X.mg X.base CX k f fd ps sp) (hr:Room k X.A) (hb:oA X.K fd ps ds) (hd:b9 dvs ds) (hx:o9 CX X E)
  (I:Inv X pins σ H s) (r:b9 vs us) (h:sp (vs++dvs) H Q E):wpAny (model X.prog X.w) X.A (call (.ref f) us) (EP X pins σ Q) X.xe s:=by
 have r2:b9 (vs++dvs) (us++ds):=r.append hd;have hl:(us++ds).length=ps.length:=by rw[<- r2.length];exact F.len _ _ _ _ h
 refine wpAny_call (codeAny_mono (F.run X.A X.stack s H ⟨us,[]⟩ (us++ds) (vs++dvs) Q E hr I.env0 (hb s us I.kIn hl) r2 h) λ r s' hq=>?_);cases r with
 | error e=>exact hx pins σ H s e s' I hq
 | ok fl=>
  cases fl with
  | ret u=>exact I.after hq
  | next=>exact False.elim hq
  | brk=>exact False.elim hq
  | cont=>exact False.elim hq
theorem pT (F:FnOk X.prog X.w X.K X.mg X.base CX k f fd ps sp) (hr:Room k X.A) (hg:Gl X x) (hm:X.mg x=some (.ref f)) (hk:PySem.W.keepIn X.K (.ref f)=true) (hb:oA X.K fd ps ds) (hd:b9 dvs ds) (hx:o9 CX X E)
  (ha:PA X (e::es) t) (hdb:(x == ("__debug__" : Str))=false:=by decide) (he:starEach (e::es) X.env=(false,eval e X.env)::starEach es X.env:=by with_unfolding_all rfl) (hpl:(backTo pos (starEach es X.env)).any (·.1)=false:=by with_unfolding_all rfl) :
  PE X (.Call (.Name x p) (e::es) [] pos) (lJ sp dvs E t):=by
 intro pins s σ H Q I h;refine wpAny_Call_Name_kw (vC I hg hm ?_ hdb);refine PySem.W.callWith_K (h₀:=X.base) I.ok.mod.kin hk (cI (ha pos pins s σ H _ I h) λ us s1 ⟨vs,H1,I1,r,q⟩=>⟨I1.kIn,?_⟩) he hpl;exact DU F hr hb hd hx I1 r q
end
section
variable {X:Cx}{CX:xM}{k:Nat}{f:Addr}{fd:FuncData}{ps ks:List Str}{sp:Sp}{E:XK}{x m:Str}{p pos apos kpos:Pos}{e o:Expr}{es:List Expr}{kws:List Keyword}{te ta:TE}{t tk:TA}{nm:Option Str}
variable {g:List Value->List Value->List Value}{gV:List V->List V->List V}
end
structure FnScope (N P:List Str) (sc:Scope):Prop where
 kind:sc.kind=.function:=by rfl
 co:sc.isCoroutine=false:=by rfl
 gen:sc.isGenerator=false:=by rfl
 nd:N.Nodup:=by decide +kernel
 pre:N.take P.length=P:=by rfl
 par:∀ x∈P,sc.names.lookup x=some .local\/sc.names.lookup x=some .cell:=by decide +kernel
 nofree:∀ y∈sc.names,y.2≠.free:=by decide +kernel
theorem pA {kindOf:Str->Option NameKind}{x:Str}:∀ {binds:List (Str×Value)}{m:Str->Option Value},(∀ v,(x,v)∉binds)->bindL kindOf binds m x=m x
 | [],_,_=>rfl
 | (n,v)::r,m,h=>by
  unfold bindL;rw[pA λ w hw=>h w (aau _ hw)]
  split
  ·have:x≠n:=by rintro rfl;exact h v abi
   simp [this]
  ·rfl
theorem pC {kindOf:Str->Option NameKind}{x:Str}:∀ {binds:List (Str×Value)}{m:Str->Option Value},(∀ v,(x,v)∉binds)->bindC kindOf binds m x=m x
 | [],_,_=>rfl
 | (n,v)::r,m,h=>by
  unfold bindC;rw[pC λ w hw=>h w (aau _ hw)]
  split
  ·rfl
  ·have:x≠n:=by rintro rfl;exact h v abi
   simp [this]
theorem pB {kindOf:Str->Option NameKind}{x:Str}{v:Value}:∀ {P:List Str}{vs:List Value}{i:Nat}{m:Str->Option Value},P.Nodup->P[i]? = some x->vs[i]? = some v->kindOf x=some .local->
  bindL kindOf (P.zip vs) m x=some v
 | [],_,_,_,_,h,_,_=>by simp at h
 | _::_,[],_,_,_,_,h,_=>by simp at h
 | p::P,w::vs,0,m,nd,h1,h2,hk=>by
  simp at h1 h2;subst h1;subst h2;show bindL kindOf ((p,w)::P.zip vs) m p=_;unfold bindL;rw[pA λ v hv=>(acs.mp nd).1 (List.of_mem_zip hv).1,if_pos hk];simp
 | p::P,w::vs,i+1,m,nd,h1,h2,hk=>by
  show bindL kindOf ((p,w)::P.zip vs) m x=_;unfold bindL;exact pB (i:=i) (acs.mp nd).2 (by simpa using h1) (by simpa using h2) hk
theorem pD {kindOf:Str->Option NameKind}{x:Str}{v:Value}:∀ {P:List Str}{vs:List Value}{i:Nat}{m:Str->Option Value},P.Nodup->P[i]? = some x->vs[i]? = some v->kindOf x≠some .local->
  bindC kindOf (P.zip vs) m x=some v
 | [],_,_,_,_,h,_,_=>by simp at h
 | _::_,[],_,_,_,_,h,_=>by simp at h
 | p::P,w::vs,0,m,nd,h1,h2,hk=>by
  simp at h1 h2;subst h1;subst h2;show bindC kindOf ((p,w)::P.zip vs) m p=_;unfold bindC;rw[pC λ v hv=>(acs.mp nd).1 (List.of_mem_zip hv).1,if_neg hk];simp
 | p::P,w::vs,i+1,m,nd,h1,h2,hk=>by
  show bindC kindOf ((p,w)::P.zip vs) m x=_;unfold bindC;exact pD (i:=i) (acs.mp nd).2 (by simpa using h1) (by simpa using h2) hk
def jS (N:List Str) (vs:List V):St:=vs.map some++List.replicate (N.length - vs.length) none
def sF (CX:xM) (P:Program) (w:World) (K:aab) (mg:Str->Option Value) (base:Heap) (N:List Str) (qual:Str) (scope:Scope) (f:Addr) (cd:Value) (A:Around) (outer:List Env) (s:Shared) (H:Hp) (E:XK):Cx where
 prog:=P
 w:=w
 K:=K
 mg:=mg
 base:=base
 A:=A.deeper (envOfC qual scope s.heap.objs.size f cd)
 N:=N
 s₀:=s
 H₀:=H
 env:=envOfC qual scope s.heap.objs.size f cd
 outer:=outer
 stack:=envOfC qual scope s.heap.objs.size f cd::outer
 ex:=[]
 calm:=true
 fn:=λ _=>true
 pn:=[]
 xe:=λ e s'=>wpAny (model P w) (A.deeper (envOfC qual scope s.heap.objs.size f cd)) (leaving (envOfC qual scope s.heap.objs.size f cd) e) (λ _ s''=>CX outer H s E e s'') (λ e' s''=>CX outer H s E e' s'') s'
theorem sI {sc:Scope}{n:Nat}{x:Str} (h:sc.names.lookup x=some .cell):∃ c,(cellsFrom n sc.names []).lookup x=some c:=by
 have q:=PySem.W.cellsFrom_some sc.names n [] (.inl h);exact Option.isSome_iff_exists.mp q
theorem wU {CX:xM}{P:Program}{w:World}{K:aab}{mg:Str->Option Value}{base:Heap}{N ps:List Str}{qual:Str}{scope:Scope}{f:Addr}{cd:Value}{A:Around}{outer:List Env}{s s1:Shared}{H:Hp}{E:XK}{us:List Value}{vs:List V}
  (S:FnScope N ps scope) (hd:A.handled=none) (e0:Env0 P w K mg base A outer s H) (hl:vs.length=ps.length) (r:b9 vs us)
  (x:InCallC s s.heap.objs.size (bindL (envOfC qual scope s.heap.objs.size f cd).kindOf (ps.zip us) λ _=>none) (cellsFrom (s.heap.objs.size+1) scope.names []) (bindC (envOfC qual scope s.heap.objs.size f cd).kindOf (ps.zip us) λ _=>none) s1) :
  Inv (sF CX P w K mg base N qual scope f cd A outer s H E) [] (jS N vs) H s1:=by
 have hpl:ps.length<=N.length:=by have:=congrArg List.length S.pre;rw[aaw] at this;omega
 obtain⟨h1,tk,rfl,hk⟩:=x.done;have noA:∀ b:Addr,b∉(sF CX P w K mg base N qual scope f cd A outer s H E).ex:=λ b z=>absurd (show b∈([]:List Addr) from z) (by simp);refine⟨⟨e0.mod,S.kind,rfl,rfl,aaj _,λ y z c h1 h2=>?_,λ y hy=>?_,λ y c _ h=>?_,λ _=>hd,Around.frames_deeper e0.frames,.inr ⟨rfl,rfl⟩,λ b z=>absurd z (noA b),e0.bs,e0.bsz,λ b _ _=>noA b,λ b z=>absurd z (noA b),e0.funs,e0.frf⟩,
  rfl,e0.bare,Un.kept hk,⟨_,x.toInCall.ns,λ i y v h1 h2 h3=>?_⟩,λ y c h=>⟨_,x.cell y c h⟩,e0.hok.fresh (aaj _),λ y c h=>?_,λ p hp=>absurd (show p∈([]:List (Addr×Obj)) from hp) (by simp),e0.hok.kept hk,?_⟩
 ·exact name_of_addr x.apart (ace h1) (ace h2)
 ·have hy:scope.names.lookup y=some .cell\/scope.names.lookup y=some .free:=hy;rcases hy with hy | hy
  ·exact sI hy
  ·exact absurd rfl (S.nofree _ (ace hy))
 ·exact acl (x.above y c (ace h))
 ·have hi:i < vs.length:=by
   unfold jS at h2
   by_cases hi:i < vs.length
   ·exact hi
   ·rw[abp (by simpa using hi)] at h2;rw[List.getElem?_replicate] at h2
    split at h2 <;> cases h2
  have ha:vs[i]? = some v:=by
   unfold jS at h2;rw[abk (by simpa using hi),aag] at h2;cases e:vs[i]? with
   | none=>rw[e] at h2;cases h2
   | some a=>rw[e] at h2;cases h2;rfl
  obtain⟨u,hu,rv⟩:=r.get ha;have hp:ps[i]? = some y:=by
   rw[<- S.pre,List.getElem?_take_of_lt (by omega)];exact h1
  have ndP:ps.Nodup:=by rw[<- S.pre];exact S.nd.sublist (List.take_sublist _ _)
  refine⟨u,rv,?_⟩;rcases S.par y (abc hp) with k | k
  ·exact .inl ⟨k,pB ndP hp hu k⟩
  ·obtain⟨c,e⟩:=sI (n:=s.heap.objs.size+1) k;refine .inr ⟨.inl k,c,e,?_⟩;have q:=x.cell y c e;rw[pD ndP hp hu (by show scope.names.lookup y≠_;rw[k];decide)] at q;exact q
 ·exact e0.hok.fresh (acl (x.above y c (ace h)))
 ·unfold jS;show _=N.length;rw[aao,aad,List.length_replicate];omega
theorem D9 {CX:xM}{P:Program}{w:World}{K:aab}{mg:Str->Option Value}{base:Heap}{k:Nat}{f:Addr}{name qual:Str}{params:Arguments}{body:List Stmt}{scope:Scope}{dV kV doc pm cdv ct oc:Value}{an od:Option Addr}
  {osl:Array (Option Value)}{N ps:List Str}{sp:Sp} (lk:K.lookup f=some ⟨oc,od,.func (PySem.W.fnOf name qual params body scope dV kV doc pm an cdv ct),osl⟩) (hcd:PySem.W.codeIn K cdv qual=true) (S:FnScope N ps scope)
  (len:∀ vs H Q E,sp vs H Q E->vs.length=ps.length)
  (hbody:∀ (A:Around) (outer:List Env) (s:Shared) (H:Hp) (vs:List V) (Q:VK) (E:XK),Room k (A.deeper (envOfC qual scope s.heap.objs.size f cdv))->sp vs H Q E->
   ∃ t,xK (sF CX P w K mg base N qual scope f cdv A outer s H E) body t/\t { nx:=λ _ H'=>Q .non H',rt:=Q } (jS N vs) H) :
  FnOk P w K mg base CX (k+1) f (PySem.W.fnOf name qual params body scope dV kV doc pm an cdv ct) ps sp:=by
 refine⟨len,λ A outer s H args us vs Q E hr e0 hb r hsp=>?_⟩;have hl:=len _ _ _ _ hsp;have KX:K.In s.heap:=e0.mod.kin.keeps λ b o e=>(e0.bs b o e).1;have lim:s.heap.NoLimit:=e0.mod.nolimit.keeps λ b o e=>(e0.bs b o e).1;have hkind:∀ y∈ps.zip us,scope.names.lookup y.1=some .local\/(scope.names.lookup y.1=some .cell/\((cellsFrom (s.heap.objs.size+1) scope.names []).lookup y.1).isSome=true):=λ ⟨n,v⟩ hy=>by
  rcases S.par n (List.of_mem_zip hy).1 with q | q
  ·exact .inl q
  ·exact .inr ⟨q,PySem.W.cellsFrom_some _ _ _ (.inl q)⟩
 refine codeAny_call_function hr.depth (KX _ _ lk) rfl S.co S.gen rfl (PySem.W.codeRec_of KX hcd) (hb _ _ _ _ ?_);refine wpAny_newFunctionEnv_cells S.kind hkind λ env he s1 x=>?_;subst he;refine⟨lim.keeps x.toInCall.keep,codeAny_func ?_⟩;obtain⟨t,ht,hq⟩:=hbody A outer s H vs Q E (hr.deeper _) hsp;have I:Inv (sF CX P w K mg base N qual scope f cdv A outer s H E) [] (jS N vs) H s1:=wU S hr.hd e0 hl r x;refine abg (ht [] s1 (jS N vs) H _ I hq) (λ fl s' hs=>?_) λ e s' hs=>hs;have fin:∀ {Z:St}{H':Hp}{v:V}{u:Value},Inv (sF CX P w K mg base N qual scope f cdv A outer s H E) [] Z H' s'->bA v u->Q v H'->CE outer P w H s Q u s':=
  λ {Z H' v u} J rv q=>⟨v,H',J.os,J.bare,J.base,J.hok,rv,q⟩
 cases fl with
 | ret u=>
  obtain⟨v,Z,H',J,rv,q⟩:=hs;exact fin J rv q
 | next=>
  obtain⟨Z,H',J,q⟩:=hs;exact fin (v:=V.non) (u:=Value.none) J rfl q
 | brk=>
  obtain⟨_,_,_,q⟩:=hs;exact False.elim q
 | cont=>
  obtain⟨_,_,_,q⟩:=hs;exact False.elim q
section
variable {X:Cx}{x:Str}{p pos:Pos}{e:Expr}{es:List Expr}{t:TA}{id T:String}{r:List V->Hp->VK->Prop}
def CL (r:List V->Hp->VK->Prop) (t:TA):TE:=λ σ H Q=>t σ H λ vs H1=>r vs H1 Q
theorem bH (hc:dI X (.builtin id) r) (hg:Gl X x) (hm:X.mg x=none) (hv:bootBuiltins x=some (.builtin id)) (ha:PA X (e::es) t) (hn:x ≠ "__name__" := by decide) (hdb:(x == ("__debug__" : Str))=false:=by decide)
  (he:starEach (e::es) X.env=(false,eval e X.env)::starEach es X.env:=by with_unfolding_all rfl) (hpl:(backTo pos (starEach es X.env)).any (·.1)=false:=by with_unfolding_all rfl):PE X (.Call (.Name x p) (e::es) [] pos) (CL r t):=by
 intro pins s σ H Q I h;refine wpAny_Call_Name_kw (gI I hg hm hv ?_ hn hdb);exact PyProof.Rows.callWith_builtin1 (cI (ha pos pins s σ H _ I h) λ us s1 ⟨vs,H1,I1,r1,q1⟩=>hc pins s1 σ H1 vs us Q I1 r1 q1) he hpl
theorem aU (hc:dI X (.type T) r) (hg:Gl X x) (hm:X.mg x=none) (hv:bootBuiltins x=some (.type T)) (ha:PA X (e::es) t) (hn:x ≠ "__name__" := by decide) (hdb:(x == ("__debug__" : Str))=false:=by decide)
  (he:starEach (e::es) X.env=(false,eval e X.env)::starEach es X.env:=by with_unfolding_all rfl) (hpl:(backTo pos (starEach es X.env)).any (·.1)=false:=by with_unfolding_all rfl):PE X (.Call (.Name x p) (e::es) [] pos) (CL r t):=by
 intro pins s σ H Q I h;refine wpAny_Call_Name_kw (gI I hg hm hv ?_ hn hdb);exact PyProof.Rows.callWith_type1 (cI (ha pos pins s σ H _ I h) λ us s1 ⟨vs,H1,I1,r1,q1⟩=>hc pins s1 σ H1 vs us Q I1 r1 q1) he hpl
end
end L2
namespace HT
open PySem PyProof.Rows
section
open PySem.SeqAt
open PySem.AutoSeq1 (wpAny_loadPart')
open PySem.MeetsSeq PySem.MeetsSeq2 PySem.MeetsSeq3
end
section
variable {prog:Program}{A:Around}{E:Value->Shared->Prop}{s:Shared}
theorem cat_tup {t b:Addr}{vs ws:List Value}{Q:Value->Shared->Prop} (ht:IsTup s.heap t vs.toArray) (hb:IsTup s.heap b ws.toArray) (hv:vs≠[])
  (h1:ws=[]->Q (.ref t) s) (h2:ws≠[]->Q (.ref s.heap.objs.size) { s with heap:=s.heap.push { cls:=.type "tuple",data:=.seq (vs++ws).toArray } })
  (hsz:vs.length+ws.length<=sizeLine):wpAny (model prog w) A (binaryOp .Add (.ref t) (.ref b)) Q E s:=by
 obtain⟨⟨cls,dd,data,sl⟩,ho,hc,n,hd⟩:=id ht;obtain⟨⟨cls2,dd2,data2,sl2⟩,ho2,hc2,n2,hd2⟩:=id hb;simp only at hc hd hc2 hd2;subst hc hd hc2 hd2;have e:vs.toArray++ws.toArray=(vs++ws).toArray:=by simp
 by_cases hw:ws=[]
 ·exact concat_meets ⟨_,ho,rfl⟩ ⟨_,ho2,rfl⟩ noFill_tuple_add seq_tuple_add PySem.F.slot_tuple_add PySem.F.entry_tuple_add (PySem.F.args_tuple_add_2 _ _)
   (tuple_addW1 t b vs.toArray ws.toArray n n2 dd dd2 sl sl2 (by simpa using hv) (by simp [hw])) ⟨ho,ho2,h1 hw⟩
 ·refine concat_meets ⟨_,ho,rfl⟩ ⟨_,ho2,rfl⟩ noFill_tuple_add seq_tuple_add PySem.F.slot_tuple_add PySem.F.entry_tuple_add (PySem.F.args_tuple_add_2 _ _)
   (tuple_addW2 t b vs.toArray ws.toArray n n2 dd dd2 sl sl2 (by simpa using hv) (by simpa using hw) (by rw[aah,aah];exact hsz)) ⟨ho,ho2,?_⟩
  rw[e];exact h2 hw
def sIx (n d:Nat):Option Int->Nat
 | none=>d
 | some v=>if v < 0 then (v+(n:Int)).toNat else min v.toNat n
theorem sIx_none (n d:Nat):sIx n d none=d:=rfl
theorem sIx_nat (n d k:Nat):sIx n d (some (k:Int))=min k n:=by
 show (if (k:Int) < 0 then ((k:Int)+(n:Int)).toNat else min (k:Int).toNat n)=min k n;rw[if_neg (by omega),Int.toNat_natCast]
theorem DT (n d:Nat) (hd:d<=n) (o:Option Int):sIx n d o<=n:=by
 cases o with
 | none=>exact hd
 | some v=>
  show (if v < 0 then (v+(n:Int)).toNat else min v.toNat n)<=n
  by_cases hv:v < 0
  ·rw[if_pos hv];omega
  ·rw[if_neg hv];exact Nat.min_le_right _ _
theorem vO (v:Int) (n d:Nat):(if v < 0 then max (v+(n:Int)) 0 else min v (n:Int))=((sIx n d (some v):Nat):Int):=by
 show (if v < 0 then max (v+(n:Int)) 0 else min v (n:Int))=(((if v < 0 then (v+(n:Int)).toNat else min v.toNat n):Nat):Int)
 by_cases hv:v < 0
 ·simp only [if_pos hv];omega
 ·simp only [if_neg hv];omega
theorem uA (lo hi:Option Int) (n:Nat):Builtin.Slice.sliceAdjust lo hi 1 (n:Int)=(((sIx n 0 lo:Nat):Int),((sIx n n hi:Nat):Int)):=by
 have h1:¬ ((1:Int) < 0):=by omega
 unfold Builtin.Slice.sliceAdjust;simp only [h1,if_false];refine Prod.ext ?_ ?_
 ·cases lo with
  | none=>rfl
  | some v=>exact vO v n 0
 ·cases hi with
  | none=>rfl
  | some v=>exact vO v n n
theorem tJ (i j:Nat):Builtin.Slice.slicePlaces (i:Int) (j:Int) 1=j - i:=by
 unfold Builtin.Slice.slicePlaces;have h1:(1:Int) > 0:=by omega
 simp only [h1,if_true,Int.ediv_one]
 split <;> omega
theorem n4 {v:Value}{o:Option Int}{Q:Option Int->Shared->Prop} (p:IsPart v o) (h:Q o s):wpAny (model prog w) A (Builtin.Slice.slicePartIndex v) Q E s:=by
 cases p with
 | none=>exact slicePart_none h
 | int i t=>exact slicePart_int h
theorem kW {sl:Addr}{vl vu:Value}{lo hi:Option Int}{n:Nat}{Q:Int×Int×Nat->Shared->Prop} (hs:s.heap.IsSliceOf sl vl vu .none) (pl:IsPart vl lo) (pu:IsPart vu hi)
  (h:Q (((sIx n 0 lo:Nat):Int),1,sIx n n hi - sIx n 0 lo) s):wpAny (model prog w) A (Builtin.Slice.sliceApplied (.ref sl) (pure (n:Int))) Q E s:=by
 obtain⟨os,hos,hcs,hds⟩:=id hs;unfold Builtin.Slice.sliceApplied Builtin.Slice.sliceFields;refine aaa (aaa (abj hos hds (x:=vl) rfl (aaa (abj hos hds (x:=vu) rfl (aaa (abj hos hds (x:=.none) rfl (aae ?_)))))));refine aaa (slicePart_none ?_);show wpAny _ _ (if ((1:Int) == 0)=true then _ else _) _ _ s;rw[if_neg (by decide)];refine aaa (n4 pl (aaa (n4 pu (aaa (aae ?_)))));show wpAny _ _ (match Builtin.Slice.sliceAdjust lo hi 1 (n:Int) with | (lo,hi)=>pure (lo,(1:Int),Builtin.Slice.slicePlaces lo hi 1)) _ _ s;rw[uA lo hi n];show wpAny _ _ (pure (((sIx n 0 lo:Nat):Int),(1:Int),Builtin.Slice.slicePlaces ((sIx n 0 lo:Nat):Int) ((sIx n n hi:Nat):Int) 1)) _ _ s;rw[tJ];exact aae h
theorem yJ (xs:Array Value) (i k:Nat):((List.range k).filterMap λ (m:Nat)=>xs[((i:Int)+(m:Int) * 1).toNat]?).toArray=((xs.toList.drop i).take k).toArray:=by
 have e:(λ (m:Nat)=>xs[((i:Int)+(m:Int) * 1).toNat]?)=λ m=>xs[i+m]?:=by
  funext m;have:((i:Int)+(m:Int) * 1).toNat=i+m:=by omega
  rw[this]
 rw[e];have:=pick_run xs i k;rw[List.filterMap_map] at this;have e2:((λ x=>xs[x]?) ∘ λ x=>i+x)=λ m=>xs[i+m]?:=rfl;rw[e2] at this;rw[this]
theorem getItem_tuple_cut {t sl:Addr}{items:Array Value}{vl vu:Value}{lo hi:Option Int}{Q:Value->Shared->Prop} (ht:IsTup s.heap t items) (hs:s.heap.IsSliceOf sl vl vu .none) (pl:IsPart vl lo) (pu:IsPart vu hi)
  (hw:¬ (sIx items.size 0 lo=0/\sIx items.size items.size hi=items.size))
  (h:Q (.ref s.heap.objs.size) { s with heap:=s.heap.push { cls:=.type "tuple",data:=.seq ((items.toList.drop (sIx items.size 0 lo)).take (sIx items.size items.size hi - sIx items.size 0 lo)).toArray } })
  (hsz:items.size<=sizeLine):wpAny (model prog w) A (getItem (.ref t) (.ref sl)) Q E s:=by
 have htake:sizeOk (.seq ((items.toList.drop (sIx items.size 0 lo)).take (sIx items.size items.size hi - sIx items.size 0 lo)).toArray):=by
  show ((items.toList.drop (sIx items.size 0 lo)).take (sIx items.size items.size hi - sIx items.size 0 lo)).toArray.size<=sizeLine;rw[aah,aaw,List.length_drop,aar];omega
 have hj:sIx items.size items.size hi<=items.size:=DT _ _ (aaj _) hi;obtain⟨os,hos,hcs,hds⟩:=id hs;have hTs:s.TypeIs (.ref sl) "slice" := ⟨os,hos,hcs⟩;unfold getItem
 try with_reducible refine abr ?_
 first | refine aaa (aae ?_) | skip
 refine aaa (wpAny_sequenceKey ht.typeIs (by decide) ?_);refine aaa (wpAny_callSpecial?_slot (name:=Str.ofString "__getitem__") ht.typeIs PyProof.Rows.slot_tuple_getitem
  (wpAny_call_entry PyProof.Rows.slot_tuple_getitem ht.typeIs entry_tuple_getitem ?_ (args_tuple_getitem _ _)))
 show wpAny _ _ (Builtin.Tuple.tupleItemsOf (.ref t) >>= _) _ _ s;refine aaa (tupleItemsOf_ ht ?_);refine aaa (wpAny_typeOf hTs ?_);rw[if_pos (by decide)];refine aaa (kW hs pl pu ?_);have hno:¬ ((((sIx items.size 0 lo:Nat):Int) == 0 && (1:Int) == 1 && (sIx items.size items.size hi - sIx items.size 0 lo) == items.size)=true):=by
  intro q;rw[Bool.and_eq_true,Bool.and_eq_true] at q;have q1:((sIx items.size 0 lo:Nat):Int)=0:=eq_of_beq q.1.1;have q2:sIx items.size items.size hi - sIx items.size 0 lo=items.size:=eq_of_beq q.2;exact hw ⟨by omega,by omega⟩
 show wpAny _ _ (if (((sIx items.size 0 lo:Nat):Int) == 0 && (1:Int) == 1 && (sIx items.size items.size hi - sIx items.size 0 lo) == items.size)=true then _ else _) _ _ s;rw[if_neg hno,yJ]
 first
  | exact aaa (m:=Builtin.Tuple.tupleExact _) (wpAny_newObj_type (aae ⟨_,rfl,aae h⟩) htake)
  | exact aaa (m:=Builtin.Tuple.tupleExact _) (wpAny_newObj_type (aaa (aae (aae ⟨_,rfl,aae h⟩))) htake)
  | exact aaa (aaa (m:=Builtin.Tuple.tupleExact _) (wpAny_newObj_type (aae (aae ⟨_,rfl,aae h⟩)) htake))
  | exact aaa (aaa (m:=Builtin.Tuple.tupleExact _) (wpAny_newObj_type (aae ⟨_,rfl,aae h⟩) htake))
end
end HT
namespace L2
open PySem PySem.Spec PyProof.Rows
abbrev TO:=St->Hp->(Option Int->Hp->Prop)->Prop
def PO (X:Cx) (e:Option Expr) (t:TO):Prop:=
 ∀ (pins:List (Addr×Obj)) (s:Shared) (σ:St) (H:Hp) (Q:Option Int->Hp->Prop),Inv X pins σ H s->t σ H Q->
  wpAny (model X.prog X.w) X.A (evalPart e X.env) (λ u s'=>∃ o H',Inv X pins σ H' s'/\IsPart u o/\Q o H') X.xe s
def AY:TO:=λ _ H Q=>Q none H
def FO (t:TE):TO:=λ σ H Q=>t σ H λ x H1=>∃ i,x=.int i/\Q (some i) H1
theorem jF {ns:List Int}:∀ {us:List Value},b9 (ns.map V.int) us->IntsAre us ns:=by
 induction ns with
 | nil=>intro us r;rw[ack] at r;cases r;exact .nil
 | cons n ns ih=>
  intro us r;rw[aap] at r;cases r with
  | cons r1 r2=>
   obtain⟨t,e⟩:=r1;subst e;exact .cons n t (ih r2)
section
variable {X:Cx}{e:Expr}{te:TE}{lo hi:Option Expr}{tl th:TO}{pos p2:Pos}
theorem uT:PO X none AY:=by
 intro pins s σ H Q I h;rw[evalPart_none];exact aae ⟨none,H,I,.none,h⟩
theorem uS (h:PE X e te):PO X (some e) (FO te):=by
 intro pins s σ H Q I hw;rw[evalPart_some];refine cI (h pins s σ H _ I hw) λ u s1 ⟨x,H1,I1,r1,q1⟩=>?_;obtain⟨i,rfl,q⟩:=q1;obtain⟨t,rfl⟩:=r1;exact⟨some i,H1,I1,.int i t,q⟩
def SlR (X:Cx) (r:V->Option Int->Option Int->Hp->VK->Prop):Prop:=
 ∀ (pins:List (Addr×Obj)) (s:Shared) (σ:St) (H:Hp) (x:V) (v vl vu:Value) (lo hi:Option Int) (sl:Addr) (Q:VK),Inv X pins σ H s->bA x v->s.heap.IsSliceOf sl vl vu .none->IsPart vl lo->IsPart vu hi->r x lo hi H Q->
  ∃ T id,typeLookup (.type T) "__getitem__" = pure (some (.builtin id))/\s.TypeIs v T/\wpAny (model X.prog X.w) X.A (getItem v (.ref sl)) (EP X pins σ Q) X.xe s
def tSl (r:V->Option Int->Option Int->Hp->VK->Prop) (te:TE) (tl th:TO):TE:=λ σ H Q=>te σ H λ x H1=>tl σ H1 λ l H2=>th σ H2 λ u H3=>r x l u H3 Q
theorem rJ {r:V->Option Int->Option Int->Hp->VK->Prop} (hr:SlR X r) (he:PE X e te) (hl:PO X lo tl) (hu:PO X hi th):PE X (.Subscript e (.Slice lo hi none p2) pos) (tSl r te tl th):=by
 intro pins s σ H Q I h;refine Subscript_ (cI (he pins s σ H _ I h) λ v s1 ⟨x,H1,I1,r1,q1⟩=>?_);refine wpAny_Slice (cI (hl pins s1 σ H1 _ I1 q1) λ vl s2 ⟨l,H2,I2,pl,q2⟩=>cI (hu pins s2 σ H2 _ I2 q2) λ vu s3 ⟨u,H3,I3,pu,q3⟩=>?_);rw[evalPart_none];refine aae ?_;have I4:Inv X pins σ H3 { s3 with heap:=s3.heap.push { cls:=.type "slice",data:=.fields #[vl,vu,.none] } }:=I3.kept (t':=s3.toks) λ b ob q=>aac _ q;obtain⟨T,id,hT,ht,hg⟩:=hr pins { s3 with heap:=s3.heap.push { cls:=.type "slice",data:=.fields #[vl,vu,.none] } } σ H3 x v vl vu l u s3.heap.objs.size Q I4 r1 (Heap.IsSliceOf.new ..) pl pu q3;show wpAny (model X.prog X.w) X.A (subscriptTail e (.Slice lo hi none p2) v (.ref s3.heap.objs.size)) (EP X pins σ Q) X.xe { s3 with heap:=s3.heap.push { cls:=.type "slice",data:=.fields #[vl,vu,.none] } };exact tail_any (ops:=[.ref s3.heap.objs.size,v]) ht hT hg (by with_unfolding_all rfl)
def sH (xs:List V) (lo hi:Option Int):List V:=(xs.drop (HT.sIx xs.length 0 lo)).take (HT.sIx xs.length xs.length hi - HT.sIx xs.length 0 lo)
theorem sG (xs:List V) (lo hi:Option Int):(sH xs lo hi).length<=xs.length:=by
 unfold sH;rw[aaw,List.length_drop];omega
def FV (K:aab):V->Option Int->Option Int->Hp->VK->Prop:=λ x lo hi H Q=>∃ a xs,x=.ref a/\bB K H a xs/\
 ¬ (HT.sIx xs.length 0 lo=0/\HT.sIx xs.length xs.length hi=xs.length)/\∀ p,H p=none->Q (.ref p) (upd H p (.tup (sH xs lo hi)))
theorem DR:SlR X (FV X.K):=by
 intro pins s σ H x v vl vu lo hi sl Q I rx hs pl pu h;obtain⟨a,xs,rfl,hx,hw,q⟩:=h;cases rx;obtain⟨its,r,ht,hz⟩:=I.tuple hx;have hlen:its.toArray.size=xs.length:=by rw[aah];exact r.length.symm
 refine⟨"tuple",_,PyProof.Rows.slot_tuple_getitem.lookup,ht.typeIs,?_⟩;refine HT.getItem_tuple_cut ht hs pl pu (by rw[hlen];exact hw) ?_ (by rw[hlen];exact hz);rw[hlen];refine⟨.ref s.heap.objs.size,_,I.laid (t':=s.toks) (o:=.tup (sH xs lo hi)) (λ b ob q=>aac _ q) (aaj _) ?_,rfl,q _ (I.hok.fresh (aaj _))⟩;exact⟨acj (sG xs lo hi) hz,_,(r.drop (HT.sIx xs.length 0 lo)).take (HT.sIx xs.length xs.length hi - HT.sIx xs.length 0 lo),IsTup.new _ _⟩
def CV (K:aab):R2:=λ x y H Q=>∃ a b xs ys,x=.ref a/\y=.ref b/\bB K H a xs/\bB K H b ys/\xs≠[]/\xs.length+ys.length<=sizeLine/\
 (ys=[]->Q (.ref a) H)/\(ys≠[]->∀ p,H p=none->Q (.ref p) (upd H p (.tup (xs++ys))))
theorem b9.nil_iff {xs:List V}{us:List Value} (r:b9 xs us):us=[]↔xs=[]:=by
 cases r with
 | nil=>simp
 | cons _ _=>simp
theorem uX:gA X (binaryOp .Add) (CV X.K):=by
 intro pins s σ H x y v u Q I rx ry h;obtain⟨a,b,xs,ys,rfl,rfl,ha,hb,hx,hz,q1,q2⟩:=h;cases rx;cases ry;obtain⟨its,r1,p1,_⟩:=I.tuple ha;obtain⟨its2,r2,p2,_⟩:=I.tuple hb;refine HT.cat_tup p1 p2 (λ z=>hx (r1.nil_iff.mp z)) (λ z=>⟨.ref a,H,I,rfl,q1 (r2.nil_iff.mp z)⟩) (λ z=>?_) (by rw[<- r1.length,<- r2.length];exact hz);refine⟨.ref s.heap.objs.size,_,I.laid (t':=s.toks) (o:=.tup (xs++ys)) (λ b ob q=>aac _ q) (aaj _) ?_,rfl,q2 (λ w=>z (r2.nil_iff.mpr w)) _ (I.hok.fresh (aaj _))⟩;exact⟨by rw[aao];exact hz,_,r1.append r2,IsTup.new _ _⟩
end
def zM (n:Nat) (i:Int):Option Nat:=if 0<=i then (if i < n then some i.toNat else none) else if -(n:Int)<=i then some (i+n).toNat else none
def AE {ap:Type} (xs:List ap) (i:Int):Option ap:=(zM xs.length i).bind λ j=>xs[j]?
theorem vD {n:Nat}{i:Int}{j:Nat} (h:zM n i=some j):seqIndex? i n=some j/\j < n/\-(n:Int)<=i/\i < n:=by
 unfold zM at h
 by_cases h0:0<=i
 ·rw[if_pos h0] at h
  by_cases h1:i < n
  ·rw[if_pos h1] at h;have e:i.toNat=j:=abx h;exact⟨by rw[seqIndex_of h0 h1,e],by omega,by omega,h1⟩
  ·rw[if_neg h1] at h;cases h
 ·rw[if_neg h0] at h
  by_cases h1 : -(n:Int)<=i
  ·rw[if_pos h1] at h;have e:(i+n).toNat=j:=abx h;exact⟨by rw[seqIndex_neg (by omega) h1,e],by omega,h1,by omega⟩
  ·rw[if_neg h1] at h;cases h
theorem qT {ap:Type}{xs:List ap}{i:Int}{v:ap} (h:AE xs i=some v):∃ j,seqIndex? i xs.length=some j/\xs[j]? = some v/\j < xs.length/\-(xs.length:Int)<=i/\i < xs.length:=by
 unfold AE at h;cases e:zM xs.length i with
 | none=>rw[e] at h;cases h
 | some j=>
  rw[e] at h;obtain⟨h1,h2,h3,h4⟩:=vD e;exact⟨j,h1,h,h2,h3,h4⟩
theorem bW {ap:Type}{xs:List ap}{j:Nat}{v:ap} (h:xs[j]? = some v):AE xs (j:Int)=some v:=by
 have hj:j < xs.length:=(aaf.mp h).1;have e:zM xs.length (j:Int)=some j:=by
  unfold zM;rw[if_pos (by omega),if_pos (by omega)];simp
 unfold AE;rw[e];exact h
theorem AD {ap:Type} (xs:List ap) (v:ap):AE (xs++[v]) (-1)=some v:=by
 have hl:(xs++[v]).length=xs.length+1:=by simp
 have e:zM (xs++[v]).length (-1)=some xs.length:=by
  unfold zM;rw[hl,if_neg (by decide),if_pos (by omega)];congr 1;omega
 unfold AE;rw[e];show (xs++[v])[xs.length]? = some v;simp
def vV (b:Expr):Prop:=∀ o i,subscripted b false o i=operate [o,i] (getItem o i)
def AQ (X:Cx) (r:R2):Prop:=
 ∀ (value slice:Expr) (pins:List (Addr×Obj)) (s:Shared) (σ:St) (H:Hp) (x y:V) (v u:Value) (Q:VK),Inv X pins σ H s->bA x v->bA y u->r x y H Q->
  subscripted slice false v u=operate [v,u] (getItem v u)->wpAny (model X.prog X.w) X.A (subscriptTail value slice v u) (EP X pins σ Q) X.xe s
def MtR (X:Cx) (id:String) (r:V->List V->Hp->VK->Prop):Prop:=
 ∀ (pins:List (Addr×Obj)) (s:Shared) (σ:St) (H:Hp) (x:V) (xs:List V) (v:Value) (us:List Value) (Q:VK),Inv X pins σ H s->bA x v->b9 xs us->r x xs H Q->
  wpAny (model X.prog X.w) X.A (call (.builtin id) (v::us)) (EP X pins σ Q) X.xe s
section
variable {X:Cx}{a b:Expr}{ta tb:TE}{pos:Pos}
theorem AQ.or {r r':R2} (h:AQ X r) (h':AQ X r'):AQ X (λ x y H Q=>r x y H Q\/r' x y H Q):=by
 intro value slice pins s σ H x y v u Q I rx ry q hs;rcases q with q | q
 ·exact h value slice pins s σ H x y v u Q I rx ry q hs
 ·exact h' value slice pins s σ H x y v u Q I rx ry q hs
theorem G9 {r:R2} (hr:AQ X r) (ha:PE X a ta) (hb:PE X b tb) (hs:vV b):PE X (.Subscript a b pos) (fT r ta tb):=by
 intro pins s σ H Q I h;exact Subscript_ (EU ha hb I h λ v u s2 x y H2 I2 rx ry q=>hr a b pins s2 σ H2 x y v u Q I2 rx ry q (hs _ _))
def FZ (K:aab):R2:=λ x y H Q=>∃ p xs i v,x=.ref p/\y=.int i/\bF K H p xs/\AE xs i=some v/\Q v H
def FX (K:aab):R2:=λ x y H Q=>∃ p xs i v,x=.ref p/\y=.int i/\bB K H p xs/\AE xs i=some v/\Q v H
def FY:R2:=λ x y H Q=>∃ z i c,x=.str z/\y=.int i/\z.length<=sizeLine/\AE z.cps.toList i=some c/\Q (.str ⟨#[c]⟩) H
theorem BZ:AQ X (FZ X.K):=by
 intro value slice pins s σ H x y v u Q I rx ry h hs;obtain⟨p,xs,i,z,rfl,rfl,hq,he,q⟩:=h;cases rx;obtain⟨t,rfl⟩:=ry;obtain⟨its,r,pl,hz⟩:=I.list hq;obtain⟨j,h1,h2,h3,h4,h5⟩:=qT he;obtain⟨w,ew,rw'⟩:=r.get h2;have hl:=r.length;have hn:=nL;have fin:EP X pins σ Q w s:=⟨z,H,I,rw',q⟩
 by_cases h0:0<=i
 ·have hj:i.toNat=j:=by
   rw[seqIndex_of h0 h5] at h1;exact abx h1
  exact item_listR pl.isList h0 (by omega) (by rw[hj];simpa using ew) fin hs
 ·have hj:(i+(its.toArray.size:Int)).toNat=j:=by
   rw[seqIndex_neg (by omega) h4] at h1;rw[aah,<- hl];exact abx h1
  exact subscriptTail_builtinR (x:=w) pl.isList.typeIs slot_list_getitem.lookup
   (wpAny_getItem_list_neg (Q:=λ r s'=>r=w/\EP X pins σ Q r s') pl.isList (by omega) (by rw[aah] <;> omega) (by omega) (by rw[hj];simpa using ew) ⟨rfl,fin⟩) hs
theorem EI:AQ X (FX X.K):=by
 intro value slice pins s σ H x y v u Q I rx ry h hs;obtain⟨p,xs,i,z,rfl,rfl,hq,he,q⟩:=h;cases rx;obtain⟨t,rfl⟩:=ry;obtain⟨its,r,pl,hz⟩:=I.tuple hq;obtain⟨j,h1,h2,h3,h4,h5⟩:=qT he;obtain⟨w,ew,rw'⟩:=r.get h2;have hl:=r.length;have hn:=nL;have fin:EP X pins σ Q w s:=⟨z,H,I,rw',q⟩;exact subscriptTail_builtinR (x:=w) pl.typeIs slot_tuple_getitem.lookup
  (getItem_tuple (j:=j) (Q:=λ r s'=>r=w/\EP X pins σ Q r s') pl (by omega) (by omega) (by rw[aah,<- hl];exact h1) (by simpa using ew) ⟨rfl,fin⟩) hs
theorem EJ:AQ X FY:=by
 intro value slice pins s σ H x y v u Q I rx ry h hs;obtain⟨z,i,c,rfl,rfl,hz,he,q⟩:=h;obtain⟨t,rfl⟩:=rx;obtain⟨t',rfl⟩:=ry;obtain⟨j,h1,h2,h3,h4,h5⟩:=qT he;have hl:z.cps.toList.length=z.length:=by simp [Str.length]
 rw[hl] at h1 h4 h5;have hn:=nL;exact tail_any (typeIs_str s z t) slot_str_getitem.lookup (getItem_str (c:=c) (by
  have e1:decide (i < -(2 ^ 63:Int))=false:=abq (by omega);have e2:decide (i ≥ 2 ^ 63)=false:=abq (by omega);rw[e1,e2,Bool.or_false]) (by rw[h1];simpa using h2) ⟨.str ⟨#[c]⟩,H,I.tok _,⟨_,rfl⟩,q⟩) hs
def sP (K:aab):R2:=λ x y H Q=>FZ K x y H Q\/FX K x y H Q\/FY x y H Q
theorem EK:AQ X (sP X.K):=BZ.or (EI.or EJ)
theorem tS (its:List Value) (n j:Nat) (u:Value):Obj.mapSeq (·.setIfInBounds j u) { cls:=.type "list",data:=.seq its.toArray n }={ cls:=.type "list",data:=.seq (its.set j u).toArray n }:=by
 simp [Obj.mapSeq]
theorem Inv.lst {pins:List (Addr×Obj)}{σ:St}{H:Hp}{s:Shared}{p:Addr}{xs:List V} (I:Inv X pins σ H s) (h:H p=some (.lst xs)) :
  ∃ (its:List Value) (n:Nat),b9 xs its/\s.heap.get? p=some { cls:=.type "list",data:=.seq its.toArray n }/\xs.length<=sizeLine:=by
 obtain⟨z,its,n,r,e⟩:=I.hok p _ h;exact⟨its,n,r,e,z⟩
theorem Inv.lstUpd {pins:List (Addr×Obj)}{σ:St}{H:Hp}{s:Shared}{p:Addr}{xs ys:List V}{its its':List Value}{n n':Nat}{f:Obj->Obj} (I:Inv X pins σ H s) (h:H p=some (.lst xs))
  (ho:s.heap.get? p=some { cls:=.type "list",data:=.seq its.toArray n }) (hf:f { cls:=.type "list",data:=.seq its.toArray n }={ cls:=.type "list",data:=.seq its'.toArray n' }) (r:b9 ys its') (hz:ys.length<=sizeLine) (t:Nat) :
  Inv X pins σ (upd H p (.lst ys)) { s with heap:=s.heap.update p f,toks:=t }:=by
 have e:(s.heap.update p f).get? p=some { cls:=.type "list",data:=.seq its'.toArray n' }:=by
  rw[acq f ho (by rw[hf] <;> rfl),hf]
 refine I.write (x:=p) (e:=p) (by rw[h];trivial) (.inl rfl) (λ b u hb q=>(Heap.get?_update_other _ _ (Ne.symm hb)).trans q) ⟨_,e⟩ ?_;exact⟨hz,its',n',r,e⟩
def rG:V->V->V->Hp->(Hp->Prop)->Prop:=λ o i v H Q=>∃ p xs k j,o=.ref p/\i=.int k/\H p=some (.lst xs)/\zM xs.length k=some j/\Q (upd H p (.lst (xs.set j v)))
theorem eU:EW X rG:=by
 intro pins s σ H o i v ov iv u Q I ro ri rv h;obtain⟨p,xs,k,j,rfl,rfl,hp,hj,q⟩:=h;cases ro;obtain⟨t,rfl⟩:=ri;obtain⟨its,n,r,ho,hz⟩:=I.lst hp;obtain⟨h1,h2,h3,h4⟩:=vD hj;have hl:=r.length;have hn:=nL;have I':Inv X pins σ (upd H p (.lst (xs.set j v))) { s with heap:=s.heap.update p (Obj.mapSeq (·.setIfInBounds j u)) }:=
  I.lstUpd hp ho (tS its n j u) (r.set rv j) (by rw[List.length_set];exact hz) s.toks
 by_cases h0:0<=k
 ·have hk:k.toNat=j:=by
   rw[seqIndex_of h0 h4] at h1;exact abx h1
  exact PySem.W.ki_setAt ho h0 (by omega) (by rw[aah,<- hl];exact h4) (by rw[hk];exact⟨_,I',q⟩)
 ·have hk:(k+(its.toArray.size:Int)).toNat=j:=by
   rw[seqIndex_neg (by omega) h3] at h1;rw[aah,<- hl];exact abx h1
  exact PySem.W.ki_setBack ho (by omega) (by rw[aah,<- hl];exact h3) (by omega) (by rw[hk];exact⟨_,I',q⟩)
def eY:V->Bool
 | .non=>true
 | .bl _=>true
 | .int _=>true
 | .str _=>true
 | _=>false
def sD:V->V->Bool
 | .non,.non=>true
 | .bl a,.bl b=>a == b
 | .bl a,.int b=>(if a then 1 else 0) == b
 | .int a,.bl b=>a == (if b then 1 else 0)
 | .int a,.int b=>a == b
 | .str a,.str b=>a == b
 | _,_=>false
theorem ER {A:Around}{s:Shared}{y x:V}{u v:Value} (ry:bA y u) (rx:bA x v) (fy:eY y=true) (fx:eY x=true):SeqAt.EqAt A s u v (sD y x):=by
 cases y with
 | non=>
  cases ry;cases x with
  | non=>cases rx;exact SeqAt.EqAt.same _
  | bl b=>cases rx;exact SeqAt.EqAt.none_bool b
  | int b=>obtain⟨t,rfl⟩:=rx;exact SeqAt.EqAt.none_int b t
  | str b=>obtain⟨t,rfl⟩:=rx;exact SeqAt.EqAt.none_str b t
  | _=>exact absurd (show false=true from fx) aai
 | bl a=>
  cases ry;cases x with
  | non=>cases rx;exact SeqAt.EqAt.bool_none a
  | bl b=>cases rx;exact SeqAt.EqAt.bool_bool a b
  | int b=>obtain⟨t,rfl⟩:=rx;exact SeqAt.EqAt.bool_int a b t
  | str b=>obtain⟨t,rfl⟩:=rx;exact SeqAt.EqAt.bool_str a b t
  | _=>exact absurd (show false=true from fx) aai
 | int a=>
  obtain⟨t',rfl⟩:=ry;cases x with
  | non=>cases rx;exact SeqAt.EqAt.int_none a t'
  | bl b=>cases rx;exact SeqAt.EqAt.int_bool a t' b
  | int b=>obtain⟨t,rfl⟩:=rx;exact SeqAt.EqAt.int_int a t' b t
  | str b=>obtain⟨t,rfl⟩:=rx;exact SeqAt.EqAt.int_str a t' b t
  | _=>exact absurd (show false=true from fx) aai
 | str a=>
  obtain⟨t',rfl⟩:=ry;cases x with
  | non=>cases rx;exact SeqAt.EqAt.str_none a t'
  | bl b=>cases rx;exact SeqAt.EqAt.str_bool a t' b
  | int b=>obtain⟨t,rfl⟩:=rx;exact SeqAt.EqAt.str_int a t' b t
  | str b=>obtain⟨t,rfl⟩:=rx;exact SeqAt.EqAt.str_str a t' b t
  | _=>exact absurd (show false=true from fx) aai
 | _=>exact absurd (show false=true from fy) aai
def qX (x:V) (u:Value):Bool:=match u with
 | .none=>sD .non x
 | .bool b=>sD (.bl b) x
 | .int i _=>sD (.int i) x
 | .str z _=>sD (.str z) x
 | _=>false
theorem qL {x y:V}{u:Value} (r:bA y u) (f:eY y=true):qX x u=sD y x:=by
 cases y with
 | non=>cases r;rfl
 | bl b=>cases r;rfl
 | int i=>obtain⟨t,rfl⟩:=r;rfl
 | str z=>obtain⟨t,rfl⟩:=r;rfl
 | _=>exact absurd (show false=true from f) aai
theorem kO {x:V}:∀ {xs:List V}{us:List Value},b9 xs us->xs.all eY=true->us.any (qX x)=xs.any λ y=>sD y x
 | _,_,.nil,_=>rfl
 | y::xs,u::us,.cons r t,f=>by
  rw[List.all_cons,Bool.and_eq_true] at f;rw[List.any_cons,List.any_cons,qL r f.1,kO t f.2]
theorem fZ {A:Around}{s:Shared}{x:V}{v:Value} (rx:bA x v) (fx:eY x=true):∀ {xs:List V}{us:List Value},b9 xs us->xs.all eY=true->∀ u∈us,SeqAt.EqAt A s u v (qX x u)
 | _,_,.nil,_=>λ u hu=>by cases hu
 | y::xs,u::us,.cons r t,f=>λ u' hu=>by
  rw[List.all_cons,Bool.and_eq_true] at f;rcases aay.mp hu with rfl | hu
  ·rw[qL r f.1];exact ER r rx f.1 fx
  ·exact fZ rx fx t f.2 u' hu
def D3 (x:V) (xs:List V):Bool:=xs.any λ y=>sD y x
def rIn (K:aab) (neg:Bool):R2:=λ x y H Q=>∃ p xs,y=.ref p/\(bF K H p xs\/bB K H p xs)/\eY x=true/\xs.all eY=true/\Q (.bl (if neg then !D3 x xs else D3 x xs)) H
theorem wK:gA X (compareOp .In) (rIn X.K false):=by
 intro pins s σ H x y v u Q I rx ry h;obtain⟨p,xs,rfl,hq,fx,fs,q⟩:=h;cases ry;rcases hq with hq | hq
 ·obtain⟨its,r,pl,hz⟩:=I.list hq;refine SeqAt.in_listAt (qX x) pl.isList (λ w hw=>fZ rx fx r fs w (by simpa using hw)) ⟨.bl _,H,I,rfl,?_⟩;rw[show its.toArray.any (qX x)=its.any (qX x) by simp,kO r fs];exact q
 ·obtain⟨its,r,pl,hz⟩:=I.tuple hq;refine SeqAt.in_tupleAt (qX x) pl (λ w hw=>fZ rx fx r fs w (by simpa using hw)) ⟨.bl _,H,I,rfl,?_⟩;rw[show its.toArray.any (qX x)=its.any (qX x) by simp,kO r fs];exact q
theorem pU:gA X (compareOp .NotIn) (rIn X.K true):=by
 intro pins s σ H x y v u Q I rx ry h;obtain⟨p,xs,rfl,hq,fx,fs,q⟩:=h;cases ry;rcases hq with hq | hq
 ·obtain⟨its,r,pl,hz⟩:=I.list hq;refine SeqAt.notIn_listAt (qX x) pl.isList (λ w hw=>fZ rx fx r fs w (by simpa using hw)) ⟨.bl _,H,I,rfl,?_⟩;rw[show its.toArray.any (qX x)=its.any (qX x) by simp,kO r fs];exact q
 ·obtain⟨its,r,pl,hz⟩:=I.tuple hq;refine SeqAt.notIn_tupleAt (qX x) pl (λ w hw=>fZ rx fx r fs w (by simpa using hw)) ⟨.bl _,H,I,rfl,?_⟩;rw[show its.toArray.any (qX x)=its.any (qX x) by simp,kO r fs];exact q
theorem qR:dI X (.builtin "len") (λ xs H Q=>∃ p ys,xs=[.ref p]/\(bF X.K H p ys\/bB X.K H p ys)/\Q (.int ys.length) H):=by
 intro pins s σ H xs us Q I r h;obtain⟨p,ys,rfl,hq,q⟩:=h;obtain⟨u,rfl,rx⟩:=mI r;cases rx;have hn:=nL;rcases hq with hq | hq
 ·obtain⟨its,r',pl,hz⟩:=I.list hq;have hlen:=r'.length;exact Calls.call_len_list pl.isList (by simp only [aah] <;> omega) ⟨.int ys.length,H,I.tok _,⟨s.toks+1,by rw[aah,hlen]⟩,q⟩
 ·obtain⟨its,r',pl,hz⟩:=I.tuple hq;have hlen:=r'.length;exact len_tuple pl (by simp only [aah] <;> omega) ⟨.int ys.length,H,I.tok _,⟨s.toks+1,by rw[aah,hlen]⟩,q⟩
theorem qQ:dI X (.type "list") (λ xs H Q=>∃ p ys,xs=[.ref p]/\(bF X.K H p ys\/bB X.K H p ys)/\∀ l,H l=none->Q (.ref l) (upd H l (.lst ys))):=by
 intro pins s σ H xs us Q I r h;obtain⟨p,ys,rfl,hq,q⟩:=h;obtain⟨u,rfl,rx⟩:=mI r;cases rx;have fin:∀ (its:List Value),b9 ys its->ys.length<=sizeLine->∀ (h':Heap) (c':Nat),(∀ b o',s.heap.get? b=some o'->h'.get? b=some o')->
   h'.get? s.heap.objs.size=some { cls:=.type "list",dict:=none,data:=.seq its.toArray c',slots:=#[] }->EP X pins σ Q (.ref s.heap.objs.size) { s with heap:=h' }:=λ its r' hz h' c' kp e=>
  ⟨.ref s.heap.objs.size,_,I.laid (t':=s.toks) kp (aaj _) (show cJ X.prog X.w _ h' _ (.lst ys) from ⟨hz,its,c',r',e⟩),rfl,q _ (I.hok.fresh (aaj _))⟩
 rcases hq with hq | hq
 ·obtain⟨its,r',pl,hz⟩:=I.list hq;have hlen:=r'.length;obtain⟨o,ho,hc,n,hd⟩:=pl.isList;exact call_list_seq p (.inl rfl) ho hc hd (λ h' c' kp e=>fin its r' hz h' c' kp e) (by simp only [aah] <;> omega)
 ·obtain⟨its,r',pl,hz⟩:=I.tuple hq;have hlen:=r'.length;obtain⟨o,ho,hc,n,hd⟩:=pl;exact call_list_seq p (.inr rfl) ho hc hd (λ h' c' kp e=>fin its r' hz h' c' kp e) (by simp only [aah] <;> omega)
theorem oK:dI X (.type "tuple") (λ xs H Q=>∃ p ys,xs=[.ref p]/\((bF X.K H p ys/\∀ l,H l=none->Q (.ref l) (upd H l (.tup ys)))\/(bB X.K H p ys/\Q (.ref p) H))):=by
 intro pins s σ H xs us Q I r h;obtain⟨p,ys,rfl,h⟩:=h;obtain⟨u,rfl,rx⟩:=mI r;cases rx;rcases h with ⟨hq,q⟩ | ⟨hq,q⟩
 ·obtain⟨its,r',pl,hz⟩:=I.list hq;have hlen:=r'.length;refine call_tuple_list pl.isList (λ h' kp=>?_) (by simp only [aah] <;> omega);have I1:Inv X pins σ H { s with heap:=h' }:=I.kept (t':=s.toks) kp;have I2:Inv X pins σ (upd H h'.objs.size (.tup ys)) { s with heap:=h'.push { cls:=.type "tuple",data:=.seq its.toArray } }:=
   I1.laid (t':=s.toks) (λ b o e=>aac _ e) (aaj _) (show cJ X.prog X.w _ _ _ (.tup ys) from ⟨hz,its,r',IsTup.new _ _⟩)
  exact⟨.ref h'.objs.size,_,I2,rfl,q _ (I1.hok.fresh (aaj _))⟩
 ·obtain⟨its,r',pl,hz⟩:=I.tuple hq;exact call_tuple_same pl ⟨.ref p,H,I,rfl,q⟩
def tyV (K:aab) (T:String) (x:V) (H:Hp):Prop:=match x with
 | .str _=>T = "str"
 | .int _=>T = "int"
 | .ref p=>(T = "list" /\ ∃ xs,bF K H p xs)\/(T = "tuple" /\ ∃ o,K.lookup p=some o/\o.cls=.type "tuple" /\ o.dict=none)\/
   (T = "dict" /\ ((∃ kvs,H p=some (.dK kvs))\/∃ kvs,H p=some (.dT kvs)))\/(T = "set" /\ ∃ S n,H p=some (.set S n))
 | _=>False
theorem DH {pins:List (Addr×Obj)}{σ:St}{H:Hp}{s:Shared}{T:String}{x:V}{v:Value} (I:Inv X pins σ H s) (r:bA x v) (ty:tyV X.K T x H) :
  s.TypeIs v T/\∀ a,v=.ref a->∃ ob,s.heap.get? a=some ob/\ob.dict=none:=by
 cases x with
 | str z=>
  obtain⟨t,rfl⟩:=r;cases (show T = "str" from ty);exact⟨typeIs_str s z t,λ _ e=>nomatch e⟩
 | int i=>
  obtain⟨t,rfl⟩:=r;cases (show T = "int" from ty);exact⟨typeIs_int s i t,λ _ e=>nomatch e⟩
 | ref p=>
  cases r;rcases ty with ⟨rfl,xs,hq⟩ | ⟨rfl,o,hk,hc,hd⟩ | ⟨rfl,hk⟩ | ⟨rfl,S,n,hk⟩
  ·obtain⟨its,_,pl,_⟩:=I.list hq;refine⟨pl.isList.typeIs,λ a e=>?_⟩;cases e;obtain⟨o,n,e,c,hd,_⟩:=pl;exact⟨o,e,hd⟩
  ·refine⟨⟨o,I.kIn p o hk,hc⟩,λ a e=>?_⟩;cases e;exact⟨o,I.kIn _ o hk,hd⟩
  ·have z:∃ o,s.heap.get? p=some o/\o.ExactDict:=by
    rcases hk with ⟨kvs,hk⟩ | ⟨kvs,hk⟩
    ·obtain⟨_,_,_,_,o,_,_,e,ex,_⟩:=I.hok p _ hk;exact⟨o,e,ex⟩
    ·obtain⟨_,_,_,_,o,_,_,e,ex,_⟩:=I.hok p _ hk;exact⟨o,e,ex⟩
   obtain⟨o,e,ex⟩:=z;refine⟨⟨o,e,ex.1⟩,λ a e2=>?_⟩;cases e2;exact⟨o,e,ex.2.1⟩
  ·obtain⟨o,_,_,_,e,ex,_⟩:=I.hok p _ hk;refine⟨⟨o,e,ex.1⟩,λ a e2=>?_⟩;cases e2;exact⟨o,e,ex.2.1⟩
 | _=>exact False.elim ty
def tBM (K:aab) (T:String) (r:V->List V->Hp->VK->Prop) (to:TE) (t:TA):TE:=λ σ H Q=>to σ H λ x H1=>tyV K T x H1/\t σ H1 λ xs H2=>r x xs H2 Q
variable {o e:Expr}{es:List Expr}{to:TE}{t:TA}{name:Str}{apos cpos:Pos}{T id:String}{r:V->List V->Hp->VK->Prop}
theorem GA (pa:PlainAttrs T) (slot:Slot T name id) (hty:typeOf (.builtin id)=pure (.type "method_descriptor")) (hm:MtR X id r) (ho:PE X o to) (ha:PA X (e::es) t)
  (hbase:attributeBase o name X.env (eval o X.env)=eval o X.env:=by with_unfolding_all rfl)
  (hfew:((backTo cpos (starEach (e::es) X.env)).all (λ x=>!x.1) && (backToKw cpos (keywordEach [] X.env)).all (λ x=>x.1.isSome)
   && decide ((e::es).length+([]:List Keyword).length+(if ([]:List Keyword).isEmpty then 0 else 1) < 30))=true:=by with_unfolding_all rfl)
  (hline:(apos.endLine == cpos.line)=true:=by with_unfolding_all rfl) (hs:starEach (e::es) X.env=(false,eval e X.env)::starEach es X.env:=by with_unfolding_all rfl) (hplain:(backTo cpos (starEach es X.env)).any (·.1)=false:=by with_unfolding_all rfl) :
  PE X (.Call (.Attribute o name apos) (e::es) [] cpos) (tBM X.K T r to t):=by
 intro pins s σ H Q I h;refine wpAny_Call_method_late hbase hfew hline rfl (cI (ho pins s σ H _ I h) λ v s1 ⟨x,H1,I1,r1,ty,q1⟩=>?_);obtain⟨h1,h2⟩:=DH I1 r1 ty;refine⟨T,id,pa,slot,hty,h1,h2,?_⟩;have hA:=ha cpos pins s1 σ H1 _ I1 q1;rw[hs] at hA ⊢;refine Calls.callWith_builtin (by show (false || (backTo cpos (starEach es X.env)).any (·.1))=false;rw[hplain] <;> rfl) (Calls.evalArgs_plain ?_);exact cI hA λ us s2 ⟨vs,H2,I2,r2,q2⟩=>hm pins s2 σ H2 x vs v us Q I2 r1 r2 q2
end
def MtM (X:Cx) (id:String) (r:V->List V->Hp->VK->Prop):Prop:=
 ∀ (pins:List (Addr×Obj)) (s:Shared) (σ:St) (H:Hp) (x:V) (xs:List V) (v:Value) (us:List Value) (Q:VK),Inv X pins σ H s->bA x v->b9 xs us->r x xs H Q->
  wpAny (model X.prog X.w) X.A (call (.builtin id) (v::us)) (EP X pins σ Q) X.xe s
theorem b9.one {x:V}{us:List Value} (h:b9 [x] us):∃ u,us=[u]/\bA x u:=mI h
theorem b9.two {x y:V}{us:List Value} (h:b9 [x,y] us):∃ u v,us=[u,v]/\bA x u/\bA y v:=xQ h
theorem b9.rep {xs:List V}{us:List Value} (h:b9 xs us):∀ k:Nat,b9 (List.replicate k xs).flatten (List.replicate k us).flatten
 | 0=>.nil
 | k+1=>by
  rw[List.replicate_succ,List.replicate_succ,List.flatten_cons,List.flatten_cons];exact b9.append h (b9.rep h k)
theorem p7 (its:List Value):∀ (k:Nat) (acc:List Value),
  List.foldl (λ x1 x2=>x1++x2) acc.toArray (List.replicate k its.toArray)=(acc++(List.replicate k its).flatten).toArray
 | 0,acc=>by simp
 | k+1,acc=>by
  have e:acc.toArray++its.toArray=(acc++its).toArray:=by simp
  have e2:(acc++its)++(List.replicate k its).flatten=acc++(List.replicate (k+1) its).flatten:=by
   rw[List.replicate_succ,List.flatten_cons,acm]
  rw[<- e2,<- p7 its k (acc++its),<- e,List.replicate_succ,acy]
section
variable {X:Cx}{pins:List (Addr×Obj)}{σ:St}{H:Hp}{s:Shared}{l b:Addr}{xs ys zs:List V}
theorem Inv.lset {its its':List Value}{n:Nat}{f:Array Value->Array Value}{t':Nat} (I:Inv X pins σ H s) (hH:H l=some (.lst xs))
  (e:s.heap.get? l=some { cls:=.type "list",data:=.seq its.toArray n }) (hf:f its.toArray=its'.toArray) (hv:b9 ys its') (hz:ys.length<=sizeLine) :
  Inv X pins σ (upd H l (.lst ys)) { s with heap:=s.heap.update l (Obj.mapSeq f),toks:=t' }:=by
 have q:=PySem.IsL.update e f;rw[hf] at q;refine I.write (x:=l) (e:=l) (by rw[hH];exact trivial) (.inl rfl) (λ b' u hb hu=>(Heap.get?_update_other s.heap (Obj.mapSeq f) (Ne.symm hb)).trans hu) ⟨_,q⟩ ?_;exact⟨hz,its',_,hv,q⟩
theorem Inv.lnew {its:List Value}{t':Nat} (I:Inv X pins σ H s) (hv:b9 ys its) (hz:ys.length<=sizeLine) :
  Inv X pins σ (upd H s.heap.objs.size (.lst ys)) { s with heap:=s.heap.push { cls:=.type "list",data:=.seq its.toArray },toks:=t' }:=
 I.laid (λ _ _ q=>aac _ q) (aaj _) ⟨hz,its,0,hv,aak _ rfl⟩
theorem Inv.fresh (I:Inv X pins σ H s):H s.heap.objs.size=none:=I.hok.fresh (aaj _)
theorem Inv.lstM (I:Inv X pins σ H s) (hH:H l=some (.lst xs)):xs.length<=sizeLine/\∃ (its:List Value) (n:Nat),b9 xs its/\xs.length=its.length/\s.heap.get? l=some { cls:=.type "list",data:=.seq its.toArray n }:=by
 obtain⟨z,its,n,r,e⟩:=I.hok l _ hH;exact⟨z,its,n,r,r.length,e⟩
theorem yX {n:Nat} (h:n<=sizeLine):Builtin.List.listTooLong n=false:=by
 unfold Builtin.List.listTooLong;exact abq (by omega)
end
section
variable {X:Cx}
def B9:V->List V->Hp->VK->Prop:=λ x vs H Q=>∃ l xs y,x=.ref l/\vs=[y]/\H l=some (.lst xs)/\xs.length < sizeLine/\Q .non (upd H l (.lst (xs++[y])))
theorem bU:MtM X "list.append" B9:=by
 intro pins s σ H x vs v us Q I rx rv h;obtain⟨l,xs,y,rfl,rfl,hH,hz,q⟩:=h;cases rx;obtain⟨u,rfl,ru⟩:=rv.one;obtain⟨z,its,n,r,hl,e⟩:=I.lstM hH;refine call_meets F.slot_list_append ⟨_,e,rfl⟩ F.entry_list_append (F.args_list_append_2 _ _) (PySem.list_append l its.toArray n u (by rw[aah];omega)) ⟨e,?_⟩;refine⟨.non,_,I.lset (its':=its++[u]) hH e (by simp) (r.append (.cons ru .nil)) ?_,rfl,q⟩;rw[aao,abv];omega
def B8:V->List V->Hp->VK->Prop:=λ x vs H Q=>∃ l b xs zs,x=.ref l/\vs=[.ref b]/\H l=some (.lst xs)/\H b=some (.lst zs)/\xs.length+zs.length<=sizeLine/\Q .non (upd H l (.lst (xs++zs)))
theorem wP:MtM X "list.extend" B8:=by
 intro pins s σ H x vs v us Q I rx rv h;obtain⟨l,b,xs,zs,rfl,rfl,hH,hB,hz,q⟩:=h;cases rx;obtain⟨u,rfl,ru⟩:=rv.one;cases ru;obtain⟨z,its,n,r,hl,e⟩:=I.lstM hH;obtain⟨z2,its2,n2,r2,hl2,e2⟩:=I.lstM hB;have hsz:its.toArray.size+its2.toArray.size<=sizeLine:=by rw[aah,aah];omega
 have hlong:¬ (!its.toArray.isEmpty && Builtin.List.listTooLong (its.toArray.size+its2.toArray.size))=true:=by
  rw[yX hsz,Bool.and_false];exact aai
 refine call_meets F.slot_list_extend ⟨_,e,rfl⟩ F.entry_list_extend (F.args_list_extend_2 _ _)
  (AutoSeq1.list_extend_list_list_0 l its.toArray n b its2.toArray n2 hlong (by rw[aah];omega) (by omega)) ⟨e,e2,?_⟩
 refine⟨.non,_,I.lset (its':=its++its2) hH e (by simp) (r.append r2) ?_,rfl,q⟩;rw[aao];omega
def rCat:R2:=λ x y H Q=>∃ l b xs zs,x=.ref l/\y=.ref b/\H l=some (.lst xs)/\H b=some (.lst zs)/\xs.length+zs.length<=sizeLine/\∀ p,H p=none->Q (.ref p) (upd H p (.lst (xs++zs)))
theorem pV:gA X (binaryOp .Add) rCat:=by
 intro pins s σ H x y v u Q I rx ry h;obtain⟨l,b,xs,zs,rfl,rfl,hH,hB,hz,q⟩:=h;cases rx;cases ry;obtain⟨z,its,n,r,hl,e⟩:=I.lstM hH;obtain⟨z2,its2,n2,r2,hl2,e2⟩:=I.lstM hB;refine PySem.P.add_list e e2 ?_ (by rw[aah,aah];omega);have ea:its.toArray++its2.toArray=(its++its2).toArray:=by simp
 rw[ea];exact⟨.ref _,_,I.lnew (t':=s.toks) (r.append r2) (by rw[aao];omega),rfl,q _ I.fresh⟩
theorem vB {ap:Type} (xs:List ap) (k:Nat):(List.replicate k xs).flatten.length=k * xs.length:=by
 induction k with
 | zero=>simp
 | succ k ih=>rw[List.replicate_succ,List.flatten_cons,aao,ih,Nat.succ_mul,Nat.add_comm]
end
section
variable {prog:Program}{A:Around}{E:Value->Shared->Prop}{s:Shared}
end
section
variable {X:Cx}
end
section
variable {az:Type}[DecidableEq az]
def eO (kvs:List (az×V)) (k:az):Option V:=(kvs.find? λ kv=>decide (kv.1=k)).map (·.2)
def kX (kvs:List (az×V)) (k:az) (v:V):List (az×V):=
 if (kvs.any λ kv=>decide (kv.1=k))=true then kvs.map (λ kv=>if kv.1=k then (kv.1,v) else kv) else kvs++[(k,v)]
theorem d5 {p:az×V}{r:List (az×V)}{k:az} (e:p.1=k):eO (p::r) k=some p.2:=by simp [eO,List.find?_cons,e]
theorem d6 {p:az×V}{r:List (az×V)}{k:az} (e:¬ p.1=k):eO (p::r) k=eO r k:=by simp [eO,List.find?_cons,e]
theorem jO (k:az):∀ kvs:List (az×V),(kvs.any λ kv=>decide (kv.1=k))=(eO kvs k).isSome
 | []=>rfl
 | p::r=>by
  rw[List.any_cons]
  by_cases e:p.1=k
  ·simp only [d5 e,abm e,Bool.true_or,Option.isSome_some]
  ·rw[d6 e,abq e,Bool.false_or];exact jO k r
theorem r9 (k j:az) (y:V):∀ kvs:List (az×V),eO (kvs.map λ kv=>if kv.1=k then (kv.1,y) else kv) j=(eO kvs j).map λ x=>if j=k then y else x
 | []=>rfl
 | p::r=>by
  have ih:=r9 k j y r;rw[aap]
  by_cases h:p.1=k
  ·rw[if_pos h]
   by_cases e:p.1=j
   ·rw[d5 (p:=(p.1,y)) e,d5 e,Option.map_some,if_pos (e.symm.trans h)]
   ·rw[d6 (p:=(p.1,y)) e,d6 e,ih]
  ·rw[if_neg h]
   by_cases e:p.1=j
   ·rw[d5 (p:=p) e,d5 e,Option.map_some,if_neg (λ z=>h (e.trans z))]
   ·rw[d6 (p:=p) e,d6 e,ih]
theorem oP (k j:az) (y:V):∀ kvs:List (az×V),eO kvs k=none->eO (kvs++[(k,y)]) j=if j=k then some y else eO kvs j
 | [],_=>by
  by_cases e:k=j
  ·rw[if_pos e.symm];exact d5 (p:=(k,y)) e
  ·rw[if_neg (λ z=>e z.symm)];exact d6 (p:=(k,y)) e
 | p::r,hn=>by
  rw[List.cons_append];have hk:¬ p.1=k:=λ z=>by rw[d5 z] at hn;cases hn
  rw[d6 hk] at hn;have ih:=oP k j y r hn
  by_cases e:p.1=j
  ·rw[d5 e,d5 e,if_neg (λ z=>hk (e.trans z))]
  ·rw[d6 e,d6 e,ih]
theorem xR (kvs:List (az×V)) (k j:az) (y:V):eO (kX kvs k y) j=if j=k then some y else eO kvs j:=by
 unfold kX
 by_cases a:(kvs.any λ kv=>decide (kv.1=k))=true
 ·rw[if_pos a,r9];rw[jO] at a
  by_cases e:j=k
  ·obtain⟨x,hx⟩:=Option.isSome_iff_exists.mp a;rw[if_pos e,e,hx,Option.map_some,if_pos rfl]
  ·rw[if_neg e];cases eO kvs j with
   | none=>rfl
   | some x=>rw[Option.map_some,if_neg e]
 ·rw[if_neg a];refine oP k j y kvs ?_;rw[jO] at a;cases q:eO kvs k with
  | none=>rfl
  | some x=>rw[q] at a;exact (a rfl).elim
theorem i8 (kvs:List (az×V)) (k:az) (v:V):(kX kvs k v).length<=kvs.length+1:=by
 unfold kX
 split
 ·rw[aad];omega
 ·rw[aao,aba,List.length_nil];omega
theorem qV.isSome_eq {o:Option V}{u:Option Value} (r:qV o u):o.isSome=u.isSome:=by
 cases o with
 | none=>cases u with
  | none=>rfl
  | some _=>exact (show False from r).elim
 | some _=>cases u with
  | none=>exact (show False from r).elim
  | some _=>rfl
theorem qV.getD {o:Option V}{u:Option Value}{d:V}{d':Value} (r:qV o u) (rd:bA d d'):bA (o.getD d) (u.getD d'):=by
 cases o with
 | none=>cases u with
  | none=>exact rd
  | some _=>exact (show False from r).elim
 | some _=>cases u with
  | none=>exact (show False from r).elim
  | some _=>exact r
theorem KV.val {kvs:List (az×V)}{vs:List (az×Value)} (r:KV kvs vs) (k:az):qV (eO kvs k) (valueAt vs k):=by
 unfold KV at r
 induction r with
 | nil=>exact True.intro
 | @cons p q ps qs h t ih=>
  obtain⟨h1,h2⟩:=h
  by_cases e:p.1=k
  ·have e':q.1=k:=h1.symm.trans e;have b:valueAt (q::qs) k=some q.2:=by simp [valueAt,List.find?_cons,e']
   rw[d5 e,b];exact h2
  ·have e':¬ q.1=k:=λ z=>e (h1.trans z);have b:valueAt (q::qs) k=valueAt qs k:=by simp [valueAt,List.find?_cons,e']
   rw[d6 e,b];exact ih
theorem KV.any {kvs:List (az×V)}{vs:List (az×Value)} (r:KV kvs vs) (k:az):(kvs.any λ kv=>decide (kv.1=k))=vs.any λ kv=>decide (kv.1=k):=by
 unfold KV at r
 induction r with
 | nil=>rfl
 | cons h t ih=>rw[List.any_cons,List.any_cons,ih,h.1]
theorem KV.repl {kvs:List (az×V)}{vs:List (az×Value)} (r:KV kvs vs) (k:az) {y:V}{u:Value} (ry:bA y u) :
  KV (kvs.map λ kv=>if kv.1=k then (kv.1,y) else kv) (vs.map λ kv=>if kv.1=k then (kv.1,u) else kv):=by
 unfold KV at r ⊢
 induction r with
 | nil=>exact .nil
 | @cons p q ps qs h t ih=>
  rw[aap,aap];refine .cons ?_ ih;obtain⟨h1,h2⟩:=h
  by_cases e:p.1=k
  ·rw[if_pos e,if_pos (h1.symm.trans e)];exact⟨h1,ry⟩
  ·rw[if_neg e,if_neg (λ z=>e (h1.trans z))];exact⟨h1,h2⟩
theorem KV.put {kvs:List (az×V)}{vs:List (az×Value)} (r:KV kvs vs) (k:az) {y:V}{u:Value} (ry:bA y u):KV (kX kvs k y) (stored vs k u):=by
 unfold kX stored;rw[r.any k]
 by_cases e:(vs.any λ kv=>decide (kv.1=k))=true
 ·rw[if_pos e,if_pos e];exact r.repl k ry
 ·rw[if_neg e,if_neg e];exact Paired.snoc r ⟨rfl,ry⟩
theorem KV.length {kvs:List (az×V)}{vs:List (az×Value)} (r:KV kvs vs):kvs.length=vs.length:=Paired.length r
end
theorem zL {P:Program}{w:World}{k:eB}{u:Value} (r:bA (kV k) u):(cY P w).is k u=true:=by
 cases k with
 | inl i=>obtain⟨t,e⟩:=(show ∃ t,u=Value.int i t from r);subst e;exact rP P w i t
 | inr z=>cases z with
  | some x=>obtain⟨t,e⟩:=(show ∃ t,u=Value.str x t from r);subst e;exact rO P w x t
  | none=>obtain rfl:=(show u=Value.none from r);rfl
theorem oY {P:Program}{w:World}:∀ {ks:List eB}{us:List Value},b9 (ks.map kV) us->ItemsAre (cY P w) ks us
 | [],_,r=>by rw[ack] at r;cases r;exact .nil
 | k::ks,_,r=>by
  rw[aap] at r;cases r with
  | cons h t=>exact .cons (zL h) (oY t)
abbrev KT (H:Hp):List (List eB×V)->List (List eB×Addr×Value)->Prop:=Paired λ p q=>p.1=q.1/\H q.2.1=some (.tup (p.1.map kV))/\bA p.2 q.2.2
theorem KT.val {H:Hp}{kvs:List (List eB×V)}{xs:List (List eB×Addr×Value)} (r:KT H kvs xs) (k:List eB):qV (eO kvs k) ((atKey xs k).map (·.2)):=by
 induction r with
 | nil=>exact True.intro
 | @cons p q ps qs h t ih=>
  obtain⟨h1,_,h2⟩:=h
  by_cases e:p.1=k
  ·have e':q.1=k:=h1.symm.trans e;have b:atKey (q::qs) k=some q.2:=by simp [atKey,List.find?_cons,e']
   rw[d5 e,b];exact h2
  ·have e':¬ q.1=k:=λ z=>e (h1.trans z);have b:atKey (q::qs) k=atKey qs k:=by simp [atKey,List.find?_cons,e']
   rw[d6 e,b];exact ih
theorem KT.repl {H:Hp}{kvs:List (List eB×V)}{xs:List (List eB×Addr×Value)} (r:KT H kvs xs) (k:List eB) {y:V}{u:Value} (ry:bA y u) :
  KT H (kvs.map λ kv=>if kv.1=k then (kv.1,y) else kv) (xs.map (putAt k u)):=by
 induction r with
 | nil=>exact .nil
 | @cons p q ps qs h t ih=>
  rw[aap,aap];refine .cons ?_ ih;obtain⟨h1,h2,h3⟩:=h;unfold putAt
  by_cases e:p.1=k
  ·rw[if_pos e,if_pos (h1.symm.trans e)];exact⟨h1,h2,ry⟩
  ·rw[if_neg e,if_neg (λ z=>e (h1.trans z))];exact⟨h1,h2,h3⟩
theorem KT.put {H:Hp}{kvs:List (List eB×V)}{xs:List (List eB×Addr×Value)} (r:KT H kvs xs) (k:List eB) {b:Addr}{y:V}{u:Value} (hb:H b=some (.tup (k.map kV))) (ry:bA y u) :
  KT H (kX kvs k y) (storedH xs k b u):=by
 have e:(kvs.any λ kv=>decide (kv.1=k))=(atKey xs k).isSome:=by
  rw[jO,(r.val k).isSome_eq,Option.isSome_map]
 unfold kX storedH;rw[e]
 by_cases q:(atKey xs k).isSome=true
 ·rw[if_pos q,if_pos q];exact r.repl k ry
 ·rw[if_neg q,if_neg q];exact Paired.snoc r ⟨rfl,hb,ry⟩
theorem KT.keeps {H H':Hp}{kvs:List (List eB×V)}{xs:List (List eB×Addr×Value)} (r:KT H kvs xs) (ht:∀ b ys,H b=some (.tup ys)->H' b=some (.tup ys)):KT H' kvs xs:=
 Paired.mapP r λ _ _ z=>⟨z.1,ht _ _ z.2.1,z.2.2⟩
section
variable {H:Hp}{h:Heap}{a:Addr}
theorem CN {u:HO} (ok:jN P w H h) (e:Rd H a u):cJ P w H h a u:=e.ok ok
theorem A8 {kvs:List (eB×V)} (ok:jN P w H h) (e:Rd H a (.dK kvs)):kvs.length<=sizeLine/\(a == sysModules)=false/\∃ vs,KV kvs vs/\h.DictOf (cY P w) a vs:=
 show cJ P w H h a (.dK kvs) from CN ok e
theorem GP {kvs:List (eB×V)} (ok:jN P w H h) (e:H a=some (.dK kvs)):kvs.length<=sizeLine/\(a == sysModules)=false/\∃ vs,KV kvs vs/\h.DictOf (cY P w) a vs:=A8 ok (.inl e)
theorem tU {ks:List eB} (ok:jN P w H h) (e:H a=some (.tup (ks.map kV))):(tupleKind (cY P w)).is h ks a:=by
 obtain⟨_,its,r,o,h1,h2,n,h3⟩:=(show cJ P w H h a (.tup (ks.map kV)) from ok a _ e);exact⟨o,its.toArray,n,h1,h2,h3,by simpa using oY r⟩
theorem A7 {kvs:List (List eB×V)} (ok:jN P w H h) (e:Rd H a (.dT kvs)):kvs.length<=sizeLine/\(a == sysModules)=false/\
  ∃ xs,KT H kvs xs/\h.DictOfH (tupleKind (cY P w)) a xs:=by
 obtain⟨z,y,xs,r,o,es,ep,h1,h2,h3,h4,h5⟩:=(show cJ P w H h a (.dT kvs) from CN ok e);refine⟨z,y,xs,r,o,es,ep,h1,h2,h3,h4,λ x hx=>?_,h5⟩;have all:∀ {l:List (List eB×V)}{m:List (List eB×Addr×Value)},KT H l m->∀ x∈m,(tupleKind (cY P w)).is h x.1 x.2.1:=by
  intro l m q
  induction q with
  | nil=>intro x hx;exact nomatch hx
  | @cons p q ps qs hq t ih=>
   intro x hx;rcases aay.mp hx with e | hx
   ·subst e;exact tU ok (by rw[<- hq.1];exact hq.2.1)
   ·exact ih x hx
 exact all r x hx
theorem GO {kvs:List (List eB×V)} (ok:jN P w H h) (e:H a=some (.dT kvs)):kvs.length<=sizeLine/\(a == sysModules)=false/\
  ∃ xs,KT H kvs xs/\h.DictOfH (tupleKind (cY P w)) a xs:=A7 ok (.inl e)
end
def uG (H:Hp) (a:Addr) (y:V) (r:Option V):Prop:=
 (∃ kvs k,Rd H a (.dK kvs)/\y=kV k/\r=eO kvs k)\/∃ kvs k b,Rd H a (.dT kvs)/\y=.ref b/\H b=some (.tup (k.map kV))/\r=eO kvs k
def AN (H:Hp) (a:Addr) (y v:V) (H':Hp):Prop:=
 (∃ kvs k,H a=some (.dK kvs)/\y=kV k/\kvs.length < sizeLine/\H'=upd H a (.dK (kX kvs k v)))\/
 ∃ kvs k b,H a=some (.dT kvs)/\y=.ref b/\H b=some (.tup (k.map kV))/\kvs.length < sizeLine/\H'=upd H a (.dT (kX kvs k v))
theorem uG.k {H:Hp}{a:Addr}{kvs:List (eB×V)}{k:eB} (e:H a=some (.dK kvs)):uG H a (kV k) (eO kvs k):=.inl ⟨kvs,k,.inl e,rfl,rfl⟩
theorem AN.k {H:Hp}{a:Addr}{kvs:List (eB×V)}{k:eB}{v:V} (e:H a=some (.dK kvs)) (hl:kvs.length < sizeLine):AN H a (kV k) v (upd H a (.dK (kX kvs k v))):=.inl ⟨kvs,k,e,rfl,hl,rfl⟩
section
variable {X:Cx}{pins:List (Addr×Obj)}{σ:St}{H:Hp}{s:Shared}{a:Addr}{y v:V}{u r:Value}{o:Option V}{A:Around}{E:Value->Shared->Prop}
theorem Inv.big (I:Inv X pins σ H s):sysModules < s.heap.objs.size:=by
 have h:mainGlobals < s.heap.objs.size:=(I.mod.glob.keeps I.bk).lt;exact Nat.lt_trans (by decide) h
theorem qN {h':Heap}{t':Nat}{ob:HO} (I:Inv X pins σ H s) (mu:oM (H a)) (hs:Heap.SameBut a s.heap h') (he:∃ q,h'.get? a=some q) (new:cJ X.prog X.w (upd H a ob) h' a ob) :
  Inv X pins σ (upd H a ob) { s with heap:=h',toks:=t' }:=
 I.write (x:=a) (e:=a) mu (.inl rfl) (λ b q hb z=>(hs.2 b hb).trans z) he new
theorem ES {P:Program}{w:World}{H':Hp}{h':Heap}{kvs:List (eB×V)}{vs:List (eB×Value)} (z:kvs.length<=sizeLine) (hd:(a == sysModules)=false) (rel:KV kvs vs) (dd:h'.DictOf (cY P w) a vs) :
  cJ P w H' h' a (.dK kvs):=⟨z,hd,vs,rel,dd⟩
theorem x9 {H':Hp}{Q:Unit->Shared->Prop} (hu:A.units+1 < cLine) (I:Inv X pins σ H s) (g:AN H a y v H') (ry:bA y u) (rv:bA v r) (h:∀ s',Inv X pins σ H' s'->Q () s') :
  wpAny (model X.prog X.w) A (setItem (.ref a) u r) Q E s:=by
 rcases g with ⟨kvs,k,e,ey,l,eH⟩ | ⟨kvs,k,b,e,ey,eb,l,eH⟩
 ·subst ey eH;obtain⟨z,hd,vs,rel,dd⟩:=GP I.hok e;have hz:vs.length<=sizeLine:=by rw[<- rel.length];exact z
  have hl:(kX kvs k v).length<=sizeLine:=by have:=i8 kvs k v;omega
  refine wpAny_setItem_pairs (hsz:=hz) (zL ry) dd λ h' dd' hs=>h _ ?_;have he:∃ q,h'.get? a=some q:=let ⟨q,_,_,hq,_⟩:=dd';⟨q,hq⟩;exact qN I (by rw[e];exact True.intro) hs he (ES hl hd (rel.put k rv) dd')
 ·subst ey eH;cases (show u=Value.ref b from ry);obtain⟨z,hd,xs,rel,dd⟩:=GO I.hok e;have hz:xs.length<=sizeLine:=by rw[<- Paired.length rel];exact z
  have hl:(kX kvs k v).length<=sizeLine:=by have:=i8 kvs k v;omega
  refine wpAny_setItem_heap (hsz:=hz) (tupleKind_room_in1 hu) (tU I.hok eb) dd λ h' dd' hs=>h _ ?_;obtain⟨q,es,ep,hq,h2,h3,h4,_,h5⟩:=dd';refine qN I (by rw[e];exact True.intro) hs ⟨q,hq⟩ ⟨hl,hd,_,(rel.put k eb rv).keeps λ c ys ec=>?_,q,es,ep,hq,h2,h3,h4,h5⟩;rw[aH (D0 ec e (λ z=>nomatch z))];exact ec
end
section
variable {X:Cx}{pins:List (Addr×Obj)}{σ:St}{H:Hp}{s:Shared}{a:Addr}{kvs:List (eB×V)}{k:eB}{u:Value}{A:Around}{E:Value->Shared->Prop}
end
def FT (td ty tv:TE):TS:=λ D σ H=>tv σ H λ v H1=>td σ H1 λ x H2=>ty σ H2 λ y H3=>∃ a H4,x=.ref a/\AN H3 a y v H4/\D.nx σ H4
section
variable {X:Cx}{o i e value:Expr}{pos pos' tpos:Pos}{td ty tv:TE}
theorem BA (hu:X.A.units+1 < cLine) (ho:PE X o td) (hi:PE X i ty) (hv:PE X value tv) (hs:swapsWith value (some (.Subscript o i pos')) pos.line X.env=pure false) :
  PS X (.Assign [.Subscript o i pos'] value pos) (FT td ty tv):=by
 intro pins s σ H D I h;refine wpAny_Assign_Subscript (cI (hv pins s σ H _ I h) λ r s1 ⟨v,H1,I1,rv,q1⟩=>cI (ho pins s1 σ H1 _ I1 q1) λ u s2 ⟨x,H2,I2,rx,q2⟩=>cI (hi pins s2 σ H2 _ I2 q2) λ iv s3 ⟨y,H3,I3,ry,a,H4,ex,g,q3⟩=>?_) hs;subst ex;obtain rfl:u=Value.ref a:=rx;exact x9 hu I3 g ry rv λ s4 I4=>⟨σ,H4,I4,q3⟩
end
theorem A9 {P:Program}{w:World}{H:Hp} (h:Heap) (hb:sysModules < h.objs.size):cJ P w H (h.push { cls:=.type "dict",data:=.dict #[] }) h.objs.size (.dK []):=
 ⟨abn _,beq_eq_false_iff_ne.mpr (Ne.symm (abb hb)),[],.nil,Heap.DictOf.new h⟩
def DM:TE:=λ _ H Q=>∀ p,H p=none->Q (.ref p) (upd H p (.dK []))
section
variable {X:Cx}{pos:Pos}
theorem yN:PE X (.Dict [] [] pos) DM:=λ pins s σ H Q I h=>
 wpAny_Dict_empty ⟨.ref s.heap.objs.size,_,I.laid (a:=s.heap.objs.size) (o:=.dK []) (t':=s.toks) (λ _ _ q=>aac _ q) (aaj _) (A9 s.heap I.big),rfl,h _ (I.hok.fresh (aaj _))⟩
end
structure M2 (X:Cx) (o:Expr) (m:Str) (apos:Pos) (e f:Expr) (cpos:Pos):Prop where
 base:attributeBase o m X.env (eval o X.env)=eval o X.env
 few:((backTo cpos (starEach [e,f] X.env)).all (λ x=>!x.1) && (backToKw cpos (keywordEach [] X.env)).all (λ x=>x.1.isSome)
  && decide (([e,f]:List Expr).length+([]:List Keyword).length+(if ([]:List Keyword).isEmpty then 0 else 1) < 30))=true
 line:(apos.endLine == cpos.line)=true
 trees:backTo cpos (starEach [e,f] X.env)=[(false,eval e X.env),(false,eval f X.env)]
def IsD (H:Hp) (a:Addr):Prop:=(∃ kvs,Rd H a (.dK kvs))\/∃ kvs,Rd H a (.dT kvs)
theorem EL {X:Cx}{pins:List (Addr×Obj)}{σ:St}{H:Hp}{s:Shared}{a:Addr} (I:Inv X pins σ H s) (d:IsD H a) :
  s.TypeIs (.ref a) "dict" /\ (∀ b,Value.ref a=.ref b->∃ ob,s.heap.get? b=some ob/\ob.dict=none)/\(a == sysModules)=false:=by
 rcases d with ⟨kvs,e⟩ | ⟨kvs,e⟩
 ·obtain⟨_,hd,vs,_,dd⟩:=A8 I.hok e;refine⟨dd.typeIs,λ b q=>?_,hd⟩;cases q;obtain⟨ob,_,_,h1,h2,_⟩:=dd;exact⟨ob,h1,h2.2.1⟩
 ·obtain⟨_,hd,xs,_,dd⟩:=A7 I.hok e;refine⟨dd.typeIs,λ b q=>?_,hd⟩;cases q;obtain⟨ob,_,_,h1,h2,_⟩:=dd;exact⟨ob,h1,h2.2.1⟩
section
variable {X:Cx}{pins:List (Addr×Obj)}{σ:St}{H:Hp}{s:Shared}{a:Addr}{y d:V}{u r:Value}{o:Option V}{A:Around}{E:Value->Shared->Prop}
theorem ET {Q:Value->Shared->Prop} (hu:A.units+1 < cLine) (I:Inv X pins σ H s) (g:uG H a y o) (ry:bA y u) (rd:bA d r) (h:∀ w' s',Inv X pins σ H s'->bA (o.getD d) w'->Q w' s') :
  wpAny (model X.prog X.w) A (call (.builtin "dict.get") [.ref a,u,r]) Q E s:=by
 rcases g with ⟨kvs,k,e,ey,l⟩ | ⟨kvs,k,b,e,ey,eb,l⟩
 ·subst ey;obtain⟨z,hd,vs,rel,dd⟩:=A8 I.hok e;refine call_meetsIn PySem.F.slot_dict_get dd.typeIs PySem.F.entry_dict_get (PySem.F.args_dict_get_3 _ _ _) (meets_dict_get_default (cY X.prog X.w) a (zL ry) hd r) ⟨_,dd.mapOf,h _ _ (I.tok _) ?_⟩;rw[l];exact (rel.val k).getD rd
 ·subst ey;cases (show u=Value.ref b from ry);obtain⟨z,hd,xs,rel,dd⟩:=A7 I.hok e;refine call_meetsIn PySem.F.slot_dict_get dd.typeIs PySem.F.entry_dict_get (PySem.F.args_dict_get_3 _ _ _) (meetsH_dict_get_default (tupleKind (cY X.prog X.w)) a b hd r) ⟨tupleKind_room_in1 hu,k,xs,tU I.hok eb,dd,h _ _ (I.tok _) ?_⟩;rw[l];exact (rel.val k).getD rd
end
def DN (td ty tx:TE):TE:=λ σ H Q=>td σ H λ x H1=>∃ a,x=.ref a/\IsD H1 a/\ty σ H1 λ y H2=>tx σ H2 λ z H3=>∃ o,uG H3 a y o/\Q (o.getD z) H3
section
variable {X:Cx}{o e f:Expr}{apos cpos:Pos}{td ty tx:TE}
theorem nA (hu:X.A.units+1 < cLine) (ho:PE X o td) (he:PE X e ty) (hf:PE X f tx) (m:M2 X o "get" apos e f cpos):PE X (.Call (.Attribute o "get" apos) [e,f] [] cpos) (DN td ty tx):=by
 intro pins s σ H Q I h;refine wpAny_Call_method m.base m.few m.line PySem.F.plainAttrs_dict PySem.F.slot_dict_get PySem.F.type_dict_get (cI (ho pins s σ H _ I h) λ u s1 ⟨x,H1,I1,rx,a,ex,d,q1⟩=>?_);subst ex;obtain rfl:u=Value.ref a:=rx;obtain⟨t1,t2,_⟩:=EL I1 d;refine⟨t1,t2,?_⟩;rw[m.trees];refine Calls.callWith_builtin rfl (Calls.evalArgs_plain (Calls.spliced_cons (cI (he pins s1 σ H1 _ I1 q1) λ iv s2 ⟨y,H2,I2,ry,q2⟩=>
  Calls.spliced_cons (cI (hf pins s2 σ H2 _ I2 q2) λ fv s3 ⟨z,H3,I3,rz,ov,g,q3⟩=>Calls.spliced_nil ?_))))
 exact ET hu I3 g ry rz λ w' s4 I4 rw'=>⟨_,H3,I4,rw',q3⟩
end
section
variable {X:Cx}{pins:List (Addr×Obj)}{σ:St}{H:Hp}{s:Shared}{a:Addr}{kvs:List (eB×V)}{A:Around}{E:Value->Shared->Prop}
end
section
variable {X:Cx}{pins:List (Addr×Obj)}{σ:St}{H:Hp}{s:Shared}{a:Addr}{y:V}{u:Value}{A:Around}{E:Value->Shared->Prop}
end
end L2
namespace Att
open PySem PySem.W PySem.Calls PyProof.Rows
theorem lW {P:Params}{h:Heap}:∀ (ns:List Int) (vs:List Value),WellAll P h vs (ns.map WData.int)->IntsAre vs ns:=by
 intro ns
 induction ns with
 | nil=>
  intro vs w;rw[ack] at w;cases w;exact .nil
 | cons n ns ih=>
  intro vs w;rw[aap] at w;cases w with
  | cons a b=>
   cases a;exact .cons _ _ (ih _ b)
theorem wH {l:OpenLaw}{n:Nat} (hn:l.most=some n) {P:Params}{h:Heap}{args:List WData}{vals:List Value}
  (hpre:l.row.toRowW.claim.pre args=true) (hwl:WellAll P h vals args) :
  ∃ a vs ns,vals=[Value.ref a]/\args=[WData.list (ns.map WData.int)]/\h.get? a=some { cls:=.type "list",data:=.seq vs.toArray }/\IntsAre vs ns/\ns.length<=n:=by
 have hsh:WShape.hasAll [] args [.list .int]=true:=(pre_splitW hpre).1;have hc:l.pre.holds [] { args:=args }=true:=(pre_splitW hpre).2;obtain⟨d,r,rfl,h1,h2⟩:=hasAllW_cons hsh;obtain rfl:=hasAllW_nil h2;obtain⟨xs,rfl,h3⟩:=hasW_list h1;obtain⟨ns,rfl⟩:=items_int h3;have hlen:ns.length<=n:=by
  unfold OpenLaw.pre at hc;have h4:(WTm.not (.lt (.lit (.int (n:Int))) (.len (.arg 0)))).holds [] { args:=[.list (ns.map .int)] }=true:=by
   have h4:=(holds_andW hc).1;rw[hn] at h4;exact h4
  have h5:=condW_of h4 (w_not (w_lt w_lit (w_len_list (w_arg rfl))));rw[aad] at h5;refine Nat.le_of_not_lt λ q=>?_;have q':(n:Int) < ((ns.length:Nat):Int):=by omega
  first
   | (rw[abm q'] at h5;exact absurd h5 (by decide))
   | (simp at h5;omega)
 cases hwl with
 | cons w1 w2=>
  cases w2;cases w1 with
  | list ho hall=>exact⟨_,_,ns,rfl,rfl,ho,lW ns _ hall,hlen⟩
theorem wJ (l:OpenLaw) (args:List WData):l.row.toRowW.claim.post args (.bool true) args=true:=
 postW_of (r:=l.row.toRowW) (X:=(true == true))
  (show WShape.has [] (.bool true) .bool=true by first | rfl | decide | simp [WShape.has,WShape.arms,WShape.armsAll])
  (show (WTm.eq .res (.lit (.bool true))).value [] { args:=args,res:=some (.bool true),after:=args }=some (.bool (true == true)) from w_eq_bool (w_res rfl) w_lit) rfl
theorem attach_call {l:OpenLaw}{n:Nat}{q:Program}{loose:List Str}{XP:(Str->Option Value)->Heap->Prop}{YP:World->Heap->Prop}{d:DefRec}
  (hn:l.most=some n) (hdf:d.params.defaults=[])
  (call:∀ (w:World) (s₀ ah:Shared) (mg mb:Str->Option Value) (fa:Addr) (o:Obj) (pm cd doc:Value) (a:Addr) (vs:List Value) (ns:List Int),
   Ground q loose [] XP w s₀ mg mb ah.heap->YP w ah.heap->
   ah.heap.get? fa=some o->o.data=.func (docDef d.name d.params d.body d.scope pm cd doc)->ah.heap.CodeRec cd d.name->mg d.name=some (.ref fa)->
   ah.heap.get? a=some { cls:=.type "list",data:=.seq vs.toArray }->IntsAre vs ns->ns.length<=n->ah.gens = #[]->
   codeAny (model l.prog w) callerA (.call (.ref fa) ⟨[.ref a],[]⟩) (λ r s'=>r=.ok (.ret (.bool true))/\OldK ah.heap s'.heap/\s'.os=ah.os/\AllBare s'.gens) ah) :
  WalkO q loose XP YP l.row.toRowW d [] (λ f vs=>PySem.call f vs):=by
 intro w s₀ ah mg mb G Y fa o pm cd doc dV kV ho hd hcd hD hmg hg args vals as hpre hlay hrd hwl hlo;obtain rfl:dV=.none:=Dflts.none hD hdf;obtain rfl:kV=.none:=Dflts.noKw hD;obtain⟨a,vs,ns,rfl,rfl,hobj,hints,hlen⟩:=wH hn hpre hwl;refine enter_call (codeAny_mono (call w s₀ ah mg mb fa o pm cd doc a vs ns G Y ho (fd_plain hd) hcd hmg hobj hints hlen hg) λ r s' hq=>?_);obtain⟨rfl,h2,h3,h4⟩:=hq;exact⟨.inl ⟨.bool true,.bool true,[],rfl,λ _=>rfl,.bool true,wJ l _,λ _=>⟨List.Pairwise.nil,λ _ hm=>(nomatch hm)⟩⟩,h2,h3,h4⟩
section
variable {prog:Program}{A:Around}{E:Value->Shared->Prop}{s:Shared}{K:Frag}
end
end Att
namespace L2
open PySem PySem.Spec PyProof.Rows
theorem oO:∀ {vs:List Value}{ns:List Int},IntsAre vs ns->b9 (ns.map V.int) vs
 | _,_,.nil=>.nil
 | _,_,.cons n t h=>.cons ⟨t,rfl⟩ (oO h)
def EZ (H:Hp):Prop:=∀ b,H b=none\/∃ o xs,H b=some (.frz o (.lst xs))
theorem zF {P:Program}{w:World}{K:aab}{mg mb:Str->Option Value}{CX:xM}{k:Nat}{fa a:Addr}{fd:FuncData}{x:Str}{sp:Sp}{ah:Shared}{vs:List Value}{ns:List Int}
  (KX:K.In ah.heap) (hns:ah.heap.Ns mainGlobals mg) (hb:ah.heap.Ns builtinsNs mb) (hbb:∀ x:Str,x ≠ "__name__" -> mb x=bootBuiltins x) (hlim:ah.heap.NoLimit) (hg:ah.gens = #[])
  (ha:ah.heap.get? a=some { cls:=.type "list",data:=.seq vs.toArray }) (hi:IntsAre vs ns) (hl:ns.length<=sizeLine) (hr:Room k callerA)
  (F:∀ base:Heap,K.In base->base.Ns mainGlobals mg->FnOk P w K mg base CX k fa fd [x] sp) (hbind:∀ (s:Shared) (u:Value),BindsTo s fd ⟨[u],[]⟩ [(x,u)])
  (hsp:∀ H:Hp,EZ H->bF K H a (ns.map V.int)->sp [.ref a] H (λ v _=>v=.bl true) λ _ _ _=>False)
  (hCX:∀ H e s',CX [] H ah (λ _ _ _=>False) e s'->False) :
  codeAny (model P w) callerA (.call (.ref fa) ⟨[.ref a],[]⟩) (λ r s'=>r=.ok (.ret (.bool true))/\OldK ah.heap s'.heap/\s'.os=ah.os/\AllBare s'.gens) ah:=by
 have rv:=oO hi;have lenV:=hi.length;have core:∀ H:Hp,EZ H->bF K H a (ns.map V.int)->jN P w H ah.heap->(∀ b,H b≠none->b=a)->(H a≠none->K.lookup a=none)->
   codeAny (model P w) callerA (.call (.ref fa) ⟨[.ref a],[]⟩) (λ r s'=>r=.ok (.ret (.bool true))/\OldK ah.heap s'.heap/\s'.os=ah.os/\AllBare s'.gens) ah:=by
  intro H hO hS hok hA hK;have base_of:∀ {b:Addr}{o:Obj},ah.heap.get? b=some o->H b=none->(qG ah.heap H).get? b=some o:=λ e n=>zS e n;have noA:∀ {b:Addr}{o:Obj}{es:Array DictEntry}{ep:Nat},ah.heap.get? b=some o->o.data=.dict es ep->H b=none:=λ {b o es ep} e d=>by
   cases q:H b with
   | none=>rfl
   | some u=>
    have e':b=a:=hA b (by rw[q];simp);subst e';rw[ha] at e;cases e;have d':Data.seq vs.toArray _=Data.dict es ep:=d;cases d'
  have nsK:∀ {b:Addr}{m:Str->Option Value},ah.heap.Ns b m->(qG ah.heap H).Ns b m:=λ {b m} ⟨o,es,ep,e,d,r⟩=>⟨o,es,ep,base_of e (noA e d),d,r⟩;have hKb:K.In (qG ah.heap H):=λ b o e=>base_of (KX b o e) (by
   cases q:H b with
   | none=>rfl
   | some u=>
    have e':b=a:=hA b (by rw[q];simp);subst e';rw[hK (by rw[q];simp)] at e;cases e)
  have hM:Mod K mg (qG ah.heap H):=⟨hKb,nsK hns,⟨mb,nsK hb,hbb⟩,let ⟨mc,h1,h2⟩:=hlim;⟨mc,nsK h1,h2⟩⟩;have e0:Env0 P w K mg (qG ah.heap H) callerA [] ah H:=⟨rfl,hM,λ b o e=>BP e,Nat.le_of_eq (wV _ _),trivial,λ b hb=>absurd (show b∈([]:List Addr) from hb) (by simp),hok,.of_eq hg⟩;refine codeAny_mono ((F _ hKb (nsK hns)).run callerA [] ah H ⟨[.ref a],[]⟩ [.ref a] [.ref a] _ _ hr e0 (hbind ah (.ref a)) (.cons rfl .nil) (hsp H hO hS)) λ r s' h=>?_;cases r with
  | error e=>exact (hCX H e s' h).elim
  | ok fl=>
   cases fl with
   | next=>exact False.elim h
   | brk=>exact False.elim h
   | cont=>exact False.elim h
   | ret u=>
    obtain⟨v,H',os,bare,un,hok',r',q⟩:=h;have q':v=.bl true:=q;subst q';obtain rfl:u=Value.bool true:=r';refine⟨rfl,OldK.of_keep λ b o e=>?_,os,bare⟩;cases q:H b with
    | none=>exact un.keep b o e q (by intro z;exact absurd (show b∈([]:List Addr) from z) (by simp)) (by simp)
    | some u=>
     rcases hO b with z | ⟨ob,xs,z⟩
     ·rw[q] at z;cases z
     ·have z2:=un.frzs b ob _ z;obtain⟨e1,_⟩:=hok b _ z;obtain⟨e2,_⟩:=hok' b _ z2;rw[e] at e1;cases e1;exact e2
 cases hk:K.lookup a with
 | some o=>
  have e:=KX a o hk;rw[ha] at e;cases e;refine core (λ _=>none) (λ _=>.inl rfl) (.inr ⟨_,vs.toArray,_,hk,rfl,rfl,rfl,by rw[aah,lenV];exact hl,by simpa using rv⟩) (λ b u z=>by have z':(none:Option HO)=some u:=z;cases z') (λ b z=>absurd rfl z) λ z=>absurd rfl z
 | none=>
  refine core (λ b=>if b=a then some (.frz { cls:=.type "list",data:=.seq vs.toArray } (.lst (ns.map V.int))) else none) (λ b=>?_) (.inl (.inr ⟨{ cls:=.type "list",data:=.seq vs.toArray },if_pos rfl⟩)) (λ b u z=>?_) (λ b z=>?_) λ _=>hk
  ·by_cases hb:b=a
   ·exact .inr ⟨_,_,if_pos hb⟩
   ·exact .inl (if_neg hb)
  ·by_cases hb:b=a
   ·have z':=(if_pos hb).symm.trans z;cases z';subst hb;exact⟨ha,by rw[aad];exact hl,vs,_,rv,ha⟩
   ·have z':=(if_neg hb).symm.trans z;cases z'
  ·by_cases hb:b=a
   ·exact hb
   ·exact absurd (if_neg hb) z
theorem walk_of {l:PySem.W.OpenLaw}{n k:Nat}{q:Program}{loose:List Str}{XP:(Str->Option Value)->Heap->Prop}{YP:World->Heap->Prop}{d:DefRec}{K:Params->aab}{CX:World->xM}{sp:World->Sp}{x:Str}
  (hn:l.most=some n) (hn2:n<=sizeLine) (hdf:d.params.defaults=[]) (hr:Room k callerA)
  (hY:∀ (w:World) (h:Heap),YP w h->(K w.params).In h)
  (F:∀ (w:World) (mg:Str->Option Value) (fa:Addr) (h:Heap),(K w.params).In h->h.Ns mainGlobals mg->mg d.name=some (.ref fa)->
   ∃ fd:FuncData,(∀ (s:Shared) (u:Value),BindsTo s fd ⟨[u],[]⟩ [(x,u)])/\
    ∀ base:Heap,(K w.params).In base->base.Ns mainGlobals mg->FnOk l.prog w (K w.params) mg base (CX w) k fa fd [x] (sp w))
  (hsp:∀ (w:World) (H:Hp) (a:Addr) (ns:List Int),ns.length<=n->EZ H->bF (K w.params) H a (ns.map V.int)->sp w [.ref a] H (λ v _=>v=.bl true) λ _ _ _=>False)
  (hCX:∀ (w:World) (H:Hp) (s:Shared) (e:Value) (s':Shared),CX w [] H s (λ _ _ _=>False) e s'->False) :
  PySem.W.WalkO q loose XP YP l.row.toRowW d [] (λ f vs=>PySem.call f vs):=by
 refine Att.attach_call hn hdf λ w s₀ ah mg mb fa o pm cd doc a vs ns G Y ho hd hcd hmg hobj hints hlen hg=>?_;have KX:=hY w _ Y;obtain⟨fd,hb,hF⟩:=F w mg fa _ KX G.T.g hmg;exact zF KX G.T.g G.T.b G.T.builtins G.T.nolimit hg hobj hints (acj hlen hn2) hr hF hb (λ H hO hS=>hsp w H a ns hlen hO hS) λ H e s'=>hCX w H ah e s'
def iS (s:Stmt):Arguments:=match s with
 | .FunctionDef _ a _ _ _ _ _ _ _ _=>a
 | _=>{ posonlyargs:=[],args:=[],vararg:=none,kwonlyargs:=[],kw_defaults:=[],kwarg:=none,defaults:=[] }
def fJ (s:Stmt):List Stmt:=match s with
 | .FunctionDef _ _ b _ _ _ _ _ _ _=>b
 | _=>[]
def aP (s:Stmt):Scope:=match s with
 | .FunctionDef _ _ _ _ _ _ sc _ _ _=>sc
 | _=>{ kind:=.function,names:=[],isGenerator:=false,isCoroutine:=false }
abbrev gX:xM:=λ _ _ _ _ _ _=>False
abbrev E0:XK:=λ _ _ _=>False
theorem GB {X:Cx}:o9 gX X E0:=λ _ _ _ _ _ _ _ h=>h.elim
structure Fun (K:aab) (x qual:Str) (st:Stmt) (f:Addr) (fd:FuncData):Prop where
 ex:∃ (oc:Value) (od:Option Addr) (kV doc pm:Value) (an:Option Addr) (cdv ct:Value) (osl:Array (Option Value)),
  fd=PySem.W.fnOf x qual (iS st) (fJ st) (aP st) .none kV doc pm an cdv ct/\K.lookup f=some ⟨oc,od,.func fd,osl⟩/\PySem.W.codeIn K cdv qual=true
 kp:PySem.W.keepIn K (.ref f)=true
theorem Fun.ok {x qual:Str}{st:Stmt}{f:Addr}{fd:FuncData}{N ps:List Str}{k:Nat}{sp:Sp} (F:Fun K x qual st f fd) (S:FnScope N ps (aP st)) (len:∀ vs H Q E,sp vs H Q E->vs.length=ps.length)
  (hbody:∀ (cdv:Value) (A:Around) (outer:List Env) (s:Shared) (H:Hp) (vs:List V) (Q:VK) (E:XK),Room k (A.deeper (envOfC qual (aP st) s.heap.objs.size f cdv))->sp vs H Q E->
   ∃ t,xK (sF gX P w K mg base N qual (aP st) f cdv A outer s H E).nox (fJ st) t/\t { nx:=λ _ H'=>Q .non H',rt:=Q } (jS N vs) H):FnOk P w K mg base gX (k+1) f fd ps sp:=by
 obtain⟨oc,od,kV,doc,pm,an,cdv,ct,osl,rfl,lk,hcd⟩:=F.ex;refine D9 lk hcd S len λ A outer s H vs Q E hr hsp=>?_;obtain⟨t,h,q⟩:=hbody cdv A outer s H vs Q E hr hsp;exact⟨t,h.nox,q⟩
theorem Fun.binds {x qual:Str}{st:Stmt}{f:Addr}{fd:FuncData}{ps:List Str} (F:Fun K x qual st f fd)
  (h:∀ (kV doc pm:Value) (an:Option Addr) (cdv ct:Value) (us:List Value),us.length=ps.length->bindArgs (PySem.W.fnOf x qual (iS st) (fJ st) (aP st) .none kV doc pm an cdv ct) ⟨us,[]⟩=pure (ps.zip us)):oA K fd ps []:=by
 obtain⟨oc,od,kV,doc,pm,an,cdv,ct,osl,rfl,lk,hcd⟩:=F.ex;exact .all (h kV doc pm an cdv ct)
theorem bN {x qual:Str}{st:Stmt}{f:Addr}{oc:Value}{od an:Option Addr}{osl:Array (Option Value)}{kV doc pm cdv ct:Value} (l:K.lookup f=some ⟨oc,od,.func (PySem.W.fnOf x qual (iS st) (fJ st) (aP st) .none kV doc pm an cdv ct),osl⟩)
  (c:PySem.W.codeIn K cdv qual=true) (k:PySem.W.keepIn K (.ref f)=true):Fun K x qual st f (PySem.W.fnOf x qual (iS st) (fJ st) (aP st) .none kV doc pm an cdv ct):=⟨⟨oc,od,kV,doc,pm,an,cdv,ct,osl,rfl,l,c⟩,k⟩
theorem D8 {A:Around}{k:Nat} (hr:Room k A):A.units+1 < cLine:=Nat.lt_of_le_of_lt (Nat.add_le_add_left (by decide:1<=64) _) hr.units
theorem aM {n:Nat} (h:n<=1000):n < sizeLine:=Nat.lt_of_le_of_lt h (by decide)
section
variable {X:Cx}
theorem pv (i:Nat) {x:Str}{pos:Pos} (hN:X.N[i]? = some x:=by with_unfolding_all rfl) (hv:Vis X.env.scope x:=by with_unfolding_all first | exact Or.inl rfl | exact Or.inr (Or.inl rfl) | exact Or.inr (Or.inr rfl)) (hd:(x == ("__debug__" : Str))=false:=by decide)
  (hcd:(x == ("__classdict__" : Str))=false:=by decide):PE X (.Name x pos) (cN i):=E4 hN hv hd hcd
end
theorem j4 {A B:Prop} (h:B):if false=true then A else B:=by
 rw[if_neg aai];exact h
theorem lC {A B:Prop} (h:A):if true=true then A else B:=by
 rw[if_pos rfl];exact h
theorem gM {c A B:Prop} [Decidable c] (h1:c->A) (h2:¬ c->B):if c then A else B:=by
 by_cases h:c
 ·rw[if_pos h];exact h1 h
 ·rw[if_neg h];exact h2 h
def aF (H H':Hp):Prop:=∀ b o,H b=some o->H' b=some o
theorem aF.refl (H:Hp):aF H H:=λ _ _ h=>h
theorem aF.trans {H H1 H2:Hp} (a:aF H H1) (b:aF H1 H2):aF H H2:=λ c o h=>b c o (a c o h)
theorem aF.free {H H':Hp} (e:aF H H') {l:Addr} (h:H' l=Option.none):H l=Option.none:=by
 cases q:H l with
 | none=>rfl
 | some o=>
  rw[e l o q] at h;cases h
theorem aF.seq {K:aab}{H H':Hp}{a:Addr}{xs:List V} (e:aF H H') (h:bF K H a xs):bF K H' a xs:=by
 rcases h with (h | ⟨o,h⟩) | h
 ·exact .inl (.inl (e _ _ h))
 ·exact .inl (.inr ⟨o,e _ _ h⟩)
 ·exact .inr h
end L2
set_option maxHeartbeats 4000000
namespace L2
open PySem PySem.Spec PyProof.Rows
theorem dF {env:Env} (hk:env.scope.kind=.function):∀ {names:List (Str×NameKind)}{x:Str},names.lookup x=some .free->env.kindOf x=some .cell->
  (names.map λ (n,k)=>if (k == NameKind.free && env.scope.kind == .function && env.kindOf n == some .cell) then (n,NameKind.cell) else (n,k)).lookup x=some .cell
 | [],_,h,_=>by simp at h
 | (n,k)::r,x,h,hc=>by
  have ih:=@dF env hk r x;show List.lookup x ((if (k == NameKind.free && env.scope.kind == .function && env.kindOf n == some .cell)=true then (n,NameKind.cell) else (n,k))::_)=_;cases hx:x == n with
  | true=>
   simp only [List.lookup_cons,hx] at h;cases h;have e:x=n:=by simpa using hx
   subst e;rw[if_pos (by rw[hk,hc];decide)];simp [List.lookup_cons]
  | false=>
   simp only [List.lookup_cons,hx] at h
   by_cases hq:(k == NameKind.free && env.scope.kind == .function && env.kindOf n == some .cell)=true
   ·rw[if_pos hq];simp only [List.lookup_cons,hx];exact ih h hc
   ·rw[if_neg hq];simp only [List.lookup_cons,hx];exact ih h hc
def xL (env:Env):List (Str×Addr)->Prop
 | []=>True
 | p::r=>env.cells.lookup p.1=some p.2/\xL env r
theorem xL.get {env:Env}:∀ {cl:List (Str×Addr)},xL env cl->∀ x c,cl.lookup x=some c->env.cells.lookup x=some c
 | [],_,_,_,e=>by simp at e
 | (n,a)::r,h,x,c,e=>by
  cases hx:x == n with
  | true=>
   simp only [List.lookup_cons,hx] at e;cases e;have e':x=n:=by simpa using hx
   subst e';exact h.1
  | false=>
   simp only [List.lookup_cons,hx] at e;exact xL.get h.2 x c e
def qW (X:Cx) (scope:Scope) (N':List Str):List (Option Nat)->Nat->Prop
 | [],_=>True
 | none::r,i=>qW X scope N' r (i+1)
 | some j::r,i=>(∃ x,N'[i]? = some x/\X.N[j]? = some x/\scope.names.lookup x=some .free/\X.env.kindOf x=some .cell)/\qW X scope N' r (i+1)
theorem qW.get {X:Cx}{scope:Scope}{N':List Str}:∀ {fr:List (Option Nat)}{k:Nat},qW X scope N' fr k->∀ i j,fr[i]? = some (some j)->
  ∃ x,N'[k+i]? = some x/\X.N[j]? = some x/\scope.names.lookup x=some .free/\X.env.kindOf x=some .cell
 | [],_,_,i,j,e=>by simp at e
 | none::r,k,h,0,j,e=>by simp at e
 | some _::r,k,h,0,j,e=>by simp at e;subst e;exact h.1
 | none::r,k,h,i+1,j,e=>by
  have:=qW.get (k:=k+1) (show qW X scope N' r (k+1) from h) i j (by simpa using e)
  rwa [Nat.add_right_comm] at this
 | some _::r,k,h,i+1,j,e=>by
  have:=qW.get (k:=k+1) h.2 i j (by simpa using e)
  rwa [Nat.add_right_comm] at this
structure LcOk (X:Cx) (scope:Scope) (cl:List (Str×Addr)) (N':List Str) (fr:List (Option Nat)):Prop where
 clos:closureFor scope X.env=pure cl
 cls:xL X.env cl
 kind:scope.kind=.function
 nocell:(scope.names.all λ p=>p.2 != NameKind.cell)=true
 locs:(scope.names.all λ p=>p.2 != NameKind.local || scope.names.lookup p.1 == some NameKind.local)=true
 frees:(scope.names.all λ p=>p.2 != NameKind.free || (cl.lookup p.1).isSome)=true
 len:fr.length=N'.length
 fr:qW X scope N' fr 0
def oI (fr:List (Option Nat)) (σ:St):St:=fr.map λ o=>o.bind λ j=>(σ[j]?).join
def iT (X:Cx) (N':List Str) (scope:Scope) (cl:List (Str×Addr)) (fp:List Addr) (s:Shared) (H:Hp):Cx:=
 { X with N:=N',s₀:=s,H₀:=H,env:=compEnvC scope cl s.heap.objs.size X.env,outer:=X.stack,ex:=fp,fn:=λ _=>false,pn:=[] }
def AM (X:Cx) (ifs:List Expr) (t:TT):Prop:=
 ∀ (pins:List (Addr×Obj)) (s:Shared) (σ:St) (H:Hp) (Q:Bool->Hp->Prop),Inv X pins σ H s->t σ H Q->
  wpAny (model X.prog X.w) X.A (forIn ifs true λ c r=>if r=true then do let ok <- isTrue c X.env (eval c X.env);pure (ForInStep.yield ok) else pure (ForInStep.yield r)) (TP X pins σ Q) X.xe s
def DJ:TT:=λ _ H Q=>Q true H
theorem cH {X:Cx}:AM X [] DJ:=λ _ _ _ H _ I h=>wpAny_tests_nil ⟨H,I,h⟩
theorem iL {X:Cx}{c:Expr}{t:TT} (h:PT X c t):AM X [c] t:=λ pins s σ H Q I hw=>wpAny_tests_one (h pins s σ H Q I hw)
def gK (J:It) (g:TG) (tc:TT) (te:TE) (fr:List (Option Nat)) (σ:St) (H1:Hp) (Q:Addr->Hp->Prop):Prop:=
 ∀ D,H1 D=none->∃ W:Nat->Nat->List V->St->Hp->Prop,(∃ m,W 0 m [] (oI fr σ) (upd H1 D (.lst [])))/\
  ∀ i m ys Z H',W i m ys Z H'->(J.stop i H'/\Q D H')\/
   (J.go i H'/\∃ N:List V->St->Hp->Prop,(∀ ys' bx H'',N ys' bx H''->∃ m',m' < m/\W (i+1) m' ys' bx H'')/\
    ∀ x H2,J.yld i H' x H2->g x Z H2 λ am H3=>tc am H3 λ b H4=>
    if b=true then te am H4 λ y H5=>H5 D=some (.lst ys)/\ys.length < sizeLine/\N (ys++[y]) am (upd H5 D (.lst (ys++[y])))
    else N ys am H4)
theorem nM {J:It}{n:Nat}{g:TG}{tc:TT}{te:TE}{fr:List (Option Nat)}{σ:St}{H1:Hp}{Q:Addr->Hp->Prop} (Pv:Addr->Nat->List V->St->Hp->Prop)
  (h0:∀ D,H1 D=none->Pv D 0 [] (oI fr σ) (upd H1 D (.lst [])))
  (hstop:∀ D ys Z H',Pv D n ys Z H'->J.stop n H'/\Q D H')
  (hgo:∀ D i ys Z H',i < n->Pv D i ys Z H'->J.go i H'/\∀ x H2,J.yld i H' x H2->g x Z H2 λ am H3=>tc am H3 λ b H4=>
    if b=true then te am H4 λ y H5=>H5 D=some (.lst ys)/\ys.length < sizeLine/\Pv D (i+1) (ys++[y]) am (upd H5 D (.lst (ys++[y])))
    else Pv D (i+1) ys am H4):gK J g tc te fr σ H1 Q:=by
 intro D hD;refine⟨λ i m ys σ H=>m=n - i/\i<=n/\Pv D i ys σ H,⟨n,by simp,abn _,h0 D hD⟩,?_⟩;rintro i m ys Z H' ⟨rfl,hi,p⟩
 by_cases hlt:i < n
 ·obtain⟨go,step⟩:=hgo D i ys Z H' hlt p;exact .inr ⟨go,Pv D (i+1),λ ys' bx H'' p'=>⟨n - (i+1),by omega,rfl,hlt,p'⟩,step⟩
 ·have e:i=n:=by omega
  subst e;exact .inl (hstop D ys Z H' p)
theorem vJ {J:It}{n:Nat}{g:TG}{tb:TS}{D:Ends}{σ:St}{H:Hp} (Pv:Nat->St->Hp->Prop) (h0:Pv 0 σ H) (hstop:∀ σ H,Pv n σ H->J.stop n H/\D.nx σ H)
  (hgo:∀ i σ H,i < n->Pv i σ H->J.go i H/\∀ x H',J.yld i H x H'->g x σ H' λ bf H2=>tb { D with nx:=Pv (i+1),ct:=Pv (i+1),bk:=D.nx } bf H2) :
  ∃ W:Nat->Nat->St->Hp->Prop,(∃ m,W 0 m σ H)/\∀ i m σ H,W i m σ H->
   (J.stop i H/\D.nx σ H)\/(J.go i H/\∃ N:St->Hp->Prop,(∀ Z H',N Z H'->∃ m',m' < m/\W (i+1) m' Z H')/\∀ x H',J.yld i H x H'->g x σ H' λ bf H2=>tb { D with nx:=N,ct:=N,bk:=D.nx } bf H2):=by
 refine⟨λ i m σ H=>m=n - i/\i<=n/\Pv i σ H,⟨n,by simp,abn _,h0⟩,?_⟩;rintro i m σ H ⟨rfl,hi,p⟩
 by_cases hlt:i < n
 ·obtain⟨go,step⟩:=hgo i σ H hlt p;exact .inr ⟨go,Pv (i+1),λ Z H' p'=>⟨n - (i+1),by omega,rfl,hlt,p'⟩,step⟩
 ·have e:i=n:=by omega
  subst e;exact .inl (hstop σ H p)
def tLC (wi:TI) (fr:List (Option Nat)) (g:TG) (tc:TT) (te:TE):TE:=λ σ H Q=>wi σ H λ J H1=>gK J g tc te fr σ H1 λ D H'=>Q (.ref D) H'
section
variable {prog:Program}{A:Around}{R:Result->Shared->Prop}{s:Shared}
theorem kL {elt target iter:Expr}{ifs:List Expr}{scope:Scope}{pos:Pos}{it acc:Value}{env:Env} (I:Nat->Shared->Prop)
  (turn:∀ n s,I n s->wpAny (model prog w) A (pyNext it) (λ r ah=>match r with
   | none=>R (.ok .next) ah
   | some v=>wpAny (model prog w) A (letOwnedTupleGo target it v) (λ _ cn=>wpAny (model prog w) A (assign target env v) (λ _ ci=>
     wpAny (model prog w) A (forIn ifs true λ c r=>if r=true then do let ok <- isTrue c env (eval c env);pure (ForInStep.yield ok) else pure (ForInStep.yield r)) (λ ok bn=>
      if ok=true then wpAny (model prog w) A (eval elt env) (λ x bz=>
       wpAny (model prog w) A (call (.builtin "list.append") [acc,x]) (λ _ cv=>∃ m,m < n/\I m cv) (notedBy (model prog w) A env λ e s'=>R (.error e) s') bz) (notedBy (model prog w) A env λ e s'=>R (.error e) s') bn
      else ∃ m,m < n/\I m bn) (notedBy (model prog w) A env λ e s'=>R (.error e) s') ci) (notedBy (model prog w) A env λ e s'=>R (.error e) s') cn) (notedBy (model prog w) A env λ e s'=>R (.error e) s') ah)
    (notedBy (model prog w) A env λ e s'=>R (.error e) s') s)
  (n:Nat) (h:I n s) :
  codeAny (model prog w) A (.compLoop (.ListComp elt [⟨target,iter,ifs,0⟩] scope pos) 0 it acc env) R s:=by
 refine codeAny_loop rfl I (λ n s hI=>?_) n h;show wpAny _ A ((compTurn (.ListComp elt [⟨target,iter,ifs,0⟩] scope pos) 0 it acc env).onRaise (λ x=>do noteFrame x env;theTreesLotGoes x)) _ _ s;refine wpAny_noted ?_;rw[compTurn_list];refine aaa (wpAny_standAt (aaa (abg (turn n s hI) (λ r ah ak=>?_) λ _ _ h'=>h')));cases r with
 | none=>exact aae ak
 | some v=>
  refine aaa (abg ak (λ _ cn cz=>?_) λ _ _ h'=>h');refine aaa (abg cz (λ _ ci ao=>aaa (abg ao (λ ok bn ai=>?_) λ _ _ h'=>h')) λ _ _ h'=>h');cases ok with
  | false=>exact aae ⟨rfl,ai⟩
  | true=>
   exact aaa (aaa (abg ai (λ x bz aq=>aaa (abg aq (λ _ cv bo=>aae (aae ⟨rfl,bo⟩)) λ _ _ h'=>h')) λ _ _ h'=>h'))
end
section
variable {X:Cx}
theorem LcOk.invC {scope:Scope}{cl:List (Str×Addr)}{N':List Str}{fr:List (Option Nat)}{pins:List (Addr×Obj)}{σ:St}{H:Hp}{s:Shared}{h1:Heap}{fp:List Addr}{m1:Str->Option Value}{tk:Nat}
  (S:LcOk X scope cl N' fr) (I:Inv X pins σ H s) (hf:∀ b∈fp,eP X pins H b) (hfo:∀ b∈fp,b < s.heap.objs.size)
  (k:∀ b o,s.heap.get? b=some o->h1.get? b=some o) (hn:h1.Ns s.heap.objs.size m1):Inv (iT X N' scope cl fp s H) [] (oI fr σ) H { s with heap:=h1,toks:=tk }:=by
 have hfree:=S.frees;have hcell:=S.nocell;rw[aca] at hfree hcell;have fresh:H s.heap.objs.size=none:=I.hok.fresh (aaj _);have clg:=S.cls.get;refine⟨⟨I.ok.mod,S.kind,I.ok.glob,I.ok.blt,aaj _,λ x y c e1 e2=>I.ok.inj x y c (clg x c e1) (clg y c e2),λ x hx=>?_,(λ x c e=>nomatch e),I.ok.hd,I.ok.frames,.inl rfl,λ b hb=>⟨abb (hfo b hb),λ x c e=>(hf b hb).2.2.2.2.1 x c (clg x c e)⟩,
  I.bs,acj I.ok.bsz I.sz,λ b o e hb=>?_,λ b hb hz=>?_,I.stack,I.stkFree⟩,rfl,I.bare,Un.kept k,⟨m1,hn,λ i x v e1 e2 e3=>?_⟩,λ x c e=>?_,fresh,λ x c e=>I.freeC x c (clg x c e),λ p hp=>absurd (show p∈([]:List (Addr×Obj)) from hp) (by simp),I.hok.kept k,?_⟩
 ·
  have hm:∃ k',(x,k')∈scope.names/\k'=NameKind.free:=by
   have hx':(relabel scope X.env).names.lookup x=some .cell\/(relabel scope X.env).names.lookup x=some .free:=hx;obtain⟨k',e,hk'⟩:∃ k',(relabel scope X.env).names.lookup x=some k'/\(k'=.cell\/k'=.free):=by
    rcases hx' with e | e
    ·exact⟨_,e,.inl rfl⟩
    ·exact⟨_,e,.inr rfl⟩
   have hmem:=ace e;obtain⟨⟨n,kn⟩,hp,he⟩:=abo.mp hmem;dsimp only at he
   split at he
   ·rename_i hc
    cases he;have:kn=.free:=by
     simp only [Bool.and_eq_true,beq_iff_eq] at hc;exact hc.1.1
    exact⟨kn,hp,this⟩
   ·cases he;rcases hk' with e' | e'
    ·subst e';have:=hcell _ hp;simp at this
    ·exact⟨_,hp,e'⟩
  obtain⟨k',hp,rfl⟩:=hm;have:=hfree _ hp;simp only [bne_self_eq_false,Bool.false_or] at this;exact Option.isSome_iff_exists.mp this
 ·rcases (hf b hb).2.2.2.1 with z | z
  ·exact I.ok.noex b o e z
  ·have:=aam e;exact absurd (aas this (acj I.ok.bsz z)) (ach _)
 ·obtain⟨_,f1,f2,_⟩:=hf b hb;rcases aay.mp (I.stkSub b hz) with e | e
  ·exact f1 e
  ·exact f2 e
 ·
  unfold oI at e2;rw[aag] at e2;cases ef:fr[i]? with
  | none=>rw[ef] at e2;cases e2
  | some o=>
   rw[ef] at e2;cases o with
   | none=>simp at e2
   | some j=>
    have e2':(σ[j]?).join=some v:=by simpa using e2
    obtain⟨x',h1',h2',h3',h4'⟩:=S.fr.get i j ef;rw[Nat.zero_add] at h1';have ex:x'=x:=by
     have:N'[i]? = some x:=e1;rw[h1'] at this;exact abx this
    subst ex;have e2'':σ[j]? = some (some v):=by
     cases q:σ[j]? with
     | none=>rw[q] at e2';cases e2'
     | some z=>rw[q] at e2';simp at e2';rw[e2']
    obtain⟨m,hm,hl⟩:=I.loc;obtain⟨u,r,lk⟩:=hl j x' v h2' e2'' (.inr (.inl h4'));refine⟨u,r,?_⟩;rcases lk with ⟨q,_⟩ | ⟨_,c,hc,z⟩
    ·rw[h4'] at q;cases q
    ·have hcl:∃ c',cl.lookup x'=some c':=by
      have:=hfree _ (ace h3');simp only [bne_self_eq_false,Bool.false_or] at this;exact Option.isSome_iff_exists.mp this
     obtain⟨c',hc'⟩:=hcl;have e':=clg x' c' hc';rw[hc] at e';cases e';obtain⟨oc,hoc,hd⟩:=z;refine .inr ⟨.inl ?_,c,hc',oc,k c oc hoc,hd⟩;exact dF I.ok.kind h3' h4'
 ·obtain⟨v,oc,hoc,hd⟩:=I.cell x c (clg x c e);exact⟨v,oc,k c oc hoc,hd⟩
 ·show (oI fr σ).length=N'.length;unfold oI;rw[aad,S.len]
theorem Inv.outC {scope:Scope}{cl:List (Str×Addr)}{N':List Str}{pins pins':List (Addr×Obj)}{σ Z:St}{H H':Hp}{s s':Shared}{fp:List Addr} (I:Inv X pins σ H s) (J:Inv (iT X N' scope cl fp s H) pins' Z H' s')
  (hf:∀ b∈fp,eP X pins H b):Inv X pins σ H' s':=
 I.call' (ch:=fp) J.os J.base J.hok J.bare λ b hb=>by
  obtain⟨_,f1,_,f3,f4,f5⟩:=hf b hb;exact⟨f3,f1,f4,f5⟩
theorem Inv.letgo {pins:List (Addr×Obj)}{σ:St}{H:Hp}{s:Shared}{C:Addr}{h':Heap} (I:Inv X pins σ H s) (f:eP X pins H C) (hsb:Heap.SameBut C s.heap h'):Inv X pins σ H { s with heap:=h' }:=by
 obtain⟨f0,f1,f2,f3,f4,f5⟩:=f;exact I.turned (t':=s.toks) (it:=C) (h':=h') (λ b o hb e=>(hsb.2 b hb).trans e) f0 f1 f3 f4 f5
theorem rS {elt tg iter:Expr}{ifs:List Expr}{scope:Scope}{pos:Pos}{N':List Str}{fr:List (Option Nat)}{cl:List (Str×Addr)}{g:TG}{tc:TT}{te:TE}
  {pins:List (Addr×Obj)}{σ:St}{H:Hp}{s:Shared}{J:It}{fp:List Addr}{it:Addr}{tn:Nat->Heap->Prop}{Q:Addr->Hp->Prop}{RR:Value->Addr->Result->Shared->Prop}{E:Value->Shared->Prop}
  (hx:∀ e s,¬ X.xe e s) (hc:X.calm=true) (S:LcOk X scope cl N' fr)
  (hg:∀ fp s H,PG (iT X N' scope cl fp s H) tg g) (ht:∀ fp s H,AM (iT X N' scope cl fp s H) ifs tc) (he:∀ fp s H,PE (iT X N' scope cl fp s H) elt te)
  (I:Inv X pins σ H s) (T:Turn X.prog X.w X.K tg J fp it tn) (st:tn 0 s.heap) (hf:∀ b∈fp,eP X pins H b) (h:gK J g tc te fr σ H Q)
  (hRR:∀ D C H' s' m',Inv X pins σ H' s'->Q D H'->s'.heap.Ns C m'->eP X pins H' C->RR (.ref D) C (.ok .next) s') :
  wpAny (model X.prog X.w) X.A (newList []) (λ acc bn=>wpAny (model X.prog X.w) X.A (newFunctionEnv scope X.env.globals cl [] X.env.qual none .none (some X.env)) (λ cenv bz=>
   codeAny (model X.prog X.w) X.A (.compStart (.ListComp elt [⟨tg,iter,ifs,0⟩] scope pos) 0 (.ref it) acc { cenv with scope:=relabel scope X.env }) (RR acc cenv.locals) bz) E bn) E s:=by
 have hcell:=S.nocell;rw[aca] at hcell;refine wpAny_newObj_type (wpAny_newFunctionEnv (λ x hx'=>by simpa using hcell x hx') (by intro y hy;simp at hy) (λ ak bp cb=>?_) S.kind);dsimp only at bp cb ⊢;have fresh:H s.heap.objs.size=none:=I.hok.fresh (aaj _);have I3:Inv X pins σ (upd H s.heap.objs.size (.lst [])) { s with heap:=s.heap.push { cls:=.type "list",data:=.seq ([]:List Value).toArray },toks:=s.toks }:=I.lnew (ys:=[]) (its:=[]) .nil (abn _);have hf3:∀ b∈fp,eP X pins (upd H s.heap.objs.size (.lst [])) b:=λ b hb=>by
  obtain⟨o,ho,_⟩:=T.obj _ _ st b hb;exact⟨by rw[aH (abb (aam ho))];exact (hf b hb).1,(hf b hb).2⟩
 generalize hs3:({ s with heap:=s.heap.push { cls:=.type "list",data:=.seq ([]:List Value).toArray },toks:=s.toks }:Shared)=s3 at I3;have e3:s3.heap=s.heap.push { cls:=.type "list",dict:=none,data:=.seq ([]:List Value).toArray }:=by rw[<- hs3]
 have e3s:({ s with heap:=s.heap.push { cls:=.type "list",dict:=none,data:=.seq ([]:List Value).toArray } }:Shared)=s3:=hs3;have hsz3:s3.heap.objs.size=s.heap.objs.size+1:=by rw[e3,abh]
 have hfo:∀ b∈fp,b < s3.heap.objs.size:=λ b hb=>by
  obtain⟨o,ho,_⟩:=T.obj _ _ st b hb;rw[hsz3];exact Nat.lt_succ_of_lt (aam ho)
 rw[<- e3] at bp cb ⊢;have old3:∀ b o,s3.heap.get? b=some o->ak.get? b=some o:=λ b o e=>cb.extBut b o (abb (aam e)) (aac _ e);have old:∀ b o,s.heap.get? b=some o->s3.heap.get? b=some o:=λ b o e=>by rw[e3];exact aac _ e
 have I4:=S.invC (tk:=s3.toks) I3 hf3 hfo old3 bp;obtain⟨W,⟨m0,w0⟩,turn⟩:=h s.heap.objs.size fresh;have stat:∀ {H':Hp},(∀ b∈fp,H' b=none)->∀ b∈fp,eP (iT X N' scope cl fp s3 (upd H s.heap.objs.size (.lst []))) [] H' b:=λ hn b hb=>by
  refine⟨hn b hb,abb (hfo b hb),?_,.inl hb,λ x c e=>(hf b hb).2.2.2.2.1 x c (S.cls.get x c e),λ p hp=>absurd (show p∈([]:List (Addr×Obj)) from hp) (by simp)⟩;intro hz;obtain⟨_,f1,f2,_⟩:=hf b hb;rcases aay.mp (I.stkSub b hz) with e | e
  ·exact f1 e
  ·exact f2 e
 have loop:∀ s4:Shared,s4={ s3 with heap:=ak,toks:=s3.toks }->
   codeAny (model X.prog X.w) X.A (.compLoop (.ListComp elt [⟨tg,iter,ifs,0⟩] scope pos) 0 (.ref it) (.ref s.heap.objs.size) (compEnvC scope cl s3.heap.objs.size X.env)) (RR (.ref s.heap.objs.size) s3.heap.objs.size) s4:=by
  intro s4 hs4;refine kL (λ n s'=>∃ i ys Z H',Inv (iT X N' scope cl fp s3 (upd H s.heap.objs.size (.lst []))) [] Z H' s'/\tn i s'.heap/\(∀ b∈fp,H' b=none)/\W i n ys Z H') ?_ m0
   ⟨0,[],oI fr σ,_,by rw[hs4];exact I4,by rw[hs4];exact T.keep _ _ _ st λ b _ o e=>old3 b o (old b o e),λ b hb=>(hf3 b hb).1,w0⟩
  rintro n s5 ⟨i,ys,ce,H5,I5,st5,fr5,w5⟩;rcases turn i n ys ce H5 w5 with ⟨stop,qn⟩ | ⟨go,N,hN,step⟩
  ·refine cI (T.done (iT X N' scope cl fp s3 (upd H s.heap.objs.size (.lst []))) rfl rfl rfl hc i [] s5 ce H5 _ I5 (stat fr5) st5 stop) λ r s6 ⟨hr,I6⟩=>?_;subst hr;obtain⟨m',hm',_⟩:=I6.loc;exact hRR _ _ H5 s6 m' (I3.outC I6 hf3) qn hm' (I3.fpOk (aaj _) I6.free)
  ·refine cI (T.item (iT X N' scope cl fp s3 (upd H s.heap.objs.size (.lst []))) rfl rfl rfl hc i [] s5 ce H5 _ I5 (stat fr5) st5 go) λ r s6 ⟨u,hr,h6⟩=>?_;subst hr;refine cI h6 λ _ s7 ⟨x,H7,I7,r7,y7,st7,fr7⟩=>?_;have I7':=I7.pinned (stat fr7) (T.obj _ _ st7);refine abg (hg fp s3 _ _ s7 ce H7 x u _ I7' r7 (step x H7 y7)) (λ _ s8 ⟨bj,H8,I8,q8⟩=>?_) λ e s' z=>(hx e s' z).elim;refine abg (ht fp s3 _ _ s8 bj H8 _ I8 q8) (λ ok s9 ⟨H9,I9,q9⟩=>?_) λ e s' z=>(hx e s' z).elim;have again:∀ {s10:Shared}{H10:Hp}{ys':List V},Inv (iT X N' scope cl fp s3 (upd H s.heap.objs.size (.lst []))) ([]++jE fp s7.heap) bj H10 s10->N ys' bj H10->
     ∃ m,m < n/\∃ i ys Z H',Inv (iT X N' scope cl fp s3 (upd H s.heap.objs.size (.lst []))) [] Z H' s10/\tn i s10.heap/\(∀ b∈fp,H' b=none)/\W i m ys Z H':=λ {s10 H10 ys'} I10 n10=>by
    obtain⟨m',hm,w10⟩:=hN ys' bj H10 n10;refine⟨m',hm,i+1,ys',bj,H10,I10.unpinned,T.keep _ _ _ st7 λ b hb o e=>(I10.pin (b,o) (aat _ (aat _ (d9 hb e)))).1,λ b hb=>?_,w10⟩;obtain⟨o,e,d⟩:=T.obj _ _ st7 b hb;exact (I10.pin (b,o) (aat _ (aat _ (d9 hb e)))).2.1
   cases ok with
   | false=>
    rw[if_neg aai] at q9 ⊢;exact again I9 q9
   | true=>
    rw[if_pos rfl] at q9 ⊢;refine abg (he fp s3 _ _ s9 bj H9 _ I9 q9) (λ y s10 ⟨yv,H10,I10,r10,hD,hlen,q10⟩=>?_) λ e s' z=>(hx e s' z).elim;refine abg (bU (X:=iT X N' scope cl fp s3 (upd H s.heap.objs.size (.lst []))) _ s10 bj H10 (.ref s.heap.objs.size) [yv] (.ref s.heap.objs.size) [y] (λ _ H11=>H11=upd H10 s.heap.objs.size (.lst (ys++[yv]))) I10 rfl (.cons r10 .nil)
     ⟨_,ys,yv,rfl,rfl,hD,hlen,rfl⟩) (λ _ s11 ⟨_,H11,I11,_,e11⟩=>?_) λ e s' z=>(hx e s' z).elim
    subst e11;exact again I11 q10
 exact codeAny_compStart_list (loop _ (by rw[<- e3s];rfl)) (T.self X.A 0 _ _ _ (T.keep _ _ _ st λ b _ o e=>old3 b o (old b o e)) (loop _ (by rw[<- e3s];rfl)))
theorem eW {elt tg iter:Expr}{ifs:List Expr}{scope:Scope}{pos:Pos}{N':List Str}{fr:List (Option Nat)}{cl:List (Str×Addr)}{wi:TI}{g:TG}{tc:TT}{te:TE}
  (hx:∀ e s,¬ X.xe e s) (hc:X.calm=true) (S:LcOk X scope cl N' fr) (hi:PI X tg iter wi)
  (hg:∀ fp s H,PG (iT X N' scope cl fp s H) tg g) (ht:∀ fp s H,AM (iT X N' scope cl fp s H) ifs tc) (he:∀ fp s H,PE (iT X N' scope cl fp s H) elt te)
  (hs:∀ x,foldedSetIterable iter X.env x=pure x:=by intro _;with_unfolding_all rfl):PE X (.ListComp elt [⟨tg,iter,ifs,0⟩] scope pos) (tLC wi fr g tc te):=by
 intro pins s σ H Q I h;have hloc:=S.locs;rw[aca] at hloc;rw[eval_ListComp];refine wpAny_comprehension_free (use:=none) rfl hs S.clos S.kind (λ x hx' hl=>by have:=hloc x hx';rw[hl] at this;simpa using this) (cI (hi pins s σ H _ I h) λ v s1 h1=>cI h1 λ itv s2 h2=>?_);obtain⟨it,fp,tn,J,H2,e,I2,T,st2,f2,rest⟩:=h2;subst e;refine rS (RR:=λ acc C=>compPost (model X.prog X.w) X.A X.xe none (EP X pins σ Q) acc C) hx hc S hg ht he I2 T st2 f2 rest ?_;intro D C H' s' m' I' q hn f;exact⟨m',hn,λ h' hsb=>⟨.ref D,H',I'.letgo f hsb,rfl,q⟩⟩
theorem fX {i:Nat}{y:Str}{py:Pos}{spos:Pos}{elt tg iter:Expr}{ifs:List Expr}{scope:Scope}{pos:Pos}{N':List Str}{fr:List (Option Nat)}{cl:List (Str×Addr)}{wi:TI}{g:TG}{tc:TT}{te:TE}
  (hN:X.N.Nodup) (hy:X.N[i]? = some y) (hk:X.env.scope.names.lookup y=some .local)
  (hx:∀ e s,¬ X.xe e s) (hc:X.calm=true) (S:LcOk X scope cl N' fr) (hi:PI X tg iter wi)
  (hg:∀ fp s H,PG (iT X N' scope cl fp s H) tg g) (ht:∀ fp s H,AM (iT X N' scope cl fp s H) ifs tc) (he:∀ fp s H,PE (iT X N' scope cl fp s H) elt te)
  (hsw:swapsWith (.ListComp elt [⟨tg,iter,ifs,0⟩] scope pos) (some (.Name y py)) spos.line X.env=pure true:=by with_unfolding_all rfl)
  (hs:∀ x,foldedSetIterable iter X.env x=pure x:=by intro _;with_unfolding_all rfl):PS X (.Assign [.Name y py] (.ListComp elt [⟨tg,iter,ifs,0⟩] scope pos) spos) (h7 (tLC wi fr g tc te) (cX i)):=by
 intro pins s σ H D I h;have hloc:=S.locs;rw[aca] at hloc;rw[exec_Assign_Name_used _ _ _ _ hsw];refine aaa (wpAny_standAt (aaa ?_));show wpAny _ X.A (do let _ <- comprehension (.ListComp elt [⟨tg,iter,ifs,0⟩] scope pos) scope X.env _ (newList []) false (eval iter X.env) (some (assign (.Name y py) X.env))) _ _ s;refine aaa (abg (wpAny_comprehension_free (use:=some (assign (.Name y py) X.env)) (Q:=λ _ s'=>SP X pins D .next s') rfl hs S.clos S.kind (λ x hx' hl=>by have:=hloc x hx';rw[hl] at this;simpa using this)
  (cI (hi pins s σ H _ I h) λ v s1 h1=>cI h1 λ itv s2 h2=>?_)) (λ _ s' hq=>aae (aae hq)) λ _ _ e=>e)
 obtain⟨it,fp,tn,J,H2,e,I2,T,st2,f2,rest⟩:=h2;subst e;refine rS (RR:=λ acc C=>compPost (model X.prog X.w) X.A X.xe (some (assign (.Name y py) X.env)) (λ _ s'=>SP X pins D .next s') acc C) hx hc S hg ht he I2 T st2 f2 rest ?_;intro Da C H' s' m' I' q hn f;show wpAny _ X.A (assign (.Name y py) X.env (.ref Da)) _ _ _;refine wpAny_assign_Name (kT I' hN hy (.inl hk) (v:=.ref Da) rfl (λ s'' I'' hch=>?_) (.inr hk));obtain⟨a,hsb,ha⟩:=hch;have haC:a≠C:=by
  rcases ha with e | e
  ·rw[e];exact Ne.symm f.2.1
  ·exact f.2.2.2.2.1 _ _ e
 exact⟨m',hn.sameBut hsb (Ne.symm haC),λ h' hs'=>⟨_,H',I''.letgo f hs',q⟩⟩
end
end L2
namespace TwZ
open PySem
open Sem (wp)
def cQ (h:Heap) (t:Bool) (it a:Addr) (i:Nat):Prop:=if t=true then h.IsTupleIter it a i else h.IsListIter it a i
def bI (h:Heap) (t:Bool) (a:Addr) (items:Array Value):Prop:=if t=true then h.IsTuple a items else h.IsList a items
theorem cQ.at {h h':Heap}{t:Bool}{it a:Addr}{i:Nat} (x:cQ h t it a i) (k:∀ o,h.get? it=some o->h'.get? it=some o):cQ h' t it a i:=by
 cases t <;> (obtain⟨o,ho,r⟩:=x;exact⟨o,k o ho,r⟩)
theorem ex {h h':Heap}{b c:Addr}{o:Obj} (hs:Heap.SameBut b h h') (hc:@Ne Nat c b) (e:h.get? c=some o):h'.get? c=some o:=hs.extBut _ _ hc e
theorem cQ.ext {h h':Heap}{t:Bool}{it a b:Addr}{i:Nat} (x:cQ h t it a i) (hs:Heap.SameBut b h h') (hab:@Ne Nat it b):cQ h' t it a i:=x.at λ o e=>hs.extBut _ _ hab e
theorem bI.at {h h':Heap}{t:Bool}{a:Addr}{xs:Array Value} (x:bI h t a xs) (k:∀ o,h.get? a=some o->h'.get? a=some o):bI h' t a xs:=by
 cases t <;> (obtain⟨o,ho,r⟩:=x;exact⟨o,k o ho,r⟩)
theorem bI.ext {h h':Heap}{t:Bool}{a b:Addr}{xs:Array Value} (x:bI h t a xs) (hs:Heap.SameBut b h h') (hab:@Ne Nat a b):bI h' t a xs:=x.at λ o e=>hs.extBut _ _ hab e
theorem bI.lt {h:Heap}{t:Bool}{a:Addr}{xs:Array Value} (x:bI h t a xs):a < h.objs.size:=by
 cases t <;> (obtain⟨o,ho,r⟩:=x;exact aam ho)
theorem cQ.obj {h:Heap}{t:Bool}{it a:Addr}{i:Nat} (x:cQ h t it a i):∃ o,h.get? it=some o/\∀ v,o.data≠.cell v:=by
 cases t <;> (obtain⟨o,ho,_,d⟩:=x;exact⟨o,ho,λ v z=>by rw[d] at z;cases z⟩)
section
variable {prog:Program}{M:Model}{A:Around}{E:Value->Shared->Prop}{s:Shared}
theorem lH {a:Addr}{Q:Option Obj->Shared->Prop} (h:Q (s.heap.get? a) s):wpAny M A (loadIfAlive a) Q E s:=λ Γ p _=>by
 unfold loadIfAlive;rw[Sem.wp_loadIfAlive];exact h
theorem kF {it l:Addr}{i:Nat}{items}{x:Value}{Q:Value->Shared->Prop} (hit:s.heap.IsTupleIter it l i)
  (hl:s.heap.IsTuple l items) (hx:items[i]? = some x)
  (hQ:∀ h',h'.IsTupleIter it l (i+1)->Heap.SameBut it s.heap h'->Q x { s with heap:=h' }) :
  wpAny (model prog w) A (Builtin.SmallTypes.nextOf (.ref it)) Q E s:=by
 obtain⟨o,ho,hc,hd⟩:=id hit;obtain⟨ol,hol,_,nl,hdl⟩:=hl;unfold Builtin.SmallTypes.nextOf;refine aaa (wpAny_callSpecial?_slot (name:=Str.ofString "__next__") hit.typeIs F.slot_tuple_iterator_next
  (wpAny_call_entry F.slot_tuple_iterator_next hit.typeIs F.entry_tuple_iterator_next ?_ (F.args_tuple_iterator_next_1 _)))
 show wpAny _ _ (field (.ref it) 0 >>= _) _ _ s;refine aaa (abj ho hd (x:=.ref l) rfl ?_);show wpAny _ _ (if (Value.ref l == Value.none)=true then _ else _) _ _ s;rw[if_neg (show ¬ ((Value.ref l == Value.none)=true) from aai)];show wpAny _ _ (field (.ref it) 1 >>= _) _ _ s;refine aaa (abj ho hd (x:=.int i 0) rfl ?_);show wpAny _ _ (seqItems? (.ref l) >>= _) _ _ s;refine aaa (wpAny_seqItems hol hdl ?_);simp only [Int.toNat_natCast,hx];refine aaa (wpAny_setField ho hd (by simp) (aae ⟨x,rfl,aae (hQ _ ?_ (Heap.SameBut.update ..))⟩));exact⟨_,acq _ ho (Obj.isFreed_of_fields (Obj.data_mapFields hd _)),(Obj.cls_mapFields ..).trans hc,by
  rw[Obj.data_mapFields hd];simp [rawInt]⟩
theorem lB {it l:Addr}{i:Nat}{items}{Q:Value->Shared->Prop} (hh:A.handled=none)
  (hit:s.heap.IsTupleIter it l i) (hl:s.heap.IsTuple l items) (hx:items[i]? = none)
  (hE:∀ h' e,Heap.ExtBut it s.heap h'->(∃ o,h'.get? e=some o/\o.cls=.type "StopIteration")->E (.ref e) { s with heap:=h' }) :
  wpAny (model prog w) A (Builtin.SmallTypes.nextOf (.ref it)) Q E s:=by
 obtain⟨o,ho,hc,hd⟩:=id hit;obtain⟨ol,hol,_,nl,hdl⟩:=hl;unfold Builtin.SmallTypes.nextOf;refine aaa (wpAny_callSpecial?_slot (name:=Str.ofString "__next__") hit.typeIs F.slot_tuple_iterator_next
  (wpAny_call_entry F.slot_tuple_iterator_next hit.typeIs F.entry_tuple_iterator_next ?_ (F.args_tuple_iterator_next_1 _)))
 show wpAny _ _ (field (.ref it) 0 >>= _) _ _ s;refine aaa (abj ho hd (x:=.ref l) rfl ?_);show wpAny _ _ (if (Value.ref l == Value.none)=true then _ else _) _ _ s;rw[if_neg (show ¬ ((Value.ref l == Value.none)=true) from aai)];show wpAny _ _ (field (.ref it) 1 >>= _) _ _ s;refine aaa (abj ho hd (x:=.int i 0) rfl ?_);show wpAny _ _ (seqItems? (.ref l) >>= _) _ _ s;refine aaa (wpAny_seqItems hol hdl ?_);simp only [Int.toNat_natCast,hx];refine aaa (acu (aaa (wpAny_setField ho hd (by simp) ?_)));show wpAny _ _ (newExc (.type "StopIteration") [] >>= _) _ _ _;refine aaa ?_;simp only [newExc,newTuple];refine aaa (wpAny_newObj_type ?_ (by size_fits));refine aaa (m:=firstArgMember _ _) (wpAny_of_eq (a:=Value.none) (by first | rfl | (simp only [firstArgMember];rfl)) ?_);refine wpAny_newObj_type ?_ (by size_fits);simp only [raiseNew];refine aaa (wpAny_handled ?_)
 first | rw[show A.in1.handled=none from hh] | rw[hh]
 refine aaa (aae (wpAny_throw ?_));exact hE _ _ (((Heap.SameBut.update ..).extBut.push _).push _) ⟨_,aak _ rfl,rfl⟩
theorem aY {t:Bool}{it l:Addr}{i:Nat}{items}{x:Value}{Q:Value->Shared->Prop} (hit:cQ s.heap t it l i)
  (hl:bI s.heap t l items) (hx:items[i]? = some x)
  (hQ:∀ h',cQ h' t it l (i+1)->Heap.SameBut it s.heap h'->Q x { s with heap:=h' }) :
  wpAny (model prog w) A (Builtin.SmallTypes.nextOf (.ref it)) Q E s:=by
 cases t with
 | true=>exact kF hit hl hx hQ
 | false=>exact wpAny_nextOf_list_item hit hl hx hQ
theorem cF {t:Bool}{it l:Addr}{i:Nat}{items}{Q:Value->Shared->Prop} (hh:A.handled=none)
  (hit:cQ s.heap t it l i) (hl:bI s.heap t l items) (hx:items[i]? = none)
  (hE:∀ h' e,Heap.ExtBut it s.heap h'->(∃ o,h'.get? e=some o/\o.cls=.type "StopIteration")->E (.ref e) { s with heap:=h' }) :
  wpAny (model prog w) A (Builtin.SmallTypes.nextOf (.ref it)) Q E s:=by
 cases t with
 | true=>exact lB hh hit hl hx hE
 | false=>exact wpAny_nextOf_list_end hh hit hl hx hE
abbrev jM (h:Heap) (z TI TO:Addr) (f0:Value) (f1:Bool):Prop:=
 h.get? z=some { cls:=.type "zip",dict:=none,data:=.fields #[f0,.bool f1,.bool false,.ref TI,.ref TO],slots:=#[] }
abbrev cL (h:Heap) (T:Addr) (vs:Array Value):Prop:=h.get? T=some { cls:=.type "tuple",data:=.seq vs }
def eK (f0:Value):Prop:=f0=.none\/∃ a:Int,f0=.int a 0
theorem gH {z TI TO:Addr}{f0:Value}{f1:Bool}{Q:Bool->Shared->Prop} (hz:jM s.heap z TI TO f0 f1) (hf:eK f0) (yes:Q true s)
  (no:∀ h',jM h' z TI TO f0 true->Heap.SameBut z s.heap h'->Q false { s with heap:=h' }):wpAny (model prog w) A (Builtin.SmallTypes.ownedTupleIsFree (.ref z)) Q E s:=by
 unfold Builtin.SmallTypes.ownedTupleIsFree;refine aaa (abj hz rfl (x:=f0) rfl ?_);rcases hf with rfl | ⟨a,rfl⟩
 ·exact aae yes
 ·refine aaa (lH ?_);cases h:s.heap.get? a.toNat with
  | none=>exact aae yes
  | some o=>
   show wpAny _ _ (field (.ref z) 1 >>= _) _ _ _;refine aaa (abj hz rfl (x:=.bool f1) rfl ?_);cases f1 with
   | true=>exact aae (no s.heap hz (Heap.SameBut.refl ..))
   | false=>
    show wpAny _ _ (setField (.ref z) 1 (.bool true) >>= _) _ _ _;refine aaa (wpAny_setField_rec hz (by simp) λ ak aj ac=>aae (no ak aj ac))
theorem vG {z TI TO:Addr}{f0:Value}{f1:Bool}{T:Addr}{Q:Unit->Shared->Prop} (hz:jM s.heap z TI TO f0 f1)
  (h:∀ h',jM h' z TI TO (rawInt T) false->Heap.SameBut z s.heap h'->Q () { s with heap:=h' }):wpAny (model prog w) A (Builtin.SmallTypes.ownedTupleHandOut (.ref z) (.ref T)) Q E s:=by
 unfold Builtin.SmallTypes.ownedTupleHandOut;refine aaa (wpAny_setField_rec hz (by simp) λ ak aj ac=>?_);replace aj:jM ak z TI TO (rawInt T) f1:=aj;refine wpAny_setField_rec aj (by simp) λ ao cj ad=>?_;exact h ao cj (Heap.SameBut.trans ac ad)
theorem fE {T:Addr}{vs:Array Value}{x:Value}{k:Nat}{Q:Unit->Shared->Prop} (hT:cL s.heap T vs) (h3:vs.size<=3)
  (h:∀ h',cL h' T (vs.setIfInBounds k x)->Heap.SameBut T s.heap h'->Q () { s with heap:=h' }):wpAny (model prog w) A (updateSeq T (·.setIfInBounds k x)) Q E s:=by
 have hl:vs.size<=sizeLine:=acj h3 (by decide);refine wpAny_updateSeq (hz:=hl) (_hz':=by rw[Array.size_setIfInBounds];omega) hT rfl (h _ ?_ (Heap.SameBut.update ..));show Heap.get? _ _=_;rw[acq _ hT rfl];simp [Obj.mapSeq]
theorem nn {n i j:Nat} (h:i≠j):n+i≠n+j:=λ e=>h (Nat.add_left_cancel e)
theorem n0 {n j:Nat} (h:0 < j):n≠n+j:=λ e=>absurd e (abb (Nat.lt_add_of_pos_right h))
theorem n0' {n j:Nat} (h:0 < j):n+j≠n:=Ne.symm (n0 h)
theorem al {a n:Nat} (h:a < n) (j:Nat):a≠n+j:=abb (aas h (Nat.le_add_right n j))
theorem al0 {a n:Nat} (h:a < n):a≠n:=abb h
theorem co {c n m k:Nat} (h:c < n\/n+m < c) (hk:k<=m):c≠n+k:=λ e=>h.elim (λ h=>absurd e (al h k)) λ h=>absurd (Nat.lt_of_le_of_lt (Nat.add_le_add_left hk n) h) (by rw[e];exact ach _)
theorem co0 {c n m:Nat} (h:c < n\/n+m < c):c≠n:=co (k:=0) h (abn m)
theorem aQ {a b:Nat} (h:@Ne Nat a b:=by first | exact nn (by decide) | exact n0 (by decide) | exact n0' (by decide) | exact al l1 _ | exact al l2 _ | exact al l3 _ | exact al0 l1 | exact al0 l2 | exact al0 l3 | exact co hc (by decide) | exact co0 hc | omega):@Ne Nat a b:=h
theorem vX {n a1 a2 a3:Nat}{t1 t2 t3:Bool}{k:Nat}{xs ys zs:Array Value}{x y z c1 c2 c3 f0:Value}{f1:Bool}{Q:Value->Shared->Prop} (hf:eK f0)
  (hz:jM s.heap (n+5) (n+3) (n+4) f0 f1) (hTI:cL s.heap (n+3) #[.ref n,.ref (n+1),.ref (n+2)]) (hTO:cL s.heap (n+4) #[c1,c2,c3])
  (i1:cQ s.heap t1 n a1 k) (i2:cQ s.heap t2 (n+1) a2 k) (i3:cQ s.heap t3 (n+2) a3 k) (s1:bI s.heap t1 a1 xs) (s2:bI s.heap t2 a2 ys) (s3:bI s.heap t3 a3 zs)
  (l1:a1 < n) (l2:a2 < n) (l3:a3 < n) (hx:xs[k]? = some x) (hy:ys[k]? = some y) (hw:zs[k]? = some z)
  (hQ:∀ (T:Nat) h' f0' f1' d1 d2 d3,s.heap.objs.size<=T->eK f0'->jM h' (n+5) (n+3) (n+4) f0' f1'->cL h' (n+3) #[.ref n,.ref (n+1),.ref (n+2)]->cL h' (n+4) #[d1,d2,d3]->
   cQ h' t1 n a1 (k+1)->cQ h' t2 (n+1) a2 (k+1)->cQ h' t3 (n+2) a3 (k+1)->cL h' T #[x,y,z]->
   (∀ (c:Nat) o,(c < n\/n+5 < c)->s.heap.get? c=some o->h'.get? c=some o)->Q (.ref T) { s with heap:=h' }) :
  wpAny (model prog w) A (Builtin.«zip.__next__» ⟨[.ref (n+5)],[]⟩) (λ fin s'=>∃ v,fin=.done (.ret v)/\Q v s') E s:=by
 have hzlt:n+5 < s.heap.objs.size:=aam hz;show wpAny _ _ (field (.ref (n+5)) 2 >>= _) _ _ _;refine aaa (abj hz rfl (x:=.bool false) rfl ?_);show wpAny _ _ (field (.ref (n+5)) 3 >>= _) _ _ _;refine aaa (abj hz rfl (x:=.ref (n+3)) rfl ?_);refine aaa (wpAny_seqItems hTI rfl ?_);show wpAny _ _ (Builtin.SmallTypes.ownedTupleIsFree (.ref (n+5)) >>= _) _ _ _;refine aaa (gH hz hf ?_ ?_)
 ·simp only [if_true];refine aaa (acu ?_);refine aaa (abj hz rfl (x:=.ref (n+4)) rfl ?_);refine aaa (wpAny_setField_rec hz (by simp) λ ak aj ac=>?_);replace aj:jM ak (n+5) (n+3) (n+4) .ellipsis f1:=aj;refine aaa ?_;simp only [List.zipIdx_cons,List.zipIdx_nil,List.forIn_cons,List.forIn_nil];refine aaa (aaa (wpAny_onRaise ?_));show wpAny _ _ (Builtin.SmallTypes.nextOf (.ref n) >>= _) _ _ _;refine aaa (aY (i1.ext ac aQ) (s1.ext ac aQ) hx λ ao bq ad=>aae ?_);have bg:cL ao (n+4) #[c1,c2,c3]:=ex ad aQ (ex ac aQ hTO);refine aaa (wpAny_seqItems bg rfl ?_);refine aaa (fE bg (by simp) λ ai bc ae=>?_);replace bc:cL ai (n+4) #[x,c2,c3]:=bc;refine aaa (wpAny_letGo (aae ?_));refine aaa (aaa (wpAny_onRaise ?_));show wpAny _ _ (Builtin.SmallTypes.nextOf (.ref (n+1)) >>= _) _ _ _;refine aaa (aY (((i2.ext ac aQ).ext ad aQ).ext ae aQ) (((s2.ext ac aQ).ext ad aQ).ext ae aQ) hy λ aq cm af=>aae ?_);have bw:cL aq (n+4) #[x,c2,c3]:=ex af aQ bc;refine aaa (wpAny_seqItems bw rfl ?_);refine aaa (fE bw (by simp) λ bo cp ar=>?_);replace cp:cL bo (n+4) #[x,y,c3]:=cp;refine aaa (wpAny_letGo (aae ?_));refine aaa (aaa (wpAny_onRaise ?_));show wpAny _ _ (Builtin.SmallTypes.nextOf (.ref (n+2)) >>= _) _ _ _;refine aaa (aY (((((i3.ext ac aQ).ext ad aQ).ext ae aQ).ext af aQ).ext ar aQ)
   (((((s3.ext ac aQ).ext ad aQ).ext ae aQ).ext af aQ).ext ar aQ) hw λ cw i3₆ ba=>aae ?_)
  have dy:cL cw (n+4) #[x,y,c3]:=ex ba aQ cp;refine aaa (wpAny_seqItems dy rfl ?_);refine aaa (fE dy (by simp) λ au bu be=>?_);replace bu:cL au (n+4) #[x,y,z]:=bu;refine aaa (wpAny_letGo (aae (aae ?_)));refine aaa (wpAny_seqItems bu rfl ?_);refine aaa (wpAny_newTuple ?_);have hsz:au.objs.size=s.heap.objs.size:=by rw[be.1,ba.1,ar.1,af.1,ae.1,ad.1,ac.1]
  have keep:∀ (c:Nat) o,(c < n\/n+5 < c)->s.heap.get? c=some o->au.get? c=some o:=λ c o hc e=>
   ex be aQ (ex ba aQ (ex ar aQ (ex af aQ (ex ae aQ (ex ad aQ (ex ac aQ e))))))
  have db:jM au (n+5) (n+3) (n+4) .ellipsis f1:=ex be aQ (ex ba aQ (ex ar aQ (ex af aQ (ex ae aQ (ex ad aQ aj)))));have cx:cL au (n+3) #[.ref n,.ref (n+1),.ref (n+2)]:=ex be aQ (ex ba aQ (ex ar aQ (ex af aQ (ex ae aQ (ex ad aQ (ex ac aQ hTI))))));have de:=((((bq.ext ae aQ).ext af aQ).ext ar aQ).ext ba aQ).ext be aQ;have df:=((cm.ext ar aQ).ext ba aQ).ext be aQ;have i3₇:=i3₆.ext be aQ;have eu:n+5 < au.objs.size:=by rw[hsz];exact hzlt
  have up:∀ {c o},au.get? c=some o->(au.push { cls:=.type "tuple",data:=.seq #[x,y,z] }).get? c=some o:=λ e=>aac _ e;refine aaa (vG (z:=n+5) (TI:=n+3) (TO:=n+4) (f0:=.ellipsis) (f1:=f1) (up db) λ cy dh cq=>?_);have up8:∀ {c:Nat}{o},c≠n+5->au.get? c=some o->cy.get? c=some o:=λ hc e=>ex cq hc (up e);refine aae ⟨_,rfl,hQ au.objs.size cy (rawInt au.objs.size) false x y z (by rw[hsz];exact aaj _) (.inr ⟨_,rfl⟩) dh (up8 aQ cx) (up8 aQ bu) (de.at λ o e=>up8 aQ e) (df.at λ o e=>up8 aQ e) (i3₇.at λ o e=>up8 aQ e)
   (ex cq aQ (aak _ rfl)) λ c o hc e=>up8 aQ (keep c o hc e)⟩
 ·intro ak aj ac;simp only [Bool.false_eq_true,if_false];refine aaa ?_;rw[<- Array.forIn_toList];simp only [List.forIn_cons,List.forIn_nil];refine aaa (aaa (abr ?_));show wpAny _ _ (Builtin.SmallTypes.nextOf (.ref n) >>= _) _ _ _;refine aaa (aY (i1.ext ac aQ) (s1.ext ac aQ) hx λ ao bq ad=>aae (aae ?_));refine aaa (aaa (abr ?_));show wpAny _ _ (Builtin.SmallTypes.nextOf (.ref (n+1)) >>= _) _ _ _;refine aaa (aY ((i2.ext ac aQ).ext ad aQ) ((s2.ext ac aQ).ext ad aQ) hy λ ai ed ae=>aae (aae ?_));refine aaa (aaa (abr ?_));show wpAny _ _ (Builtin.SmallTypes.nextOf (.ref (n+2)) >>= _) _ _ _;refine aaa (aY (((i3.ext ac aQ).ext ad aQ).ext ae aQ) (((s3.ext ac aQ).ext ad aQ).ext ae aQ) hw λ aq i3₄ af=>aae (aae (aae ?_)));refine aaa (wpAny_newTuple (hsz:=by show 3<=sizeLine;decide) (aae ⟨_,rfl,?_⟩));have hsz:aq.objs.size=s.heap.objs.size:=by rw[af.1,ae.1,ad.1,ac.1]
  have up:∀ {c o},aq.get? c=some o->(aq.push { cls:=.type "tuple",data:=.seq #[x,y,z] }).get? c=some o:=λ e=>aac _ e;have keep:∀ (c:Nat) o,(c < n\/n+5 < c)->s.heap.get? c=some o->aq.get? c=some o:=λ c o hc e=>ex af aQ (ex ae aQ (ex ad aQ (ex ac aQ e)));refine hQ aq.objs.size (aq.push { cls:=.type "tuple",data:=.seq #[x,y,z] }) f0 true c1 c2 c3 (by rw[hsz];exact aaj _) hf (up (ex af aQ (ex ae aQ (ex ad aQ aj))))
   (up (ex af aQ (ex ae aQ (ex ad aQ (ex ac aQ hTI))))) (up (ex af aQ (ex ae aQ (ex ad aQ (ex ac aQ hTO)))))
   (((bq.ext ae aQ).ext af aQ).at λ o e=>up e) ((ed.ext af aQ).at λ o e=>up e) (i3₄.at λ o e=>up e) (aak _ rfl) λ c o hc e=>up (keep c o hc e)
theorem xO {n a1 a2 a3:Nat}{t1 t2 t3:Bool}{k:Nat}{xs ys zs:Array Value}{c1 c2 c3 f0:Value}{f1:Bool}{Q:Fin->Shared->Prop} (hh:A.handled=none) (hf:eK f0)
  (hz:jM s.heap (n+5) (n+3) (n+4) f0 f1) (hTI:cL s.heap (n+3) #[.ref n,.ref (n+1),.ref (n+2)]) (hTO:cL s.heap (n+4) #[c1,c2,c3])
  (i1:cQ s.heap t1 n a1 k) (i2:cQ s.heap t2 (n+1) a2 k) (i3:cQ s.heap t3 (n+2) a3 k) (s1:bI s.heap t1 a1 xs) (s2:bI s.heap t2 a2 ys) (s3:bI s.heap t3 a3 zs)
  (l1:a1 < n) (l2:a2 < n) (l3:a3 < n) (hend:xs[k]? = none\/ys[k]? = none\/zs[k]? = none)
  (hE:∀ h' e,(∀ (c:Nat) o,(c < n\/n+5 < c)->s.heap.get? c=some o->h'.get? c=some o)->(∃ o,h'.get? e=some o/\o.cls=.type "StopIteration")->E (.ref e) { s with heap:=h' }) :
  wpAny (model prog w) A (Builtin.«zip.__next__» ⟨[.ref (n+5)],[]⟩) Q E s:=by
 show wpAny _ _ (field (.ref (n+5)) 2 >>= _) _ _ _;refine aaa (abj hz rfl (x:=.bool false) rfl ?_);show wpAny _ _ (field (.ref (n+5)) 3 >>= _) _ _ _;refine aaa (abj hz rfl (x:=.ref (n+3)) rfl ?_);refine aaa (wpAny_seqItems hTI rfl ?_);show wpAny _ _ (Builtin.SmallTypes.ownedTupleIsFree (.ref (n+5)) >>= _) _ _ _;refine aaa (gH hz hf ?_ ?_)
 ·simp only [if_true];refine aaa (acu ?_);refine aaa (abj hz rfl (x:=.ref (n+4)) rfl ?_);refine aaa (wpAny_setField_rec hz (by simp) λ ak aj ac=>?_);replace aj:jM ak (n+5) (n+3) (n+4) .ellipsis f1:=aj;refine aaa ?_;simp only [List.zipIdx_cons,List.zipIdx_nil,List.forIn_cons,List.forIn_nil];have fin:∀ {ao ai:Heap}{e j:Nat}{oe:Obj},jM ao (n+5) (n+3) (n+4) .ellipsis f1->Heap.ExtBut j ao ai->@Ne Nat (n+5) j->(n<=j/\j<=n+5)->(∀ (c:Nat) o,(c < n\/n+5 < c)->s.heap.get? c=some o->ao.get? c=some o)->ai.get? e=some oe->oe.cls=.type "StopIteration" ->
    wpAny (model prog w) A (setField (.ref (n+5)) 0 .none) (λ _ s'=>E (.ref e) s') E { s with heap:=ai }:=λ {ao ai e j oe} cj hx hj hr hk hoe hce=>by
   have bv:jM ai (n+5) (n+3) (n+4) .ellipsis f1:=hx _ _ hj cj;have hez:e≠n+5:=λ q=>by subst q;rw[bv] at hoe;cases hoe;simp at hce
   refine wpAny_setField_rec bv (by simp) λ aq _ af=>hE aq e (λ c o hc q=>ex af aQ (hx c o (show @Ne Nat c j by omega) (hk c o hc q))) ⟨oe,af.extBut _ _ hez hoe,hce⟩
  refine aaa (aaa (wpAny_onRaise ?_));show wpAny _ _ (Builtin.SmallTypes.nextOf (.ref n) >>= _) _ _ _;cases hx:xs[k]? with
  | none=>
   refine aaa (cF hh (i1.ext ac aQ) (s1.ext ac aQ) hx λ ao e ad he=>?_);obtain⟨oe,hoe,hce⟩:=he;exact fin aj ad aQ (by omega) (λ c o hc q=>ex ac aQ q) hoe hce
  | some x=>
   refine aaa (aY (i1.ext ac aQ) (s1.ext ac aQ) hx λ ao bq ad=>aae ?_);have bg:cL ao (n+4) #[c1,c2,c3]:=ex ad aQ (ex ac aQ hTO);refine aaa (wpAny_seqItems bg rfl ?_);refine aaa (fE bg (by simp) λ ai bc ae=>?_);replace bc:cL ai (n+4) #[x,c2,c3]:=bc;refine aaa (wpAny_letGo (aae ?_));have bv:jM ai (n+5) (n+3) (n+4) .ellipsis f1:=ex ae aQ (ex ad aQ aj);have di:∀ (c:Nat) o,(c < n\/n+5 < c)->s.heap.get? c=some o->ai.get? c=some o:=λ c o hc e=>ex ae aQ (ex ad aQ (ex ac aQ e));refine aaa (aaa (wpAny_onRaise ?_));show wpAny _ _ (Builtin.SmallTypes.nextOf (.ref (n+1)) >>= _) _ _ _;cases hy:ys[k]? with
   | none=>
    refine aaa (cF hh (((i2.ext ac aQ).ext ad aQ).ext ae aQ) (((s2.ext ac aQ).ext ad aQ).ext ae aQ) hy λ aq e af he=>?_);obtain⟨oe,hoe,hce⟩:=he;exact fin bv af aQ (by omega) di hoe hce
   | some y=>
    have hw:zs[k]? = none:=by rcases hend with h | h | h;rw[hx] at h;cases h;rw[hy] at h;cases h;exact h
    refine aaa (aY (((i2.ext ac aQ).ext ad aQ).ext ae aQ) (((s2.ext ac aQ).ext ad aQ).ext ae aQ) hy λ aq cm af=>aae ?_);have bw:cL aq (n+4) #[x,c2,c3]:=ex af aQ bc;refine aaa (wpAny_seqItems bw rfl ?_);refine aaa (fE bw (by simp) λ bo cp ar=>?_);refine aaa (wpAny_letGo (aae ?_));refine aaa (aaa (wpAny_onRaise ?_));show wpAny _ _ (Builtin.SmallTypes.nextOf (.ref (n+2)) >>= _) _ _ _;refine aaa (cF hh (((((i3.ext ac aQ).ext ad aQ).ext ae aQ).ext af aQ).ext ar aQ)
     (((((s3.ext ac aQ).ext ad aQ).ext ae aQ).ext af aQ).ext ar aQ) hw λ cw e ba he=>?_)
    obtain⟨oe,hoe,hce⟩:=he;exact fin (ex ar aQ (ex af aQ bv)) ba aQ (by omega) (λ c o hc q=>ex ar aQ (ex af aQ (di c o hc q))) hoe hce
 ·intro ak aj ac;simp only [Bool.false_eq_true,if_false];refine aaa ?_;rw[<- Array.forIn_toList];simp only [List.forIn_cons,List.forIn_nil];refine aaa (aaa (abr ?_));show wpAny _ _ (Builtin.SmallTypes.nextOf (.ref n) >>= _) _ _ _;cases hx:xs[k]? with
  | none=>
   refine aaa (cF hh (i1.ext ac aQ) (s1.ext ac aQ) hx λ ao e ad he=>?_);exact hE ao e (λ c o hc q=>ad c o (show @Ne Nat c n by omega) (ex ac aQ q)) he
  | some x=>
   refine aaa (aY (i1.ext ac aQ) (s1.ext ac aQ) hx λ ao bq ad=>aae (aae ?_));refine aaa (aaa (abr ?_));show wpAny _ _ (Builtin.SmallTypes.nextOf (.ref (n+1)) >>= _) _ _ _;cases hy:ys[k]? with
   | none=>
    refine aaa (cF hh ((i2.ext ac aQ).ext ad aQ) ((s2.ext ac aQ).ext ad aQ) hy λ ai e ae he=>?_);exact hE ai e (λ c o hc q=>ae c o (show @Ne Nat c (n+1) by omega) (ex ad aQ (ex ac aQ q))) he
   | some y=>
    have hw:zs[k]? = none:=by rcases hend with h | h | h;rw[hx] at h;cases h;rw[hy] at h;cases h;exact h
    refine aaa (aY ((i2.ext ac aQ).ext ad aQ) ((s2.ext ac aQ).ext ad aQ) hy λ ai ed ae=>aae (aae ?_));refine aaa (aaa (abr ?_));show wpAny _ _ (Builtin.SmallTypes.nextOf (.ref (n+2)) >>= _) _ _ _;refine aaa (cF hh (((i3.ext ac aQ).ext ad aQ).ext ae aQ) (((s3.ext ac aQ).ext ad aQ).ext ae aQ) hw λ aq e af he=>?_);exact hE aq e (λ c o hc q=>af c o (show @Ne Nat c (n+2) by omega) (ex ae aQ (ex ad aQ (ex ac aQ q)))) he
theorem vY {n a1 a2:Nat}{t1 t2:Bool}{k:Nat}{xs ys:Array Value}{x y c1 c2 f0:Value}{f1:Bool}{Q:Value->Shared->Prop} (hf:eK f0)
  (hz:jM s.heap (n+4) (n+2) (n+3) f0 f1) (hTI:cL s.heap (n+2) #[.ref n,.ref (n+1)]) (hTO:cL s.heap (n+3) #[c1,c2])
  (i1:cQ s.heap t1 n a1 k) (i2:cQ s.heap t2 (n+1) a2 k) (s1:bI s.heap t1 a1 xs) (s2:bI s.heap t2 a2 ys)
  (l1:a1 < n) (l2:a2 < n) (hx:xs[k]? = some x) (hy:ys[k]? = some y)
  (hQ:∀ (T:Nat) h' f0' f1' d1 d2,s.heap.objs.size<=T->eK f0'->jM h' (n+4) (n+2) (n+3) f0' f1'->cL h' (n+2) #[.ref n,.ref (n+1)]->cL h' (n+3) #[d1,d2]->
   cQ h' t1 n a1 (k+1)->cQ h' t2 (n+1) a2 (k+1)->cL h' T #[x,y]->
   (∀ (c:Nat) o,(c < n\/n+4 < c)->s.heap.get? c=some o->h'.get? c=some o)->Q (.ref T) { s with heap:=h' }) :
  wpAny (model prog w) A (Builtin.«zip.__next__» ⟨[.ref (n+4)],[]⟩) (λ fin s'=>∃ v,fin=.done (.ret v)/\Q v s') E s:=by
 have hzlt:n+4 < s.heap.objs.size:=aam hz;show wpAny _ _ (field (.ref (n+4)) 2 >>= _) _ _ _;refine aaa (abj hz rfl (x:=.bool false) rfl ?_);show wpAny _ _ (field (.ref (n+4)) 3 >>= _) _ _ _;refine aaa (abj hz rfl (x:=.ref (n+2)) rfl ?_);refine aaa (wpAny_seqItems hTI rfl ?_);show wpAny _ _ (Builtin.SmallTypes.ownedTupleIsFree (.ref (n+4)) >>= _) _ _ _;refine aaa (gH hz hf ?_ ?_)
 ·simp only [if_true];refine aaa (acu ?_);refine aaa (abj hz rfl (x:=.ref (n+3)) rfl ?_);refine aaa (wpAny_setField_rec hz (by simp) λ ak aj ac=>?_);replace aj:jM ak (n+4) (n+2) (n+3) .ellipsis f1:=aj;refine aaa ?_;simp only [List.zipIdx_cons,List.zipIdx_nil,List.forIn_cons,List.forIn_nil];refine aaa (aaa (wpAny_onRaise ?_));show wpAny _ _ (Builtin.SmallTypes.nextOf (.ref n) >>= _) _ _ _;refine aaa (aY (i1.ext ac aQ) (s1.ext ac aQ) hx λ ao bq ad=>aae ?_);have bg:cL ao (n+3) #[c1,c2]:=ex ad aQ (ex ac aQ hTO);refine aaa (wpAny_seqItems bg rfl ?_);refine aaa (fE bg (by simp) λ ai bc ae=>?_);replace bc:cL ai (n+3) #[x,c2]:=bc;refine aaa (wpAny_letGo (aae ?_));refine aaa (aaa (wpAny_onRaise ?_));show wpAny _ _ (Builtin.SmallTypes.nextOf (.ref (n+1)) >>= _) _ _ _;refine aaa (aY (((i2.ext ac aQ).ext ad aQ).ext ae aQ) (((s2.ext ac aQ).ext ad aQ).ext ae aQ) hy λ aq cm af=>aae ?_);have bw:cL aq (n+3) #[x,c2]:=ex af aQ bc;refine aaa (wpAny_seqItems bw rfl ?_);refine aaa (fE bw (by simp) λ au bu be=>?_);replace bu:cL au (n+3) #[x,y]:=bu;refine aaa (wpAny_letGo (aae (aae ?_)));refine aaa (wpAny_seqItems bu rfl ?_);refine aaa (wpAny_newTuple ?_);have hsz:au.objs.size=s.heap.objs.size:=by rw[be.1,af.1,ae.1,ad.1,ac.1]
  have keep:∀ (c:Nat) o,(c < n\/n+4 < c)->s.heap.get? c=some o->au.get? c=some o:=λ c o hc e=>
   ex be aQ (ex af aQ (ex ae aQ (ex ad aQ (ex ac aQ e))))
  have db:jM au (n+4) (n+2) (n+3) .ellipsis f1:=ex be aQ (ex af aQ (ex ae aQ (ex ad aQ aj)));have cx:cL au (n+2) #[.ref n,.ref (n+1)]:=ex be aQ (ex af aQ (ex ae aQ (ex ad aQ (ex ac aQ hTI))));have de:=((bq.ext ae aQ).ext af aQ).ext be aQ;have df:=cm.ext be aQ;have eu:n+4 < au.objs.size:=by rw[hsz];exact hzlt
  have up:∀ {c o},au.get? c=some o->(au.push { cls:=.type "tuple",data:=.seq #[x,y] }).get? c=some o:=λ e=>aac _ e;refine aaa (vG (z:=n+4) (TI:=n+2) (TO:=n+3) (f0:=.ellipsis) (f1:=f1) (up db) λ cy dh cq=>?_);have up8:∀ {c:Nat}{o},c≠n+4->au.get? c=some o->cy.get? c=some o:=λ hc e=>ex cq hc (up e);refine aae ⟨_,rfl,hQ au.objs.size cy (rawInt au.objs.size) false x y (by rw[hsz];exact aaj _) (.inr ⟨_,rfl⟩) dh (up8 aQ cx) (up8 aQ bu) (de.at λ o e=>up8 aQ e) (df.at λ o e=>up8 aQ e)
   (ex cq aQ (aak _ rfl)) λ c o hc e=>up8 aQ (keep c o hc e)⟩
 ·intro ak aj ac;simp only [Bool.false_eq_true,if_false];refine aaa ?_;rw[<- Array.forIn_toList];simp only [List.forIn_cons,List.forIn_nil];refine aaa (aaa (abr ?_));show wpAny _ _ (Builtin.SmallTypes.nextOf (.ref n) >>= _) _ _ _;refine aaa (aY (i1.ext ac aQ) (s1.ext ac aQ) hx λ ao bq ad=>aae (aae ?_));refine aaa (aaa (abr ?_));show wpAny _ _ (Builtin.SmallTypes.nextOf (.ref (n+1)) >>= _) _ _ _;refine aaa (aY ((i2.ext ac aQ).ext ad aQ) ((s2.ext ac aQ).ext ad aQ) hy λ aq cm af=>aae (aae (aae ?_)));refine aaa (wpAny_newTuple (hsz:=by show 2<=sizeLine;decide) (aae ⟨_,rfl,?_⟩));have hsz:aq.objs.size=s.heap.objs.size:=by rw[af.1,ad.1,ac.1]
  have up:∀ {c o},aq.get? c=some o->(aq.push { cls:=.type "tuple",data:=.seq #[x,y] }).get? c=some o:=λ e=>aac _ e;have keep:∀ (c:Nat) o,(c < n\/n+4 < c)->s.heap.get? c=some o->aq.get? c=some o:=λ c o hc e=>ex af aQ (ex ad aQ (ex ac aQ e));refine hQ aq.objs.size (aq.push { cls:=.type "tuple",data:=.seq #[x,y] }) f0 true c1 c2 (by rw[hsz];exact aaj _) hf (up (ex af aQ (ex ad aQ aj)))
   (up (ex af aQ (ex ad aQ (ex ac aQ hTI)))) (up (ex af aQ (ex ad aQ (ex ac aQ hTO))))
   ((bq.ext af aQ).at λ o e=>up e) (cm.at λ o e=>up e) (aak _ rfl) λ c o hc e=>up (keep c o hc e)
theorem xP {n a1 a2:Nat}{t1 t2:Bool}{k:Nat}{xs ys:Array Value}{c1 c2 f0:Value}{f1:Bool}{Q:Fin->Shared->Prop} (hh:A.handled=none) (hf:eK f0)
  (hz:jM s.heap (n+4) (n+2) (n+3) f0 f1) (hTI:cL s.heap (n+2) #[.ref n,.ref (n+1)]) (hTO:cL s.heap (n+3) #[c1,c2])
  (i1:cQ s.heap t1 n a1 k) (i2:cQ s.heap t2 (n+1) a2 k) (s1:bI s.heap t1 a1 xs) (s2:bI s.heap t2 a2 ys)
  (l1:a1 < n) (l2:a2 < n) (hend:xs[k]? = none\/ys[k]? = none)
  (hE:∀ h' e,(∀ (c:Nat) o,(c < n\/n+4 < c)->s.heap.get? c=some o->h'.get? c=some o)->(∃ o,h'.get? e=some o/\o.cls=.type "StopIteration")->E (.ref e) { s with heap:=h' }) :
  wpAny (model prog w) A (Builtin.«zip.__next__» ⟨[.ref (n+4)],[]⟩) Q E s:=by
 show wpAny _ _ (field (.ref (n+4)) 2 >>= _) _ _ _;refine aaa (abj hz rfl (x:=.bool false) rfl ?_);show wpAny _ _ (field (.ref (n+4)) 3 >>= _) _ _ _;refine aaa (abj hz rfl (x:=.ref (n+2)) rfl ?_);refine aaa (wpAny_seqItems hTI rfl ?_);show wpAny _ _ (Builtin.SmallTypes.ownedTupleIsFree (.ref (n+4)) >>= _) _ _ _;refine aaa (gH hz hf ?_ ?_)
 ·simp only [if_true];refine aaa (acu ?_);refine aaa (abj hz rfl (x:=.ref (n+3)) rfl ?_);refine aaa (wpAny_setField_rec hz (by simp) λ ak aj ac=>?_);replace aj:jM ak (n+4) (n+2) (n+3) .ellipsis f1:=aj;refine aaa ?_;simp only [List.zipIdx_cons,List.zipIdx_nil,List.forIn_cons,List.forIn_nil];have fin:∀ {ao ai:Heap}{e j:Nat}{oe:Obj},jM ao (n+4) (n+2) (n+3) .ellipsis f1->Heap.ExtBut j ao ai->@Ne Nat (n+4) j->(n<=j/\j<=n+4)->(∀ (c:Nat) o,(c < n\/n+4 < c)->s.heap.get? c=some o->ao.get? c=some o)->ai.get? e=some oe->oe.cls=.type "StopIteration" ->
    wpAny (model prog w) A (setField (.ref (n+4)) 0 .none) (λ _ s'=>E (.ref e) s') E { s with heap:=ai }:=λ {ao ai e j oe} cj hx hj hr hk hoe hce=>by
   have bv:jM ai (n+4) (n+2) (n+3) .ellipsis f1:=hx _ _ hj cj;have hez:e≠n+4:=λ q=>by subst q;rw[bv] at hoe;cases hoe;simp at hce
   refine wpAny_setField_rec bv (by simp) λ aq _ af=>hE aq e (λ c o hc q=>ex af aQ (hx c o (show @Ne Nat c j by omega) (hk c o hc q))) ⟨oe,af.extBut _ _ hez hoe,hce⟩
  refine aaa (aaa (wpAny_onRaise ?_));show wpAny _ _ (Builtin.SmallTypes.nextOf (.ref n) >>= _) _ _ _;cases hx:xs[k]? with
  | none=>
   refine aaa (cF hh (i1.ext ac aQ) (s1.ext ac aQ) hx λ ao e ad he=>?_);obtain⟨oe,hoe,hce⟩:=he;exact fin aj ad aQ (by omega) (λ c o hc q=>ex ac aQ q) hoe hce
  | some x=>
   have hy:ys[k]? = none:=by rcases hend with h | h;rw[hx] at h;cases h;exact h
   refine aaa (aY (i1.ext ac aQ) (s1.ext ac aQ) hx λ ao bq ad=>aae ?_);have bg:cL ao (n+3) #[c1,c2]:=ex ad aQ (ex ac aQ hTO);refine aaa (wpAny_seqItems bg rfl ?_);refine aaa (fE bg (by simp) λ ai bc ae=>?_);refine aaa (wpAny_letGo (aae ?_));have bv:jM ai (n+4) (n+2) (n+3) .ellipsis f1:=ex ae aQ (ex ad aQ aj);have di:∀ (c:Nat) o,(c < n\/n+4 < c)->s.heap.get? c=some o->ai.get? c=some o:=λ c o hc e=>ex ae aQ (ex ad aQ (ex ac aQ e));refine aaa (aaa (wpAny_onRaise ?_));show wpAny _ _ (Builtin.SmallTypes.nextOf (.ref (n+1)) >>= _) _ _ _;refine aaa (cF hh (((i2.ext ac aQ).ext ad aQ).ext ae aQ) (((s2.ext ac aQ).ext ad aQ).ext ae aQ) hy λ aq e af he=>?_);obtain⟨oe,hoe,hce⟩:=he;exact fin bv af aQ (by omega) di hoe hce
 ·intro ak aj ac;simp only [Bool.false_eq_true,if_false];refine aaa ?_;rw[<- Array.forIn_toList];simp only [List.forIn_cons,List.forIn_nil];refine aaa (aaa (abr ?_));show wpAny _ _ (Builtin.SmallTypes.nextOf (.ref n) >>= _) _ _ _;cases hx:xs[k]? with
  | none=>
   refine aaa (cF hh (i1.ext ac aQ) (s1.ext ac aQ) hx λ ao e ad he=>?_);exact hE ao e (λ c o hc q=>ad c o (show @Ne Nat c n by omega) (ex ac aQ q)) he
  | some x=>
   have hy:ys[k]? = none:=by rcases hend with h | h;rw[hx] at h;cases h;exact h
   refine aaa (aY (i1.ext ac aQ) (s1.ext ac aQ) hx λ ao bq ad=>aae (aae ?_));refine aaa (aaa (abr ?_));show wpAny _ _ (Builtin.SmallTypes.nextOf (.ref (n+1)) >>= _) _ _ _;refine aaa (cF hh ((i2.ext ac aQ).ext ad aQ) ((s2.ext ac aQ).ext ad aQ) hy λ ai e ae he=>?_);exact hE ai e (λ c o hc q=>ae c o (show @Ne Nat c (n+1) by omega) (ex ad aQ (ex ac aQ q))) he
theorem gD {z TI TO:Addr}{f0:Value}{f1:Bool}{Q:Option Value->Shared->Prop} (hz:jM s.heap z TI TO f0 f1)
  (h:wpAny (model prog w) A.in1 (Builtin.«zip.__next__» ⟨[.ref z],[]⟩) (λ fin s'=>∃ v,fin=.done (.ret v)/\Q (some v) s') (λ e s'=>(∃ a o,e=.ref a/\s'.heap.get? a=some o/\o.cls=.type "StopIteration")/\Q none s') s) :
  wpAny (model prog w) A (pyNext (.ref z)) Q E s:=by
 have hT:s.TypeIs (.ref z) "zip" := ⟨_,hz,rfl⟩;unfold pyNext;refine aaa (wpAny_attempt (wpAny_callSpecial?_slot (name:=Str.ofString "__next__") hT F.slot_zip_next
  (wpAny_call_entry F.slot_zip_next hT F.entry_zip_next (abg h (λ fin s' h'=>?_) λ e s' h'=>?_) (F.args_zip_next_1 _))))
 ·obtain⟨v,rfl,q⟩:=h';exact⟨v,rfl,aae q⟩
 ·obtain⟨⟨a,o,rfl,ho,hc⟩,q⟩:=h';exact aaa (wpAny_isInstance (T := "StopIteration") (b:=true) ⟨o,ho,hc⟩ isSubtype_stop (aae q))
theorem oV {tg:Expr}{z TI TO T:Addr}{f0:Value}{f1:Bool}{Q:Unit->Shared->Prop} (hf:eK f0) (hz:jM s.heap z TI TO f0 f1)
  (hQ:∀ h' f0',eK f0'->jM h' z TI TO f0' f1->Heap.SameBut z s.heap h'->Q () { s with heap:=h' }):wpAny (model prog w) A (letOwnedTupleGo tg (.ref z) (.ref T)) Q E s:=by
 have same:Q () s:=hQ s.heap f0 hf hz (Heap.SameBut.refl ..);have core:wpAny (model prog w) A (do
   let o <- load z
   match o.cls,o.data with
   | .type n,.fields vs=>
    if ["enumerate","zip","dict_itemiterator","dict_reverseitemiterator","odict_iterator","itertools.zip_longest","itertools.pairwise"].contains n && vs[0]? == some (rawInt T) then
     rule "for.unpacks-the-owned-tuple"
     updateField z 0 .none
   | _,_=>pure ()) Q E s:=by
  refine aaa (wpAny_load hz ?_);show wpAny _ _ (if (["enumerate","zip","dict_itemiterator","dict_reverseitemiterator","odict_iterator","itertools.zip_longest","itertools.pairwise"].contains "zip" &&
   (#[f0,.bool f1,.bool false,.ref TI,.ref TO]:Array Value)[0]? == some (rawInt T))=true then _ else _) Q E s
  split
  ·refine aaa (acu ?_);show wpAny _ _ (setField (.ref z) 0 .none) Q E s;exact wpAny_setField_rec hz (by simp) λ h' hz' hs'=>hQ h' .none (.inl rfl) hz' hs'
  ·exact aae same
 unfold letOwnedTupleGo;cases tg <;> first
  | exact aae same
  | exact core
theorem gE {z TI TO:Addr}{f0:Value}{f1:Bool}{Q:Value->Shared->Prop} (hz:jM s.heap z TI TO f0 f1) (h:Q (.ref z) s):wpAny (model prog w) A (pyIter (.ref z)) Q E s:=by
 have hT:s.TypeIs (.ref z) "zip" := ⟨_,hz,rfl⟩;refine wpAny_pyIter_slot hT F.slot_zip_iter (wpAny_call_entry F.slot_zip_iter hT F.entry_zip_iter ?_ (F.args_zip_iter_1 _));show wpAny _ _ (ret (.ref z)) _ _ s;exact aae ⟨_,rfl,"zip",_,hT,F.slot_zip_next.lookup,h⟩
def nO (t:Bool) (a:Addr):Obj:={ cls:=.type (if t=true then "tuple_iterator" else "list_iterator"),data:=.fields #[.ref a,.int 0 0] }
theorem d7 {t:Bool}{a:Addr}{items:Array Value}{Q:Value->Shared->Prop} (hs:bI s.heap t a items) (hQ:Q (.ref s.heap.objs.size) { s with heap:=s.heap.push (nO t a) }) :
  wpAny (model prog w) A (pyIter (.ref a)) Q E s:=by
 cases t with
 | true=>exact wpAny_pyIter_tuple hs hQ
 | false=>exact wpAny_pyIter_list hs hQ
theorem g7 {h:Heap}{t:Bool}{a it:Addr} (e:h.get? it=some (nO t a)):cQ h t it a 0:=by
 cases t <;> exact⟨_,e,rfl,rfl⟩
abbrev zA (h:Heap) (t:Bool) (a:Addr):Heap:=h.push (nO t a)
abbrev AT (h:Heap) (vs:List Value):Heap:=h.push { cls:=.type "tuple",data:=.seq vs.toArray }
abbrev z2B (h:Heap) (t1 t2:Bool) (l1 l2:Addr):Heap:=AT (zA (zA h t1 l1) t2 l2) [.ref h.objs.size,.ref (zA h t1 l1).objs.size]
abbrev z2H (h:Heap) (t1 t2:Bool) (l1 l2:Addr):Heap:=AT (z2B h t1 t2 l1 l2) [.none,.none]
abbrev FE (h:Heap) (t1 t2:Bool) (l1 l2:Addr):Heap:=(z2H h t1 t2 l1 l2).push { cls:=.type "zip",data:=.fields #[.none,.bool false,.bool false,.ref (zA (zA h t1 l1) t2 l2).objs.size,.ref (z2B h t1 t2 l1 l2).objs.size] }
abbrev z3B (h:Heap) (t1 t2 t3:Bool) (l1 l2 l3:Addr):Heap:=AT (zA (zA (zA h t1 l1) t2 l2) t3 l3) [.ref h.objs.size,.ref (zA h t1 l1).objs.size,.ref (zA (zA h t1 l1) t2 l2).objs.size]
abbrev z3H (h:Heap) (t1 t2 t3:Bool) (l1 l2 l3:Addr):Heap:=AT (z3B h t1 t2 t3 l1 l2 l3) [.none,.none,.none]
abbrev DC (h:Heap) (t1 t2 t3:Bool) (l1 l2 l3:Addr):Heap:=(z3H h t1 t2 t3 l1 l2 l3).push { cls:=.type "zip",data:=.fields #[.none,.bool false,.bool false,.ref (zA (zA (zA h t1 l1) t2 l2) t3 l3).objs.size,.ref (z3B h t1 t2 t3 l1 l2 l3).objs.size] }
theorem tQ (t1 t2:Bool) (l1 l2:Addr) (xs ys:Array Value) :
  Meets (Builtin.«zip.__new__» ⟨[.type "zip",.ref l1,.ref l2],[]⟩) (λ _ R s=>bI s.heap t1 l1 xs/\bI s.heap t2 l2 ys/\
   R (.ok (.ret (.ref (z2H s.heap t1 t2 l1 l2).objs.size))) { s with heap:=FE s.heap t1 t2 l1 l2 }):=
 .of_wp λ prog w A R s h=>by
  obtain⟨hp,g,d,tk,os⟩:=s;obtain⟨hl1,hl2,h⟩:=h;have hsub:=sub_zip;have hL1:bI (Shared.heap ⟨hp,g,d,tk,os⟩) t1 l1 xs:=hl1;have hL2:bI (Shared.heap ⟨hp.push (nO t1 l1),g,d,tk,os⟩) t2 l2 ys:=hl2.at λ o e=>aac _ e
  wp_walk using d7 hL1,d7 hL2
  exact⟨_,rfl,h⟩
theorem tP (t1 t2 t3:Bool) (l1 l2 l3:Addr) (xs ys zs:Array Value) :
  Meets (Builtin.«zip.__new__» ⟨[.type "zip",.ref l1,.ref l2,.ref l3],[]⟩) (λ _ R s=>bI s.heap t1 l1 xs/\bI s.heap t2 l2 ys/\bI s.heap t3 l3 zs/\
   R (.ok (.ret (.ref (z3H s.heap t1 t2 t3 l1 l2 l3).objs.size))) { s with heap:=DC s.heap t1 t2 t3 l1 l2 l3 }):=
 .of_wp λ prog w A R s h=>by
  obtain⟨hp,g,d,tk,os⟩:=s;obtain⟨hl1,hl2,hl3,h⟩:=h;have hsub:=sub_zip;have hL1:bI (Shared.heap ⟨hp,g,d,tk,os⟩) t1 l1 xs:=hl1;have hL2:bI (Shared.heap ⟨hp.push (nO t1 l1),g,d,tk,os⟩) t2 l2 ys:=hl2.at λ o e=>aac _ e;have hL3:bI (Shared.heap ⟨(hp.push (nO t1 l1)).push (nO t2 l2),g,d,tk,os⟩) t3 l3 zs:=hl3.at λ o e=>aac _ (aac _ e)
  wp_walk using d7 hL1,d7 hL2,d7 hL3
  exact⟨_,rfl,h⟩
theorem mJ (a b c:Value):checkTypeCall "zip" ⟨[a,b,c],[]⟩=pure ():=by kernel_rfl
theorem oH (a b c:Value):checkBuiltinCall "zip.__new__" ⟨[.type "zip",a,b,c],[]⟩=pure ():=by kernel_rfl
theorem jJ (a b c d:Value):argsOk "object.__init__" ⟨[a,b,c,d],[]⟩:=by
 unfold argsOk;rw[signature?_of (id := "object.__init__") (n:=['_','_','t','i','n','i','_','_']) (o:=['t','c','e','j','b','o']) (by kernel_rfl) F.owner_object];kernel_rfl
theorem xB {t1 t2:Bool}{l1 l2:Addr}{xs ys:Array Value}{Q:Value->Shared->Prop} (hl1:bI s.heap t1 l1 xs) (hl2:bI s.heap t2 l2 ys)
  (h:∀ h',jM h' (s.heap.objs.size+4) (s.heap.objs.size+2) (s.heap.objs.size+3) .none false->cL h' (s.heap.objs.size+2) #[.ref s.heap.objs.size,.ref (s.heap.objs.size+1)]->
   cL h' (s.heap.objs.size+3) #[.none,.none]->cQ h' t1 s.heap.objs.size l1 0->cQ h' t2 (s.heap.objs.size+1) l2 0->
   (∀ c o,s.heap.get? c=some o->h'.get? c=some o)->Q (.ref (s.heap.objs.size+4)) { s with heap:=h' }):wpAny (model prog w) A (call (.type "zip") [.ref l1,.ref l2]) Q E s:=by
 refine callType_new F.called_zip (by decide) (F.typeCall_zip_2 _ _) (F.newCall_zip_2 _ _) (λ obj=>F.args_object_init_3 obj _ _) F.entry_zip_new (tQ t1 t2 l1 l2 xs ys) ⟨hl1,hl2,?_⟩;generalize s.heap=h0 at *;have z1:(zA h0 t1 l1).objs.size=h0.objs.size+1:=abh ..;have z2:(zA (zA h0 t1 l1) t2 l2).objs.size=h0.objs.size+2:=by rw[abh,z1]
 have z3:(z2B h0 t1 t2 l1 l2).objs.size=h0.objs.size+3:=by rw[abh,z2]
 have z4:(z2H h0 t1 t2 l1 l2).objs.size=h0.objs.size+4:=by rw[abh,z3]
 have g5:(FE h0 t1 t2 l1 l2).get? (z2H h0 t1 t2 l1 l2).objs.size=some _:=aak _ rfl;have g4:(FE h0 t1 t2 l1 l2).get? (z2B h0 t1 t2 l1 l2).objs.size=some _:=aac _ (aak _ rfl);have g3:(FE h0 t1 t2 l1 l2).get? (zA (zA h0 t1 l1) t2 l2).objs.size=some _:=aac _ (aac _ (aak _ rfl));have g2:(FE h0 t1 t2 l1 l2).get? (zA h0 t1 l1).objs.size=some _:=aac _ (aac _ (aac _ (aak _ rfl)));have g1:(FE h0 t1 t2 l1 l2).get? h0.objs.size=some _:=aac _ (aac _ (aac _ (aac _ (aak _ rfl))));show _/\_;rw[z2,z3,z4] at g5;rw[z1,z2] at g3;rw[z3] at g4;rw[z1] at g2;rw[z4];exact⟨⟨_,g5,rfl⟩,h _ g5 g3 g4 (g7 g1) (g7 g2) λ c o x=>aac _ (aac _ (aac _ (aac _ (aac _ x))))⟩
theorem xA {t1 t2 t3:Bool}{l1 l2 l3:Addr}{xs ys zs:Array Value}{Q:Value->Shared->Prop} (hl1:bI s.heap t1 l1 xs) (hl2:bI s.heap t2 l2 ys) (hl3:bI s.heap t3 l3 zs)
  (h:∀ h',jM h' (s.heap.objs.size+5) (s.heap.objs.size+3) (s.heap.objs.size+4) .none false->cL h' (s.heap.objs.size+3) #[.ref s.heap.objs.size,.ref (s.heap.objs.size+1),.ref (s.heap.objs.size+2)]->
   cL h' (s.heap.objs.size+4) #[.none,.none,.none]->cQ h' t1 s.heap.objs.size l1 0->cQ h' t2 (s.heap.objs.size+1) l2 0->cQ h' t3 (s.heap.objs.size+2) l3 0->
   (∀ c o,s.heap.get? c=some o->h'.get? c=some o)->Q (.ref (s.heap.objs.size+5)) { s with heap:=h' }):wpAny (model prog w) A (call (.type "zip") [.ref l1,.ref l2,.ref l3]) Q E s:=by
 refine callType_new F.called_zip (by decide) (mJ _ _ _) (oH _ _ _) (λ obj=>jJ obj _ _ _) F.entry_zip_new (tP t1 t2 t3 l1 l2 l3 xs ys zs) ⟨hl1,hl2,hl3,?_⟩;generalize s.heap=h0 at *;have z1:(zA h0 t1 l1).objs.size=h0.objs.size+1:=abh ..;have z2:(zA (zA h0 t1 l1) t2 l2).objs.size=h0.objs.size+2:=by rw[abh,z1]
 have z2':(zA (zA (zA h0 t1 l1) t2 l2) t3 l3).objs.size=h0.objs.size+3:=by rw[abh,z2]
 have z3:(z3B h0 t1 t2 t3 l1 l2 l3).objs.size=h0.objs.size+4:=by rw[abh,z2']
 have z4:(z3H h0 t1 t2 t3 l1 l2 l3).objs.size=h0.objs.size+5:=by rw[abh,z3]
 have g5:(DC h0 t1 t2 t3 l1 l2 l3).get? (z3H h0 t1 t2 t3 l1 l2 l3).objs.size=some _:=aak _ rfl;have g4:(DC h0 t1 t2 t3 l1 l2 l3).get? (z3B h0 t1 t2 t3 l1 l2 l3).objs.size=some _:=aac _ (aak _ rfl);have g3:(DC h0 t1 t2 t3 l1 l2 l3).get? (zA (zA (zA h0 t1 l1) t2 l2) t3 l3).objs.size=some _:=aac _ (aac _ (aak _ rfl));have g2':(DC h0 t1 t2 t3 l1 l2 l3).get? (zA (zA h0 t1 l1) t2 l2).objs.size=some _:=aac _ (aac _ (aac _ (aak _ rfl)));have g2:(DC h0 t1 t2 t3 l1 l2 l3).get? (zA h0 t1 l1).objs.size=some _:=aac _ (aac _ (aac _ (aac _ (aak _ rfl))));have g1:(DC h0 t1 t2 t3 l1 l2 l3).get? h0.objs.size=some _:=aac _ (aac _ (aac _ (aac _ (aac _ (aak _ rfl)))));show _/\_;rw[z2',z3,z4] at g5;rw[z1,z2,z2'] at g3;rw[z3] at g4;rw[z2] at g2';rw[z1] at g2;rw[z4];exact⟨⟨_,g5,rfl⟩,h _ g5 g3 g4 (g7 g1) (g7 g2) (g7 g2') λ c o x=>aac _ (aac _ (aac _ (aac _ (aac _ (aac _ x)))))⟩
end
end TwZ
namespace TwZ
open PySem
open Sem (wp)
open AutoSeq1 (wpAny_loadPart')
section
variable {prog:Program}{M:Model}{A:Around}{E:Value->Shared->Prop}{s:Shared}
abbrev fQ (h:Heap) (e it:Addr) (f0:Value) (f1:Bool) (i:Int) (old:Value):Prop:=
 h.get? e=some { cls:=.type "enumerate",dict:=none,data:=.fields #[f0,.bool f1,.ref it,rawInt i,.none,old],slots:=#[] }
theorem rK {e it:Addr}{f0:Value}{f1:Bool}{i:Int}{old:Value}{Q:Bool->Shared->Prop} (hz:fQ s.heap e it f0 f1 i old) (hf:eK f0) (yes:Q true s)
  (no:∀ h',fQ h' e it f0 true i old->Heap.SameBut e s.heap h'->Q false { s with heap:=h' }):wpAny (model prog w) A (Builtin.SmallTypes.ownedTupleIsFree (.ref e)) Q E s:=by
 unfold Builtin.SmallTypes.ownedTupleIsFree;refine aaa (abj hz rfl (x:=f0) rfl ?_);rcases hf with rfl | ⟨a,rfl⟩
 ·exact aae yes
 ·refine aaa (lH ?_);cases h:s.heap.get? a.toNat with
  | none=>exact aae yes
  | some o=>
   show wpAny _ _ (field (.ref e) 1 >>= _) _ _ _;refine aaa (abj hz rfl (x:=.bool f1) rfl ?_);cases f1 with
   | true=>exact aae (no s.heap hz (Heap.SameBut.refl ..))
   | false=>
    show wpAny _ _ (setField (.ref e) 1 (.bool true) >>= _) _ _ _;refine aaa (wpAny_setField_rec hz (by simp) λ ak aj ac=>aae (no ak aj ac))
theorem zU {e it:Addr}{f0:Value}{f1:Bool}{i:Int}{old:Value}{T:Addr}{Q:Unit->Shared->Prop} (hz:fQ s.heap e it f0 f1 i old)
  (h:∀ h',fQ h' e it (rawInt T) false i old->Heap.SameBut e s.heap h'->Q () { s with heap:=h' }):wpAny (model prog w) A (Builtin.SmallTypes.ownedTupleHandOut (.ref e) (.ref T)) Q E s:=by
 unfold Builtin.SmallTypes.ownedTupleHandOut;refine aaa (wpAny_setField_rec hz (by simp) λ ak aj ac=>?_);replace aj:fQ ak e it (rawInt T) f1 i old:=aj;refine wpAny_setField_rec aj (by simp) λ ao cj ad=>?_;exact h ao cj (Heap.SameBut.trans ac ad)
theorem x8 {n a:Nat}{t:Bool}{k:Nat}{xs:Array Value}{x old f0:Value}{f1:Bool}{Q:Value->Shared->Prop} (hf:eK f0)
  (he:fQ s.heap (n+1) n f0 f1 k old) (i1:cQ s.heap t n a k) (s1:bI s.heap t a xs) (l1:a < n) (hx:xs[k]? = some x)
  (hQ:∀ (T:Nat) h' f0' f1' old',s.heap.objs.size<=T->eK f0'->fQ h' (n+1) n f0' f1' ((k:Int)+1) old'->cQ h' t n a (k+1)->cL h' T #[.int k s.toks,x]->
   (∀ (c:Nat) o,(c < n\/n+1 < c)->s.heap.get? c=some o->h'.get? c=some o)->Q (.ref T) { s with heap:=h',toks:=s.toks+1 }) :
  wpAny (model prog w) A (Builtin.«enumerate.__next__» ⟨[.ref (n+1)],[]⟩) (λ fin s'=>∃ v,fin=.done (.ret v)/\Q v s') E s:=by
 obtain⟨hp,g,d,tk,os⟩:=s;have helt:n+1 < hp.objs.size:=aam he;show wpAny _ _ (field (.ref (n+1)) 2 >>= _) _ _ _;refine aaa (abj he rfl (x:=.ref n) rfl ?_);refine aaa (aY i1 s1 hx λ ak i1₁ ac=>?_);replace ac:Heap.SameBut n hp ak:=ac;have dj:fQ ak (n+1) n f0 f1 k old:=ex ac (by omega) he;show wpAny _ _ (field (.ref (n+1)) 3 >>= _) _ _ ⟨ak,g,d,tk,os⟩;refine aaa (abj dj rfl (x:=rawInt k) rfl ?_);show wpAny _ _ (field (.ref (n+1)) 4 >>= _) _ _ ⟨ak,g,d,tk,os⟩;refine aaa (abj dj rfl (x:=.none) rfl ?_);show wpAny _ _ (mkInt k >>= _) _ _ ⟨ak,g,d,tk,os⟩;refine aaa (wpAny_mkInt ?_);show wpAny _ _ (setField (.ref (n+1)) 3 (rawInt ((k:Int)+1)) >>= _) _ _ ⟨ak,g,d,tk+1,os⟩;refine aaa (wpAny_setField_rec dj (by simp) λ ao dk ad=>?_);replace ad:Heap.SameBut (n+1) ak ao:=ad;replace dk:fQ ao (n+1) n f0 f1 ((k:Int)+1) old:=dk;show wpAny _ _ (setField (.ref (n+1)) 4 .none >>= _) _ _ ⟨ao,g,d,tk+1,os⟩;refine aaa (wpAny_setField_rec dk (by simp) λ ai dq ae=>?_);replace ae:Heap.SameBut (n+1) ao ai:=ae;replace dq:fQ ai (n+1) n f0 f1 ((k:Int)+1) old:=dq;show wpAny _ _ (newTuple [.int k tk,x] >>= _) _ _ ⟨ai,g,d,tk+1,os⟩;refine aaa (wpAny_newTuple ?_);have cu:fQ (ai.push { cls:=.type "tuple",data:=.seq #[.int k tk,x] }) (n+1) n f0 f1 ((k:Int)+1) old:=aac _ dq;have hsz:ai.objs.size=hp.objs.size:=by rw[ae.1,ad.1,ac.1]
 have dt:cL (ai.push { cls:=.type "tuple",data:=.seq #[.int k tk,x] }) ai.objs.size #[.int k tk,x]:=aak _ rfl;have dz:∀ (c:Nat) o,(c < n\/n+1 < c)->hp.get? c=some o->(ai.push { cls:=.type "tuple",data:=.seq #[.int k tk,x] }).get? c=some o:=λ c o hc e=>
  aac _ (ex ae (by omega) (ex ad (by omega) (ex ac (by omega) e)))
 have du:cQ (ai.push { cls:=.type "tuple",data:=.seq #[.int k tk,x] }) t n a (k+1):=((i1₁.ext ad (by omega)).ext ae (by omega)).at λ o e=>aac _ e;have hlt₃:n+1 < ai.objs.size:=by rw[hsz];exact helt
 generalize hh₄:ai.push { cls:=.type "tuple",data:=.seq #[.int k tk,x] }=aq at cu dt dz du;have hTle:hp.objs.size<=ai.objs.size:=Nat.le_of_eq hsz.symm;show wpAny _ _ (Builtin.SmallTypes.ownedTupleIsFree (.ref (n+1)) >>= _) _ _ ⟨aq,g,d,tk+1,os⟩;refine aaa (rK cu hf ?_ ?_)
 ·simp only [if_true];refine aaa (acu ?_);refine aaa (abj cu rfl (x:=old) rfl ?_);refine aaa (wpAny_setField_rec cu (by simp) λ bo cr ar=>?_);replace ar:Heap.SameBut (n+1) aq bo:=ar;replace cr:fQ bo (n+1) n f0 f1 ((k:Int)+1) x:=cr;refine aaa (zU (s:=⟨bo,g,d,tk+1,os⟩) cr λ cw he₆ ba=>?_);replace ba:Heap.SameBut (n+1) bo cw:=ba;refine aaa (wpAny_letGo (aae ⟨_,rfl,?_⟩));exact hQ ai.objs.size cw _ _ _ hTle (.inr ⟨_,rfl⟩) he₆ ((du.ext ar (by omega)).ext ba (by omega)) (ex ba (by omega) (ex ar (by omega) dt)) λ c o hc e=>ex ba (by omega) (ex ar (by omega) (dz c o hc e))
 ·intro bo cr ar;replace ar:Heap.SameBut (n+1) aq bo:=ar;simp only [Bool.false_eq_true,if_false];refine aae ⟨_,rfl,?_⟩;exact hQ ai.objs.size bo _ _ _ hTle hf cr (du.ext ar (by omega)) (ex ar (by omega) dt) λ c o hc e=>ex ar (by omega) (dz c o hc e)
theorem A6 {n a:Nat}{t:Bool}{k:Nat}{xs:Array Value}{old f0:Value}{f1:Bool}{Q:Fin->Shared->Prop} (hh:A.handled=none)
  (he:fQ s.heap (n+1) n f0 f1 k old) (i1:cQ s.heap t n a k) (s1:bI s.heap t a xs) (hx:xs[k]? = none)
  (hE:∀ h' e,(∀ (c:Nat) o,(c < n\/n+1 < c)->s.heap.get? c=some o->h'.get? c=some o)->(∃ o,h'.get? e=some o/\o.cls=.type "StopIteration")->E (.ref e) { s with heap:=h' }) :
  wpAny (model prog w) A (Builtin.«enumerate.__next__» ⟨[.ref (n+1)],[]⟩) Q E s:=by
 show wpAny _ _ (field (.ref (n+1)) 2 >>= _) _ _ _;refine aaa (abj he rfl (x:=.ref n) rfl ?_);refine aaa (cF hh i1 s1 hx λ h' e hk he'=>hE h' e (λ c o hc q=>hk c o (show @Ne Nat c n by omega) q) he')
theorem lN {e it:Addr}{f0:Value}{f1:Bool}{i:Int}{old:Value}{Q:Option Value->Shared->Prop} (he:fQ s.heap e it f0 f1 i old)
  (h:wpAny (model prog w) A.in1 (Builtin.«enumerate.__next__» ⟨[.ref e],[]⟩) (λ fin s'=>∃ v,fin=.done (.ret v)/\Q (some v) s') (λ e s'=>(∃ a o,e=.ref a/\s'.heap.get? a=some o/\o.cls=.type "StopIteration")/\Q none s') s) :
  wpAny (model prog w) A (pyNext (.ref e)) Q E s:=by
 have hT:s.TypeIs (.ref e) "enumerate" := ⟨_,he,rfl⟩;unfold pyNext;refine aaa (wpAny_attempt (wpAny_callSpecial?_slot (name:=Str.ofString "__next__") hT F.slot_enumerate_next
  (wpAny_call_entry F.slot_enumerate_next hT F.entry_enumerate_next (abg h (λ fin s' h'=>?_) λ e s' h'=>?_) (F.args_enumerate_next_1 _))))
 ·obtain⟨v,rfl,q⟩:=h';exact⟨v,rfl,aae q⟩
 ·obtain⟨⟨a,o,rfl,ho,hc⟩,q⟩:=h';exact aaa (wpAny_isInstance (T := "StopIteration") (b:=true) ⟨o,ho,hc⟩ isSubtype_stop (aae q))
theorem tT {tg:Expr}{e it T:Addr}{f0:Value}{f1:Bool}{i:Int}{old:Value}{Q:Unit->Shared->Prop} (hf:eK f0) (hz:fQ s.heap e it f0 f1 i old)
  (hQ:∀ h' f0',eK f0'->fQ h' e it f0' f1 i old->Heap.SameBut e s.heap h'->Q () { s with heap:=h' }):wpAny (model prog w) A (letOwnedTupleGo tg (.ref e) (.ref T)) Q E s:=by
 have same:Q () s:=hQ s.heap f0 hf hz (Heap.SameBut.refl ..);have core:wpAny (model prog w) A (do
   let o <- load e
   match o.cls,o.data with
   | .type n,.fields vs=>
    if ["enumerate","zip","dict_itemiterator","dict_reverseitemiterator","odict_iterator","itertools.zip_longest","itertools.pairwise"].contains n && vs[0]? == some (rawInt T) then
     rule "for.unpacks-the-owned-tuple"
     updateField e 0 .none
   | _,_=>pure ()) Q E s:=by
  refine aaa (wpAny_load hz ?_);show wpAny _ _ (if (["enumerate","zip","dict_itemiterator","dict_reverseitemiterator","odict_iterator","itertools.zip_longest","itertools.pairwise"].contains "enumerate" &&
   (#[f0,.bool f1,.ref it,rawInt i,.none,old]:Array Value)[0]? == some (rawInt T))=true then _ else _) Q E s
  split
  ·refine aaa (acu ?_);show wpAny _ _ (setField (.ref e) 0 .none) Q E s;exact wpAny_setField_rec hz (by simp) λ h' hz' hs'=>hQ h' .none (.inl rfl) hz' hs'
  ·exact aae same
 unfold letOwnedTupleGo;cases tg <;> first
  | exact aae same
  | exact core
theorem lO {e it:Addr}{f0:Value}{f1:Bool}{i:Int}{old:Value}{Q:Value->Shared->Prop} (he:fQ s.heap e it f0 f1 i old) (h:Q (.ref e) s):wpAny (model prog w) A (pyIter (.ref e)) Q E s:=by
 have hT:s.TypeIs (.ref e) "enumerate" := ⟨_,he,rfl⟩;refine wpAny_pyIter_slot hT F.slot_enumerate_iter (wpAny_call_entry F.slot_enumerate_iter hT F.entry_enumerate_iter ?_ (F.args_enumerate_iter_1 _));show wpAny _ _ (ret (.ref e)) _ _ s;exact aae ⟨_,rfl,"enumerate",_,hT,F.slot_enumerate_next.lookup,h⟩
theorem tR (t:Bool) (l:Addr) (xs:Array Value) :
  Meets (Builtin.«enumerate.__new__» ⟨[.type "enumerate",.ref l],[]⟩) (λ _ R s=>bI s.heap t l xs/\
   R (.ok (.ret (.ref (zA s.heap t l).objs.size))) { s with heap:=(zA s.heap t l).push { cls:=.type "enumerate",data:=.fields #[.none,.bool false,.ref s.heap.objs.size,rawInt 0,.none,.none] } }):=
 .of_wp λ prog w A R s h=>by
  obtain⟨hp,g,d,tk,os⟩:=s;obtain⟨hl,h⟩:=h;have hsub:=sub_enumerate;have hL:bI (Shared.heap ⟨hp,g,d,tk,os⟩) t l xs:=hl
  wp_walk
  refine wpAny_stack_any λ st=>aae ?_
  split
  ·rename_i c _ _ _ _ _
   cases (c == Value.type "enumerate")
   ·wp_walk using d7 hL
    exact⟨_,rfl,h⟩
   ·wp_walk using d7 hL
    exact⟨_,rfl,h⟩
  ·wp_walk using d7 hL
   exact⟨_,rfl,h⟩
theorem xI {t:Bool}{l:Addr}{xs:Array Value}{Q:Value->Shared->Prop} (hL:bI s.heap t l xs)
  (h:∀ h',fQ h' (s.heap.objs.size+1) s.heap.objs.size .none false 0 .none->cQ h' t s.heap.objs.size l 0->(∀ b o,s.heap.get? b=some o->h'.get? b=some o)->Q (.ref (s.heap.objs.size+1)) { s with heap:=h' }) :
  wpAny (model prog w) A (call (.type "enumerate") [.ref l]) Q E s:=by
 refine callType_new F.called_enumerate (by decide) (F.typeCall_enumerate_1 _) (F.newCall_enumerate_1 _) (λ obj=>F.args_object_init_2 obj _) F.entry_enumerate_new (tR t l xs) ⟨hL,?_⟩;have hz:(zA s.heap t l).objs.size=s.heap.objs.size+1:=abh ..;show _/\_;rw[hz];have he:fQ ((zA s.heap t l).push { cls:=.type "enumerate",data:=.fields #[.none,.bool false,.ref s.heap.objs.size,rawInt 0,.none,.none] }) (s.heap.objs.size+1) s.heap.objs.size .none false 0 .none:=by
  have:=aak (zA s.heap t l) (o:={ cls:=.type "enumerate",data:=.fields #[.none,.bool false,.ref s.heap.objs.size,rawInt 0,.none,.none] }) rfl;rw[hz] at this;exact this
 exact⟨⟨_,he,rfl⟩,h _ he (g7 (aac _ (aak _ rfl))) λ b o x=>aac _ (aac _ x)⟩
end
end TwZ
namespace L2
open PySem PySem.Spec PyProof.Rows TwZ
def gW (K:aab) (H:Hp) (t:Bool) (a:Addr) (xs:List V):Prop:=if t=true then bB K H a xs else bF K H a xs
section
variable {X:Cx}{pins:List (Addr×Obj)}{σ:St}{H:Hp}{s:Shared}
theorem Inv.src {t:Bool}{a:Addr}{xs:List V} (I:Inv X pins σ H s) (h:gW X.K H t a xs):∃ its:List Value,b9 xs its/\bI s.heap t a its.toArray/\xs.length<=sizeLine:=by
 cases t with
 | true=>
  obtain⟨its,r,p,z⟩:=I.tuple h;exact⟨its,r,(show s.heap.IsTuple a its.toArray from p),z⟩
 | false=>
  obtain⟨its,r,p,z⟩:=I.list h;exact⟨its,r,p.isList,z⟩
theorem Inv.src_inj {t:Bool}{a:Addr}{xs ys:List V} (I:Inv X pins σ H s) (h:gW X.K H t a xs) (h':gW X.K H t a ys):xs=ys:=by
 cases t with
 | true=>exact I.tuple_inj h h'
 | false=>exact I.list_inj h h'
theorem Inv.turnedT {fp:List Addr}{h':Heap}{t':Nat}{T:Addr}{xs:List V}{its:List Value} (I:Inv X pins σ H s) (hf:∀ b∈fp,eP X pins H b) (k:∀ b o,b∉fp->s.heap.get? b=some o->h'.get? b=some o)
  (hT:s.heap.objs.size<=T) (hv:b9 xs its) (hz:xs.length<=sizeLine) (ht:IsTup h' T its.toArray):Inv X pins σ (upd H T (.tup xs)) { s with heap:=h',toks:=t' }:=by
 have hn:H T=none:=I.hok.fresh hT;have nT:∀ b u,H b=some u->b≠T:=λ b u e=>aJ e hn;have nfp:∀ b u,H b=some u->b∉fp:=λ b u e hb=>by rw[(hf b hb).1] at e;cases e
 have nTh:∀ b o,s.heap.get? b=some o->b≠T:=λ b o e z=>by rw[z] at e;exact absurd (aas (aam e) hT) (ach _)
 refine I.step (g':=s.gens) (d':=s.drawn) (ch:=fp) (λ b hb=>?_) (λ b o _ _ hc e _=>k b o hc e) (λ b o _ _ hc e _=>⟨o.slots,k b o hc e⟩) (λ b o hc e n=>by rw[aH (nTh b o e)];exact n)
  (λ b o hc e=>⟨o,k b o hc e⟩) (λ b ys e=>by rw[aH (nT b _ e)];exact e) (λ b o u e=>by rw[aH (nT b _ e)];exact e) (λ b ps e=>⟨#[],by rw[aH (nT b _ e),e];simp⟩) (λ m hm=>?_) (λ b u e=>?_) I.bare
 ·obtain⟨_,f1,_,f3,f4,f5⟩:=hf b hb;exact⟨f3,f1,f4,f5⟩
 ·obtain⟨o,es,ep,ho,r⟩:=hm;exact⟨o,es,ep,k _ o (λ hb=>(hf _ hb).2.1 rfl) ho,r⟩
 ·by_cases hb:b=T
  ·subst hb;rw[aB] at e;cases e;exact⟨hz,its,hv,ht⟩
  ·rw[aH hb] at e;refine (I.hok b u e).stay (λ c v hc q=>k c v ?_ q) (λ c q=>by rw[aH (nT c _ q)];exact q) λ c ys q=>by rw[aH (nT c _ q)];exact q
   rcases hc with z | z
   ·rw[z];exact nfp b u e
   ·exact nfp c _ z
theorem Inv.turnedL {fp:List Addr}{h':Heap}{t':Nat} (I:Inv X pins σ H s) (hf:∀ b∈fp,eP X pins H b) (k:∀ b o,b∉fp->s.heap.get? b=some o->h'.get? b=some o):Inv X pins σ H { s with heap:=h',toks:=t' }:=by
 have nfp:∀ b u,H b=some u->b∉fp:=λ b u e hb=>by rw[(hf b hb).1] at e;cases e
 refine I.step (g':=s.gens) (d':=s.drawn) (ch:=fp) (λ b hb=>?_) (λ b o _ _ hc e _=>k b o hc e) (λ b o _ _ hc e _=>⟨o.slots,k b o hc e⟩) (λ b o hc e n=>n)
  (λ b o hc e=>⟨o,k b o hc e⟩) (λ b ys e=>e) (λ b o u e=>e) (λ b ps e=>⟨#[],by rw[e];simp⟩) (λ m hm=>?_) (λ b u e=>?_) I.bare
 ·obtain⟨_,f1,_,f3,f4,f5⟩:=hf b hb;exact⟨f3,f1,f4,f5⟩
 ·obtain⟨o,es,ep,ho,r⟩:=hm;exact⟨o,es,ep,k _ o (λ hb=>(hf _ hb).2.1 rfl) ho,r⟩
 ·refine (I.hok b u e).stay (λ c v hc q=>k c v ?_ q) (λ c q=>q) λ c ys q=>q;rcases hc with z | z
  ·rw[z];exact nfp b u e
  ·exact nfp c _ z
end
def FA (K:aab) (t1 t2 t3:Bool) (a1 a2 a3:Addr):It:=
 ⟨λ i H=>∃ xs ys zs x y z,gW K H t1 a1 xs/\gW K H t2 a2 ys/\gW K H t3 a3 zs/\xs[i]? = some x/\ys[i]? = some y/\zs[i]? = some z,
  λ i H v H'=>∃ T x y z,H T=none/\v=.ref T/\(∀ xs,gW K H t1 a1 xs->xs[i]? = some x)/\(∀ xs,gW K H t2 a2 xs->xs[i]? = some y)/\(∀ xs,gW K H t3 a3 xs->xs[i]? = some z)/\H'=upd H T (.tup [x,y,z]),
  λ i H=>∃ xs ys zs,gW K H t1 a1 xs/\gW K H t2 a2 ys/\gW K H t3 a3 zs/\(xs.length<=i\/ys.length<=i\/zs.length<=i)⟩
def FK (n a1 a2 a3:Nat) (t1 t2 t3:Bool) (i:Nat) (h:Heap):Prop:=
 ∃ f0 f1 c1 c2 c3,eK f0/\jM h (n+5) (n+3) (n+4) f0 f1/\cL h (n+3) #[.ref n,.ref (n+1),.ref (n+2)]/\cL h (n+4) #[c1,c2,c3]/\
  cQ h t1 n a1 i/\cQ h t2 (n+1) a2 i/\cQ h t3 (n+2) a3 i/\a1 < n/\a2 < n/\a3 < n
def tY (n:Nat) (m:Nat):List Addr:=(List.range m).map λ k=>(n+k:Nat)
theorem cR {n m:Nat}{b:Addr}:b∈tY n m↔∃ k,k < m/\b=n+k:=by
 unfold tY;rw[abo];constructor
 ·rintro⟨k,hk,e⟩;exact⟨k,abz.mp hk,e.symm⟩
 ·rintro⟨k,hk,e⟩;exact⟨k,abz.mpr hk,e.symm⟩
theorem eQ {n m:Nat}{b:Nat} (h:(b:Addr)∉tY n m) (hm:0 < m):b < n\/n+(m - 1) < b:=by
 by_cases h1:b < n
 ·exact .inl h1
 ·by_cases h2:n+(m - 1) < b
  ·exact .inr h2
  ·exact absurd (cR.mpr ⟨b - n,by omega,by show (b:Nat)=n+(b - n);omega⟩) h
theorem w6 {P:Program}{w:World}{K:aab}{tg:Expr} (n a1 a2 a3:Nat) (t1 t2 t3:Bool):Turn P w K tg (FA K t1 t2 t3 a1 a2 a3) (tY n 6) (n+5) (FK n a1 a2 a3 t1 t2 t3) where
 mem:=cR.mpr ⟨5,by decide,rfl⟩
 obj:=λ i h st b hb=>by
  obtain⟨f0,f1,c1,c2,c3,hf,hz,hTI,hTO,i1,i2,i3,_⟩:=st;obtain⟨k,hk,rfl⟩:=cR.mp hb;have hk':k=0\/k=1\/k=2\/k=3\/k=4\/k=5:=by omega
  rcases hk' with rfl | rfl | rfl | rfl | rfl | rfl
  ·exact i1.obj
  ·exact i2.obj
  ·exact i3.obj
  ·exact⟨_,hTI,λ v z=>by cases z⟩
  ·exact⟨_,hTO,λ v z=>by cases z⟩
  ·exact⟨_,hz,λ v z=>by cases z⟩
 keep:=λ i h h' st k=>by
  obtain⟨f0,f1,c1,c2,c3,hf,hz,hTI,hTO,i1,i2,i3,l⟩:=st;have m:∀ j,j < 6->((n+j:Nat):Addr)∈tY n 6:=λ j hj=>cR.mpr ⟨j,hj,rfl⟩;exact⟨f0,f1,c1,c2,c3,hf,k _ (m 5 (by decide)) _ hz,k _ (m 3 (by decide)) _ hTI,k _ (m 4 (by decide)) _ hTO,i1.at λ o e=>k _ (m 0 (by decide)) _ e,i2.at λ o e=>k _ (m 1 (by decide)) _ e,i3.at λ o e=>k _ (m 2 (by decide)) _ e,l⟩
 item:=by
  intro X hP hw hK hc i pins s σ H E I hf st hg;subst hP hw hK;obtain⟨f0,f1,c1,c2,c3,f,hz,hTI,hTO,i1,i2,i3,l1,l2,l3⟩:=st;obtain⟨xs,ys,zs,x,y,z,q1,q2,q3,hx,hy,hw⟩:=hg;obtain⟨us,r1,p1,_⟩:=I.src q1;obtain⟨vs,r2,p2,_⟩:=I.src q2;obtain⟨ws,r3,p3,_⟩:=I.src q3;obtain⟨u,hu,ru⟩:=r1.get hx;obtain⟨v,hv,rv⟩:=r2.get hy;obtain⟨w',hw',rw'⟩:=r3.get hw;refine gD hz (vX f hz hTI hTO i1 i2 i3 p1 p2 p3 l1 l2 l3 (by simpa using hu) (by simpa using hv) (by simpa using hw') λ T h' f0' f1' d1 d2 d3 hT f' hz' hTI' hTO' i1' i2' i3' hTp hk=>?_);refine⟨_,rfl,oV (s:={ s with heap:=h' }) f' hz' λ h'' f0'' f'' hz'' hs=>?_⟩;replace hs:Heap.SameBut (n+5) h' h'':=hs;have hTn:n+5 < T:=aas (aam hz) hT;have hTp':cL h'' T #[u,v,w']:=ex hs (by omega) hTp;have IT:Inv X pins σ (upd H T (.tup [x,y,z])) { s with heap:=h'',toks:=s.toks }:=I.turnedT (fp:=tY n 6) hf (λ b o hb e=>ex (c:=b) hs (by have:=eQ (b:=b) hb (by decide);have:n+(6 - 1)=n+5:=rfl;omega) (hk b o (eQ (b:=b) hb (by decide)) e)) hT (its:=[u,v,w']) (.cons ru (.cons rv (.cons rw' .nil))) (by show 3<=sizeLine;decide) ⟨_,hTp',rfl,_,rfl⟩;refine⟨.ref T,upd H T (.tup [x,y,z]),IT,rfl,
   ⟨T,x,y,z,I.hok.fresh hT,rfl,λ as q=>by rw[I.src_inj q q1];exact hx,λ as q=>by rw[I.src_inj q q2];exact hy,λ as q=>by rw[I.src_inj q q3];exact hw,rfl⟩,
   ⟨f0'',f1',d1,d2,d3,f'',hz'',ex hs (by omega) hTI',ex hs (by omega) hTO',i1'.ext hs (by omega),i2'.ext hs (by omega),i3'.ext hs (by omega),l1,l2,l3⟩,λ b hb=>?_⟩
  ·obtain⟨j,hj,rfl⟩:=cR.mp hb;rw[aH (show ((n+j:Nat):Addr)≠T from (show @Ne Nat (n+j) T by omega))];exact (hf _ hb).1
 done:=by
  intro X hP hw hK hc i pins s σ H E I hf st hg;subst hP hw hK;obtain⟨f0,f1,c1,c2,c3,f,hz,hTI,hTO,i1,i2,i3,l1,l2,l3⟩:=st;obtain⟨xs,ys,zs,q1,q2,q3,hend⟩:=hg;obtain⟨us,r1,p1,_⟩:=I.src q1;obtain⟨vs,r2,p2,_⟩:=I.src q2;obtain⟨ws,r3,p3,_⟩:=I.src q3;have e1:=r1.length;have e2:=r2.length;have e3:=r3.length;refine gD hz (xO (I.ok.hd hc) f hz hTI hTO i1 i2 i3 p1 p2 p3 l1 l2 l3 (by
   rcases hend with h | h | h
   ·exact .inl (by simp;omega)
   ·exact .inr (.inl (by simp;omega))
   ·exact .inr (.inr (by simp;omega))) λ h' e hk he=>?_)
  obtain⟨o,ho,hcl⟩:=he;exact⟨⟨e,o,rfl,ho,hcl⟩,rfl,I.turnedL (t':=s.toks) hf λ b o hb q=>hk b o (eQ (b:=b) hb (by decide)) q⟩
 self:=λ _ _ _ _ _ st h=>by
  obtain⟨f0,f1,c1,c2,c3,f,hz,_⟩:=st;exact gE hz h
def CH (K:aab) (t1 t2:Bool) (a1 a2:Addr):It:=
 ⟨λ i H=>∃ xs ys x y,gW K H t1 a1 xs/\gW K H t2 a2 ys/\xs[i]? = some x/\ys[i]? = some y,
  λ i H v H'=>∃ T x y,H T=none/\v=.ref T/\(∀ xs,gW K H t1 a1 xs->xs[i]? = some x)/\(∀ xs,gW K H t2 a2 xs->xs[i]? = some y)/\H'=upd H T (.tup [x,y]),
  λ i H=>∃ xs ys,gW K H t1 a1 xs/\gW K H t2 a2 ys/\(xs.length<=i\/ys.length<=i)⟩
def FL (n a1 a2:Nat) (t1 t2:Bool) (i:Nat) (h:Heap):Prop:=
 ∃ f0 f1 c1 c2,eK f0/\jM h (n+4) (n+2) (n+3) f0 f1/\cL h (n+2) #[.ref n,.ref (n+1)]/\cL h (n+3) #[c1,c2]/\cQ h t1 n a1 i/\cQ h t2 (n+1) a2 i/\a1 < n/\a2 < n
theorem w8 {P:Program}{w:World}{K:aab}{tg:Expr} (n a1 a2:Nat) (t1 t2:Bool):Turn P w K tg (CH K t1 t2 a1 a2) (tY n 5) (n+4) (FL n a1 a2 t1 t2) where
 mem:=cR.mpr ⟨4,by decide,rfl⟩
 obj:=λ i h st b hb=>by
  obtain⟨f0,f1,c1,c2,hf,hz,hTI,hTO,i1,i2,_⟩:=st;obtain⟨k,hk,rfl⟩:=cR.mp hb;have hk':k=0\/k=1\/k=2\/k=3\/k=4:=by omega
  rcases hk' with rfl | rfl | rfl | rfl | rfl
  ·exact i1.obj
  ·exact i2.obj
  ·exact⟨_,hTI,λ v z=>by cases z⟩
  ·exact⟨_,hTO,λ v z=>by cases z⟩
  ·exact⟨_,hz,λ v z=>by cases z⟩
 keep:=λ i h h' st k=>by
  obtain⟨f0,f1,c1,c2,hf,hz,hTI,hTO,i1,i2,l⟩:=st;have m:∀ j,j < 5->((n+j:Nat):Addr)∈tY n 5:=λ j hj=>cR.mpr ⟨j,hj,rfl⟩;exact⟨f0,f1,c1,c2,hf,k _ (m 4 (by decide)) _ hz,k _ (m 2 (by decide)) _ hTI,k _ (m 3 (by decide)) _ hTO,i1.at λ o e=>k _ (m 0 (by decide)) _ e,i2.at λ o e=>k _ (m 1 (by decide)) _ e,l⟩
 item:=by
  intro X hP hw hK hc i pins s σ H E I hf st hg;subst hP hw hK;obtain⟨f0,f1,c1,c2,f,hz,hTI,hTO,i1,i2,l1,l2⟩:=st;obtain⟨xs,ys,x,y,q1,q2,hx,hy⟩:=hg;obtain⟨us,r1,p1,_⟩:=I.src q1;obtain⟨vs,r2,p2,_⟩:=I.src q2;obtain⟨u,hu,ru⟩:=r1.get hx;obtain⟨v,hv,rv⟩:=r2.get hy;refine gD hz (vY f hz hTI hTO i1 i2 p1 p2 l1 l2 (by simpa using hu) (by simpa using hv) λ T h' f0' f1' d1 d2 hT f' hz' hTI' hTO' i1' i2' hTp hk=>?_);refine⟨_,rfl,oV (s:={ s with heap:=h' }) f' hz' λ h'' f0'' f'' hz'' hs=>?_⟩;replace hs:Heap.SameBut (n+4) h' h'':=hs;have hTn:n+4 < T:=aas (aam hz) hT;have hTp':cL h'' T #[u,v]:=ex hs (by omega) hTp;have IT:Inv X pins σ (upd H T (.tup [x,y])) { s with heap:=h'',toks:=s.toks }:=I.turnedT (fp:=tY n 5) hf (λ b o hb e=>ex (c:=b) hs (by have:=eQ (b:=b) hb (by decide);have:n+(5 - 1)=n+4:=rfl;omega) (hk b o (eQ (b:=b) hb (by decide)) e)) hT (its:=[u,v]) (.cons ru (.cons rv .nil)) (by show 2<=sizeLine;decide) ⟨_,hTp',rfl,_,rfl⟩;refine⟨.ref T,upd H T (.tup [x,y]),IT,rfl,
   ⟨T,x,y,I.hok.fresh hT,rfl,λ as q=>by rw[I.src_inj q q1];exact hx,λ as q=>by rw[I.src_inj q q2];exact hy,rfl⟩,
   ⟨f0'',f1',d1,d2,f'',hz'',ex hs (by omega) hTI',ex hs (by omega) hTO',i1'.ext hs (by omega),i2'.ext hs (by omega),l1,l2⟩,λ b hb=>?_⟩
  ·obtain⟨j,hj,rfl⟩:=cR.mp hb;rw[aH (show ((n+j:Nat):Addr)≠T from (show @Ne Nat (n+j) T by omega))];exact (hf _ hb).1
 done:=by
  intro X hP hw hK hc i pins s σ H E I hf st hg;subst hP hw hK;obtain⟨f0,f1,c1,c2,f,hz,hTI,hTO,i1,i2,l1,l2⟩:=st;obtain⟨xs,ys,q1,q2,hend⟩:=hg;obtain⟨us,r1,p1,_⟩:=I.src q1;obtain⟨vs,r2,p2,_⟩:=I.src q2;have e1:=r1.length;have e2:=r2.length;refine gD hz (xP (I.ok.hd hc) f hz hTI hTO i1 i2 p1 p2 l1 l2 (by
   rcases hend with h | h
   ·exact .inl (by simp;omega)
   ·exact .inr (by simp;omega)) λ h' e hk he=>?_)
  obtain⟨o,ho,hcl⟩:=he;exact⟨⟨e,o,rfl,ho,hcl⟩,rfl,I.turnedL (t':=s.toks) hf λ b o hb q=>hk b o (eQ (b:=b) hb (by decide)) q⟩
 self:=λ _ _ _ _ _ st h=>by
  obtain⟨f0,f1,c1,c2,f,hz,_⟩:=st;exact gE hz h
def Ite (K:aab) (t:Bool) (a:Addr):It:=
 ⟨λ i H=>∃ xs x,gW K H t a xs/\xs[i]? = some x,
  λ i H v H'=>∃ T x,H T=none/\v=.ref T/\(∀ xs,gW K H t a xs->xs[i]? = some x)/\H'=upd H T (.tup [.int i,x]),
  λ i H=>∃ xs,gW K H t a xs/\xs.length<=i⟩
def tne (n a:Nat) (t:Bool) (i:Nat) (h:Heap):Prop:=∃ f0 f1 old,eK f0/\fQ h (n+1) n f0 f1 i old/\cQ h t n a i/\a < n
theorem wA {P:Program}{w:World}{K:aab}{tg:Expr} (n a:Nat) (t:Bool):Turn P w K tg (Ite K t a) (tY n 2) (n+1) (tne n a t) where
 mem:=cR.mpr ⟨1,by decide,rfl⟩
 obj:=λ i h st b hb=>by
  obtain⟨f0,f1,old,hf,he,i1,_⟩:=st;obtain⟨k,hk,rfl⟩:=cR.mp hb;have hk':k=0\/k=1:=by omega
  rcases hk' with rfl | rfl
  ·exact i1.obj
  ·exact⟨_,he,λ v z=>by cases z⟩
 keep:=λ i h h' st k=>by
  obtain⟨f0,f1,old,hf,he,i1,l⟩:=st;have m:∀ j,j < 2->((n+j:Nat):Addr)∈tY n 2:=λ j hj=>cR.mpr ⟨j,hj,rfl⟩;exact⟨f0,f1,old,hf,k _ (m 1 (by decide)) _ he,i1.at λ o e=>k _ (m 0 (by decide)) _ e,l⟩
 item:=by
  intro X hP hw hK hc i pins s σ H E I hf st hg;subst hP hw hK;obtain⟨f0,f1,old,f,he,i1,l1⟩:=st;obtain⟨xs,x,q1,hx⟩:=hg;obtain⟨us,r1,p1,_⟩:=I.src q1;obtain⟨u,hu,ru⟩:=r1.get hx;refine lN he (x8 f he i1 p1 l1 (by simpa using hu) λ T h' f0' f1' old' hT f' he' i1' hTp hk=>?_);refine⟨_,rfl,tT (s:={ s with heap:=h',toks:=s.toks+1 }) f' he' λ h'' f0'' f'' he'' hs=>?_⟩;replace hs:Heap.SameBut (n+1) h' h'':=hs;have hTn:n+1 < T:=aas (aam he) hT;have hTp':cL h'' T #[.int i s.toks,u]:=ex hs (by omega) hTp;have IT:Inv X pins σ (upd H T (.tup [.int i,x])) { s with heap:=h'',toks:=s.toks+1 }:=I.turnedT (fp:=tY n 2) hf (λ b o hb e=>ex (c:=b) hs (by have:=eQ (b:=b) hb (by decide);have:n+(2 - 1)=n+1:=rfl;omega) (hk b o (eQ (b:=b) hb (by decide)) e)) hT (its:=[.int i s.toks,u]) (.cons ⟨_,rfl⟩ (.cons ru .nil)) (by show 2<=sizeLine;decide) ⟨_,hTp',rfl,_,rfl⟩;have he2:fQ h'' (n+1) n f0'' f1' ((i+1:Nat):Int) old':=by
   have:((i+1:Nat):Int)=(i:Int)+1:=by push_cast;rfl
   rw[this];exact he''
  refine⟨.ref T,upd H T (.tup [.int i,x]),IT,rfl,⟨T,x,I.hok.fresh hT,rfl,λ as q=>by rw[I.src_inj q q1];exact hx,rfl⟩,⟨f0'',f1',old',f'',he2,i1'.ext hs (by omega),l1⟩,λ b hb=>?_⟩
  ·obtain⟨j,hj,rfl⟩:=cR.mp hb;rw[aH (show ((n+j:Nat):Addr)≠T from (show @Ne Nat (n+j) T by omega))];exact (hf _ hb).1
 done:=by
  intro X hP hw hK hc i pins s σ H E I hf st hg;subst hP hw hK;obtain⟨f0,f1,old,f,he,i1,l1⟩:=st;obtain⟨xs,q1,hend⟩:=hg;obtain⟨us,r1,p1,_⟩:=I.src q1;have e1:=r1.length;refine lN he (A6 (I.ok.hd hc) he i1 p1 (by simp;omega) λ h' e hk he=>?_);obtain⟨o,ho,hcl⟩:=he;exact⟨⟨e,o,rfl,ho,hcl⟩,rfl,I.turnedL (t':=s.toks) hf λ b o hb q=>hk b o (eQ (b:=b) hb (by decide)) q⟩
 self:=λ _ _ _ _ _ st h=>by
  obtain⟨f0,f1,old,f,he,_⟩:=st;exact lO he h
section
variable {X:Cx}{tg:Expr}
theorem sL:bootBuiltins "zip" = some (.type "zip"):=by decide +kernel
theorem xJ:bootBuiltins "enumerate" = some (.type "enumerate"):=by decide +kernel
def D5 (K:aab) (ta:TA):TI:=λ σ H R=>ta σ H λ vs H1=>∃ t1 t2 a1 a2,vs=[.ref a1,.ref a2]/\(∃ xs,gW K H1 t1 a1 xs)/\(∃ xs,gW K H1 t2 a2 xs)/\R (CH K t1 t2 a1 a2) H1
def D4 (K:aab) (ta:TA):TI:=λ σ H R=>ta σ H λ vs H1=>∃ t1 t2 t3 a1 a2 a3,vs=[.ref a1,.ref a2,.ref a3]/\(∃ xs,gW K H1 t1 a1 xs)/\(∃ xs,gW K H1 t2 a2 xs)/\(∃ xs,gW K H1 t3 a3 xs)/\R (FA K t1 t2 t3 a1 a2 a3) H1
def D7 (K:aab) (ta:TA):TI:=λ σ H R=>ta σ H λ vs H1=>∃ t a,vs=[.ref a]/\(∃ xs,gW K H1 t a xs)/\R (Ite K t a) H1
theorem BG {a:Expr}{ta:TA}{p pos:Pos} (hg:Gl X "enumerate") (hm:X.mg "enumerate" = none) (ha:PA X [a] ta) (hs:starEach [a] X.env=[(false,eval a X.env)]:=by with_unfolding_all rfl):PI X tg (.Call (.Name "enumerate" p) [a] [] pos) (D7 X.K ta):=by
 intro pins s σ H R I h;refine Call_ (gI I hg hm xJ (PyProof.Rows.callWith_type1 (cI (ha pos pins s σ H _ I h) λ us s1 ⟨vs,H1,I1,r1,q1⟩=>?_) hs rfl));obtain⟨t,a1,e,⟨xs,hq⟩,q⟩:=q1;subst e;cases r1 with
 | cons r rr=>
  cases rr;cases r;obtain⟨its,rv,p,hz⟩:=I1.src hq;refine xI p λ h' he i1 hk=>?_;refine lO (s:={ s1 with heap:=h' }) he ?_;refine⟨_,tY s1.heap.objs.size 2,tne s1.heap.objs.size a1 t,_,H1,rfl,I1.kept (t':=s1.toks) hk,wA _ _ _,⟨.none,false,.none,.inl rfl,he,i1,p.lt⟩,λ b hb=>?_,q⟩;obtain⟨k,_,rfl⟩:=cR.mp hb;exact I1.fpOk (Nat.le_add_right _ _) (I1.hok.fresh (Nat.le_add_right _ _))
theorem BE {a b:Expr}{ta:TA}{p pos:Pos} (hg:Gl X "zip") (hm:X.mg "zip" = none) (ha:PA X [a,b] ta) (hs:starEach [a,b] X.env=[(false,eval a X.env),(false,eval b X.env)]:=by with_unfolding_all rfl) (hs2:starEach [b] X.env=[(false,eval b X.env)]:=by with_unfolding_all rfl) :
  PI X tg (.Call (.Name "zip" p) [a,b] [] pos) (D5 X.K ta):=by
 intro pins s σ H R I h;refine Call_ (gI I hg hm sL (PyProof.Rows.callWith_type1 (cI (ha pos pins s σ H _ I h) λ us s1 ⟨vs,H1,I1,r1,q1⟩=>?_) (by rw[hs,hs2]) (by rw[hs2];rfl)));obtain⟨t1,t2,a1,a2,e,⟨xs,hq1⟩,⟨ys,hq2⟩,q⟩:=q1;subst e;cases r1 with
 | cons r rr=>
  cases rr with
  | cons r' rr=>
   cases rr;cases r;cases r';obtain⟨its,rv,p1,hz⟩:=I1.src hq1;obtain⟨its2,rv2,p2,hz2⟩:=I1.src hq2;refine xB p1 p2 λ h' hz' hTI hTO i1 i2 hk=>?_;refine gE (s:={ s1 with heap:=h' }) hz' ?_;refine⟨_,tY s1.heap.objs.size 5,FL s1.heap.objs.size a1 a2 t1 t2,_,H1,rfl,I1.kept (t':=s1.toks) hk,w8 _ _ _ _ _,⟨.none,false,_,_,.inl rfl,hz',hTI,hTO,i1,i2,p1.lt,p2.lt⟩,λ b hb=>?_,q⟩;obtain⟨k,_,rfl⟩:=cR.mp hb;exact I1.fpOk (Nat.le_add_right _ _) (I1.hok.fresh (Nat.le_add_right _ _))
theorem BD {a b c:Expr}{ta:TA}{p pos:Pos} (hg:Gl X "zip") (hm:X.mg "zip" = none) (ha:PA X [a,b,c] ta) (hs:starEach [a,b,c] X.env=[(false,eval a X.env),(false,eval b X.env),(false,eval c X.env)]:=by with_unfolding_all rfl)
  (hs2:starEach [b,c] X.env=[(false,eval b X.env),(false,eval c X.env)]:=by with_unfolding_all rfl) :
  PI X tg (.Call (.Name "zip" p) [a,b,c] [] pos) (D4 X.K ta):=by
 intro pins s σ H R I h;refine Call_ (gI I hg hm sL (PyProof.Rows.callWith_type1 (cI (ha pos pins s σ H _ I h) λ us s1 ⟨vs,H1,I1,r1,q1⟩=>?_) (by rw[hs,hs2]) (by rw[hs2];rfl)));obtain⟨t1,t2,t3,a1,a2,a3,e,⟨xs,hq1⟩,⟨ys,hq2⟩,⟨zs,hq3⟩,q⟩:=q1;subst e;cases r1 with
 | cons r rr=>
  cases rr with
  | cons r' rr=>
   cases rr with
   | cons r'' rr=>
    cases rr;cases r;cases r';cases r'';obtain⟨its,rv,p1,hz⟩:=I1.src hq1;obtain⟨its2,rv2,p2,hz2⟩:=I1.src hq2;obtain⟨its3,rv3,p3,hz3⟩:=I1.src hq3;refine xA p1 p2 p3 λ h' hz' hTI hTO i1 i2 i3 hk=>?_;refine gE (s:={ s1 with heap:=h' }) hz' ?_;refine⟨_,tY s1.heap.objs.size 6,FK s1.heap.objs.size a1 a2 a3 t1 t2 t3,_,H1,rfl,I1.kept (t':=s1.toks) hk,w6 _ _ _ _ _ _ _,⟨.none,false,_,_,_,.inl rfl,hz',hTI,hTO,i1,i2,i3,p1.lt,p2.lt,p3.lt⟩,λ b hb=>?_,q⟩;obtain⟨k,_,rfl⟩:=cR.mp hb;exact I1.fpOk (Nat.le_add_right _ _) (I1.hok.fresh (Nat.le_add_right _ _))
end
section
variable {prog:Program}{A:Around}{E:Value->Shared->Prop}{s:Shared}{l:Addr}{xs:Array (Int×Tok)}
theorem sX {Q:Value->Shared->Prop} (hh:A.handled=none) (hl:s.heap.IsTuple l (intItems xs))
  (h:∀ h' tk t',(∀ b o,s.heap.get? b=some o->h'.get? b=some o)->Q (.int (preSum (numAt xs) xs.size) t') { s with heap:=h',toks:=tk }) :
  wpAny (model prog w) A (call (.builtin "sum") [.ref l]) Q E s:=by
 have hlt:l < s.heap.objs.size:=by obtain⟨_,e,_⟩:=hl;exact aam e
 refine call_sum_walkG (wpAny_pyIter_tuple hl ?_);refine⟨_,_,_,_,_,_,numAt xs,rfl,Walks.tuple (A:=A.in1) hh _ l (abb hlt) (intItems xs),⟨⟨_,aak _ rfl,rfl,rfl⟩,hl.push _⟩,λ b hb=>?_,(λ _ _=>intItems_at),λ h' tk t' hk=>?_⟩
 ·show b < (s.heap.push _).objs.size;rw[abh];rcases aay.mp hb with rfl | hb
  ·exact Nat.lt_succ_self _
  ·rcases aay.mp hb with rfl | hb
   ·exact Nat.lt_succ_of_lt hlt
   ·cases hb
 ·have:=h h' tk t' (λ b o e=>hk b o (λ hm=>by rw[acd.mp hm] at e;exact ach _ (aam e)) (aac _ e));simpa [intItems] using this
theorem sY {t:Bool}{vs:List Value}{ns:List Int}{Q:Value->Shared->Prop} (hh:A.handled=none) (hl:bI s.heap t l vs.toArray) (hi:IntsAre vs ns)
  (h:∀ h' tk t',(∀ b o,s.heap.get? b=some o->h'.get? b=some o)->Q (.int ns.sum t') { s with heap:=h',toks:=tk }) :
  wpAny (model prog w) A (call (.builtin "sum") [.ref l]) Q E s:=by
 obtain⟨xs,hx⟩:=hi.allInts.items;have hn:numsOf vs.toArray.toList=ns:=by rw[show vs.toArray.toList=vs from rfl,hi.numsOf]
 rw[hx] at hl hn;rw[nums_intItems] at hn;have e:preSum (numAt xs) xs.size=ns.sum:=by rw[preSum_eq,abl (by simp),hn]
 cases t with
 | true=>exact sX hh hl λ h' tk t' hk=>by rw[e];exact h h' tk t' hk
 | false=>exact sum_intListG hh hl λ h' tk t' hk=>by rw[e];exact h h' tk t' hk
end
section
variable {X:Cx}
def FU (K:aab):List V->Hp->VK->Prop:=λ xs H Q=>∃ (t:Bool) (p:Addr) (ns:List Int),xs=[.ref p]/\gW K H t p (ns.map V.int)/\Q (.int ns.sum) H
theorem xC (hc:X.calm=true):dI X (.builtin "sum") (FU X.K):=by
 intro pins s σ H xs us Q I r h;obtain⟨t,p,ns,rfl,hq,q⟩:=h;obtain⟨u,rfl,ru⟩:=r.one;cases ru;obtain⟨its,rv,p1,hz⟩:=I.src hq;refine sY (I.ok.hd hc) p1 (jF rv) λ h' tk t' hk=>⟨.int ns.sum,H,I.kept hk,⟨t',rfl⟩,q⟩
def TyS (K:aab) (H:Hp) (x:V) (t:Value):Prop:=TyOf K H x t\/∃ a ys,x=.ref a/\bB K H a ys/\t=.type "tuple"
def G0 (K:aab):List V->Hp->VK->Prop:=λ xs H Q=>∃ x T t b,xs=[x,.ty T]/\TyS K H x t/\PySem.W.kitOne K t (.type T)=some b/\Q (.bl b) H
theorem AC:dI X (.builtin "isinstance") (G0 X.K):=by
 intro pins s σ H xs us Q I r h;obtain⟨x,T,t,b,rfl,ty,e,q⟩:=h;obtain⟨u,v,rfl,ru,rv⟩:=r.two;cases rv;rcases ty with ty | ⟨a,ys,rfl,hq,rfl⟩
 ·exact wT I ru ty e λ tk=>⟨.bl b,H,I.tok tk,rfl,q⟩
 ·cases (show u=Value.ref a from ru);obtain⟨its,rv',⟨o,h1,h2,_⟩,_⟩:=I.tuple hq;exact PySem.W.kia_one PySem.W.kitx_tuple I.kIn ⟨o,h1,h2⟩ e (λ z=>nomatch z) λ tk=>⟨.bl b,H,I.tok tk,rfl,q⟩
end
theorem fY:fillsNumberSlot (.type "tuple") "mul" = pure false:=
 PySem.fillsNumberSlot_seq (id := "tuple.__mul__") (r:=some (.builtin "tuple.__rmul__")) F.slot_tuple_mul.lookup (by decide +kernel) F.slot_tuple_rmul.lookup (by decide +kernel)
theorem kB:seqRepeat? (.type "tuple")=pure (some (.builtin "tuple.__mul__")):=by
 unfold seqRepeat?;rw[PySem.seqSlot_of (T := "tuple") (name := "__mul__") (id := "tuple.__mul__") F.slot_tuple_mul.lookup (by decide +kernel),PySem.seqSlot_of (T := "tuple") (name := "__rmul__") (id := "tuple.__rmul__") F.slot_tuple_rmul.lookup (by decide +kernel)];rfl
theorem iA (a:Int) (t:Tok) (l:Addr) (items:Array Value) (n:Nat) (dd:Option Addr) (sl:Array (Option Value)) :
  Meets (Builtin.«int.__rmul__» ⟨[.int a t,.ref l],[]⟩) (λ _ R s=>s.heap.get? l=some { cls:=.type "tuple",dict:=dd,data:=.seq items n,slots:=sl }/\R (.ok (.ret Value.notImplemented)) s):=
 .of_wp λ prog w A R s h=>by obtain⟨hp,g,d,tk,os⟩:=s;obtain⟨hl,h⟩:=h;wp_walk;exact⟨_,rfl,h⟩
theorem oC (l:Addr) (items:Array Value) (n:Nat) (u:Tok) (dd:Option Addr) (sl:Array (Option Value)) :
  Meets (Builtin.«tuple.__mul__» ⟨[.ref l,.int 1 u],[]⟩) (λ _ R s=>s.heap.get? l=some { cls:=.type "tuple",dict:=dd,data:=.seq items n,slots:=sl }/\R (.ok (.ret (.ref l))) s):=
 .of_wp λ prog w A R s h=>by
  obtain⟨hp,g,d,tk,os⟩:=s;obtain⟨hl,h⟩:=h;have c1:(items.isEmpty || (1:Int) == 1)=true:=by simp
  wp_walk
  exact⟨_,rfl,h⟩
theorem mL (l:Addr) (items:Array Value) (n:Nat) (x:Int) (u:Tok) (dd:Option Addr) (sl:Array (Option Value)) (c0:¬ (decide (x < -(2 ^ 63)) || decide (x ≥ 2 ^ 63))=true) (c1:¬ (items.isEmpty || x == 1)=true)
  (c2:¬ (decide (x<=0) || items.isEmpty)=true) (c3:¬ (items.size:Int) * x > (2 ^ 63 - 1) / 8) (c4:¬ Builtin.Tuple.tupleTooMany ((items.size:Int) * x)=true) (hsz:(List.foldl (λ x1 x2=>x1++x2) #[] (List.replicate x.toNat items)).size<=sizeLine) :
  Meets (Builtin.«tuple.__mul__» ⟨[.ref l,.int x u],[]⟩) (λ _ R s=>s.heap.get? l=some { cls:=.type "tuple",dict:=dd,data:=.seq items n,slots:=sl }/\
   R (.ok (.ret (.ref s.heap.objs.size))) { s with heap:=s.heap.push { cls:=.type "tuple",data:=.seq (List.foldl (λ x1 x2=>x1++x2) #[] (List.replicate x.toNat items)) } }):=
 .of_wp λ prog w A R s h=>by
  obtain⟨hp,g,d,tk,os⟩:=s;obtain⟨hl,h⟩:=h
  wp_walk
  rw[if_neg c0]
  wp_walk
  all_goals (try rw[if_neg c1])
  wp_walk
  all_goals (try rw[if_neg c2])
  wp_walk
  all_goals (try rw[if_neg c3])
  wp_walk
  all_goals (try rw[if_neg c4])
  wp_walk
  exact⟨_,rfl,h⟩
theorem aF.tup {K:aab}{H H':Hp}{a:Addr}{xs:List V} (e:aF H H') (h:bB K H a xs):bB K H' a xs:=by
 rcases h with (h | ⟨o,h⟩) | h
 ·exact .inl (.inl (e _ _ h))
 ·exact .inl (.inr ⟨o,e _ _ h⟩)
 ·exact .inr h
theorem aF.new {H:Hp}{p:Addr}{o:HO} (h:H p=none):aF H (upd H p o):=λ b u e=>by rw[aH (aJ e h)];exact e
section
variable {X:Cx}
def CQ (K:aab):R2:=λ x y H Q=>∃ (l:Addr) (k:Int) (xs:List V),x=.ref l/\y=.int k/\bB K H l xs/\1<=k/\k < 1000000/\xs≠[]/\xs.length<=10/\
 ∀ p H',aF H H'->bB K H' p (List.replicate k.toNat xs).flatten->Q (.ref p) H'
theorem uV:gA X (binaryOp .Mult) (CQ X.K):=by
 intro pins s σ H x y v u Q I rx ry h;obtain⟨l,k,xs,rfl,rfl,hq,h1,h2,hne,hl10,q⟩:=h;cases rx;obtain⟨t,rfl⟩:=ry;obtain⟨its,r,ht,z⟩:=I.tuple hq;have hlen:=r.length;obtain⟨⟨cls,dd,data,sl⟩,e,hc,n,hd⟩:=id ht;simp only at hc hd;subst hc hd;refine wpAny_binaryOp_repeat_ref (T := "tuple") (U := "int") (by decide) ⟨_,e,rfl⟩ (λ s'=>typeIs_int s' k t) fY F.fills_int_mul F.slot_int_rmul kB F.slot_int_index.lookup
  (call_meets F.slot_int_rmul (typeIs_int s k t) F.entry_int_rmul (F.args_int_rmul_2 _ _) (iA k t l its.toArray n dd sl) ⟨e,rfl,⟨_,e,rfl⟩,?_⟩)
 by_cases hk:k=1
 ·subst hk;refine call_meets F.slot_tuple_mul ⟨_,e,rfl⟩ F.entry_tuple_mul (F.args_tuple_mul_2 _ _) (oC l its.toArray n t dd sl) ⟨e,?_⟩;refine⟨.ref l,H,I,rfl,q l H (aF.refl H) ?_⟩;have e1:(List.replicate (1:Int).toNat xs).flatten=xs:=by simp
  rw[e1];exact hq
 ·have hne':its≠[]:=λ z=>by rw[z] at hlen;exact hne (List.eq_nil_of_length_eq_zero hlen)
  have f0:List.foldl (λ x1 x2=>x1++x2) #[] (List.replicate k.toNat its.toArray)=(List.replicate k.toNat its).flatten.toArray:=by
   have:=p7 its k.toNat [];rw[List.nil_append] at this;exact this
  have hemp:its.toArray.isEmpty=false:=by cases its with
   | nil=>exact absurd rfl hne'
   | cons a r=>rfl
  have hszN:k.toNat * its.length<=sizeLine:=by
   have a1:its.length<=10:=by omega
   have a2:k.toNat<=1000000:=by omega
   have:=Nat.mul_le_mul a2 a1;rw[sizeLine_eq];omega
  have hprod:((its.toArray.size:Nat):Int) * k<=16777216:=by
   have a1:((its.toArray.size:Nat):Int)<=10:=by rw[aah];omega
   have:=Int.mul_le_mul a1 (show k<=1000000 by omega) (by omega) (by omega);omega
  refine call_meets F.slot_tuple_mul ⟨_,e,rfl⟩ F.entry_tuple_mul (F.args_tuple_mul_2 _ _) (mL l its.toArray n k t dd sl (by simp;omega) (by rw[hemp];simp;exact hk) (by rw[hemp];simp;omega) (by omega) (by
    unfold Builtin.Tuple.tupleTooMany;rw[decide_eq_true_iff];rw[sizeLine_eq];omega) (by rw[f0,aah,vB];exact hszN)) ⟨e,?_⟩
  have I1:=I.laid (a:=s.heap.objs.size) (o:=.tup (List.replicate k.toNat xs).flatten) (h':=s.heap.push { cls:=.type "tuple",data:=.seq (List.foldl (λ x1 x2=>x1++x2) #[] (List.replicate k.toNat its.toArray)) }) (t':=s.toks)
   (λ _ _ q=>aac _ q) (aaj _) ⟨by rw[vB,hlen];exact hszN,(List.replicate k.toNat its).flatten,r.rep k.toNat,⟨_,aak _ rfl,rfl,0,by simp only [f0]⟩⟩
  exact⟨.ref _,_,I1,rfl,q _ _ (aF.new I.fresh) (bB.of aB)⟩
end
inductive D where
 | non | bl (b:Bool) | int (i:Int) | str (x:Str) | tup (ds:List D)
mutual
def Is (K:aab) (H:Hp):D->V->Prop
 | .non,v=>v=.non
 | .bl b,v=>v=.bl b
 | .int i,v=>v=.int i
 | .str x,v=>v=.str x
 | .tup ds,v=>∃ a xs,v=.ref a/\bB K H a xs/\IsL K H ds xs
def IsL (K:aab) (H:Hp):List D->List V->Prop
 | [],xs=>xs=[]
 | d::ds,xs=>∃ x r,xs=x::r/\Is K H d x/\IsL K H ds r
end
def bC (K:aab) (H H':Hp):Prop:=∀ a xs,bB K H a xs->bB K H' a xs
theorem bC.refl {K:aab} (H:Hp):bC K H H:=λ _ _ h=>h
theorem bC.trans {K:aab}{H H1 H2:Hp} (a:bC K H H1) (b:bC K H1 H2):bC K H H2:=λ c xs h=>b c xs (a c xs h)
theorem aF.ts {K:aab}{H H':Hp} (e:aF H H'):bC K H H':=λ _ _ h=>e.tup h
mutual
theorem Is.mono {K:aab}{H H':Hp} (t:bC K H H'):∀ (d:D) (v:V),Is K H d v->Is K H' d v
 | .non,_,h=>h
 | .bl _,_,h=>h
 | .int _,_,h=>h
 | .str _,_,h=>h
 | .tup ds,v,h=>by
  rw[Is] at h ⊢;obtain⟨a,xs,e,q,l⟩:=h;exact⟨a,xs,e,t a xs q,IsL.mono t ds xs l⟩
theorem IsL.mono {K:aab}{H H':Hp} (t:bC K H H'):∀ (ds:List D) (xs:List V),IsL K H ds xs->IsL K H' ds xs
 | [],xs,h=>h
 | d::ds,xs,h=>by
  rw[IsL] at h ⊢;obtain⟨x,r,e,hx,hr⟩:=h;exact⟨x,r,e,Is.mono t d x hx,IsL.mono t ds r hr⟩
end
theorem IsL.length {K:aab}{H:Hp}:∀ {ds:List D}{xs:List V},IsL K H ds xs->xs.length=ds.length
 | [],xs,h=>by rw[IsL] at h;subst h;rfl
 | d::ds,xs,h=>by
  rw[IsL] at h;obtain⟨x,r,rfl,_,hr⟩:=h;rw[aba,aba,IsL.length hr]
theorem IsL.get {K:aab}{H:Hp}:∀ {ds:List D}{xs:List V}{i:Nat}{d:D},IsL K H ds xs->ds[i]? = some d->∃ x,xs[i]? = some x/\Is K H d x
 | [],_,_,_,_,e=>by simp at e
 | d::ds,xs,0,d',h,e=>by
  rw[IsL] at h;obtain⟨x,r,rfl,hx,hr⟩:=h;simp at e;subst e;exact⟨x,rfl,hx⟩
 | d::ds,xs,i+1,d',h,e=>by
  rw[IsL] at h;obtain⟨x,r,rfl,hx,hr⟩:=h;obtain⟨y,h1,h2⟩:=IsL.get hr (i:=i) (by simpa using e);exact⟨y,by simpa using h1,h2⟩
theorem IsL.get' {K:aab}{H:Hp}{ds:List D}{xs:List V}{i:Nat}{x:V} (h:IsL K H ds xs) (e:xs[i]? = some x):∃ d,ds[i]? = some d/\Is K H d x:=by
 have hl:=h.length;have hi:i < ds.length:=by rw[<- hl];exact (aaf.mp e).1
 obtain⟨y,h1,h2⟩:=h.get (i:=i) (d:=ds[i]) (by simp [hi]);rw[e] at h1;cases h1;exact⟨ds[i],by simp [hi],h2⟩
theorem IsL.snoc {K:aab}{H:Hp}{d:D}{x:V} (hd:Is K H d x):∀ {ds:List D}{xs:List V},IsL K H ds xs->IsL K H (ds++[d]) (xs++[x])
 | [],xs,h=>by
  rw[IsL] at h;subst h;show IsL K H [d] [x];rw[IsL];exact⟨x,[],rfl,hd,by rw[IsL]⟩
 | d'::ds,xs,h=>by
  rw[IsL] at h;obtain⟨y,r,rfl,hy,hr⟩:=h;show IsL K H (d'::(ds++[d])) (y::(r++[x]));rw[IsL];exact⟨y,r++[x],rfl,hy,IsL.snoc hd hr⟩
theorem IsL.ints {K:aab}{H:Hp}:∀ {ns:List Int}{xs:List V},IsL K H (ns.map D.int) xs->xs=ns.map V.int
 | [],xs,h=>by rw[ack,IsL] at h;exact h
 | n::ns,xs,h=>by
  rw[aap,IsL] at h;obtain⟨x,r,rfl,hx,hr⟩:=h;rw[Is] at hx;rw[hx,IsL.ints hr,aap]
theorem IsL.of_ints {K:aab}{H:Hp}:∀ (ns:List Int),IsL K H (ns.map D.int) (ns.map V.int)
 | []=>by rw[ack,ack,IsL]
 | n::ns=>by
  rw[aap,aap,IsL];exact⟨_,_,rfl,by rw[Is],IsL.of_ints ns⟩
theorem IsL.bools {K:aab}{H:Hp}:∀ {ns:List Bool}{xs:List V},IsL K H (ns.map D.bl) xs->xs=ns.map V.bl
 | [],xs,h=>by rw[ack,IsL] at h;exact h
 | n::ns,xs,h=>by
  rw[aap,IsL] at h;obtain⟨x,r,rfl,hx,hr⟩:=h;rw[Is] at hx;rw[hx,IsL.bools hr,aap]
theorem IsL.of_bools {K:aab}{H:Hp}:∀ (ns:List Bool),IsL K H (ns.map D.bl) (ns.map V.bl)
 | []=>by rw[ack,ack,IsL]
 | n::ns=>by
  rw[aap,aap,IsL];exact⟨_,_,rfl,by rw[Is],IsL.of_bools ns⟩
section
variable {X:Cx}{pins:List (Addr×Obj)}{σ:St}{H:Hp}{s:Shared}
end
section
variable {X:Cx}
def DZ:V->List V->Hp->VK->Prop:=λ x vs H Q=>∃ (l:Addr) (xs:List V) (y:V) (j:Nat),x=.ref l/\vs=[y]/\H l=some (.lst xs)/\eY y=true/\xs.all eY=true/\j < xs.length/\(∀ z,xs[j]? = some z->sD z y=true)/\(∀ i z,i < j->xs[i]? = some z->sD z y=false)/\Q (.int j) H
theorem nK:MtM X "list.index" DZ:=by
 intro pins s σ H x vs v us Q I rx rv h;obtain⟨l,xs,y,j,rfl,rfl,hH,fy,fx,hj,h1,h2,q⟩:=h;cases rx;obtain⟨u,rfl,ru⟩:=rv.one;obtain⟨z,its,n,r,hl,e⟩:=I.lstM hH;have key:∀ i (hi:i < its.length),∃ x,xs[i]? = some x/\bA x its[i]/\eY x=true:=λ i hi=>by
  have hx:xs[i]? = some xs[i]:=by simp [show i < xs.length by omega]
  obtain⟨w',h1,h2⟩:=r.get hx;have:its[i]? = some its[i]:=by simp [hi]
  rw[this] at h1;cases h1;exact⟨_,hx,h2,(aca.mp fx) _ (acf _)⟩
 refine call_meets F.slot_list_index ⟨_,e,rfl⟩ F.entry_list_index (F.args_list_index_2 _ _)
  (SeqAt.list_indexAt l its.toArray n none #[] u (qX y) j (by rw[aah];omega) (by rw[sizeLine_eq] at z;omega) ?_ ?_) ⟨e,λ w' hw=>?_,⟨.int j,H,I.tok _,⟨_,rfl⟩,q⟩⟩
 ·obtain⟨x,hx,rx,fx'⟩:=key j (by omega);have:=qL (x:=y) rx fx';show qX y its[j]=true;rw[this];exact h1 x hx
 ·intro i hi hlt;have hi':i < its.length:=by simpa using hi
  obtain⟨x,hx,rx,fx'⟩:=key i hi';have:=qL (x:=y) rx fx';show qX y its[i]=false;rw[this];exact h2 i x hlt hx
 ·exact fZ ru fy r fx w' (by simpa using hw)
end
structure Callee (P:Program) (w:World) (K:aab) (mg:Str->Option Value) (base:Heap) (x:Str) (ps:List Str) (k:Nat) (sp:Sp) (f:Addr) (fd:FuncData):Prop where
 ok:FnOk P w K mg base gX k f fd ps sp
 mg:mg x=some (.ref f)
 kp:PySem.W.keepIn K (.ref f)=true
 bd:oA K fd ps []
theorem dB {X:Cx}{x:Str}{ps:List Str}{k n:Nat}{sp:Sp}{f:Addr}{fd:FuncData}{e:Expr}{es:List Expr}{t:TA}{p pos:Pos} (G:Callee X.prog X.w X.K X.mg X.base x ps k sp f fd) (hr:Room n X.A) (ha:PA X (e::es) t) (hg:Gl X x:=by with_unfolding_all rfl) (hle:k<=n:=by decide)
  (hdb:(x == ("__debug__" : Str))=false:=by decide) (he:starEach (e::es) X.env=(false,eval e X.env)::starEach es X.env:=by with_unfolding_all rfl) (hpl:(backTo pos (starEach es X.env)).any (·.1)=false:=by with_unfolding_all rfl) :
  PE X (.Call (.Name x p) (e::es) [] pos) (lJ sp [] E0 t):=pT G.ok (hr.mono hle) hg G.mg G.kp G.bd .nil GB ha hdb he hpl
theorem kN:bootBuiltins "isinstance" = some (.builtin "isinstance"):=by decide +kernel
def dJ (t:Addr) (H H':Hp):Prop:=∀ b o,b≠t->H b=some o->H' b=some o
theorem dJ.refl {t:Addr} (H:Hp):dJ t H H:=λ _ _ _ h=>h
theorem dJ.trans {t:Addr}{H H1 H2:Hp} (a:dJ t H H1) (b:dJ t H1 H2):dJ t H H2:=λ c o hc h=>b c o hc (a c o hc h)
theorem aF.but {t:Addr}{H H':Hp} (a:aF H H'):dJ t H H':=λ b o _ h=>a b o h
theorem dJ.upd {t:Addr}{H:Hp}{o:HO}:dJ t H (upd H t o):=λ b u hb h=>by rw[aH hb];exact h
theorem dJ.ts {K:aab}{t:Addr}{H H':Hp} (a:dJ t H H') (hm:oM (H t)):bC K H H':=by
 intro b xs h;have ne:∀ {o:HO},H b=some o->¬ oM (some o)->b≠t:=λ e n z=>by rw[<- z,e] at hm;exact n hm
 rcases h with (h | ⟨o,h⟩) | h
 ·exact .inl (.inl (a _ _ (ne h (λ z=>z)) h))
 ·exact .inl (.inr ⟨o,a _ _ (ne h (λ z=>z)) h⟩)
 ·exact .inr h
theorem dJ.free {t l:Addr}{H H':Hp} (a:dJ t H H') (hl:l≠t) (h:H' l=none):H l=none:=by
 cases q:H l with
 | none=>rfl
 | some o=>rw[a l o hl q] at h;cases h
def CU (K:aab):V->V->Hp->VK->Prop:=λ o i H Q=>∃ (p:Addr) (xs:List V) (k:Int) (v:V),o=.ref p/\i=.int k/\bF K H p xs/\0<=k/\k < 2 ^ 63/\xs[k.toNat]? = some v/\Q v H
theorem A0 {X:Cx}:EY X (CU X.K):=by
 intro pins s σ H o i ov iv Q I ro ri h;obtain⟨p,xs,k,v,rfl,rfl,hq,h0,h1,hx,q⟩:=h;cases ro;obtain⟨t,rfl⟩:=ri;obtain⟨its,r,pl,hz⟩:=I.list hq;obtain⟨w',ew,rw'⟩:=r.get hx;exact wpAny_getItem_list pl.isList h0 h1 (by simpa using ew) ⟨v,H,I,rw',q⟩
theorem m8 {n:Nat}{k:Int} (h0:0<=k) (h1:k < n):zM n k=some k.toNat:=by
 unfold zM;rw[if_pos h0,if_pos h1]
theorem mC {ap:Type}{xs:List ap}{k:Int}{v:ap} (h0:0<=k) (h:xs[k.toNat]? = some v):AE xs k=some v:=by
 obtain⟨j,rfl⟩:=Int.eq_ofNat_of_zero_le h0;exact bW (by simpa using h)
theorem Is.tupOf {K:aab}{H:Hp}{ds:List D}{a:Addr}{xs:List V} (q:bB K H a xs) (l:IsL K H ds xs):Is K H (.tup ds) (.ref a):=by
 rw[Is];exact⟨a,xs,rfl,q,l⟩
theorem Is.un {K:aab}{H:Hp}{ds:List D}{v:V} (h:Is K H (.tup ds) v):∃ a xs,v=.ref a/\bB K H a xs/\IsL K H ds xs:=by
 rw[Is] at h;exact h
theorem IsL.un {K:aab}{H:Hp}{d:D}{ds:List D}{xs:List V} (h:IsL K H (d::ds) xs):∃ x r,xs=x::r/\Is K H d x/\IsL K H ds r:=by
 rw[IsL] at h;exact h
theorem IsL.un0 {K:aab}{H:Hp}{xs:List V} (h:IsL K H [] xs):xs=[]:=by
 rw[IsL] at h;exact h
theorem IsL.cons {K:aab}{H:Hp}{d:D}{ds:List D}{x:V}{xs:List V} (hd:Is K H d x) (h:IsL K H ds xs):IsL K H (d::ds) (x::xs):=by
 rw[IsL];exact⟨x,xs,rfl,hd,h⟩
theorem IsL.nil {K:aab}{H:Hp}:IsL K H [] []:=by rw[IsL]
theorem Is.i {K:aab}{H:Hp} (i:Int):Is K H (.int i) (.int i):=by rw[Is]
theorem Is.b {K:aab}{H:Hp} (i:Bool):Is K H (.bl i) (.bl i):=by rw[Is]
theorem Is.s {K:aab}{H:Hp} (i:Str):Is K H (.str i) (.str i):=by rw[Is]
theorem Is.n {K:aab}{H:Hp}:Is K H .non .non:=by rw[Is]
theorem Is.ui {K:aab}{H:Hp}{i:Int}{v:V} (h:Is K H (.int i) v):v=.int i:=by rw[Is] at h;exact h
theorem Is.ub {K:aab}{H:Hp}{i:Bool}{v:V} (h:Is K H (.bl i) v):v=.bl i:=by rw[Is] at h;exact h
theorem Is.us {K:aab}{H:Hp}{i:Str}{v:V} (h:Is K H (.str i) v):v=.str i:=by rw[Is] at h;exact h
theorem Is.u0 {K:aab}{H:Hp}{v:V} (h:Is K H .non v):v=.non:=by rw[Is] at h;exact h
end L2
namespace Tw
open PySem L2
structure Vs where
 size:Int
 brim:Int
 outs:List (Option Int×Int)
 holds:Bool
 spill:Option Int
 acts:List (Str×Int)
abbrev vU:=Int×Int×Bool
structure Net where
 vs:List Vs
 sps:List vU
def AO:Option Int->D
 | none=>.non
 | some i=>.int i
def j5:Option Int->V
 | none=>.non
 | some i=>.int i
def outD (o:Option Int×Int):D:=.tup [AO o.1,.int o.2]
def uB (a:Str×Int):D:=.tup [.str a.1,.int a.2]
def r8 (v:Vs):D:=.tup [.int v.size,.int v.brim,.tup (v.outs.map outD),.bl v.holds,AO v.spill,.tup (v.acts.map uB)]
def CM (s:vU):D:=.tup [.int s.1,.int s.2.1,.bl s.2.2]
def fB (n:Net):D:=.tup [.tup (n.vs.map r8),.tup (n.sps.map CM)]
def sO (held coming:List Int) (doors:List Bool):D:=.tup [.tup (held.map D.int),.tup (coming.map D.int),.tup (doors.map D.bl)]
theorem Is.tg {K:aab}{H:Hp}{t:Option Int}{v:V} (h:Is K H (AO t) v):v=j5 t:=by
 cases t with
 | none=>exact h.u0
 | some i=>exact h.ui
theorem Is.tgOf {K:aab}{H:Hp} (t:Option Int):Is K H (AO t) (j5 t):=by
 cases t with
 | none=>exact Is.n
 | some i=>exact Is.i i
structure OutOk (n:Nat) (o:Option Int×Int):Prop where
 tg:∀ t,o.1=some t->0<=t/\t < n
 lo:1<=o.2
 hi:o.2<=60
structure ActOk (m:Nat) (a:Str×Int):Prop where
 word:a.1 = "open" \/ a.1 = "shut" \/ a.1 = "turn"
 lo:0<=a.2
 hi:a.2 < m
structure VOk (n m:Nat) (v:Vs):Prop where
 size:1<=v.size
 ne:v.outs≠[]
 o3:v.outs.length<=3
 outs:∀ o∈v.outs,OutOk n o
 spill:∀ t,v.spill=some t->0<=t/\t < n
 a3:v.acts.length<=3
 acts:∀ a∈v.acts,ActOk m a
structure NetOk (net:Net):Prop where
 lo:1<=net.vs.length
 hi:net.vs.length<=12
 sp:net.sps.length<=12
 vs:∀ v∈net.vs,VOk net.vs.length net.sps.length v
 sps:∀ s∈net.sps,0<=s.1/\s.1 < net.vs.length
def whole (outs:List (Option Int×Int)):Int:=(outs.map (·.2)).sum
theorem oN {n:Nat}:∀ {outs:List (Option Int×Int)},outs≠[]->(∀ o∈outs,OutOk n o)->1<=whole outs
 | [],h,_=>absurd rfl h
 | o::r,_,h=>by
  have h1:=(h o abi).lo;have h2:0<=whole r:=by
   clear h1;have:∀ (r:List (Option Int×Int)),(∀ o∈r,OutOk n o)->0<=whole r:=by
    intro r
    induction r with
    | nil=>intro _;exact Int.le_refl _
    | cons o r ih=>
     intro h;have h1:=(h o abi).lo;have h2:=ih λ o ho=>h o (aau _ ho);show 0<=o.2+whole r;omega
   exact this r λ o ho=>h o (aau _ ho)
  show 1<=o.2+whole r;omega
theorem mG {n:Nat}:∀ {outs:List (Option Int×Int)},(∀ o∈outs,OutOk n o)->whole outs<=60 * outs.length
 | [],_=>Int.le_refl _
 | o::r,h=>by
  have h1:=(h o abi).hi;have h2:=mG λ o ho=>h o (aau _ ho);show o.2+whole r<=_;rw[aba];omega
def cK (k:Option Int):List (Option Int×Int)->Int
 | []=>0
 | g::r=>(if g.1=k then g.2 else 0)+cK k r
theorem j6 (k:Option Int):∀ (a b:List (Option Int×Int)),cK k (a++b)=cK k a+cK k b
 | [],b=>by simp [cK]
 | g::r,b=>by
  show (if g.1=k then g.2 else 0)+cK k (r++b)=(if g.1=k then g.2 else 0)+cK k r+cK k b;rw[j6 k r b];omega
def b0 (v:Vs) (has:Int):Int:=min has v.brim
def eR (v:Vs) (has:Int):Bool:=decide (v.size<=b0 v has)
def dX (v:Vs) (here:Int):List (Option Int×Int):=v.outs.map λ o=>(o.1,here / whole v.outs * o.2)
def eF (v:Vs) (has:Int):List (Option Int×Int):=
 (v.spill,has - b0 v has)::(if eR v has=true then dX v (b0 v has)++(if v.holds=true then [] else [(none,b0 v has % whole v.outs)]) else [])
def eE (v:Vs) (has:Int):Int:=if eR v has=true then (if v.holds=true then b0 v has % whole v.outs else 0) else b0 v has
theorem w4 {n m:Nat}{v:Vs} (ok:VOk n m v) (has:Int):(eF v has).length<=5:=by
 unfold eF dX;have:=ok.o3
 split
 ·split <;> simp <;> omega
 ·simp
def nV (has:List Int) (s:vU) (d:Bool):List Int:=if d=true then has.set s.1.toNat (has.getD s.1.toNat 0+s.2.1) else has
def dN:List Int->List vU->List Bool->List Int
 | has,s::ss,d::ds=>dN (nV has s d) ss ds
 | has,_,_=>has
def fC:List Int->List Int->List Int->List Int
 | a::as,b::bs,c::cs=>(a+b+c)::fC as bs cs
 | _,_,_=>[]
def aL (net:Net) (held coming poured:List Int) (doors:List Bool):List Int:=dN (fC held coming poured) net.sps doors
def bO:List Vs->List Int->List (Option Int×Int)
 | v::vs,h::hs=>eF v h++bO vs hs
 | _,_=>[]
def cW:List Vs->List Int->List Int
 | v::vs,h::hs=>eE v h::cW vs hs
 | _,_=>[]
def aV:Nat->List Vs->List Int->List Nat
 | i,v::vs,h::hs=>if eR v h=true then i::aV (i+1) vs hs else aV (i+1) vs hs
 | _,_,_=>[]
def uC (doors:List Bool) (a:Str×Int):List Bool:=doors.set a.2.toNat (if a.1 = "open" then true else if a.1 = "turn" then !(doors.getD a.2.toNat false) else false)
def dC (doors:List Bool) (as:List (Str×Int)):List Bool:=as.foldl uC doors
def bP (vs:List Vs) (doors:List Bool) (tip:List Nat):List Bool:=tip.foldl (λ ds i=>match vs[i]? with | some v=>dC ds v.acts | none=>ds) doors
def cP (n:Nat) (goes:List (Option Int×Int)):List Int:=(List.range n).map λ (k:Nat)=>cK (some (k:Int)) goes
structure Tick where
 held:List Int
 coming:List Int
 doors:List Bool
 tip:List Nat
 ground:Int
def dQ (net:Net) (held coming poured:List Int) (doors:List Bool):Tick:=
 let hs:=aL net held coming poured doors
 ⟨cW net.vs hs,cP net.vs.length (bO net.vs hs),bP net.vs doors (aV 0 net.vs hs),aV 0 net.vs hs,cK none (bO net.vs hs)⟩
def FM (t:Tick):D:=.tup [sO t.held t.coming t.doors,.tup (t.tip.map λ (i:Nat)=>D.int (i:Int)),.int t.ground]
end Tw
namespace L2
open PySem PySem.Spec PyProof.Rows TwZ
section
variable {g:TG}{tc:TT}{te:TE}{fr:List (Option Nat)}{σ:St}{H1:Hp}{Q:Addr->Hp->Prop}
theorem i9 {a:Addr}{xs:List V} (Pv:Addr->Nat->List V->St->Hp->Prop) (hq:∀ D i ys σ H,Pv D i ys σ H->bB K H a xs)
  (h0:∀ D,H1 D=none->Pv D 0 [] (oI fr σ) (upd H1 D (.lst []))) (hstop:∀ D ys Z H',Pv D xs.length ys Z H'->Q D H')
  (hgo:∀ D i x ys Z H',xs[i]? = some x->Pv D i ys Z H'->g x Z H' λ am H3=>tc am H3 λ b H4=>
    if b=true then te am H4 λ y H5=>H5 D=some (.lst ys)/\ys.length < sizeLine/\Pv D (i+1) (ys++[y]) am (upd H5 D (.lst (ys++[y])))
    else Pv D (i+1) ys am H4):gK (FI K a) g tc te fr σ H1 Q:=by
 refine nM (n:=xs.length) Pv h0 (λ D ys Z H' p=>⟨⟨xs,hq D _ ys Z H' p,aaj _⟩,hstop D ys Z H' p⟩) λ D i ys Z H' hi p=>⟨⟨xs,xs[i],hq D _ ys Z H' p,by simp [hi]⟩,λ x H2 y=>?_⟩;obtain⟨e,y⟩:=y;subst e;exact hgo D i x ys Z _ (y xs (hq D _ ys Z _ p)) p
theorem gJ {a:Addr}{xs:List V} (Pv:Addr->Nat->List V->St->Hp->Prop) (hq:∀ D i ys σ H,Pv D i ys σ H->bF K H a xs)
  (h0:∀ D,H1 D=none->Pv D 0 [] (oI fr σ) (upd H1 D (.lst []))) (hstop:∀ D ys Z H',Pv D xs.length ys Z H'->Q D H')
  (hgo:∀ D i x ys Z H',xs[i]? = some x->Pv D i ys Z H'->g x Z H' λ am H3=>tc am H3 λ b H4=>
    if b=true then te am H4 λ y H5=>H5 D=some (.lst ys)/\ys.length < sizeLine/\Pv D (i+1) (ys++[y]) am (upd H5 D (.lst (ys++[y])))
    else Pv D (i+1) ys am H4):gK (FD K a) g tc te fr σ H1 Q:=by
 refine nM (n:=xs.length) Pv h0 (λ D ys Z H' p=>⟨⟨xs,hq D _ ys Z H' p,aaj _⟩,hstop D ys Z H' p⟩) λ D i ys Z H' hi p=>⟨⟨xs,xs[i],hq D _ ys Z H' p,by simp [hi]⟩,λ x H2 y=>?_⟩;obtain⟨e,y⟩:=y;subst e;exact hgo D i x ys Z _ (y xs (hq D _ ys Z _ p)) p
theorem g6 {n:Nat} (Pv:Addr->Nat->List V->St->Hp->Prop)
  (h0:∀ D,H1 D=none->Pv D 0 [] (oI fr σ) (upd H1 D (.lst []))) (hstop:∀ D ys Z H',Pv D n ys Z H'->Q D H')
  (hgo:∀ D i ys Z H',i < n->Pv D i ys Z H'->g (.int (i:Int)) Z H' λ am H3=>tc am H3 λ b H4=>
    if b=true then te am H4 λ y H5=>H5 D=some (.lst ys)/\ys.length < sizeLine/\Pv D (i+1) (ys++[y]) am (upd H5 D (.lst (ys++[y])))
    else Pv D (i+1) ys am H4):gK (FC 0 n) g tc te fr σ H1 Q:=by
 refine nM (n:=n) Pv h0 (λ D ys Z H' p=>⟨aaj _,hstop D ys Z H' p⟩) λ D i ys Z H' hi p=>⟨hi,λ x H2 y=>?_⟩;obtain⟨e,y⟩:=y;subst e y;rw[Int.zero_add];exact hgo D i ys Z _ hi p
theorem BU {t1 t2 t3:Bool}{a1 a2 a3:Addr}{xs ys zs:List V}{n:Nat} (h1:xs.length=n) (h2:ys.length=n) (h3:zs.length=n) (Pv:Addr->Nat->List V->St->Hp->Prop)
  (hq:∀ D i r σ H,Pv D i r σ H->gW K H t1 a1 xs/\gW K H t2 a2 ys/\gW K H t3 a3 zs)
  (h0:∀ D,H1 D=none->Pv D 0 [] (oI fr σ) (upd H1 D (.lst []))) (hstop:∀ D r Z H',Pv D n r Z H'->Q D H')
  (hgo:∀ D i x y z r Z H' T,xs[i]? = some x->ys[i]? = some y->zs[i]? = some z->Pv D i r Z H'->H' T=none->g (.ref T) Z (upd H' T (.tup [x,y,z])) λ am H3=>tc am H3 λ b H4=>
    if b=true then te am H4 λ y H5=>H5 D=some (.lst r)/\r.length < sizeLine/\Pv D (i+1) (r++[y]) am (upd H5 D (.lst (r++[y])))
    else Pv D (i+1) r am H4):gK (FA K t1 t2 t3 a1 a2 a3) g tc te fr σ H1 Q:=by
 refine nM (n:=n) Pv h0 (λ D r Z H' p=>?_) λ D i r Z H' hi p=>?_
 ·obtain⟨q1,q2,q3⟩:=hq D _ r Z H' p;exact⟨⟨xs,ys,zs,q1,q2,q3,.inl (by omega)⟩,hstop D r Z H' p⟩
 ·obtain⟨q1,q2,q3⟩:=hq D _ r Z H' p;refine⟨⟨xs,ys,zs,xs[i]'(by omega),ys[i]'(by omega),zs[i]'(by omega),q1,q2,q3,by simp,by simp,by simp⟩,?_⟩;rintro v H2 ⟨T,x,y,z,hT,rfl,e1,e2,e3,rfl⟩;exact hgo D i x y z r Z H' T (e1 xs q1) (e2 ys q2) (e3 zs q3) p hT
end
section
variable {g:TG}{tb:TS}{D:Ends}{σ:St}{H:Hp}
abbrev vW (J:It) (g:TG) (tb:TS) (D:Ends) (σ:St) (H:Hp):Prop:=
 ∃ W:Nat->Nat->St->Hp->Prop,(∃ m,W 0 m σ H)/\∀ i m σ H,W i m σ H->
   (J.stop i H/\D.nx σ H)\/(J.go i H/\∃ N:St->Hp->Prop,(∀ Z H',N Z H'->∃ m',m' < m/\W (i+1) m' Z H')/\∀ x H',J.yld i H x H'->g x σ H' λ bf H2=>tb { D with nx:=N,ct:=N,bk:=D.nx } bf H2)
theorem A3 {t1 t2:Bool}{a1 a2:Addr}{xs ys:List V}{n:Nat} (h1:xs.length=n) (h2:ys.length=n) (Pv:Nat->St->Hp->Prop) (hq:∀ i σ H,Pv i σ H->gW K H t1 a1 xs/\gW K H t2 a2 ys)
  (h0:Pv 0 σ H) (hstop:∀ σ H,Pv n σ H->D.nx σ H)
  (hgo:∀ i x y σ H T,xs[i]? = some x->ys[i]? = some y->Pv i σ H->H T=none->g (.ref T) σ (upd H T (.tup [x,y])) λ bf H2=>tb { D with nx:=Pv (i+1),ct:=Pv (i+1),bk:=D.nx } bf H2):vW (CH K t1 t2 a1 a2) g tb D σ H:=by
 refine vJ (n:=n) Pv h0 (λ σ H p=>?_) λ i σ H hi p=>?_
 ·obtain⟨q1,q2⟩:=hq _ σ H p;exact⟨⟨xs,ys,q1,q2,.inl (by omega)⟩,hstop σ H p⟩
 ·obtain⟨q1,q2⟩:=hq _ σ H p;refine⟨⟨xs,ys,xs[i]'(by omega),ys[i]'(by omega),q1,q2,by simp,by simp⟩,?_⟩;rintro v H2 ⟨T,x,y,hT,rfl,e1,e2,rfl⟩;exact hgo i x y σ H T (e1 xs q1) (e2 ys q2) p hT
theorem A4 {t:Bool}{a:Addr}{xs:List V} (Pv:Nat->St->Hp->Prop) (hq:∀ i σ H,Pv i σ H->gW K H t a xs)
  (h0:Pv 0 σ H) (hstop:∀ σ H,Pv xs.length σ H->D.nx σ H)
  (hgo:∀ i x σ H T,xs[i]? = some x->Pv i σ H->H T=none->g (.ref T) σ (upd H T (.tup [.int (i:Int),x])) λ bf H2=>tb { D with nx:=Pv (i+1),ct:=Pv (i+1),bk:=D.nx } bf H2):vW (Ite K t a) g tb D σ H:=by
 refine vJ (n:=xs.length) Pv h0 (λ σ H p=>?_) λ i σ H hi p=>?_
 ·exact⟨⟨xs,hq _ σ H p,aaj _⟩,hstop σ H p⟩
 ·refine⟨⟨xs,xs[i],hq _ σ H p,by simp [hi]⟩,?_⟩;rintro v H2 ⟨T,x,hT,rfl,e1,rfl⟩;exact hgo i x σ H T (e1 xs (hq _ σ H p)) p hT
end
theorem mF {σ:St}{H:Hp}{A B:Hp->Prop} (h:A H):DJ σ H λ b H4=>if b=true then A H4 else B H4:=by
 show if true=true then A H else B H
 rw[if_pos rfl];exact h
theorem dU {i:Nat}{v:V}{σ:St}{H:Hp}{A B:St->Hp->Prop} (h:A (σ.set i (some v)) H):cX i v σ H λ am H3=>DJ am H3 λ b H4=>if b=true then A am H4 else B am H4:=mF (σ:=σ.set i (some v)) (A:=A (σ.set i (some v))) (B:=B (σ.set i (some v))) h
theorem aF.put {H H':Hp}{p:Addr}{o:HO} (a:aF H H') (h:H p=none):aF H (upd H' p o):=λ b u e=>by rw[aH (aJ e h)];exact a b u e
theorem bC.put {K:aab}{H H':Hp}{p:Addr}{o:HO} (a:bC K H H') (h:H' p=none\/oM (H' p)):bC K H (upd H' p o):=a.trans (by
 rcases h with h | h
 ·exact (aF.new h).ts
 ·exact dJ.ts dJ.upd h)
def DB (i j:Int):Prop:=0 < j/\j < 2 ^ 200
theorem yT {X:Cx}:gA X (binaryOp .FloorDiv) (rI DB λ i j=>.int (i / j)):=GE λ i j _ _ _ _ _ hc q=>by
 have h1:(0:Int) < j:=hc.1;have h2:j < 2 ^ 200:=hc.2;refine floordiv_int (by omega) (by rw[Int.fdiv_eq_ediv_of_nonneg i (by omega)];exact q) (.inl (PyProof.noPylong_of_log2 ?_));have h0:j.natAbs≠0:=by omega
 have h3:j.natAbs < 2 ^ 200:=by omega
 have:=(Nat.log2_lt h0).mpr h3;omega
theorem lG:bootBuiltins "int" = some (.type "int"):=by decide +kernel
theorem bR:bootBuiltins "tuple" = some (.type "tuple"):=by decide +kernel
theorem kM:bootBuiltins "list" = some (.type "list"):=by decide +kernel
theorem vQ:bootBuiltins "bool" = some (.type "bool"):=by decide +kernel
section
variable {X:Cx}{tg:Expr}{pos:Pos}
theorem aX {es:List Expr}{k:Nat}{t:AL}{n:Nat} (hK:X.K=K) (hc:X.calm=true) (h:EX X es t)
  (hn:(assignEach es X.env).length=n:=by with_unfolding_all rfl) (hst:(assignEach es X.env).findIdx? (·.1)=none:=by with_unfolding_all rfl):PG X (.Tuple es k pos) (EO K n t):=by
 subst hK;exact E2 hc h hn hst
theorem BY (hK:X.K=K):AQ X (sP K):=by subst hK;exact EK
def DY (K:aab):List V->Hp->VK->Prop:=λ xs H Q=>∃ p ys,xs=[.ref p]/\(bF K H p ys\/bB K H p ys)/\Q (.int ys.length) H
theorem xH (hK:X.K=K):dI X (.builtin "len") (DY K):=by subst hK;exact qR
theorem eA (hK:X.K=K) (hc:X.calm=true):dI X (.builtin "sum") (FU K):=by subst hK;exact xC hc
theorem iV (hK:X.K=K):dI X (.builtin "isinstance") (G0 K):=by subst hK;exact AC
def DW (K:aab):List V->Hp->VK->Prop:=λ xs H Q=>∃ p ys,xs=[.ref p]/\((bF K H p ys/\∀ l,H l=none->Q (.ref l) (upd H l (.tup ys)))\/(bB K H p ys/\Q (.ref p) H))
theorem bL (hK:X.K=K):dI X (.type "tuple") (DW K):=by subst hK;exact oK
def DX (K:aab):List V->Hp->VK->Prop:=λ xs H Q=>∃ p ys,xs=[.ref p]/\(bF K H p ys\/bB K H p ys)/\∀ l,H l=none->Q (.ref l) (upd H l (.lst ys))
theorem iU (hK:X.K=K):dI X (.type "list") (DX K):=by subst hK;exact qQ
theorem dH {l:Expr}{tl:TE} (hK:X.K=K) (hl:PE X l tl):PI X tg l (D6 K tl):=by subst hK;exact BF hl
theorem dS {l:Expr}{tl:TE} (hK:X.K=K) (hl:PE X l tl):PI X tg l (GI K tl):=by subst hK;exact E1 hl
theorem yL {a:Expr}{ta:TA}{p:Pos} (hK:X.K=K) (hg:Gl X "enumerate") (hm:X.mg "enumerate" = none) (ha:PA X [a] ta) (hs:starEach [a] X.env=[(false,eval a X.env)]:=by with_unfolding_all rfl):PI X tg (.Call (.Name "enumerate" p) [a] [] pos) (D7 K ta):=by
 subst hK;exact BG hg hm ha hs
theorem rH {a b:Expr}{ta:TA}{p:Pos} (hK:X.K=K) (hg:Gl X "zip") (hm:X.mg "zip" = none) (ha:PA X [a,b] ta) (hs:starEach [a,b] X.env=[(false,eval a X.env),(false,eval b X.env)]:=by with_unfolding_all rfl) (hs2:starEach [b] X.env=[(false,eval b X.env)]:=by with_unfolding_all rfl) :
  PI X tg (.Call (.Name "zip" p) [a,b] [] pos) (D5 K ta):=by subst hK;exact BE hg hm ha hs hs2
theorem yK {a b c:Expr}{ta:TA}{p:Pos} (hK:X.K=K) (hg:Gl X "zip") (hm:X.mg "zip" = none) (ha:PA X [a,b,c] ta) (hs:starEach [a,b,c] X.env=[(false,eval a X.env),(false,eval b X.env),(false,eval c X.env)]:=by with_unfolding_all rfl)
  (hs2:starEach [b,c] X.env=[(false,eval b X.env),(false,eval c X.env)]:=by with_unfolding_all rfl):PI X tg (.Call (.Name "zip" p) [a,b,c] [] pos) (D4 K ta):=by subst hK;exact BD hg hm ha hs hs2
theorem nB (hK:X.K=K):gA X (binaryOp .Mult) (CQ K):=by subst hK;exact uV
theorem wX (hK:X.K=K):EY X (CU K):=by subst hK;exact A0
theorem d8 {o e:Expr}{es:List Expr}{to:TE}{t:TA}{name:Str}{apos cpos:Pos}{T id:String}{r:V->List V->Hp->VK->Prop} (hK:X.K=K)
  (pa:PlainAttrs T) (slot:Slot T name id) (hty:typeOf (.builtin id)=pure (.type "method_descriptor")) (hm:MtR X id r) (ho:PE X o to) (ha:PA X (e::es) t)
  (hbase:attributeBase o name X.env (eval o X.env)=eval o X.env:=by with_unfolding_all rfl)
  (hfew:((backTo cpos (starEach (e::es) X.env)).all (λ x=>!x.1) && (backToKw cpos (keywordEach [] X.env)).all (λ x=>x.1.isSome)
   && decide ((e::es).length+([]:List Keyword).length+(if ([]:List Keyword).isEmpty then 0 else 1) < 30))=true:=by with_unfolding_all rfl)
  (hline:(apos.endLine == cpos.line)=true:=by with_unfolding_all rfl) (hs:starEach (e::es) X.env=(false,eval e X.env)::starEach es X.env:=by with_unfolding_all rfl) (hplain:(backTo cpos (starEach es X.env)).any (·.1)=false:=by with_unfolding_all rfl) :
  PE X (.Call (.Attribute o name apos) (e::es) [] cpos) (tBM K T r to t):=by subst hK;exact GA pa slot hty hm ho ha hbase hfew hline hs hplain
end
section
variable {X:Cx}{pos p:Pos}
theorem pL (i:Nat) {x:Str}{e:Expr}{te:TE}{pos':Pos} (hN:X.N.Nodup) (he:PE X e te) (hi:X.N[i]? = some x:=by with_unfolding_all rfl) (hx:DA X.env.scope x:=by with_unfolding_all exact Or.inl rfl) (hs:swapsWith e (some (.Name x pos')) pos.line X.env=pure false:=by with_unfolding_all rfl) (hf:X.fn x=true\/X.env.scope.names.lookup x=some .local:=by with_unfolding_all first | exact .inl rfl | exact .inr rfl | assumption) :
  PS X (.Assign [.Name x pos'] e pos) (h7 te (cX i)):=dY hN hi hx he hs hf
theorem gL (i:Nat) {x:Str} (hN:X.N.Nodup) (hi:X.N[i]? = some x:=by with_unfolding_all rfl) (hx:DA X.env.scope x:=by with_unfolding_all exact Or.inl rfl) (hf:X.fn x=true\/X.env.scope.names.lookup x=some .local:=by with_unfolding_all first | exact .inl rfl | exact .inr rfl | assumption):PG X (.Name x pos) (cX i):=fH hN hi hx hf
theorem gC (i:Nat) (N:List Str) {x:Str} (hN:N.Nodup:=by decide +kernel) (e:X.N=N:=by with_unfolding_all rfl) (hi:N[i]? = some x:=by with_unfolding_all rfl) (hx:DA X.env.scope x:=by with_unfolding_all exact Or.inl rfl) (hf:X.fn x=true\/X.env.scope.names.lookup x=some .local:=by with_unfolding_all exact Or.inr rfl):PG X (.Name x pos) (cX i):=fH (by rw[e];exact hN) (by rw[e];exact hi) hx hf
theorem px (K:aab) {a b:Expr}{ta tb:TE} (ha:PE X a ta) (hb:PE X b tb) (hK:X.K=K:=by with_unfolding_all rfl) (hs:vV b:=by with_unfolding_all exact λ _ _=>rfl):PE X (.Subscript a b pos) (fT (sP K) ta tb):=G9 (BY hK) ha hb hs
theorem oT (K:aab) {a:Expr}{ta:TE} (hm:X.mg "len" = none) (ha:PE X a ta) (hK:X.K=K:=by with_unfolding_all rfl) (hg:Gl X "len" := by with_unfolding_all rfl) (hs:starEach [a] X.env=[(false,eval a X.env)]:=by with_unfolding_all rfl):PE X (.Call (.Name "len" p) [a] [] pos) (CL (DY K) (cU ta gZ)):=
 bH (xH hK) hg hm PySem.boot_len (aA ha aC hs) (by decide) (by decide) hs rfl
end
end L2
namespace Tw
open PySem L2
def bM (i:Nat):Stmt:=PySem.Challenge.pw_tipwell_k27_whole_best_watch.main.body.getD i (.Pass ⟨0,0,0,0⟩)
structure Txt (mg:Str->Option Value):Prop where
 b_len:mg "len" = none
 b_sum:mg "sum" = none
 b_all:mg "all" = none
 b_max:mg "max" = none
 b_min:mg "min" = none
 b_int:mg "int" = none
 b_tuple:mg "tuple" = none
 b_list:mg "list" = none
 b_bool:mg "bool" = none
 b_range:mg "range" = none
 b_zip:mg "zip" = none
 b_enumerate:mg "enumerate" = none
 b_isinstance:mg "isinstance" = none
 b_divmod:mg "divmod" = none
 b_set:mg "set" = none
 b_sorted:mg "sorted" = none
def kH:Option Int->eB
 | none=>.inr none
 | some i=>.inl i
theorem zK (k:Option Int):kV (kH k)=j5 k:=by cases k <;> rfl
theorem zJ {a b:Option Int} (h:kH a=kH b):a=b:=by
 cases a <;> cases b <;> simp_all [kH]
def gU (H:Hp) (d:Addr) (gs:List (Option Int×Int)):Prop:=
 ∃ kvs:List (eB×V),H d=some (.dK kvs)/\kvs.length<=gs.length/\∀ k:Option Int,(eO kvs (kH k)).getD (.int 0)=.int (cK k gs)
theorem gU.mut {H:Hp}{d:Addr}{gs:List (Option Int×Int)} (h:gU H d gs):oM (H d):=by
 obtain⟨kvs,e,_⟩:=h;rw[e];exact trivial
def pJ:Sp:=λ vs H Q _=>∃ (d:Addr) (t:Option Int) (a:Int) (gs:List (Option Int×Int)),vs=[.ref d,j5 t,.int a]/\gU H d gs/\gs.length<=1000/\
 ∀ H',dJ d H H'->gU H' d (gs++[(t,a)])->Q .non H'
theorem uQ:FnScope ["sent","target","amount"] ["sent","target","amount"] (aP (bM 8)):={}
theorem BO {f:Addr}{fd:FuncData} (F:Fun K "send" "send" (bM 8) f fd) (T:Txt mg):FnOk P w K mg base gX 1 f fd ["sent","target","amount"] pJ:=by
 refine F.ok uQ (λ vs H Q E h=>?_) (λ cdv A outer s H vs Q E hr h=>?_)
 ·obtain⟨d,t,a,gs,rfl,_⟩:=h;rfl
 ·obtain⟨d,t,a,gs,rfl,⟨kvs,hd,hl,hv⟩,hg,k⟩:=h;have sc:=uQ;have hu:=D8 hr;refine⟨_,(aK (BA hu (pv 0) (pv 1) (aT cC (nA hu (pv 0) (pv 1) aG ⟨rfl,rfl,rfl,rfl⟩) (pv 2)) rfl)),?_⟩;have hget:=uG.k (k:=kH t) hd;rw[zK] at hget;have hput:=AN.k (k:=kH t) (v:=V.int (cK t gs+a)) hd (aM (by omega));rw[zK] at hput;refine⟨_,rfl,d,rfl,.inl ⟨kvs,.inl hd⟩,_,rfl,eO kvs (kH t),hget,_,rfl,_,_,hv t,rfl,_,rfl,_,rfl,d,_,rfl,hput,?_⟩;refine k _ dJ.upd ⟨_,aB,?_,λ k'=>?_⟩
  ·have:=i8 kvs (kH t) (V.int (cK t gs+a));rw[aao];simp;omega
  ·rw[xR,j6]
   by_cases e:k'=t
   ·subst e;rw[if_pos rfl];show V.int _=V.int _;simp [cK]
   ·rw[if_neg (λ z=>e (zJ z)),hv k'];have:¬ t=k':=λ z=>e z.symm;simp [cK,this]
theorem aR {ap:Type}{xs:List ap}{i:Nat}{x:ap} (h:xs[i]? = some x):xs.take (i+1)=xs.take i++[x]:=by
 rw[List.take_succ,h];rfl
theorem iN {H:Hp}{outs:List (Option Int×Int)}{xs:List V}{i:Nat}{x:V} (l:IsL K H (outs.map outD) xs) (h:xs[i]? = some x) :
  ∃ o,outs[i]? = some o/\∃ a,x=.ref a/\bB K H a [j5 o.1,.int o.2]:=by
 obtain⟨d,hd,hx⟩:=l.get' h;rw[aag] at hd;cases e:outs[i]? with
 | none=>rw[e] at hd;cases hd
 | some o=>
  rw[e] at hd;cases hd;refine⟨o,rfl,?_⟩;obtain⟨a,ys,rfl,q,l⟩:=(show Is K H (.tup [AO o.1,.int o.2]) x from hx).un;obtain⟨y,r,rfl,hy,l⟩:=l.un;obtain⟨z,r,rfl,hz,l⟩:=l.un;have:=l.un0;subst this;rw[Is.tg hy,hz.ui] at q;exact⟨a,rfl,q⟩
def pI (K:aab):Sp:=λ vs H Q _=>∃ (o d:Addr) (has:Int) (outs gs:List (Option Int×Int)) (n:Nat),vs=[.ref o,.int has,.ref d]/\Is K H (.tup (outs.map outD)) (.ref o)/\gU H d gs/\gs.length+3<=1000/\
 outs≠[]/\outs.length<=3/\(∀ x∈outs,OutOk n x)/\∀ H',dJ d H H'->gU H' d (gs++outs.map λ x=>(x.1,has / whole outs * x.2))->Q (.int (has % whole outs)) H'
theorem jV:FnScope ["outs","has","sent","whole","times","target","parts"] ["outs","has","sent"] (aP (bM 7)):={}
theorem pX {f fS:Addr}{fd fdS:FuncData} (F:Fun K "share_out" "share_out" (bM 7) f fd) (T:Txt mg) (G_send:Callee P w K mg base "send" ["sent","target","amount"] 1 pJ fS fdS):FnOk P w K mg base gX 2 f fd ["outs","has","sent"] (pI K):=by
 refine F.ok jV (λ vs H Q E h=>?_) (λ cdv A outer s H vs Q E hr h=>?_)
 ·obtain⟨o,d,has,outs,gs,n,rfl,_⟩:=h;rfl
 ·obtain⟨o,d,has,outs,gs,n,rfl,ho,hd,hg,hne,h3,hok,k⟩:=h;have sc:=jV;refine⟨_,(aD (pL 3 sc.nd (bH (eA (K:=K) rfl rfl) rfl T.b_sum PyProof.Rows.boot_sum (aA (eW (λ _ _ h=>h) rfl (LcOk.mk (N':=["target","parts"]) (fr:=[none,none]) rfl trivial rfl rfl rfl rfl rfl trivial) (dS (K:=K) rfl (pv 0)) (λ _ _ _=>(aX (K:=K) (n:=2) rfl rfl (aE (gC 0 ["target","parts"]) (aE (gC 1 ["target","parts"]) aW)))) (λ _ _ _=>cH) (λ _ _ _=>(pv 1))) aC)))
   (aD (pL 4 sc.nd (aT fI (pv 1) (bH (p9 rfl) rfl T.b_max PyProof.Rows.boot_max (aA aG (aA (pv 3) aC)))))
   (aD (dD PassesOwn.never rfl (dS (K:=K) rfl (pv 0)) (aX (K:=K) (n:=2) rfl rfl (aE (gL 5 sc.nd) (aE (gL 6 sc.nd) aW))) (aK (cG (dB G_send hr (aA (pv 2) (aA (pv 5) (aA (aT i7 (pv 6) (pv 4)) aC)))))))
   (aK (bE (aT i6 (pv 1) (aT i7 (pv 3) (pv 4)))))))),?_⟩
  have hw1:=oN hne hok;have hw2:=mG hok;obtain⟨o',xs,e,hq,hl⟩:=ho.un;cases e;have hxl:xs.length=outs.length:=by rw[hl.length,aad]
  refine⟨_,rfl,o,rfl,⟨_,hq⟩,i9 (K:=K) (a:=o) (xs:=xs) (λ D i ys Z H'=>H D=none/\aF H H'/\H' D=some (.lst ys)/\ys=(outs.take i).map (λ x=>V.int x.2)/\∃ x y,Z=[x,y])
   (λ D i ys Z H' p=>p.2.1.tup hq) (λ D hD=>⟨hD,aF.new hD,aB,by simp,none,none,rfl⟩) ?_ ?_⟩
  rotate_left
  ·rintro D i x ys Z H' hx ⟨hD,sm,hDl,rfl,v1,v2,rfl⟩;obtain⟨ot,hot,a,rfl,qa⟩:=iN hl hx;have hil:=(aaf.mp hot).1;refine⟨a,_,rfl,sm.tup qa,rfl,_,_,rfl,_,_,rfl,rfl,?_⟩;refine mF ⟨_,rfl,hDl,aM (by simp;omega),hD,sm.put hD,aB,?_,_,_,rfl⟩;rw[aR hot];simp
  ·rintro D ys Z H1 ⟨hD,sm,hDl,rfl,_⟩;rw[hxl,aax] at hDl;refine⟨false,D,outs.map (·.2),rfl,bF.of (by rw[acb];exact hDl),?_⟩;refine⟨_,rfl,_,rfl,_,_,rfl,_,_,rfl,rfl,?_,?_⟩
   ·show 0 < (if whole outs > 1 then whole outs else 1)/\(if whole outs > 1 then whole outs else 1) < 1073741824
    split <;> omega
   have hm:(if whole outs > 1 then whole outs else 1)=whole outs:=by split <;> omega
   show iZ _ _ _ [some (V.ref o),some (V.int has),some (V.ref d),some (V.int (whole outs)),some (V.int (has / (if whole outs > 1 then whole outs else 1))),none,none] _;rw[hm];have hd1:gU H1 d gs:=by obtain⟨kvs,e,r⟩:=hd;exact⟨kvs,sm _ _ e,r⟩
   have tsH:bC K H H1:=sm.ts;refine⟨_,rfl,o,rfl,⟨_,sm.tup hq⟩,qJ (K:=K) (a:=o) (xs:=xs) (λ i Z H'=>dJ d H1 H'/\gU H' d (gs++(outs.take i).map λ x=>(x.1,has / whole outs * x.2))/\
    ∃ x y,Z=[some (V.ref o),some (V.int has),some (V.ref d),some (V.int (whole outs)),some (V.int (has / whole outs)),x,y]) ⟨dJ.refl _,by simpa using hd1,none,none,rfl⟩
    (λ i Z H' _ p=>(p.1.ts hd1.mut) _ _ (sm.tup hq)) ?_ ?_⟩
   ·rintro i x Z H2 hx ⟨bt,dg,v1,v2,rfl⟩;obtain⟨ot,hot,a,rfl,qa⟩:=iN hl hx;have hil:=(aaf.mp hot).1;have hom:=hok ot (abc hot);refine⟨a,_,rfl,(bt.ts hd1.mut) _ _ (sm.tup qa),rfl,_,_,rfl,_,_,rfl,rfl,?_⟩;refine⟨_,rfl,_,rfl,_,rfl,_,rfl,_,_,rfl,rfl,.inl ⟨by have:=hom.lo;omega,by have:=hom.hi;omega⟩,d,ot.1,ot.2 * (has / whole outs),_,rfl,dg,by simp;omega,λ H' bt' dg'=>?_⟩;refine⟨bt.trans bt',?_,_,_,rfl⟩;rw[aR hot,aal,<- acm];rw[Int.mul_comm] at dg';exact dg'
   ·rintro Z H2 ⟨bt,dg,v1,v2,rfl⟩;rw[hxl,aax] at dg;refine⟨_,rfl,_,rfl,_,rfl,_,_,rfl,rfl,.inl ⟨by omega,by omega⟩,_,_,rfl,rfl,?_⟩;have e:has - whole outs * (has / whole outs)=has % whole outs:=by
     have:=Int.emod_add_mul_ediv has (whole outs);omega
    show Q (V.int (has - whole outs * (has / whole outs))) H2;rw[e];exact k H2 (sm.but.trans bt) dg
theorem r6 {H:Hp}{v:Vs}{x:V} (h:Is K H (r8 v) x):∃ (a:Addr) (o c:V),x=.ref a/\bB K H a [.int v.size,.int v.brim,o,.bl v.holds,j5 v.spill,c]/\Is K H (.tup (v.outs.map outD)) o/\Is K H (.tup (v.acts.map uB)) c:=by
 obtain⟨a,xs,rfl,q,l⟩:=(show Is K H (.tup [.int v.size,.int v.brim,.tup (v.outs.map outD),.bl v.holds,AO v.spill,.tup (v.acts.map uB)]) x from h).un;obtain⟨x1,r,rfl,h1,l⟩:=l.un;obtain⟨x2,r,rfl,h2,l⟩:=l.un;obtain⟨x3,r,rfl,h3,l⟩:=l.un;obtain⟨x4,r,rfl,h4,l⟩:=l.un;obtain⟨x5,r,rfl,h5,l⟩:=l.un;obtain⟨x6,r,rfl,h6,l⟩:=l.un;have:=l.un0;subst this;rw[h1.ui,h2.ui,h4.ub,Is.tg h5] at q;exact⟨a,x3,x6,rfl,q,h3,h6⟩
def mV (K:aab):Sp:=λ vs H Q _=>∃ (x:V) (d:Addr) (has:Int) (v:Vs) (gs:List (Option Int×Int)) (n m:Nat),vs=[x,.int has,.ref d]/\Is K H (r8 v) x/\gU H d gs/\gs.length+5<=1000/\VOk n m v/\
 ∀ p H',dJ d H H'->gU H' d (gs++eF v has)->bB K H' p [.int (eE v has),.bl (eR v has)]->Q (.ref p) H'
theorem oR:FnScope ["vessel","has","sent","size","brim","outs","holds","spill","acts","over","left"] ["vessel","has","sent"] (aP (bM 6)):={}
theorem wL {f fS fO:Addr}{fd fdS fdO:FuncData} (F:Fun K "settle" "settle" (bM 6) f fd) (T:Txt mg) (G_send:Callee P w K mg base "send" ["sent","target","amount"] 1 pJ fS fdS)
  (G_share_out:Callee P w K mg base "share_out" ["outs","has","sent"] 2 (pI K) fO fdO):FnOk P w K mg base gX 3 f fd ["vessel","has","sent"] (mV K):=by
 refine F.ok oR (λ vs H Q E h=>?_) (λ cdv A outer s H vs Q E hr h=>?_)
 ·obtain⟨x,d,has,v,gs,n,m,rfl,_⟩:=h;rfl
 ·obtain⟨x,d,has,v,gs,n,m,rfl,hx,hd,hg,ok,k⟩:=h;have sc:=oR;refine⟨_,(aD (bY (pv 0) (aX (K:=K) (n:=6) rfl rfl (aE (gL 3 sc.nd) (aE (gL 4 sc.nd) (aE (gL 5 sc.nd) (aE (gL 6 sc.nd) (aE (gL 7 sc.nd) (aE (gL 8 sc.nd) aW))))))))
   (aD (pL 9 sc.nd (bH (p9 rfl) rfl T.b_max PyProof.Rows.boot_max (aA aG (aA (aT i6 (pv 1) (pv 4)) aC))))
   (aD (cG (dB G_send hr (aA (pv 2) (aA (pv 7) (aA (pv 9) aC)))))
   (aD (yI (i:=1) sc.nd rfl (Or.inl rfl) (pv 9) EM)
   (aD (dR (bQ uW (pv 1) (pv 3) (cD _)) (aK (bE (bG (aA (pv 1) (aA j9 aC))))) cB)
   (aD (pL 10 sc.nd (dB G_share_out hr (aA (pv 5) (aA (pv 1) (aA (pv 2) aC)))))
   (aD (dR (i5 (pv 6)) (aK (bE (bG (aA (pv 10) (aA j9 aC))))) cB)
   (aD (cG (dB G_send hr (aA (pv 2) (aA fM (aA (pv 10) aC)))))
   (aK (bE (bG (aA aG (aA j9 aC))))))))))))),?_⟩
  obtain⟨a,o,c,rfl,q,ho,hc⟩:=r6 hx;refine⟨_,rfl,a,_,rfl,q,rfl,_,_,rfl,_,_,rfl,_,_,rfl,_,_,rfl,_,_,rfl,_,_,rfl,rfl,?_⟩;refine⟨_,rfl,_,rfl,_,_,rfl,rfl,_,_,rfl,?_⟩;have eo:(if has - v.brim > 0 then has - v.brim else 0)=has - b0 v has:=by unfold b0;split <;> omega
  show iZ _ _ _ [some (V.ref a),some (V.int has),some (V.ref d),some (V.int v.size),some (V.int v.brim),some o,some (V.bl v.holds),some (j5 v.spill),some c,some (V.int (if has - v.brim > 0 then has - v.brim else 0)),none] _;rw[eo];refine⟨_,rfl,_,rfl,_,rfl,d,v.spill,has - b0 v has,gs,rfl,hd,by omega,λ H1 b1 d1=>?_⟩;have ts1:bC K H H1:=b1.ts hd.mut;refine⟨_,rfl,_,rfl,_,_,rfl,rfl,?_⟩;have eh:has - (has - b0 v has)=b0 v has:=by omega
  show iZ _ _ _ [some (V.ref a),some (V.int (has - (has - b0 v has))),some (V.ref d),some (V.int v.size),some (V.int v.brim),some o,some (V.bl v.holds),some (j5 v.spill),some c,some (V.int (has - b0 v has)),none] _;rw[eh];refine⟨_,rfl,_,rfl,_,_,rfl,rfl,_,rfl,?_⟩;refine gM (λ hlt=>?_) (λ hge=>?_)
  ·have hlt':b0 v has < v.size:=abw hlt;have ht:eR v has=false:=abq (by omega);refine⟨_,rfl,(show 2<=sizeLine by decide),λ p hp=>?_⟩;refine k p _ (b1.trans (aF.new hp).but) ?_ ?_
   ·have:eF v has=[(v.spill,has - b0 v has)]:=by unfold eF;rw[ht];rfl
    rw[this];obtain⟨kvs,e,r⟩:=d1;exact⟨kvs,aF.new hp _ _ e,r⟩
   ·have:eE v has=b0 v has:=by unfold eE;rw[ht];rfl
    rw[this,ht];exact bB.of aB
  ·have hge':v.size<=b0 v has:=by simpa using hge
   have ht:eR v has=true:=abm hge';obtain⟨oa,os,rfl,_,_⟩:=ho.un;refine⟨_,rfl,_,rfl,_,rfl,oa,d,b0 v has,v.outs,_,n,rfl,Is.mono ts1 _ _ ho,d1,by simp;omega,ok.ne,ok.o3,ok.outs,λ H2 b2 d2=>?_⟩;refine⟨_,rfl,_,rfl,?_⟩;cases hh:v.holds with
   | true=>
    refine lC ?_;refine⟨_,rfl,(show 2<=sizeLine by decide),λ p hp=>?_⟩;refine k p _ (b1.trans (b2.trans (aF.new hp).but)) ?_ ?_
    ·have:gs++eF v has=(gs++[(v.spill,has - b0 v has)])++v.outs.map λ x=>(x.1,b0 v has / whole v.outs * x.2):=by
      unfold eF dX;rw[ht,hh];simp
     rw[this];obtain⟨kvs,e,r⟩:=d2;exact⟨kvs,aF.new hp _ _ e,r⟩
    ·have:eE v has=b0 v has % whole v.outs:=by unfold eE;rw[ht,hh];rfl
     rw[this,ht];exact bB.of aB
   | false=>
    refine j4 ?_;refine⟨_,rfl,_,rfl,d,none,b0 v has % whole v.outs,_,rfl,d2,by simp;have:=ok.o3;omega,λ H3 b3 d3=>?_⟩;refine⟨(show 2<=sizeLine by decide),λ p hp=>?_⟩;refine k p _ (b1.trans (b2.trans (b3.trans (aF.new hp).but))) ?_ ?_
    ·have:gs++eF v has=((gs++[(v.spill,has - b0 v has)])++v.outs.map λ x=>(x.1,b0 v has / whole v.outs * x.2))++[(none,b0 v has % whole v.outs)]:=by
      unfold eF dX;rw[ht,hh];simp
     rw[this];obtain⟨kvs,e,r⟩:=d3;exact⟨kvs,aF.new hp _ _ e,r⟩
    ·have:eE v has=0:=by unfold eE;rw[ht,hh];rfl
     rw[this,ht];exact bB.of aB
theorem vT {H:Hp}{acts:List (Str×Int)}{xs:List V}{i:Nat}{x:V} (l:IsL K H (acts.map uB) xs) (h:xs[i]? = some x) :
  ∃ o,acts[i]? = some o/\∃ a,x=.ref a/\bB K H a [.str o.1,.int o.2]:=by
 obtain⟨d,hd,hx⟩:=l.get' h;rw[aag] at hd;cases e:acts[i]? with
 | none=>rw[e] at hd;cases hd
 | some o=>
  rw[e] at hd;cases hd;refine⟨o,rfl,?_⟩;obtain⟨a,ys,rfl,q,l⟩:=(show Is K H (.tup [.str o.1,.int o.2]) x from hx).un;obtain⟨y,r,rfl,hy,l⟩:=l.un;obtain⟨z,r,rfl,hz,l⟩:=l.un;have:=l.un0;subst this;rw[hy.us,hz.ui] at q;exact⟨a,rfl,q⟩
theorem AJ (ds:List Bool) (a:Str×Int):(uC ds a).length=ds.length:=by unfold uC;simp
theorem iX:∀ (as:List (Str×Int)) (ds:List Bool),(dC ds as).length=ds.length
 | [],ds=>rfl
 | a::as,ds=>by
  show (dC (uC ds a) as).length=_;rw[iX as,AJ]
theorem eZ (vs:List Vs):∀ (tip:List Nat) (ds:List Bool),(bP vs ds tip).length=ds.length
 | [],ds=>rfl
 | i::r,ds=>by
  show (bP vs (match vs[i]? with | some v=>dC ds v.acts | none=>ds) r).length=_;rw[eZ vs r];cases vs[i]? with
  | none=>rfl
  | some v=>exact iX _ _
theorem o8 (ds:List Bool) (as:List (Str×Int)) (a:Str×Int):dC ds (as++[a])=uC (dC ds as) a:=by
 unfold dC;rw[List.foldl_append];rfl
theorem lQ (vs:List Vs) (ds:List Bool) (tip:List Nat) (i:Nat) (v:Vs) (h:vs[i]? = some v):bP vs ds (tip++[i])=dC (bP vs ds tip) v.acts:=by
 unfold bP;rw[List.foldl_append];show (match vs[i]? with | some v=>_ | none=>_)=_;rw[h]
def pN (K:aab):Sp:=λ args H Q _=>∃ (x y:V) (t:Addr) (vs:List Vs) (doors:List Bool) (tip:List Nat) (n:Nat),args=[x,y,.ref t]/\Is K H (.tup (vs.map r8)) x/\Is K H (.tup (doors.map D.bl)) y/\
 bF K H t (tip.map λ (i:Nat)=>V.int (i:Int))/\(∀ i∈tip,i < vs.length)/\(∀ v∈vs,VOk n doors.length v)/\doors.length<=12/\
 ∀ p H',aF H H'->Is K H' (.tup ((bP vs doors tip).map D.bl)) p->Q p H'
theorem gT:FnScope ["vessels","doors","tipped","behind","number","size","brim","outs","holds","spill","acts","word","spout"] ["vessels","doors","tipped"] (aP (bM 9)):={}
theorem lV {f:Addr}{fd:FuncData} (F:Fun K "doors_behind" "doors_behind" (bM 9) f fd) (T:Txt mg):FnOk P w K mg base gX 1 f fd ["vessels","doors","tipped"] (pN K):=by
 refine F.ok gT (λ vs H Q E h=>?_) (λ cdv A outer s H vs Q E hr h=>?_)
 ·obtain⟨x,y,t,vs,doors,tip,n,rfl,_⟩:=h;rfl
 ·obtain⟨x,y,t,vs,doors,tip,n,rfl,hx,hy,ht,htip,hok,hm,k⟩:=h;have sc:=gT;refine⟨_,(aD (pL 3 sc.nd (aU (iU (K:=K) rfl) rfl T.b_list kM (aA (pv 1) aC)))
   (aD (dD PassesOwn.never rfl (dH (K:=K) rfl (pv 2)) (gL 4 sc.nd) (aD (bY (px K (pv 0) (pv 4)) (aX (K:=K) (n:=6) rfl rfl (aE (gL 5 sc.nd) (aE (gL 6 sc.nd) (aE (gL 7 sc.nd) (aE (gL 8 sc.nd) (aE (gL 9 sc.nd) (aE (gL 10 sc.nd) aW))))))))
   (aK (dD PassesOwn.never rfl (dS (K:=K) rfl (pv 10)) (aX (K:=K) (n:=2) rfl rfl (aE (gL 11 sc.nd) (aE (gL 12 sc.nd) aW))) (aK (bY (G8 (iM lP (pv 11) gG (cD _)) (tK (tL (iM lP (pv 11) gG (cD _)) (tK (pR (px K (pv 3) (pv 12))))))) (kY (pv 3) (pv 12) eU)))))))
   (aK (bE (aU (bL (K:=K) rfl) rfl T.b_tuple bR (aA (pv 3) aC)))))),?_⟩
  obtain⟨ax,xs,rfl,qx,lx⟩:=hx.un;obtain⟨ay,ys,rfl,qy,ly⟩:=hy.un;have ey:=ly.bools;subst ey;have exl:xs.length=vs.length:=by rw[lx.length,aad]
  refine⟨_,rfl,ay,_,rfl,.inr qy,λ b hb=>?_⟩;have nb:∀ {c:Addr}{o:HO},H c=some o->c≠b:=λ e=>aJ e hb;refine⟨_,rfl,t,rfl,⟨_,(aF.new hb).seq ht⟩,sC (K:=K) (a:=t) (xs:=tip.map λ (i:Nat)=>V.int (i:Int))
   (λ i Z H'=>aF H H'/\H' b=some (.lst ((bP vs doors (tip.take i)).map V.bl))/\∃ v4 v5 v6 v7 v8 v9 v10 v11 v12,Z=[some (.ref ax),some (.ref ay),some (.ref t),some (.ref b),v4,v5,v6,v7,v8,v9,v10,v11,v12])
   ⟨aF.new hb,aB,none,none,none,none,none,none,none,none,none,rfl⟩ (λ i Z H' _ p=>p.1.seq ht) ?_ ?_⟩
  ·rintro i x Z H1 hi ⟨sm,hbl,v4,v5,v6,v7,v8,v9,v10,v11,v12,rfl⟩;rw[aag] at hi;obtain⟨j,hj,rfl⟩:=aaq.mp hi;have hjv:=htip j (abc hj);have hv:vs[j]? = some vs[j]:=by simp [hjv]
   have hvok:=hok vs[j] (acf hjv);obtain⟨xv,hxv,ixv⟩:=lx.get (i:=j) (d:=r8 vs[j]) (by rw[aag,hv];rfl);obtain⟨va,o,c,rfl,qv,ho,hc⟩:=r6 ixv;refine⟨_,rfl,_,rfl,.inr (.inl ⟨ax,xs,j,_,rfl,rfl,sm.tup qx,bW hxv,va,_,rfl,sm.tup qv,rfl,_,_,rfl,_,_,rfl,_,_,rfl,_,_,rfl,_,_,rfl,_,_,rfl,rfl,?_⟩)⟩;obtain⟨ca,cs,rfl,qc,lc⟩:=hc.un;have ecs:cs.length=vs[j].acts.length:=by rw[lc.length,aad]
   refine⟨_,rfl,ca,rfl,⟨_,sm.tup qc⟩,qJ (K:=K) (a:=ca) (xs:=cs)
    (λ l Z H'=>aF H H'/\H' b=some (.lst ((dC (bP vs doors (tip.take i)) (vs[j].acts.take l)).map V.bl))/\
     ∃ u11 u12,Z=[some (.ref ax),some (.ref ay),some (.ref t),some (.ref b),some (.int (j:Int)),some (.int vs[j].size),some (.int vs[j].brim),some o,some (.bl vs[j].holds),some (j5 vs[j].spill),some (.ref ca),u11,u12])
    ⟨sm,hbl,v11,v12,rfl⟩ (λ l Z H' _ p=>p.1.tup qc) ?_ ?_⟩
   ·rintro l x Z H2 hl ⟨sm2,hb2,u11,u12,rfl⟩;obtain⟨at',hat,aa,rfl,qa⟩:=vT lc hl;have aok:=hvok.acts at' (abc hat);refine⟨aa,_,rfl,sm2.tup qa,rfl,_,_,rfl,_,_,rfl,rfl,?_⟩;have hdl:(dC (bP vs doors (tip.take i)) (vs[j].acts.take l)).length=doors.length:=by rw[iX,eZ]
    have hsp:at'.2.toNat < (dC (bP vs doors (tip.take i)) (vs[j].acts.take l)).length:=by rw[hdl];have:=aok.lo;have:=aok.hi;omega
    have fin:∀ c:Bool,c=(if at'.1 = "open" then true else if at'.1 = "turn" then !((dC (bP vs doors (tip.take i)) (vs[j].acts.take l)).getD at'.2.toNat false) else false)->
      aF H (upd H2 b (.lst (((dC (bP vs doors (tip.take i)) (vs[j].acts.take l)).map V.bl).set at'.2.toNat (.bl c))))/\
      upd H2 b (.lst (((dC (bP vs doors (tip.take i)) (vs[j].acts.take l)).map V.bl).set at'.2.toNat (.bl c))) b=some (.lst ((dC (bP vs doors (tip.take i)) (vs[j].acts.take (l+1))).map V.bl)):=λ c hc=>by
     refine⟨sm2.put hb,?_⟩;rw[aB,aR hat,o8,uC,<- hc,List.map_set]
    have set:∀ c:Bool,c=(if at'.1 = "open" then true else if at'.1 = "turn" then !((dC (bP vs doors (tip.take i)) (vs[j].acts.take l)).getD at'.2.toNat false) else false)->
      A1 (cN 3) (cN 12) rG (.bl c) [some (.ref ax),some (.ref ay),some (.ref t),some (.ref b),some (.int (j:Int)),some (.int vs[j].size),some (.int vs[j].brim),some o,some (.bl vs[j].holds),some (j5 vs[j].spill),some (.ref ca),some (.str at'.1),some (.int at'.2)] H2
       λ Z H'=>aF H H'/\H' b=some (.lst ((dC (bP vs doors (tip.take i)) (vs[j].acts.take (l+1))).map V.bl))/\
        ∃ u11 u12,Z=[some (.ref ax),some (.ref ay),some (.ref t),some (.ref b),some (.int (j:Int)),some (.int vs[j].size),some (.int vs[j].brim),some o,some (.bl vs[j].holds),some (j5 vs[j].spill),some (.ref ca),u11,u12]:=λ c hc=>by
     obtain⟨f1,f2⟩:=fin c hc;refine⟨_,rfl,_,rfl,b,_,at'.2,at'.2.toNat,rfl,rfl,hb2,m8 aok.lo (by rw[aad];omega),f1,f2,_,_,rfl⟩
    refine⟨_,rfl,rfl,_,rfl,?_⟩;refine gM (λ h1=>?_) (λ h1=>?_)
    ·have e1:at'.1 = "open" := by have:=abw h1;injection this
     exact set true (by rw[if_pos e1])
    ·have e1:¬ at'.1 = "open" := λ z=>h1 (abm (by rw[z]));refine⟨_,rfl,rfl,_,rfl,?_⟩;refine gM (λ h2=>?_) (λ h2=>?_)
     ·have e2:at'.1 = "turn" := by have:=abw h2;injection this
      have hg:((dC (bP vs doors (tip.take i)) (vs[j].acts.take l)).map V.bl)[at'.2.toNat]? = some (.bl ((dC (bP vs doors (tip.take i)) (vs[j].acts.take l)).getD at'.2.toNat false)):=by
       rw[aag,acp];simp [hsp]
      refine⟨_,rfl,_,rfl,.inl ⟨b,_,at'.2,_,rfl,rfl,bF.of hb2,mC aok.lo hg,_,rfl,?_⟩⟩;exact set _ (by rw[if_neg e1,if_pos e2])
     ·have e2:¬ at'.1 = "turn" := λ z=>h2 (abm (by rw[z]));exact set false (by rw[if_neg e1,if_neg e2])
   ·rintro Z H2 ⟨sm2,hb2,u11,u12,rfl⟩;rw[ecs,aax] at hb2;refine⟨sm2,?_,_,_,_,_,_,_,_,_,_,rfl⟩;rw[aR hj,lQ vs doors _ j vs[j] hv];exact hb2
  ·rintro Z H1 ⟨sm,hbl,v4,v5,v6,v7,v8,v9,v10,v11,v12,rfl⟩;rw[aad,aax] at hbl;refine⟨_,rfl,b,_,rfl,.inl ⟨bF.of hbl,λ l hl=>?_⟩⟩;exact k _ _ (sm.trans (aF.new hl)) (Is.tupOf (bB.of aB) (IsL.of_bools _))
theorem fA:∀ {a b c:List Int}{n:Nat},a.length=n->b.length=n->c.length=n->(fC a b c).length=n
 | [],b,c,n,h,_,_=>by simp at h;subst h;rfl
 | x::a,[],c,n,h1,h2,_=>by simp at h1 h2;omega
 | x::a,y::b,[],n,h1,_,h3=>by simp at h1 h3;omega
 | x::a,y::b,z::c,n,h1,h2,h3=>by
  simp at h1 h2 h3;show (fC a b c).length+1=n;rw[fA (n:=n - 1) (by omega) (by omega) (by omega)];omega
theorem o7:∀ {a b c:List Int}{i:Nat}{x y z:Int},a[i]? = some x->b[i]? = some y->c[i]? = some z->(fC a b c)[i]? = some (x+y+z)
 | [],_,_,i,_,_,_,h,_,_=>by simp at h
 | _::_,[],_,i,_,_,_,_,h,_=>by simp at h
 | _::_,_::_,[],i,_,_,_,_,_,h=>by simp at h
 | a::as,b::bs,c::cs,0,x,y,z,h1,h2,h3=>by simp at h1 h2 h3;subst h1 h2 h3;rfl
 | a::as,b::bs,c::cs,i+1,x,y,z,h1,h2,h3=>by
  show (fC as bs cs)[i]? = _;exact o7 (by simpa using h1) (by simpa using h2) (by simpa using h3)
theorem wZ (has:List Int) (s:vU) (d:Bool):(nV has s d).length=has.length:=by unfold nV;split <;> simp
theorem dZ:∀ (ss:List vU) (ds:List Bool) (has:List Int),(dN has ss ds).length=has.length
 | [],ds,has=>by cases ds <;> rfl
 | s::ss,[],has=>rfl
 | s::ss,d::ds,has=>by show (dN (nV has s d) ss ds).length=_;rw[dZ ss ds,wZ]
theorem jH:∀ (ss:List vU) (ds:List Bool) (i:Nat) (has:List Int) (s:vU) (d:Bool),ss[i]? = some s->ds[i]? = some d->dN has (ss.take (i+1)) (ds.take (i+1))=nV (dN has (ss.take i) (ds.take i)) s d
 | [],_,i,_,_,_,h,_=>by simp at h
 | _::_,[],i,_,_,_,_,h=>by simp at h
 | a::ss,b::ds,0,has,s,d,h1,h2=>by simp at h1 h2;subst h1 h2;simp [dN]
 | a::ss,b::ds,i+1,has,s,d,h1,h2=>by
  simp only [List.take_succ_cons,dN];exact jH ss ds i _ s d (by simpa using h1) (by simpa using h2)
theorem jG:∀ (vs:List Vs) (hs:List Int) (i:Nat) (v:Vs) (h:Int),vs[i]? = some v->hs[i]? = some h->bO (vs.take (i+1)) (hs.take (i+1))=bO (vs.take i) (hs.take i)++eF v h
 | [],_,i,_,_,h,_=>by simp at h
 | _::_,[],i,_,_,_,h=>by simp at h
 | a::vs,b::hs,0,v,h,h1,h2=>by simp at h1 h2;subst h1 h2;simp [bO]
 | a::vs,b::hs,i+1,v,h,h1,h2=>by
  simp only [List.take_succ_cons,bO,acm];rw[jG vs hs i v h (by simpa using h1) (by simpa using h2)]
theorem h8:∀ (vs:List Vs) (hs:List Int) (i:Nat) (v:Vs) (h:Int),vs[i]? = some v->hs[i]? = some h->cW (vs.take (i+1)) (hs.take (i+1))=cW (vs.take i) (hs.take i)++[eE v h]
 | [],_,i,_,_,h,_=>by simp at h
 | _::_,[],i,_,_,_,h=>by simp at h
 | a::vs,b::hs,0,v,h,h1,h2=>by simp at h1 h2;subst h1 h2;simp [cW]
 | a::vs,b::hs,i+1,v,h,h1,h2=>by
  simp only [List.take_succ_cons,cW,List.cons_append];rw[h8 vs hs i v h (by simpa using h1) (by simpa using h2)]
theorem jB:∀ (vs:List Vs) (hs:List Int) (i j:Nat) (v:Vs) (h:Int),vs[i]? = some v->hs[i]? = some h->aV j (vs.take (i+1)) (hs.take (i+1))=aV j (vs.take i) (hs.take i)++(if eR v h=true then [j+i] else [])
 | [],_,i,_,_,_,h,_=>by simp at h
 | _::_,[],i,_,_,_,_,h=>by simp at h
 | a::vs,b::hs,0,j,v,h,h1,h2=>by
  simp at h1 h2;subst h1 h2;simp only [List.take_succ_cons,List.take_zero,aV,Nat.add_zero,List.nil_append]
 | a::vs,b::hs,i+1,j,v,h,h1,h2=>by
  simp only [List.take_succ_cons,aV];rw[jB vs hs i (j+1) v h (by simpa using h1) (by simpa using h2)];have e:j+1+i=j+(i+1):=by omega
  rw[e]
  split <;> simp
theorem mM:∀ (vs:List Vs) (hs:List Int) (j k:Nat),k∈aV j vs hs->j<=k/\k < j+vs.length
 | [],_,_,k,h=>by simp [aV] at h
 | _::_,[],_,k,h=>by simp [aV] at h
 | a::vs,b::hs,j,k,h=>by
  simp only [aV] at h;have ih:=mM vs hs (j+1) k;simp only [aba]
  split at h
  ·rcases aay.mp h with rfl | h
   ·omega
   ·have:=ih h;omega
  ·have:=ih h;omega
theorem fR:∀ (vs:List Vs) (hs:List Int) (j:Nat),(aV j vs hs).length<=vs.length
 | [],_,_=>by simp [aV]
 | _::_,[],_=>by simp [aV]
 | a::vs,b::hs,j=>by
  simp only [aV,aba];have:=fR vs hs (j+1)
  split
  ·rw[aba];omega
  ·omega
theorem iQ {n m:Nat}:∀ (vs:List Vs) (hs:List Int),(∀ v∈vs,VOk n m v)->(bO vs hs).length<=5 * vs.length
 | [],_,_=>by simp [bO]
 | _::_,[],_=>by simp [bO]
 | a::vs,b::hs,h=>by
  simp only [bO,aao,aba];have h1:=w4 (h a abi) b;have h2:=iQ vs hs λ v hv=>h v (aau _ hv);omega
theorem mR {H:Hp}{sps:List vU}{xs:List V}{i:Nat}{x:V} (l:IsL K H (sps.map CM) xs) (h:xs[i]? = some x) :
  ∃ s,sps[i]? = some s/\∃ a,x=.ref a/\bB K H a [.int s.1,.int s.2.1,.bl s.2.2]:=by
 obtain⟨d,hd,hx⟩:=l.get' h;rw[aag] at hd;cases e:sps[i]? with
 | none=>rw[e] at hd;cases hd
 | some o=>
  rw[e] at hd;cases hd;refine⟨o,rfl,?_⟩;obtain⟨a,ys,rfl,q,l⟩:=(show Is K H (.tup [.int o.1,.int o.2.1,.bl o.2.2]) x from hx).un;obtain⟨y,r,rfl,hy,l⟩:=l.un;obtain⟨z,r,rfl,hz,l⟩:=l.un;obtain⟨z2,r,rfl,hz2,l⟩:=l.un;have:=l.un0;subst this;rw[hy.ui,hz.ui,hz2.ub] at q;exact⟨a,rfl,q⟩
theorem rE {H:Hp}{held coming:List Int}{doors:List Bool}{y:V} (h:Is K H (sO held coming doors) y):∃ (a b c d:Addr),y=.ref a/\bB K H a [.ref b,.ref c,.ref d]/\bB K H b (held.map V.int)/\bB K H c (coming.map V.int)/\bB K H d (doors.map V.bl):=by
 obtain⟨a,xs,rfl,q,l⟩:=(show Is K H (.tup [.tup (held.map D.int),.tup (coming.map D.int),.tup (doors.map D.bl)]) y from h).un;obtain⟨x1,r,rfl,h1,l⟩:=l.un;obtain⟨x2,r,rfl,h2,l⟩:=l.un;obtain⟨x3,r,rfl,h3,l⟩:=l.un;have:=l.un0;subst this;obtain⟨b,ys,rfl,q1,l1⟩:=h1.un;obtain⟨c,zs,rfl,q2,l2⟩:=h2.un;obtain⟨d,us,rfl,q3,l3⟩:=h3.un;rw[l1.ints] at q1;rw[l2.ints] at q2;rw[l3.bools] at q3;exact⟨a,b,c,d,rfl,q,q1,q2,q3⟩
theorem uK {H:Hp}{held coming:List Int}{doors:List Bool}{a b c d:Addr} (q:bB K H a [.ref b,.ref c,.ref d]) (q1:bB K H b (held.map V.int)) (q2:bB K H c (coming.map V.int)) (q3:bB K H d (doors.map V.bl)):Is K H (sO held coming doors) (.ref a):=
 Is.tupOf q (.cons (Is.tupOf q1 (IsL.of_ints _)) (.cons (Is.tupOf q2 (IsL.of_ints _)) (.cons (Is.tupOf q3 (IsL.of_bools _)) .nil)))
def mX (K:aab):Sp:=λ args H Q _=>∃ (x y:V) (z:Addr) (sps:List vU) (held coming poured:List Int) (doors:List Bool) (n:Nat),args=[x,y,.ref z]/\Is K H (.tup (sps.map CM)) x/\Is K H (sO held coming doors) y/\bB K H z (poured.map V.int)/\
 held.length=n/\coming.length=n/\poured.length=n/\doors.length=sps.length/\n<=12/\(∀ s∈sps,0<=s.1/\s.1 < n)/\
 ∀ p H',aF H H'->H p=none->H' p=some (.lst ((dN (fC held coming poured) sps doors).map V.int))->Q (.ref p) H'
theorem oS:FnScope ["spouts","state","poured","held","coming","doors","has","target","flow","first_door","door"] ["spouts","state","poured"] (aP (bM 5)):={}
theorem wM {f:Addr}{fd:FuncData} (F:Fun K "filled" "filled" (bM 5) f fd) (T:Txt mg):FnOk P w K mg base gX 1 f fd ["spouts","state","poured"] (mX K):=by
 refine F.ok oS (λ vs H Q E h=>?_) (λ cdv A outer s H vs Q E hr h=>?_)
 ·obtain⟨x,y,z,sps,held,coming,poured,doors,n,rfl,_⟩:=h;rfl
 ·obtain⟨x,y,z,sps,held,coming,poured,doors,n,rfl,hx,hy,qz,l1,l2,l3,l4,hn,hsp,k⟩:=h;have sc:=oS;refine⟨_,(aD (bY (pv 1) (aX (K:=K) (n:=3) rfl rfl (aE (gL 3 sc.nd) (aE (gL 4 sc.nd) (aE (gL 5 sc.nd) aW)))))
   (aD (fX (i:=6) sc.nd rfl rfl (λ _ _ h=>h) rfl (LcOk.mk (N':=["amounts"]) (fr:=[none]) rfl trivial rfl rfl rfl rfl rfl trivial) (yK (K:=K) rfl rfl T.b_zip (aA (pv 3) (aA (pv 4) (aA (pv 2) aC)))) (λ _ _ _=>(gC 0 ["amounts"])) (λ _ _ _=>cH) (λ _ _ _=>(bH (eA (K:=K) rfl rfl) rfl T.b_sum PyProof.Rows.boot_sum (aA (pv 0) aC))))
   (aD (dD PassesOwn.never rfl (rH (K:=K) rfl rfl T.b_zip (aA (pv 0) (aA (pv 5) aC))) (aX (K:=K) (n:=2) rfl rfl (aE (aX (K:=K) (n:=3) rfl rfl (aE (gL 7 sc.nd) (aE (gL 8 sc.nd) (aE (gL 9 sc.nd) aW)))) (aE (gL 10 sc.nd) aW))) (aK (dR (i5 (pv 10)) (aK (BC (pv 6) (pv 7) (wX (K:=K) rfl) (pv 8) zO eU)) cB)))
   (aK (bE (pv 6)))))),?_⟩
  obtain⟨ax,xs,rfl,qx,lx⟩:=hx.un;obtain⟨ay,a1,a2,a3,rfl,qy,q1,q2,q3⟩:=rE hy;have exl:xs.length=sps.length:=by rw[lx.length,aad]
  refine⟨_,rfl,ay,_,rfl,qy,rfl,_,_,rfl,_,_,rfl,_,_,rfl,rfl,?_⟩;have la:=fA l1 l2 l3;refine⟨_,rfl,_,rfl,_,rfl,true,true,true,a1,a2,z,rfl,⟨_,q1⟩,⟨_,q2⟩,⟨_,qz⟩,BU (K:=K) (xs:=held.map V.int) (ys:=coming.map V.int) (zs:=poured.map V.int) (n:=n) (by simpa using l1) (by simpa using l2) (by simpa using l3)
   (λ D i r Z H'=>H D=none/\aF H H'/\H' D=some (.lst r)/\r=((fC held coming poured).take i).map V.int/\∃ v,Z=[v])
   (λ D i r Z H' p=>⟨p.2.1.tup q1,p.2.1.tup q2,p.2.1.tup qz⟩) (λ D hD=>⟨hD,aF.new hD,aB,by simp,none,rfl⟩) ?_ ?_⟩
  rotate_left
  ·rintro D i x0 y0 z0 r Z H' Tt hx0 hy0 hz0 ⟨hD,sm,hDl,rfl,v,rfl⟩ hT;rw[aag] at hx0 hy0 hz0;obtain⟨x,hx,rfl⟩:=aaq.mp hx0;obtain⟨y,hy,rfl⟩:=aaq.mp hy0;obtain⟨z',hz,rfl⟩:=aaq.mp hz0;have hi:=o7 hx hy hz;have hil:=(aaf.mp hi).1;have nT:D≠Tt:=aJ hDl hT;refine dU ?_;refine⟨_,rfl,true,Tt,[x,y,z'],rfl,bB.of aB,by rw[aH nT];exact hDl,aM (by simp;omega),hD,?_,aB,?_,_,rfl⟩
   ·intro b o e;rw[aH (aJ e hD)];exact aF.new hT b o (sm b o e)
   ·rw[aR hi,aal];have:[x,y,z'].sum=x+y+z':=by simp;omega
    rw[this];rfl
  ·rintro D r Z H1 ⟨hD,sm,hDl,rfl,_⟩;rw[<- la,aax] at hDl;refine⟨_,rfl,_,rfl,true,true,ax,a3,rfl,⟨_,sm.tup qx⟩,⟨_,sm.tup q3⟩,A3 (K:=K) (xs:=xs) (ys:=doors.map V.bl) (n:=sps.length) exl (by rw[aad,l4])
    (λ i Z H'=>aF H H'/\H' D=some (.lst ((dN (fC held coming poured) (sps.take i) (doors.take i)).map V.int))/\
     ∃ v7 v8 v9 v10,Z=[some (.ref ax),some (.ref ay),some (.ref z),some (.ref a1),some (.ref a2),some (.ref a3),some (.ref D),v7,v8,v9,v10])
    (λ i Z H' p=>⟨p.1.tup qx,p.1.tup q3⟩) ⟨sm,by cases sps <;> exact hDl,none,none,none,none,rfl⟩ ?_ ?_⟩
   ·rintro Z H2 ⟨sm2,h2,v7,v8,v9,v10,rfl⟩;rw[<- l4,aax] at h2;rw[l4,aax] at h2;refine⟨_,rfl,?_⟩;exact k D H2 sm2 hD h2
   ·rintro i x y Z H2 Tt hx hy ⟨sm2,h2,v7,v8,v9,v10,rfl⟩ hT;obtain⟨sp,hsi,sa,rfl,qs⟩:=mR lx hx;rw[aag] at hy;obtain⟨dr,hdi,rfl⟩:=aaq.mp hy;have nT:D≠Tt:=aJ h2 hT;have sm3:aF H (upd H2 Tt (.tup [.ref sa,.bl dr])):=λ b o e=>aF.new hT b o (sm2 b o e);have h3:upd H2 Tt (.tup [.ref sa,.bl dr]) D=some (.lst ((dN (fC held coming poured) (sps.take i) (doors.take i)).map V.int)):=by rw[aH nT];exact h2
    refine⟨Tt,_,rfl,bB.of aB,rfl,_,_,rfl,⟨sa,_,rfl,sm3.tup qs,rfl,_,_,rfl,_,_,rfl,_,_,rfl,rfl,_,_,rfl,rfl,?_⟩⟩;refine⟨_,rfl,_,rfl,?_⟩;have snoc:=jH sps doors i (fC held coming poured) sp dr hsi hdi;cases dr with
    | false=>
     refine j4 ?_;refine⟨sm3,?_,_,_,_,_,rfl⟩;rw[snoc];exact h3
    | true=>
     refine lC ?_;have hs:=hsp sp (abc hsi);have hlen:(dN (fC held coming poured) (sps.take i) (doors.take i)).length=n:=by rw[dZ,la]
     have hlt:sp.1.toNat < (dN (fC held coming poured) (sps.take i) (doors.take i)).length:=by rw[hlen];omega
     have hg:((dN (fC held coming poured) (sps.take i) (doors.take i)).map V.int)[sp.1.toNat]? = some (.int ((dN (fC held coming poured) (sps.take i) (doors.take i)).getD sp.1.toNat 0)):=by
      rw[aag,acp];simp [hlt]
     refine⟨_,rfl,_,rfl,D,_,sp.1,_,rfl,rfl,bF.of h3,hs.1,by omega,hg,_,rfl,_,_,rfl,rfl,D,_,sp.1,sp.1.toNat,rfl,rfl,h3,m8 hs.1 (by rw[aad,hlen];omega),?_⟩;refine⟨sm3.put hD,?_,_,_,_,_,rfl⟩;rw[aB,snoc,nV,if_pos rfl,List.map_set]
theorem eT:∀ (vs:List Vs) (hs:List Int),vs.length=hs.length->(cW vs hs).length=vs.length
 | [],_,_=>by simp [cW]
 | _::_,[],h=>by simp at h
 | a::vs,b::hs,h=>by simp only [cW,aba];rw[eT vs hs (by simpa using h)]
theorem dL {H:Hp}{net:Net}{x:V} (h:Is K H (fB net) x):∃ (a b c:Addr) (xs ys:List V),x=.ref a/\bB K H a [.ref b,.ref c]/\bB K H b xs/\IsL K H (net.vs.map r8) xs/\bB K H c ys/\IsL K H (net.sps.map CM) ys:=by
 obtain⟨a,zs,rfl,q,l⟩:=(show Is K H (.tup [.tup (net.vs.map r8),.tup (net.sps.map CM)]) x from h).un;obtain⟨x1,r,rfl,h1,l⟩:=l.un;obtain⟨x2,r,rfl,h2,l⟩:=l.un;have:=l.un0;subst this;obtain⟨b,xs,rfl,q1,l1⟩:=h1.un;obtain⟨c,ys,rfl,q2,l2⟩:=h2.un;exact⟨a,b,c,xs,ys,rfl,q,q1,l1,q2,l2⟩
structure StOk (net:Net) (held coming:List Int) (doors:List Bool):Prop where
 h:held.length=net.vs.length
 c:coming.length=net.vs.length
 d:doors.length=net.sps.length
def t9 (K:aab):Sp:=λ args H Q _=>∃ (x y:V) (z:Addr) (net:Net) (held coming poured:List Int) (doors:List Bool),args=[x,y,.ref z]/\Is K H (fB net) x/\Is K H (sO held coming doors) y/\bB K H z (poured.map V.int)/\
 NetOk net/\StOk net held coming doors/\poured.length=net.vs.length/\∀ (p:Addr) (ys:List V) H',aF H H'->H' p=some (.tup ys)->Is K H' (FM (dQ net held coming poured doors)) (.ref p)->Q (.ref p) H'
theorem hR:FnScope ["net","state","poured","vessels","spouts","held","tipped","sent","number","has","left","tips","coming","doors"] ["net","state","poured"] (aP (bM 3)):={}
theorem nE {f fF fS fD:Addr}{fd fdF fdS fdD:FuncData} (F:Fun K "tick_behind" "tick_behind" (bM 3) f fd) (T:Txt mg) (G_filled:Callee P w K mg base "filled" ["spouts","state","poured"] 1 (mX K) fF fdF)
  (G_settle:Callee P w K mg base "settle" ["vessel","has","sent"] 3 (mV K) fS fdS) (G_doors_behind:Callee P w K mg base "doors_behind" ["vessels","doors","tipped"] 1 (pN K) fD fdD):FnOk P w K mg base gX 4 f fd ["net","state","poured"] (t9 K):=by
 refine F.ok hR (λ vs H Q E h=>?_) (λ cdv A outer s H vs Q E hr h=>?_)
 ·obtain⟨x,y,z,net,held,coming,poured,doors,rfl,_⟩:=h;rfl
 ·obtain⟨x,y,z,net,held,coming,poured,doors,rfl,hx,hy,qz,nok,sok,lp,k⟩:=h;have sc:=hR;have hu:=D8 hr;refine⟨_,(aD (bY (pv 0) (aX (K:=K) (n:=2) rfl rfl (aE (gL 3 sc.nd) (aE (gL 4 sc.nd) aW))))
   (aD (bY (bG (aA (bD aC) (aA (bD aC) (aA yN aC)))) (aX (K:=K) (n:=3) rfl rfl (aE (gL 5 sc.nd) (aE (gL 6 sc.nd) (aE (fH (i:=7) sc.nd rfl (Or.inr rfl)) aW)))))
   (aD (dD PassesOwn.never rfl (yL (K:=K) rfl rfl T.b_enumerate (aA (dB G_filled hr (aA (pv 4) (aA (pv 1) (aA (pv 2) aC)))) aC)) (aX (K:=K) (n:=2) rfl rfl (aE (gL 8 sc.nd) (aE (gL 9 sc.nd) aW))) (aD (bY (dB G_settle hr (aA (px K (pv 3) (pv 8)) (aA (pv 9) (aA (pv 7) aC)))) (aX (K:=K) (n:=2) rfl rfl (aE (gL 10 sc.nd) (aE (gL 11 sc.nd) aW))))
   (aD (cG (d8 (K:=K) rfl aav abd abe bU (pv 5) (aA (pv 10) aC)))
   (aK (dR (i5 (pv 11)) (aK (cG (d8 (K:=K) rfl aav abd abe bU (pv 6) (aA (pv 8) aC)))) cB)))))
   (aD (fX (i:=12) sc.nd rfl rfl (λ _ _ h=>h) rfl (LcOk.mk (N':=["number","sent"]) (fr:=[none,some 7]) rfl ⟨rfl,trivial⟩ rfl rfl rfl rfl rfl ⟨⟨_,rfl,rfl,rfl,rfl⟩,trivial⟩) (bT rfl T.b_range (aA (oT K T.b_len (pv 3)) aC)) (λ _ _ _=>(gC 0 ["number","sent"])) (λ _ _ _=>cH) (λ _ _ _=>(nA hu (pv 1) (pv 0) aG ⟨rfl,rfl,rfl,rfl⟩)))
   (aD (pL 13 sc.nd (dB G_doors_behind hr (aA (pv 3) (aA (px K (pv 1) aG) (aA (pv 6) aC)))))
   (aK (bE (bG (aA (bG (aA (aU (bL (K:=K) rfl) rfl T.b_tuple bR (aA (pv 5) aC)) (aA (aU (bL (K:=K) rfl) rfl T.b_tuple bR (aA (pv 12) aC)) (aA (pv 13) aC)))) (aA (aU (bL (K:=K) rfl) rfl T.b_tuple bR (aA (pv 6) aC)) (aA (nA hu (pv 7) fM aG ⟨rfl,rfl,rfl,rfl⟩) aC))))))))))),?_⟩
  obtain⟨ax,av,as,xs,ys,rfl,qx,qv,lv,qs,ls⟩:=dL hx;obtain⟨ay,b1,b2,b3,rfl,qy,q1,q2,q3⟩:=rE hy;have exl:xs.length=net.vs.length:=by rw[lv.length,aad]
  refine⟨_,rfl,ax,_,rfl,qx,rfl,_,_,rfl,_,_,rfl,rfl,?_⟩;refine⟨abn _,λ hl hhl=>⟨abn _,λ tl htl=>λ sd hsd=>⟨(show 3<=sizeLine by decide),λ tp htp=>⟨tp,_,rfl,bB.of aB,rfl,_,_,rfl,_,_,rfl,_,_,rfl,rfl,?_⟩⟩⟩⟩;have n1:hl≠tl:=aJ (show upd H hl (.lst []) hl=_ from aB) htl;have fh:H hl=none:=hhl;have ft:H tl=none:=aF.free (aF.new hhl) htl;have fs:H sd=none:=aF.free ((aF.new hhl).trans (aF.new htl)) hsd;have n2:hl≠sd:=aJ (by rw[aH n1];exact aB) hsd;have n3:tl≠sd:=aJ (show upd (upd H hl (.lst [])) tl (.lst []) tl=_ from aB) hsd;have sm0:aF H (upd (upd (upd (upd H hl (.lst [])) tl (.lst [])) sd (.dK [])) tp (.tup [.ref hl,.ref tl,.ref sd])):=(((aF.new hhl).trans (aF.new htl)).trans (aF.new hsd)).trans (aF.new htp);have g1:upd (upd (upd (upd H hl (.lst [])) tl (.lst [])) sd (.dK [])) tp (.tup [.ref hl,.ref tl,.ref sd]) hl=some (.lst []):=aF.new htp _ _ (by rw[aH n2,aH n1];exact aB);have g2:upd (upd (upd (upd H hl (.lst [])) tl (.lst [])) sd (.dK [])) tp (.tup [.ref hl,.ref tl,.ref sd]) tl=some (.lst []):=aF.new htp _ _ (by rw[aH n3];exact aB);have g3:upd (upd (upd (upd H hl (.lst [])) tl (.lst [])) sd (.dK [])) tp (.tup [.ref hl,.ref tl,.ref sd]) sd=some (.dK []):=aF.new htp _ _ aB;generalize upd (upd (upd (upd H hl (.lst [])) tl (.lst [])) sd (.dK [])) tp (.tup [.ref hl,.ref tl,.ref sd])=H0 at sm0 g1 g2 g3 ⊢;refine⟨_,rfl,_,rfl,_,rfl,.ref as,.ref ay,z,net.sps,held,coming,poured,doors,net.vs.length,rfl,Is.tupOf (sm0.tup qs) (IsL.mono sm0.ts _ _ ls),Is.mono sm0.ts _ _ hy,sm0.tup qz,sok.h,sok.c,lp,sok.d,nok.hi,nok.sps,λ ha H1 sm1 fha hha=>?_⟩;have hsl:(aL net held coming poured doors).length=net.vs.length:=by
   unfold aL;rw[dZ,fA sok.h sok.c lp]
  have g1':=sm1 _ _ g1;have g2':=sm1 _ _ g2;have g3':=sm1 _ _ g3;have na1:hl≠ha:=aJ g1 fha;have na2:tl≠ha:=aJ g2 fha;have na3:sd≠ha:=aJ g3 fha;have fa:H ha=none:=sm0.free fha;refine⟨false,ha,rfl,⟨_,bF.of hha⟩,A4 (K:=K) (t:=false) (a:=ha) (xs:=(aL net held coming poured doors).map V.int)
   (λ i Z H'=>aF H H'/\H' ha=some (.lst ((aL net held coming poured doors).map V.int))/\H' hl=some (.lst ((cW (net.vs.take i) ((aL net held coming poured doors).take i)).map V.int))/\
    H' tl=some (.lst ((aV 0 (net.vs.take i) ((aL net held coming poured doors).take i)).map λ (j:Nat)=>V.int (j:Int)))/\gU H' sd (bO (net.vs.take i) ((aL net held coming poured doors).take i))/\
    ∃ v8 v9 v10 v11,Z=[some (.ref ax),some (.ref ay),some (.ref z),some (.ref av),some (.ref as),some (.ref hl),some (.ref tl),some (.ref sd),v8,v9,v10,v11,none,none])
   (λ i Z H' p=>bF.of p.2.1) ⟨sm0.trans sm1,hha,by simpa [cW] using g1',by simpa [aV] using g2',⟨[],g3',by simp,λ k=>rfl⟩,none,none,none,none,rfl⟩ ?_ ?_⟩
  rotate_left
  ·rintro i x0 Z H2 Tt hx0 ⟨sm2,p1,p2,p3,p4,v8,v9,v10,v11,rfl⟩ hT;rw[aag] at hx0;obtain⟨hi,hhi,rfl⟩:=aaq.mp hx0;have hil:i < net.vs.length:=by rw[<- hsl];exact (aaf.mp hhi).1
   have hv:net.vs[i]? = some net.vs[i]:=by simp [hil]
   have vok:=nok.vs _ (acf hil);obtain⟨xv,hxv,ixv⟩:=lv.get (i:=i) (d:=r8 net.vs[i]) (by rw[aag,hv];rfl);have smT:=aF.new (o:=HO.tup [.int (i:Int),.int hi]) hT;refine⟨Tt,_,rfl,bB.of aB,rfl,_,_,rfl,_,_,rfl,rfl,?_⟩;have sm3:aF H (upd H2 Tt (.tup [.int (i:Int),.int hi])):=sm2.trans smT;obtain⟨kvs,d1,d2,d3⟩:=p4;have hgl:=iQ (net.vs.take i) ((aL net held coming poured doors).take i) λ v hv'=>nok.vs v (List.mem_of_mem_take hv');have htk:(net.vs.take i).length<=12:=by rw[aaw];have:=nok.hi;omega
   refine⟨_,rfl,_,rfl,.inr (.inl ⟨av,xs,i,_,rfl,rfl,sm3.tup qv,bW hxv,_,rfl,_,rfl,xv,sd,hi,net.vs[i],_,_,_,rfl,Is.mono sm3.ts _ _ ixv,⟨kvs,smT _ _ d1,d2,d3⟩,by omega,vok,λ p H3 bt dg qp=>?_⟩)⟩;refine⟨p,_,rfl,qp,rfl,_,_,rfl,_,_,rfl,rfl,?_⟩;have e1:=bt hl _ n2 (smT _ _ p2);have e2:=bt tl _ n3 (smT _ _ p3);have e3:=bt ha _ (Ne.symm na3) (smT _ _ p1);have sm4:aF H H3:=λ b o e=>bt b o (aJ e fs) (sm3 b o e);have stl:(cW (net.vs.take i) ((aL net held coming poured doors).take i)).length<=12:=by
    rw[eT _ _ (by rw[aaw,aaw,hsl])];exact htk
   have tpl:=fR (net.vs.take i) ((aL net held coming poured doors).take i) 0;refine⟨_,rfl,.inl ⟨rfl,_,bF.of e1⟩,_,rfl,hl,_,_,rfl,rfl,e1,aM (by simp;omega),?_⟩;have f1:upd H3 hl (.lst ((cW (net.vs.take i) ((aL net held coming poured doors).take i)).map V.int++[.int (eE net.vs[i] hi)])) tl=some (.lst ((aV 0 (net.vs.take i) ((aL net held coming poured doors).take i)).map λ (j:Nat)=>V.int (j:Int))):=by rw[aH (Ne.symm n1)];exact e2
   have s1:=h8 net.vs (aL net held coming poured doors) i _ _ hv hhi;have s2:=jB net.vs (aL net held coming poured doors) i 0 _ _ hv hhi;have s3:=jG net.vs (aL net held coming poured doors) i _ _ hv hhi;have dgo:∀ {Hx:Hp},Hx sd=H3 sd->gU Hx sd (bO (net.vs.take (i+1)) ((aL net held coming poured doors).take (i+1))):=λ {Hx} e=>by
    obtain⟨kv,a1,a2,a3⟩:=dg;rw[s3];exact⟨kv,e.trans a1,a2,a3⟩
   refine⟨_,rfl,_,rfl,?_⟩;cases ht:eR net.vs[i] hi with
   | false=>
    refine j4 ?_;rw[ht] at s2;refine⟨sm4.put fh,by rw[aH (Ne.symm na1)];exact e3,by rw[aB,s1,aal];rfl,by rw[s2];simpa using f1,dgo (by rw[aH (Ne.symm n2)]),_,_,_,_,rfl⟩
   | true=>
    refine lC ?_;rw[ht] at s2;refine⟨_,rfl,.inl ⟨rfl,_,bF.of f1⟩,_,rfl,tl,_,_,rfl,rfl,f1,aM (by simp;omega),?_⟩;refine⟨(sm4.put fh).put ft,by rw[aH (Ne.symm na2),aH (Ne.symm na1)];exact e3,by rw[aH n1,aB,s1,aal];rfl,?_,dgo (by rw[aH (Ne.symm n3),aH (Ne.symm n2)]),_,_,_,_,rfl⟩;rw[aB,s2];simp
  ·rintro Z H2 ⟨sm2,p1,p2,p3,p4,v8,v9,v10,v11,rfl⟩;rw[aad,hsl] at p2 p3 p4;have ek:net.vs.take net.vs.length=net.vs:=aax;have ek2:(aL net held coming poured doors).take net.vs.length=aL net held coming poured doors:=by rw[<- hsl,aax]
   rw[ek,ek2] at p2 p3 p4;obtain⟨kvs,d1,d2,d3⟩:=p4;refine⟨_,rfl,av,xs,rfl,.inr (sm2.tup qv),_,rfl,by omega,by have:=nok.hi;omega,?_⟩;have hn:((xs.length:Nat):Int).toNat=net.vs.length:=by rw[exl];simp
   rw[hn];refine g6 (n:=net.vs.length) (λ D i r Z H'=>H2 D=none/\aF H2 H'/\H' D=some (.lst r)/\r=((cP net.vs.length (bO net.vs (aL net held coming poured doors))).take i).map V.int/\∃ v,Z=[v,some (.ref sd)])
    (λ D hD=>⟨hD,aF.new hD,aB,by simp,none,rfl⟩) ?_ ?_
   rotate_left
   ·rintro D i r Z H' hi ⟨hD,sm,hDl,rfl,v,rfl⟩;refine dU ?_;have hg:=uG.k (k:=kH (some (i:Int))) (sm _ _ d1);refine⟨_,rfl,sd,rfl,.inl ⟨kvs,.inl (sm _ _ d1)⟩,_,rfl,_,hg,hDl,aM (by simp [cP];have:=nok.hi;omega),hD,sm.put hD,aB,?_,_,rfl⟩;have e:(cP net.vs.length (bO net.vs (aL net held coming poured doors)))[i]? = some (cK (some (i:Int)) (bO net.vs (aL net held coming poured doors))):=by
     unfold cP;simp [hi]
    rw[aR e,aal];show _++[(eO kvs (kH (some (i:Int)))).getD (.int 0)]=_;rw[d3];rfl
   ·rintro D r Z H3 ⟨hD,sm,hDl,rfl,_⟩;have ll:(cP net.vs.length (bO net.vs (aL net held coming poured doors))).length=net.vs.length:=by unfold cP;simp
    rw[abl (Nat.le_of_eq ll)] at hDl;have sm3:aF H H3:=sm2.trans sm;refine⟨_,rfl,_,rfl,.inr (.inl ⟨ay,_,2,_,rfl,rfl,sm3.tup qy,rfl,_,rfl,.ref av,.ref b3,tl,net.vs,doors,aV 0 net.vs (aL net held coming poured doors),net.vs.length,rfl,Is.tupOf (sm3.tup qv) (IsL.mono sm3.ts _ _ lv),Is.tupOf (sm3.tup q3) (IsL.of_bools _),bF.of (sm _ _ p3),λ j hj=>by have:=mM _ _ _ _ hj;omega,λ v hv=>by rw[sok.d];exact nok.vs v hv,by rw[sok.d];exact nok.sp,λ dp H4 sm4 hdp=>?_⟩)⟩;obtain⟨da,dxs,rfl,qd,ld⟩:=hdp.un;have c1:=sm4 _ _ (sm _ _ p2);have c2:=sm4 _ _ hDl;have c3:=sm4 _ _ (sm _ _ p3);have c4:=sm4 _ _ (sm _ _ d1);refine⟨_,rfl,hl,_,rfl,.inl ⟨bF.of c1,λ t1 ht1=>?_⟩⟩;have m1:=aF.new (o:=HO.tup ((cW net.vs (aL net held coming poured doors)).map V.int)) ht1;refine⟨_,rfl,D,_,rfl,.inl ⟨bF.of (m1 _ _ c2),λ t2 ht2=>?_⟩⟩;have m2:=aF.new (o:=HO.tup ((cP net.vs.length (bO net.vs (aL net held coming poured doors))).map V.int)) ht2;refine⟨_,rfl,(show 3<=sizeLine by decide),λ t3 ht3=>?_⟩;have m3:=aF.new (o:=HO.tup [.ref t1,.ref t2,.ref da]) ht3;refine⟨_,rfl,tl,_,rfl,.inl ⟨bF.of (m3 _ _ (m2 _ _ (m1 _ _ c3))),λ t4 ht4=>?_⟩⟩;have m4:=aF.new (o:=HO.tup ((aV 0 net.vs (aL net held coming poured doors)).map λ (j:Nat)=>V.int (j:Int))) ht4;have c4':=m4 _ _ (m3 _ _ (m2 _ _ (m1 _ _ c4)));have hg:=uG.k (k:=kH none) c4';refine⟨_,rfl,sd,rfl,.inl ⟨kvs,.inl c4'⟩,_,hg,(show 3<=sizeLine by decide),λ t5 ht5=>?_⟩;have m5:aF _ _:=aF.new (o:=HO.tup [.ref t3,.ref t4,(eO kvs (kH none)).getD (.int 0)]) ht5;have eg:(eO kvs (kH none)).getD (.int 0)=.int (cK none (bO net.vs (aL net held coming poured doors))):=d3 none;refine k _ _ _ ((((((sm3.trans sm4).trans m1).trans m2).trans m3).trans m4).trans m5) aB ?_;refine Is.tupOf (bB.of aB) (.cons ?_ (.cons ?_ (.cons ?_ .nil)))
    ·exact Is.mono m5.ts _ _ (Is.mono m4.ts _ _ (uK (bB.of aB) (m3.tup (m2.tup (bB.of aB))) (m3.tup (bB.of aB)) (by
      have:=ld.bools;rw[this] at qd;exact m3.tup (m2.tup (m1.tup qd)))))
    ·refine Is.mono m5.ts _ _ (Is.tupOf (bB.of aB) ?_);show L2.IsL K _ ((aV 0 net.vs (aL net held coming poured doors)).map λ (i:Nat)=>L2.D.int (i:Int)) _;have e1:((aV 0 net.vs (aL net held coming poured doors)).map λ (i:Nat)=>L2.D.int (i:Int))=((aV 0 net.vs (aL net held coming poured doors)).map λ (i:Nat)=>(i:Int)).map L2.D.int:=by rw[acb];rfl
     have e2:((aV 0 net.vs (aL net held coming poured doors)).map λ (i:Nat)=>V.int (i:Int))=((aV 0 net.vs (aL net held coming poured doors)).map λ (i:Nat)=>(i:Int)).map V.int:=by rw[acb];rfl
     rw[e1,e2];exact L2.IsL.of_ints _
    ·rw[eg];exact Is.i _
def eJ (H:Hp) (t sl:Addr):Prop:=∃ (ns:List Int) (pos cell:Int),H t=some (.lst [.ref sl,.int pos,.int cell])/\H sl=some (.lst (ns.map V.int))/\ns.length<=1000
theorem eJ.mut {H:Hp}{t sl:Addr} (h:eJ H t sl):oM (H t):=by obtain⟨ns,pos,cell,e,_⟩:=h;rw[e];exact trivial
theorem eJ.same {H H':Hp}{t sl:Addr} (h:eJ H t sl) (s:aF H H'):eJ H' t sl:=by
 obtain⟨ns,pos,cell,e,f,g⟩:=h;exact⟨ns,pos,cell,s _ _ e,s _ _ f,g⟩
def fL:Sp:=λ vs H Q _=>∃ (t sl:Addr) (many:Int),vs=[.ref t,.int many]/\eJ H t sl/\0 < many/\many < 1000000/\
 ∀ (r:Int) H',dJ t H H'->eJ H' t sl->0<=r->r < many->Q (.int r) H'
def pM:Sp:=λ vs H Q _=>∃ (t sl:Addr) (many:Int),vs=[.ref t,.int many]/\eJ H t sl/\0 < many/\many < 2 ^ 200/\
 ∀ (r:Int) H',dJ t H H'->eJ H' t sl->0<=r->r < many->Q (.int r) H'
abbrev pP (K:aab):TS:=iZ (h7 (fT (rI (λ _ j=>0 < j) λ i j=>.int (i % j)) (fT (sP K) (cN 0) (tC (.int 2))) (cN 1)) (cX 4)) (iZ (h7 (fT (rI DB λ i j=>.int (i / j)) (fT (sP K) (cN 0) (tC (.int 2))) (cN 1)) (A1 (cN 0) (tC (.int 2)) rG)) (AX (cN 4)))
abbrev y9 (K:aab):TS:=iZ (h7 (fT (pQ λ i j=>.int (i+j)) (fT (sP K) (cN 0) (tC (.int 1))) (tC (.int 1))) (A1 (cN 0) (tC (.int 1)) rG)) (h7 (cN 3) (A1 (cN 0) (tC (.int 2)) rG))
abbrev yA (K:aab):TS:=iZ (h7 (fT (rI (λ _ j=>0 < j) λ i j=>.int (i % j)) (fT (pQ λ i j=>.int (i+j)) (cN 3) (fT (rI sN λ i j=>.int (i * j)) (tC (.int 1000003)) (fT (sP K) (cN 0) (tC (.int 1))))) (cN 2)) (cX 3)) (iZ (h7 (fT (rI (λ _ j=>0 < j) λ i j=>.int (i % j)) (fT (pQ λ i j=>.int (i+j)) (fT (pQ λ i j=>.int (i+j)) (fT (rI sN λ i j=>.int (i * j)) (cN 3) (cN 3)) (fT (rI sN λ i j=>.int (i * j)) (tC (.int 1181783497276652981)) (cN 3))) (tC (.int 2049848353892358983))) (cN 2)) (cX 3)) (h7 (fT (rI (λ _ j=>0 < j) λ i j=>.int (i % j)) (fT (pQ λ i j=>.int (i+j)) (fT (rI sN λ i j=>.int (i * j)) (cN 3) (cN 3)) (tC (.int 1442695040888963407))) (cN 2)) (cX 3)))
abbrev DV (K:aab):TT:=tOr (uJ (fT (pQ λ i j=>.bl (decide (j<=i))) (fT (sP K) (cN 0) (tC (.int 1))) (CL (DY K) (cU (fT (sP K) (cN 0) (tC (.int 0))) gZ)))) (uJ (fT (pQ λ i j=>.bl (decide (i < j))) (cN 3) (fT (rI GT λ i j=>.int (i ^ j.toNat)) (tC (.int 10)) (tC (.int 18)))))
abbrev dE (Q:VK):Ends:={ nx:=λ _ H'=>Q .non H',rt:=Q }
theorem kA:FnScope ["tape","many","prime","cell","found"] ["tape","many"] (aP (bM 29)):={}
theorem jA {f:Addr}{fd:FuncData} (F:Fun K "_law_draw" "_law_draw" (bM 29) f fd) (T:Txt mg):FnOk P w K mg base gX 1 f fd ["tape","many"] pM:=by
 refine F.ok kA (λ vs H Q E h=>?_) (λ cdv A outer s H vs Q E hr h=>?_)
 ·obtain⟨t,sl,many,rfl,_⟩:=h;rfl
 ·obtain⟨t,sl,many,rfl,⟨ns,pos,cell,ht,hsl,hns⟩,hm0,hm1,k⟩:=h;have sc:=kA;refine⟨_,(aD (pL 2 sc.nd aG)
   (aD (dR (bQ uW (px K (pv 0) aG) (pv 1) (cD _)) (aD (pL 3 sc.nd aG)
   (aD (dR (bQ rL (oT K T.b_len (px K (pv 0) aG)) aG (cD _)) (aK (pL 3 sc.nd (px K (px K (pv 0) aG) (aT kZ (px K (pv 0) aG) (oT K T.b_len (px K (pv 0) aG)))))) cB)
   (aD (dR (PW.pt (CW (bQ CZ (px K (pv 0) aG) (oT K T.b_len (px K (pv 0) aG)) (cD _)) (yF (bQ uW (pv 3) (aT E8 aG aG) (cD _))))) (aD (pL 3 sc.nd (aT kZ (aT cC (pv 3) (aT i7 aG (px K (pv 0) aG))) (pv 2)))
   (aD (pL 3 sc.nd (aT kZ (aT cC (aT cC (aT i7 (pv 3) (pv 3)) (aT i7 aG (pv 3))) aG) (pv 2)))
   (aK (pL 3 sc.nd (aT kZ (aT cC (aT i7 (pv 3) (pv 3)) aG) (pv 2)))))) cB)
   (aD (bY (aT cC (px K (pv 0) aG) aG) (kY (pv 0) aG eU))
   (aK (bY (pv 3) (kY (pv 0) aG eU))))))) cB)
   (aD (pL 4 sc.nd (aT kZ (px K (pv 0) aG) (pv 1)))
   (aD (bY (aT yT (px K (pv 0) aG) (pv 1)) (kY (pv 0) aG eU))
   (aK (bE (pv 4))))))),?_⟩
  have nst:sl≠t:=D0 hsl ht (by intro z;injection z with z;cases ns <;> simp at z);have ix:∀ {H1:Hp}{p' c':Int}{Q:VK},H1 t=some (.lst [.ref sl,.int p',.int c'])->Q (.ref sl) H1->sP K (.ref t) (.int 0) H1 Q:=λ e q=>.inl ⟨t,_,0,_,rfl,rfl,bF.of e,rfl,q⟩;have ix1:∀ {H1:Hp}{p' c':Int}{Q:VK},H1 t=some (.lst [.ref sl,.int p',.int c'])->Q (.int p') H1->sP K (.ref t) (.int 1) H1 Q:=λ e q=>.inl ⟨t,_,1,_,rfl,rfl,bF.of e,rfl,q⟩;have GH:∀ {H1:Hp}{p' c':Int}{Q:VK},H1 t=some (.lst [.ref sl,.int p',.int c'])->Q (.int c') H1->sP K (.ref t) (.int 2) H1 Q:=λ e q=>.inl ⟨t,_,2,_,rfl,rfl,bF.of e,rfl,q⟩;have tail:∀ (v3:Option V) (H1:Hp) (p' c':Int),dJ t H H1->H1 t=some (.lst [.ref sl,.int p',.int c'])->pP K (dE Q) [some (.ref t),some (.int many),some (.int 2305843009213693951),v3,none] H1:=by
   intro v3 H1 p' c' bt e;refine⟨_,rfl,GH e ⟨_,rfl,_,_,rfl,rfl,hm0,?_⟩⟩;refine⟨_,rfl,GH e ⟨_,rfl,_,_,rfl,rfl,⟨hm0,hm1⟩,_,rfl,t,_,2,2,rfl,rfl,e,rfl,_,rfl,?_⟩⟩;refine k _ _ (bt.trans dJ.upd) ⟨ns,p',c' / many,aB,?_,hns⟩ (Int.emod_nonneg _ (by omega)) (Int.emod_lt_of_pos _ hm0);rw[aH nst];exact bt sl _ nst hsl
  refine⟨_,rfl,GH ht ⟨_,rfl,_,_,rfl,rfl,_,rfl,?_⟩⟩;refine gM (λ _=>?_) (λ _=>tail none H pos cell (dJ.refl H) ht);have mid:∀ (c':Int),y9 K { nx:=pP K (dE Q),rt:=Q } [some (.ref t),some (.int many),some (.int 2305843009213693951),some (.int c'),none] H:=by
   intro c';refine⟨_,rfl,ix1 ht ⟨_,_,rfl,rfl,_,rfl,t,_,1,1,rfl,rfl,ht,rfl,?_⟩⟩;refine⟨_,rfl,_,rfl,t,_,2,2,rfl,rfl,aB,rfl,?_⟩;exact tail (some (.int c')) _ (pos+1) c' (dJ.upd.trans dJ.upd) aB
  have big:∀ (c':Int),iZ (xV (DV K) (yA K) CK) (y9 K) { nx:=pP K (dE Q),rt:=Q } [some (.ref t),some (.int many),some (.int 2305843009213693951),some (.int c'),none] H:=by
   intro c';have body:∀ σ,σ=[some (.ref t),some (.int many),some (.int 2305843009213693951),some (.int c'),none]->yA K { nx:=y9 K { nx:=pP K (dE Q),rt:=Q },rt:=Q } σ H:=by
    rintro σ rfl;have prime:(0:Int) < 2305843009213693951:=by decide
    refine⟨_,rfl,_,rfl,ix1 ht ⟨_,_,rfl,rfl,.inl ⟨by decide,by decide⟩,_,_,rfl,rfl,_,rfl,_,_,rfl,rfl,prime,?_⟩⟩;have b1:=Int.emod_nonneg (c'+1000003 * pos) (show (2305843009213693951:Int)≠0 by decide);have b2:=Int.emod_lt_of_pos (c'+1000003 * pos) prime;generalize (c'+1000003 * pos) % 2305843009213693951=c1 at b1 b2;refine⟨_,rfl,_,rfl,_,_,rfl,rfl,.inl ⟨by omega,by omega⟩,_,rfl,_,_,rfl,rfl,.inl ⟨by decide,by decide⟩,_,_,rfl,rfl,_,_,rfl,rfl,_,rfl,_,_,rfl,rfl,prime,?_⟩;have b3:=Int.emod_nonneg (c1 * c1+1181783497276652981 * c1+2049848353892358983) (show (2305843009213693951:Int)≠0 by decide);have b4:=Int.emod_lt_of_pos (c1 * c1+1181783497276652981 * c1+2049848353892358983) prime;generalize (c1 * c1+1181783497276652981 * c1+2049848353892358983) % 2305843009213693951=c2 at b3 b4;refine⟨_,rfl,_,rfl,_,_,rfl,rfl,.inl ⟨by omega,by omega⟩,_,_,rfl,rfl,_,rfl,_,_,rfl,rfl,prime,?_⟩;exact mid _
   refine⟨_,rfl,ix1 ht ⟨_,rfl,ix ht ⟨sl,_,rfl,.inl (bF.of hsl),_,_,rfl,rfl,_,rfl,?_⟩⟩⟩;refine gM (λ _=>?_) (λ _=>?_)
   ·refine lC ?_;exact body _ rfl
   ·refine⟨_,rfl,_,_,rfl,rfl,⟨by decide,by decide,by decide⟩,_,_,rfl,rfl,_,rfl,?_⟩;refine gM (λ _=>body _ rfl) (λ _=>mid _)
  refine⟨_,rfl,ix ht ⟨sl,_,rfl,.inl (bF.of hsl),_,_,rfl,rfl,_,rfl,?_⟩⟩;refine gM (λ hlen=>?_) (λ _=>big 0);have hpos:0 < ns.length:=by have:=abw hlen;simpa using this
  refine⟨_,rfl,ix ht ⟨_,rfl,ix1 ht ⟨_,rfl,ix ht ⟨sl,_,rfl,.inl (bF.of hsl),_,_,rfl,rfl,(show (0:Int) < (((ns.map V.int).length:Nat):Int) by rw[aad];omega),?_⟩⟩⟩⟩;have m1:=Int.emod_nonneg pos (show (((ns.map V.int).length:Nat):Int)≠0 by rw[aad];omega);have m2:=Int.emod_lt_of_pos pos (show (0:Int) < (((ns.map V.int).length:Nat):Int) by rw[aad];omega);rw[aad] at m1 m2;have hix:(ns.map V.int)[(pos % ((ns.map V.int).length:Int)).toNat]? = some (.int (ns[(pos % (ns.length:Int)).toNat]'(by omega))):=by
   rw[aad,aag];simp [show (pos % (ns.length:Int)).toNat < ns.length by omega]
  refine .inl ⟨sl,_,_,_,rfl,rfl,bF.of hsl,mC (by rw[aad];exact m1) hix,?_⟩;exact big _
theorem qC {f:Addr}{fd:FuncData} (F:Fun K "_law_draw" "_law_draw" (bM 29) f fd) (T:Txt mg):FnOk P w K mg base gX 1 f fd ["tape","many"] fL:=
 (jA F T).imp λ vs H Q E ⟨t,sl,many,e,tp,h0,h1,k⟩=>⟨t,sl,many,e,tp,h0,Int.lt_of_lt_of_le h1 (by decide),k⟩
structure Ext (t sl:Addr) (H H':Hp):Prop where
 bt:dJ t H H'
 tp:eJ H' t sl
theorem eJ.some {H:Hp}{t sl:Addr} (h:eJ H t sl):∃ o,H t=some o:=by obtain⟨ns,pos,cell,e,_⟩:=h;exact⟨_,e⟩
theorem eJ.put {H:Hp}{t sl p:Addr}{o:HO} (h:eJ H t sl) (h1:p≠t) (h2:p≠sl):eJ (upd H p o) t sl:=by
 obtain⟨ns,pos,cell,e,f,g⟩:=h;exact⟨ns,pos,cell,by rw[aH (Ne.symm h1)];exact e,by rw[aH (Ne.symm h2)];exact f,g⟩
theorem eJ.ne_sl {H:Hp}{t sl p:Addr} (h:eJ H t sl) (hp:H p=none):p≠sl:=by
 obtain⟨ns,pos,cell,e,f,g⟩:=h;exact λ z=>by rw[z,f] at hp;cases hp
theorem Ext.new {t sl p:Addr}{H H':Hp}{o:HO} (e:Ext t sl H H') (hp:H' p=none):Ext t sl H (upd H' p o):=⟨e.bt.trans (aF.new hp).but,e.tp.same (aF.new hp)⟩
theorem Ext.ne {t sl p:Addr}{H H':Hp} (e:Ext t sl H H') (hp:H' p=none):p≠t:=by
 obtain⟨o,h⟩:=e.tp.some;intro z;rw[z,h] at hp;cases hp
theorem Ext.ts {K:aab}{t sl:Addr}{H H':Hp} (e:Ext t sl H H') (tp:eJ H t sl):bC K H H':=e.bt.ts tp.mut
def Gn (t sl:Addr) (σ:St) (H0:Hp) (P:V->Prop) (te:TE):Prop:=∀ H Q,Ext t sl H0 H->(∀ v H',Ext t sl H0 H'->dJ t H H'->P v->Q v H')->te σ H Q
section
variable {t sl:Addr}{σ:St}{H0:Hp}{P:V->Prop}{a b c d:TE}
def cA (lo hi:Int):V->Prop:=λ v=>∃ i,v=.int i/\lo<=i/\i < hi
theorem Gn.imp {P':V->Prop} (h:Gn t sl σ H0 P a) (f:∀ v,P v->P' v):Gn t sl σ H0 P' a:=λ H Q e k=>h H Q e λ v H' e' b p=>k v H' e' b (f v p)
theorem kJ {v:V} (h:P v):Gn t sl σ H0 P (tC v):=λ H Q e k=>k v H e (dJ.refl H) h
theorem GK {i:Nat}{v:V} (cf:σ[i]? = some (some v)) (h:P v):Gn t sl σ H0 P (cN i):=λ H Q e k=>⟨v,cf,k v H e (dJ.refl H) h⟩
theorem eG (ha:Gn t sl σ H0 P a) (hb:Gn t sl σ H0 P b) (hc:Gn t sl σ H0 (cA 0 2) c):Gn t sl σ H0 P (fT (sP K) (AZ (cU a (cU b gZ))) c):=by
 intro H Q e k;refine ha H _ e λ v1 H1 e1 b1 p1=>hb H1 _ e1 λ v2 H2 e2 b2 p2=>⟨(show 2<=sizeLine by decide),λ p hp=>hc _ _ (e2.new hp) λ v H3 e3 b3 ⟨i,hi,h0,h1⟩=>?_⟩;subst hi;have hl:=b3 p _ (e2.ne hp) aB;have hb:dJ t H H3:=b1.trans (b2.trans ((aF.new hp).but.trans b3));rcases (show i=0\/i=1 by omega) with rfl | rfl
 ·exact .inl ⟨p,_,0,v1,rfl,rfl,bF.of hl,rfl,k v1 H3 e3 hb p1⟩
 ·exact .inl ⟨p,_,1,v2,rfl,rfl,bF.of hl,rfl,k v2 H3 e3 hb p2⟩
theorem nR (ha:Gn t sl σ H0 P a) (hb:Gn t sl σ H0 P b) (hd:Gn t sl σ H0 P d) (hc:Gn t sl σ H0 (cA 0 3) c):Gn t sl σ H0 P (fT (sP K) (AZ (cU a (cU b (cU d gZ)))) c):=by
 intro H Q e k;refine ha H _ e λ v1 H1 e1 b1 p1=>hb H1 _ e1 λ v2 H2 e2 b2 p2=>hd H2 _ e2 λ v4 H4 e4 b4 p4=>⟨(show 3<=sizeLine by decide),λ p hp=>hc _ _ (e4.new hp) λ v H3 e3 b3 ⟨i,hi,h0,h1⟩=>?_⟩;subst hi;have hl:=b3 p _ (e4.ne hp) aB;have hb:dJ t H H3:=b1.trans (b2.trans (b4.trans ((aF.new hp).but.trans b3)));rcases (show i=0\/i=1\/i=2 by omega) with rfl | rfl | rfl
 ·exact .inl ⟨p,_,0,v1,rfl,rfl,bF.of hl,rfl,k v1 H3 e3 hb p1⟩
 ·exact .inl ⟨p,_,1,v2,rfl,rfl,bF.of hl,rfl,k v2 H3 e3 hb p2⟩
 ·exact .inl ⟨p,_,2,v4,rfl,rfl,bF.of hl,rfl,k v4 H3 e3 hb p4⟩
theorem qI {i:Nat}{lo hi:Int} (cf:σ[i]? = some (some (.ref t))) (hlo:0 < lo) (hhi:hi<=1000000) (ha:Gn t sl σ H0 (cA lo hi) a):Gn t sl σ H0 (λ v=>∃ r m,v=.int r/\0<=r/\r < m/\lo<=m/\m < hi) (lJ fL [] E0 (cU (cN i) (cU a gZ))):=by
 intro H Q e k;refine⟨_,cf,ha H _ e λ v H1 e1 b1 ⟨m,hm,h0,h1⟩=>?_⟩;subst hm;exact⟨t,sl,m,rfl,e1.tp,by omega,by omega,λ r H2 b2 t2 r0 r1=>k _ H2 ⟨e1.bt.trans b2,t2⟩ (b1.trans b2) ⟨r,m,rfl,r0,r1,h0,h1⟩⟩
theorem aZ {i:Nat}{m:Int} (cf:σ[i]? = some (some (.ref t))) (h0:0 < m) (h1:m < 1000000):Gn t sl σ H0 (cA 0 m) (lJ fL [] E0 (cU (cN i) (cU (tC (.int m)) gZ))):=
 (qI (lo:=m) (hi:=m+1) cf h0 (by omega) (kJ ⟨m,rfl,by omega,by omega⟩)).imp λ v ⟨r,m',e,a,b,c,d⟩=>⟨r,e,a,by omega⟩
theorem iC {i j:Nat}{m:Int} (cf:σ[i]? = some (some (.ref t))) (hj:σ[j]? = some (some (.int m))) (h0:0 < m) (h1:m < 1000000):Gn t sl σ H0 (cA 0 m) (lJ fL [] E0 (cU (cN i) (cU (cN j) gZ))):=
 (qI (lo:=m) (hi:=m+1) cf h0 (by omega) (GK hj ⟨m,rfl,by omega,by omega⟩)).imp λ v ⟨r,m',e,a,b,c,d⟩=>⟨r,e,a,by omega⟩
theorem nS {x y l h:Int} (ha:Gn t sl σ H0 (cA x y) a) (hb:Gn t sl σ H0 (cA l h) b):Gn t sl σ H0 (cA (x+l) (y+h - 1)) (fT (pQ λ i j=>.int (i+j)) a b):=by
 intro H Q e k;refine ha H _ e λ v1 H1 e1 b1 ⟨i,hi,i0,i1⟩=>hb H1 _ e1 λ v2 H2 e2 b2 ⟨j,hj,j0,j1⟩=>?_;subst hi hj;exact⟨i,j,rfl,rfl,k _ H2 e2 (b1.trans b2) ⟨_,rfl,by omega,by omega⟩⟩
theorem tX {y m:Int} (hm:0 < m) (hm2:m < 1000000) (ha:Gn t sl σ H0 (cA 0 y) a):Gn t sl σ H0 (λ v=>∃ i,v=.int (i / m)/\0<=i/\i < y) (fT (rI CI λ i j=>.int (i / j)) a (tC (.int m))):=by
 intro H Q e k;refine ha H _ e λ v1 H1 e1 b1 ⟨i,hi,i0,i1⟩=>?_;subst hi;exact⟨i,m,rfl,rfl,⟨hm,by omega⟩,k _ H1 e1 b1 ⟨i,rfl,i0,i1⟩⟩
theorem tW {y c0:Int} (ha:Gn t sl σ H0 (cA 0 y) a):Gn t sl σ H0 (λ v=>∃ b:Bool,v=.bl b) (fT rEq a (tC (.int c0))):=by
 intro H Q e k;refine ha H _ e λ v1 H1 e1 b1 ⟨i,hi,i0,i1⟩=>?_;subst hi;exact⟨rfl,k _ H1 e1 b1 ⟨_,rfl⟩⟩
theorem zZ {y c0:Int} (ha:Gn t sl σ H0 (cA 0 y) a):Gn t sl σ H0 (λ v=>∃ b:Bool,v=.bl b) (fT (pQ λ i j=>.bl (decide (j < i))) a (tC (.int c0))):=by
 intro H Q e k;refine ha H _ e λ v1 H1 e1 b1 ⟨i,hi,i0,i1⟩=>?_;subst hi;exact⟨i,c0,rfl,rfl,k _ H1 e1 b1 ⟨_,rfl⟩⟩
abbrev yD:List V->Hp->VK->Prop:=λ xs H Q=>(∃ i,xs=[.int i]/\Q (.int i) H)\/∃ k,xs=[.bl k]/\Q (.int (if k then 1 else 0)) H
theorem zY {i:Nat}{s:Bool} (cf:σ[i]? = some (some (.bl s))):Gn t sl σ H0 (cA 0 2) (CL yD (cU (cN i) gZ)):=by
 intro H Q e k;refine⟨_,cf,.inr ⟨s,rfl,k _ H e (dJ.refl H) ?_⟩⟩;cases s
 ·exact⟨0,rfl,by omega,by omega⟩
 ·exact⟨1,rfl,by omega,by omega⟩
theorem m9 {i:Nat}{s:Bool}{x y lo hi:Int} (cf:σ[i]? = some (some (.bl s))) (h1:lo<=x/\x < hi) (h2:lo<=y/\y < hi):Gn t sl σ H0 (cA lo hi) (fT (sP K) (AZ (cU (tC (.int x)) (cU (tC (.int y)) gZ))) (CL yD (cU (cN i) gZ))):=
 eG (kJ ⟨x,rfl,h1.1,h1.2⟩) (kJ ⟨y,rfl,h2.1,h2.2⟩) (zY cf)
theorem mB (ha:Gn t sl σ H0 (cA 0 4) a):Gn t sl σ H0 (cA 0 2) (fT (rI CI λ i j=>.int (i / j)) a (tC (.int 3))):=
 (tX (by decide) (by decide) ha).imp λ v ⟨i,e,a,b⟩=>⟨i / 3,e,by omega,by omega⟩
theorem g8 {lo hi lo' hi':Int} (h:Gn t sl σ H0 (cA lo hi) a) (h1:lo'<=lo) (h2:hi<=hi'):Gn t sl σ H0 (cA lo' hi') a:=h.imp λ v ⟨i,e,a,b⟩=>⟨i,e,by omega,by omega⟩
theorem iD {i:Nat}{lo hi:Int} (cf:σ[i]? = some (some (.ref t))) (hlo:0 < lo) (hhi:hi<=1000000) (ha:Gn t sl σ H0 (cA lo hi) a):Gn t sl σ H0 (cA 0 (hi - 1)) (lJ fL [] E0 (cU (cN i) (cU a gZ))):=
 (qI cf hlo hhi ha).imp λ v ⟨r,m,e,a,b,c,d⟩=>⟨r,e,a,by omega⟩
end
def tD (K:aab):Sp:=λ args H Q _=>∃ (t sl:Addr) (n:Nat) (small:Bool),args=[.ref t,.int (n:Int),.bl small]/\eJ H t sl/\1<=n/\n<=12/\
 ∀ (outs:List (Option Int×Int)) p H',Ext t sl H H'->outs≠[]->outs.length<=3->(∀ o∈outs,OutOk n o)->Is K H' (.tup (outs.map outD)) p->Q p H'
theorem jZ:FnScope ["tape","many","small","outs","k","target","parts"] ["tape","many","small"] (aP (bM 30)):={}
theorem qA {f fD:Addr}{fd fdD:FuncData} (F:Fun K "_law_outs" "_law_outs" (bM 30) f fd) (T:Txt mg) (G__law_draw:Callee P w K mg base "_law_draw" ["tape","many"] 1 fL fD fdD):FnOk P w K mg base gX 2 f fd ["tape","many","small"] (tD K):=by
 refine F.ok jZ (λ vs H Q E h=>?_) (λ cdv A outer s H vs Q E hr h=>?_)
 ·obtain⟨t,sl,n,small,rfl,_⟩:=h;rfl
 ·obtain⟨t,sl,n,small,rfl,tp,n1,n2,k⟩:=h;have sc:=jZ;refine⟨_,(aD (pL 3 sc.nd (bD aC))
   (aD (dD PassesOwn.never rfl (bT rfl T.b_range (aA (aT cC aG (px K (bD (aA (dB G__law_draw hr (aA (pv 0) (aA aG aC))) (aA (dB G__law_draw hr (aA (pv 0) (aA aG aC))) aC))) (dB G__law_draw hr (aA (pv 0) (aA aG aC))))) aC)) (gL 4 sc.nd) (aD (pL 5 sc.nd (px K (bD (aA fM (aA (dB G__law_draw hr (aA (pv 0) (aA (pv 1) aC))) (aA (dB G__law_draw hr (aA (pv 0) (aA (pv 1) aC))) aC)))) (dB G__law_draw hr (aA (pv 0) (aA aG aC)))))
   (aD (pL 6 sc.nd (px K (bD (aA (dB G__law_draw hr (aA (pv 0) (aA aG aC))) (aA (dB G__law_draw hr (aA (pv 0) (aA (px K (bD (aA aG (aA aG aC))) (aU g9 rfl T.b_int lG (aA (pv 2) aC))) aC))) aC))) (aT fI (dB G__law_draw hr (aA (pv 0) (aA aG aC))) aG)))
   (aK (cG (d8 (K:=K) rfl aav abd abe bU (pv 3) (aA (bG (aA (pv 5) (aA (aT cC aG (pv 6)) aC))) aC)))))))
   (aK (bE (aU (bL (K:=K) rfl) rfl T.b_tuple bR (aA (pv 3) aC)))))),?_⟩
  refine⟨abn _,λ ol hol=>?_⟩;have e0:Ext t sl H (upd H ol (.lst [])):=Ext.new ⟨dJ.refl H,tp⟩ hol;have no:ol≠t:=Ext.ne ⟨dJ.refl H,tp⟩ hol;refine nS (x:=1) (y:=2) (l:=0) (h:=3) (H0:=upd H ol (.lst [])) (t:=t) (sl:=sl) (kJ ⟨1,rfl,by omega,by omega⟩)
   (eG (g8 (aZ rfl (by decide) (by decide)) (Int.le_refl _) (by decide)) (aZ rfl (by decide) (by decide)) (aZ rfl (by decide) (by decide))) _ _ ⟨dJ.refl _,e0.tp⟩ ?_
  rintro v H1 e1 _ ⟨m,rfl,m0,m1⟩;refine⟨m,rfl,by omega,by omega,?_⟩;refine dA (lo:=0) (n:=m.toNat) (λ i Z H'=>Ext t sl H H'/\∃ (outs:List (Option Int×Int)) (xs:List V),H' ol=some (.lst xs)/\IsL K H' (outs.map outD) xs/\outs.length=i/\(∀ o∈outs,OutOk n o)/\
   ∃ v4 v5 v6,Z=[some (.ref t),some (.int (n:Int)),some (.bl small),some (.ref ol),v4,v5,v6]) ?_ ?_ ?_
  ·exact⟨⟨e0.bt.trans e1.bt,e1.tp⟩,[],[],e1.bt ol _ no aB,.nil,rfl,λ o ho=>(nomatch ho),none,none,none,rfl⟩
  ·rintro i Z H2 hi ⟨e2,outs,xs,ho,hl,hlen,hok,v4,v5,v6,rfl⟩;refine nR (H0:=H2) (t:=t) (sl:=sl) (P:=λ v=>∃ o:Option Int,v=j5 o/\∀ z,o=some z->0<=z/\z < n) (kJ ⟨none,rfl,λ z h=>nomatch h⟩)
    ((iC (m:=(n:Int)) rfl rfl (by omega) (by omega)).imp λ v ⟨r,e,a,b⟩=>⟨some r,e,λ z h=>by cases h;exact⟨a,by omega⟩⟩)
    ((iC (m:=(n:Int)) rfl rfl (by omega) (by omega)).imp λ v ⟨r,e,a,b⟩=>⟨some r,e,λ z h=>by cases h;exact⟨a,by omega⟩⟩) (aZ rfl (by decide) (by decide)) _ _ ⟨dJ.refl _,e2.tp⟩ ?_
   rintro v H3 e3 _ ⟨tg,rfl,htg⟩;refine eG (H0:=H3) (t:=t) (sl:=sl) (P:=cA 0 60) (g8 (aZ rfl (by decide) (by decide)) (Int.le_refl _) (by decide))
    (g8 (iD (lo:=3) (hi:=61) rfl (by decide) (by decide) (m9 rfl ⟨by decide,by decide⟩ ⟨by decide,by decide⟩)) (Int.le_refl _) (by decide)) (mB (aZ rfl (by decide) (by decide))) _ _ ⟨dJ.refl _,e3.tp⟩ ?_
   rintro v H4 e4 _ ⟨pt,rfl,p0,p1⟩;have ho4:H4 ol=some (.lst xs):=e4.bt ol _ no (e3.bt ol _ no ho);refine⟨_,rfl,.inl ⟨rfl,_,bF.of ho4⟩,_,rfl,_,rfl,_,_,rfl,rfl,(show 2<=sizeLine by decide),λ q hq=>?_⟩;have nq:ol≠q:=aJ ho4 hq;have hxl:xs.length=outs.length:=by rw[hl.length,aad]
   have hm3:m.toNat<=3:=by omega
   refine⟨ol,xs,_,rfl,rfl,by rw[aH nq];exact ho4,aM (by omega),?_⟩;have e5:Ext t sl H2 (upd H4 q (.tup [j5 tg,.int (1+pt)])):=Ext.new ⟨e3.bt.trans e4.bt,e4.tp⟩ hq;have ts:bC K H2 (upd (upd H4 q (.tup [j5 tg,.int (1+pt)])) ol (.lst (xs++[.ref q]))):=bC.put (e5.ts e2.tp) (.inr (by rw[aH nq,ho4];exact trivial));refine⟨⟨λ b o hb e=>?_,?_⟩,outs++[(tg,1+pt)],xs++[.ref q],aB,?_,by simp [hlen],?_,_,_,_,rfl⟩
   ·rw[aH (aJ e hol)];exact e5.bt b o hb (e2.bt b o hb e)
   ·exact e5.tp.put no (eJ.ne_sl tp hol)
   ·rw[aal];exact IsL.snoc (Is.tupOf (ds:=[AO tg,.int (1+pt)]) (bC.put (bC.refl _) (.inr (by rw[aH nq,ho4];exact trivial)) _ _ (bB.of aB)) (.cons (Is.tgOf tg) (.cons (Is.i _) .nil))) (IsL.mono ts _ _ hl)
   ·intro o ho;rcases aci.mp ho with ho | ho
    ·exact hok o ho
    ·rw[acd.mp ho];exact⟨λ z hz=>htg z hz,by show 1<=1+pt;omega,by show 1+pt<=60;omega⟩
  ·rintro Z H2 ⟨e2,outs,xs,ho,hl,hlen,hok,v4,v5,v6,rfl⟩;refine⟨_,rfl,ol,_,rfl,.inl ⟨bF.of ho,λ l hlf=>?_⟩⟩;refine k outs _ _ (e2.new hlf) (λ z=>by rw[z] at hlen;simp at hlen;omega) (by omega) hok (Is.tupOf (bB.of aB) (IsL.mono (aF.new hlf).ts _ _ hl))
end Tw
namespace L2
theorem vF {c:TT}{a b:TS}{D:Ends}{σ:St}{H:Hp} (I:St->Hp->Prop) (h1:∀ D':Ends,(∀ Z H',I Z H'->D'.nx Z H')->xV c a b D' σ H) (h2:∀ Z H',I Z H'->D.nx Z H'):xV c a b D σ H:=h1 D h2
theorem EQ {i:TI}{g:TG}{b:TS}{D:Ends}{σ:St}{H:Hp} (I:St->Hp->Prop) (h1:∀ D':Ends,(∀ Z H',I Z H'->D'.nx Z H')->DL i g b D' σ H) (h2:∀ Z H',I Z H'->D.nx Z H'):DL i g b D σ H:=h1 D h2
end L2
namespace Tw
open PySem L2
section
variable {t sl:Addr}{σ:St}{H0:Hp}{P:V->Prop}{a b c d:TE}
theorem zR {y c0:Int}{t' u':TS}{D':Ends}{H:Hp} (ha:Gn t sl σ H0 (cA 0 y) a) (e:Ext t sl H0 H) (k:∀ (b:Bool) H',Ext t sl H0 H'->dJ t H H'->if b=true then t' D' σ H' else u' D' σ H'):xV (uJ (fT rEq a (tC (.int c0)))) t' u' D' σ H:=
 tW ha H _ e λ v H' e' b ⟨c,hc⟩=>⟨c,hc,k c H' e' b⟩
theorem wW {i:Nat}{s:Bool} (cf:σ[i]? = some (some (.bl s))) (ha:Gn t sl σ H0 (cA 0 2) a):Gn t sl σ H0 (cA 0 2) (fT (rI sN λ i j=>.int (i * j)) a (CL yD (cU (CJ (cN i)) gZ))):=by
 intro H Q e k;refine ha H _ e λ v1 H1 e1 b1 ⟨j,hj,j0,j1⟩=>⟨_,cf,s,rfl,.inr ⟨!s,rfl,?_⟩⟩;subst hj;refine⟨j,_,rfl,rfl,.inl ⟨by omega,by omega⟩,k _ H1 e1 b1 ?_⟩;cases s
 ·exact⟨j,by simp,j0,j1⟩
 ·exact⟨0,by simp,by omega,by omega⟩
theorem zX {j:Nat}{x y:Int} (hj:σ[j]? = some (some (.int y))):Gn t sl σ H0 (cA (x - y) (x - y+1)) (fT (pQ λ i j=>.int (i - j)) (tC (.int x)) (cN j)):=λ H Q e k=>
 ⟨_,hj,x,y,rfl,rfl,k _ H e (dJ.refl H) ⟨_,rfl,by omega,by omega⟩⟩
theorem vH {j:Nat}{y l h:Int} (hj:σ[j]? = some (some (.int y))) (hb:Gn t sl σ H0 (cA l h) b):Gn t sl σ H0 (cA (y+l) (y+h)) (fT (pQ λ i j=>.int (i+j)) (cN j) b):=
 g8 (nS (x:=y) (y:=y+1) (GK hj ⟨y,rfl,by omega,by omega⟩) hb) (by omega) (by omega)
end
structure VFull (i:Nat) (v:Vs):Prop where
 sz:v.size<=60
 br:v.size<=v.brim
 bh:v.brim<=200
 sp:∀ t,v.spill=some t->(i:Int) < t
structure NetFull (net:Net):Prop where
 vs:∀ i v,net.vs[i]? = some v->VFull i v
 sps:∀ s∈net.sps,0<=s.2.1/\s.2.1<=60
def mU (K:aab):Sp:=λ args H Q _=>∃ (t sl:Addr) (i n m:Nat) (small:Bool),args=[.ref t,.int (i:Int),.int (n:Int),.int (m:Int),.bl small]/\eJ H t sl/\i < n/\n<=12/\m<=12/\
 ∀ (v:Vs) p H',Ext t sl H H'->VOk n m v->VFull i v->Is K H' (r8 v) p->Q p H'
theorem hX:FnScope ["tape","number","many","spouts","small","size","brim","spill","acts","k"] ["tape","number","many","spouts","small"] (aP (bM 31)):={}
theorem nH {f fD fO:Addr}{fd fdD fdO:FuncData} (F:Fun K "_law_vessel" "_law_vessel" (bM 31) f fd) (T:Txt mg) (G__law_draw:Callee P w K mg base "_law_draw" ["tape","many"] 1 fL fD fdD)
  (G__law_outs:Callee P w K mg base "_law_outs" ["tape","many","small"] 2 (tD K) fO fdO):FnOk P w K mg base gX 3 f fd ["tape","number","many","spouts","small"] (mU K):=by
 refine F.ok hX (λ vs H Q E h=>?_) (λ cdv A outer s H vs Q E hr h=>?_)
 ·obtain⟨t,sl,i,n,m,small,rfl,_⟩:=h;rfl
 ·obtain⟨t,sl,i,n,m,small,rfl,tp,hi,hn,hm,k⟩:=h;have sc:=hX;refine⟨_,(aD (pL 5 sc.nd (aT cC aG (px K (bD (aA (dB G__law_draw hr (aA (pv 0) (aA (px K (bD (aA aG (aA aG aC))) (aU g9 rfl T.b_int lG (aA (pv 4) aC))) aC))) (aA (dB G__law_draw hr (aA (pv 0) (aA (px K (bD (aA aG (aA aG aC))) (aU g9 rfl T.b_int lG (aA (pv 4) aC))) aC))) aC))) (aT fI (dB G__law_draw hr (aA (pv 0) (aA aG aC))) aG))))
   (aD (pL 6 sc.nd (aT cC (pv 5) (px K (bD (aA aG (aA (dB G__law_draw hr (aA (pv 0) (aA (aT i6 aG (pv 5)) aC))) aC))) (aT i7 (dB G__law_draw hr (aA (pv 0) (aA aG aC))) (aU g9 rfl T.b_int lG (aA (pR (pv 4)) aC))))))
   (aD (dR (bQ lP (dB G__law_draw hr (aA (pv 0) (aA aG aC))) aG (cD _)) (aK (pL 6 sc.nd (aT cC (pv 5) (dB G__law_draw hr (aA (pv 0) (aA aG aC)))))) cB)
   (aD (pL 7 sc.nd fM)
   (aD (dR (PW.pt (yG (bQ uW (aT cC (pv 1) aG) (pv 2) (cD _)) (uR (bQ lP (dB G__law_draw hr (aA (pv 0) (aA aG aC))) aG (cD _))))) (aK (pL 7 sc.nd (aT cC (aT cC (pv 1) aG) (dB G__law_draw hr (aA (pv 0) (aA (aT i6 (aT i6 (pv 2) (pv 1)) aG) aC)))))) cB)
   (aD (pL 8 sc.nd (bD aC))
   (aD (dR (bQ rL (pv 3) aG (cD _)) (aK (dD PassesOwn.never rfl (bT rfl T.b_range (aA (aT fI (dB G__law_draw hr (aA (pv 0) (aA aG aC))) aG) aC)) (gL 9 sc.nd) (aK (cG (d8 (K:=K) rfl aav abd abe bU (pv 8) (aA (bG (aA (px K (bD (aA gG (aA gG (aA gG aC)))) (dB G__law_draw hr (aA (pv 0) (aA aG aC)))) (aA (dB G__law_draw hr (aA (pv 0) (aA (pv 3) aC))) aC))) aC)))))) cB)
   (aK (bE (bG (aA (pv 5) (aA (pv 6) (aA (dB G__law_outs hr (aA (pv 0) (aA (pv 2) (aA (pv 4) aC)))) (aA (iM lP (dB G__law_draw hr (aA (pv 0) (aA aG aC))) aG (cD _)) (aA (pv 7) (aA (aU (bL (K:=K) rfl) rfl T.b_tuple bR (aA (pv 8) aC)) aC)))))))))))))))),?_⟩
  refine nS (t:=t) (sl:=sl) (H0:=H) (x:=1) (y:=2) (l:=0) (h:=60) (kJ ⟨1,rfl,by omega,by omega⟩)
   (eG (g8 (iD (lo:=4) (hi:=10) rfl (by decide) (by decide) (m9 rfl ⟨by decide,by decide⟩ ⟨by decide,by decide⟩)) (Int.le_refl _) (by decide))
    (g8 (iD (lo:=4) (hi:=61) rfl (by decide) (by decide) (m9 rfl ⟨by decide,by decide⟩ ⟨by decide,by decide⟩)) (Int.le_refl _) (by decide)) (mB (aZ rfl (by decide) (by decide)))) _ _ ⟨dJ.refl _,tp⟩ ?_
  rintro v H1 e1 _ ⟨size,rfl,s0,s1⟩;refine vH (t:=t) (sl:=sl) (H0:=H) (y:=size) (l:=0) (h:=201 - size) rfl (eG (kJ ⟨0,rfl,by omega,by omega⟩)
   (g8 (iD (lo:=201 - size) (hi:=201 - size+1) rfl (by omega) (by omega) (zX rfl)) (Int.le_refl _) (by omega)) (wW rfl (aZ rfl (by decide) (by decide)))) _ _ e1 ?_
  rintro v H2 e2 _ ⟨brim,rfl,br0,br1⟩;dsimp only [iZ,h7,tC,cX];refine vF (λ Z H'=>Ext t sl H H'/\∃ brim,size<=brim/\brim<=200/\Z=[some (.ref t),some (.int (i:Int)),some (.int (n:Int)),some (.int (m:Int)),some (.bl small),some (.int size),some (.int brim),none,none,none]) (λ D' hD=>?_) ?_
  ·refine zR (t:=t) (sl:=sl) (H0:=H) (aZ rfl (by decide) (by decide)) e2 λ b H3 e3 _=>?_;cases b with
   | false=>exact j4 (hD _ _ ⟨e3,brim,by omega,by omega,rfl⟩)
   | true=>
    refine lC ?_;refine vH (t:=t) (sl:=sl) (H0:=H) (y:=size) (l:=0) (h:=3) rfl (aZ rfl (by decide) (by decide)) _ _ e3 ?_;rintro v H4 e4 _ ⟨b2,rfl,c0,c1⟩;exact hD _ _ ⟨e4,b2,by omega,by omega,rfl⟩
  rintro am H3 ⟨e3,brim,hb1,hb2,rfl⟩;dsimp only [iZ,h7,tC,cX];refine vF (λ Z H'=>Ext t sl H H'/\∃ sp:Option Int,(∀ z,sp=some z->(0<=z/\z < n)/\(i:Int) < z)/\Z=[some (.ref t),some (.int (i:Int)),some (.int (n:Int)),some (.int (m:Int)),some (.bl small),some (.int size),some (.int brim),some (j5 sp),none,none]) (λ D' hD=>?_) ?_
  ·refine⟨_,rfl,_,_,rfl,rfl,_,rfl,_,_,rfl,rfl,_,rfl,?_⟩;refine gM (λ hlt=>?_) (λ _=>j4 (hD _ _ ⟨e3,none,(λ z h=>nomatch h),rfl⟩));have hlt':(i:Int)+1 < n:=abw hlt;refine tW (t:=t) (sl:=sl) (H0:=H) (aZ rfl (by decide) (by decide)) _ _ e3 ?_;rintro v H4 e4 _ ⟨b,rfl⟩;refine⟨b,rfl,?_⟩;cases b with
   | false=>exact j4 (hD _ _ ⟨e4,none,(λ z h=>nomatch h),rfl⟩)
   | true=>
    refine lC ?_;refine⟨_,rfl,_,_,rfl,rfl,_,rfl,_,rfl,_,rfl,_,_,rfl,rfl,_,_,rfl,rfl,t,sl,(n:Int) - i - 1,rfl,e4.tp,by omega,by omega,λ r H5 b5 t5 r0 r1=>⟨_,_,rfl,rfl,?_⟩⟩;exact hD _ _ ⟨⟨e4.bt.trans b5,t5⟩,some ((i:Int)+1+r),λ z h=>by cases h;omega,rfl⟩
  rintro σ4 H4 ⟨e4,sp,hsp,rfl⟩;refine⟨abn _,λ al hal=>?_⟩;dsimp only [iZ,h7,tC,cX];have fal:H al=none:=e4.bt.free (e4.ne hal) hal;have nal:al≠t:=e4.ne hal;refine vF (λ Z H'=>Ext t sl H H'/\∃ (acts:List (Str×Int)) (xs:List V),H' al=some (.lst xs)/\L2.IsL K H' (acts.map uB) xs/\acts.length<=3/\(∀ a∈acts,ActOk m a)/\
   ∃ v9,Z=[some (.ref t),some (.int (i:Int)),some (.int (n:Int)),some (.int (m:Int)),some (.bl small),some (.int size),some (.int brim),some (j5 sp),some (.ref al),v9]) (λ D' hD=>?_) ?_
  ·refine⟨_,rfl,_,_,rfl,rfl,_,rfl,?_⟩;refine gM (λ hlt=>?_) (λ _=>hD _ _ ⟨e4.new hal,[],[],aB,.nil,by simp,λ a ha=>(nomatch ha),none,rfl⟩);have hm0:(0:Int) < m:=abw hlt;refine tX (t:=t) (sl:=sl) (H0:=H) (by decide) (by decide) (aZ (m:=11) rfl (by decide) (by decide)) _ _ (e4.new hal) ?_;rintro v H5 e5 b5 ⟨c,rfl,c0,c1⟩;refine⟨_,rfl,by omega,by omega,?_⟩;refine dA (lo:=0) (n:=(c / 3).toNat) (λ j Z H'=>Ext t sl H H'/\∃ (acts:List (Str×Int)) (xs:List V),H' al=some (.lst xs)/\L2.IsL K H' (acts.map uB) xs/\acts.length=j/\(∀ a∈acts,ActOk m a)/\
    ∃ v9,Z=[some (.ref t),some (.int (i:Int)),some (.int (n:Int)),some (.int (m:Int)),some (.bl small),some (.int size),some (.int brim),some (j5 sp),some (.ref al),v9]) ?_ ?_ ?_
   ·exact⟨e5,[],[],b5 al _ nal aB,.nil,rfl,λ a ha=>(nomatch ha),none,rfl⟩
   ·rintro j Z H6 hj ⟨e6,acts,xs,ha,hl,hlen,hok,v9,rfl⟩;refine⟨_,rfl,.inl ⟨rfl,_,bF.of ha⟩,?_⟩;refine nR (t:=t) (sl:=sl) (H0:=H) (P:=λ v=>∃ wd:Str,v=.str wd/\(wd = "open" \/ wd = "shut" \/ wd = "turn")) (kJ ⟨_,rfl,.inl rfl⟩) (kJ ⟨_,rfl,.inr (.inl rfl)⟩) (kJ ⟨_,rfl,.inr (.inr rfl)⟩) (aZ rfl (by decide) (by decide)) _ _ e6 ?_;rintro v H7 e7 b7 ⟨wd,rfl,hwd⟩;refine iC (t:=t) (sl:=sl) (H0:=H) (m:=(m:Int)) rfl rfl hm0 (by omega) _ _ e7 ?_;rintro v H8 e8 b8 ⟨r,rfl,r0,r1⟩;refine⟨(show 2<=sizeLine by decide),λ q hq=>?_⟩;have ha8:H8 al=some (.lst xs):=b8 al _ nal (b7 al _ nal ha);have nq:al≠q:=aJ ha8 hq;have hxl:xs.length=acts.length:=by rw[hl.length,aad]
    refine⟨al,xs,_,rfl,rfl,by rw[aH nq];exact ha8,aM (by omega),?_⟩;have e9:Ext t sl H (upd H8 q (.tup [.str wd,.int r])):=e8.new hq;have mt:oM (upd H8 q (.tup [.str wd,.int r]) al):=by rw[aH nq,ha8];exact trivial
    have ts:bC K H6 (upd (upd H8 q (.tup [.str wd,.int r])) al (.lst (xs++[.ref q]))):=bC.put (((b7.trans b8).trans (aF.new hq).but).ts e6.tp.mut) (.inr mt);refine⟨⟨λ b o hb e=>?_,e9.tp.put nal (eJ.ne_sl tp fal)⟩,acts++[(wd,r)],xs++[.ref q],aB,?_,by simp [hlen],?_,_,rfl⟩
    ·rw[aH (aJ e fal)];exact e9.bt b o hb e
    ·rw[aal];exact L2.IsL.snoc (Is.tupOf (ds:=[.str wd,.int r]) (bC.put (bC.refl _) (.inr mt) _ _ (bB.of aB)) (.cons (Is.s _) (.cons (Is.i _) .nil))) (L2.IsL.mono ts _ _ hl)
    ·intro a ha';rcases aci.mp ha' with ha' | ha'
     ·exact hok a ha'
     ·rw[acd.mp ha'];exact⟨hwd,r0,r1⟩
   ·rintro Z H6 ⟨e6,acts,xs,ha,hl,hlen,hok,v9,rfl⟩;exact hD _ _ ⟨e6,acts,xs,ha,hl,by omega,hok,v9,rfl⟩
  rintro ce H5 ⟨e5,acts,xs,ha,hl,hlen,hok,v9,rfl⟩;refine⟨_,rfl,_,rfl,_,rfl,_,rfl,_,rfl,t,sl,n,small,rfl,e5.tp,by omega,hn,λ outs p H6 e6 o1 o2 o3 hp=>?_⟩;refine tW (t:=t) (sl:=sl) (H0:=H) (aZ rfl (by decide) (by decide)) _ _ ⟨e5.bt.trans e6.bt,e6.tp⟩ ?_;rintro v H7 e7 b7 ⟨b,rfl⟩;have ha7:H7 al=some (.lst xs):=b7 al _ nal (e6.bt al _ nal ha);have b57:dJ t H5 H7:=e6.bt.trans b7;refine⟨_,rfl,_,rfl,al,_,rfl,.inl ⟨bF.of ha7,λ q hq=>⟨(show 6<=sizeLine by decide),λ r hr'=>?_⟩⟩⟩;have m1:=aF.new (o:=HO.tup xs) hq;have m2:aF (upd H7 q (.tup xs)) (upd (upd H7 q (.tup xs)) r (.tup [.int size,.int brim,p,.bl b,j5 sp,.ref q])):=aF.new hr';refine k ⟨size,brim,outs,b,sp,acts⟩ _ _ ((e7.new hq).new hr') ⟨s0,o1,o2,o3,λ z h=>(hsp z h).1,hlen,hok⟩ ⟨by show size<=60;omega,hb1,hb2,λ z h=>(hsp z h).2⟩ ?_;refine Is.tupOf (bB.of aB) (.cons (Is.i _) (.cons (Is.i _) (.cons ?_ (.cons (Is.b _) (.cons (Is.tgOf _) (.cons ?_ .nil))))))
  ·exact Is.mono m2.ts _ _ (Is.mono m1.ts _ _ (Is.mono (b7.ts e6.tp.mut) _ _ hp))
  ·exact Is.mono m2.ts _ _ (Is.tupOf (bB.of aB) (L2.IsL.mono m1.ts _ _ (L2.IsL.mono (b57.ts e5.tp.mut) _ _ hl)))
theorem Ext.put {t sl p:Addr}{H H':Hp}{o:HO} (e:Ext t sl H H') (tp:eJ H t sl) (hp:H p=none):Ext t sl H (upd H' p o):=
 ⟨λ b u hb e1=>by rw[aH (aJ e1 hp)];exact e.bt b u hb e1,e.tp.put (λ z=>by obtain⟨o,h⟩:=tp.some;rw[z,h] at hp;cases hp) (eJ.ne_sl tp hp)⟩
theorem Ext.trans {t sl:Addr}{H H1 H2:Hp} (a:Ext t sl H H1) (b:Ext t sl H1 H2):Ext t sl H H2:=⟨a.bt.trans b.bt,b.tp⟩
def tE (K:aab):Sp:=λ args H Q _=>∃ (t sl:Addr) (most:Int) (small:Bool),args=[.ref t,.int most,.bl small]/\1<=most/\most<=12/\eJ H t sl/\
 ∀ (net:Net) p H',Ext t sl H H'->NetOk net->NetFull net->(net.vs.length:Int)<=most->Is K H' (fB net) p->Q p H'
theorem lM:FnScope ["tape","most","small","many","spouts","vessels","found","k","flow"] ["tape","most","small"] (aP (bM 32)):={}
theorem qB {f fD fV:Addr}{fd fdD fdV:FuncData} (F:Fun K "_law_net" "_law_net" (bM 32) f fd) (T:Txt mg) (G__law_draw:Callee P w K mg base "_law_draw" ["tape","many"] 1 fL fD fdD)
  (G__law_vessel:Callee P w K mg base "_law_vessel" ["tape","number","many","spouts","small"] 3 (mU K) fV fdV):FnOk P w K mg base gX 4 f fd ["tape","most","small"] (tE K):=by
 refine F.ok lM (λ vs H Q E h=>?_) (λ cdv A outer s H vs Q E hr h=>?_)
 ·obtain⟨t,sl,most,small,rfl,_⟩:=h;rfl
 ·obtain⟨t,sl,most,small,rfl,mo1,mo2,tp,k⟩:=h;have sc:=lM;refine⟨_,(aD (dY (i:=3) sc.nd rfl (Or.inr rfl) (aT cC aG (dB G__law_draw hr (aA (pv 0) (aA (pv 1) aC)))))
   (aD (dY (i:=4) sc.nd rfl (Or.inr rfl) (px K (bD (aA (dB G__law_draw hr (aA (pv 0) (aA aG aC))) (aA (dB G__law_draw hr (aA (pv 0) (aA aG aC))) aC))) (aT fI (dB G__law_draw hr (aA (pv 0) (aA aG aC))) aG)))
   (aD (fX (i:=5) sc.nd rfl rfl (λ _ _ h=>h) rfl (LcOk.mk (N':=["k","tape","many","spouts","small"]) (fr:=[none,some 0,some 3,some 4,some 2]) rfl ⟨rfl,rfl,rfl,rfl,trivial⟩ rfl rfl rfl rfl rfl ⟨⟨_,rfl,rfl,rfl,rfl⟩,⟨_,rfl,rfl,rfl,rfl⟩,⟨_,rfl,rfl,rfl,rfl⟩,⟨_,rfl,rfl,rfl,rfl⟩,trivial⟩) (bT rfl T.b_range (aA (pv 3) aC)) (λ _ _ _=>(gC 0 ["k","tape","many","spouts","small"])) (λ _ _ _=>cH) (λ _ _ _=>(dB G__law_vessel hr (aA (pv 1) (aA (pv 0) (aA (pv 2) (aA (pv 3) (aA (pv 4) aC))))))))
   (aD (pL 6 sc.nd (bD aC))
   (aD (dD PassesOwn.never rfl (bT rfl T.b_range (aA (pv 4) aC)) (gL 7 sc.nd) (aD (pL 8 sc.nd (px K (bD (aA (dB G__law_draw hr (aA (pv 0) (aA aG aC))) (aA (dB G__law_draw hr (aA (pv 0) (aA (px K (bD (aA aG (aA aG aC))) (aU g9 rfl T.b_int lG (aA (pv 2) aC))) aC))) aC))) (aT fI (dB G__law_draw hr (aA (pv 0) (aA aG aC))) aG)))
   (aK (cG (d8 (K:=K) rfl aav abd abe bU (pv 6) (aA (bG (aA (dB G__law_draw hr (aA (pv 0) (aA (pv 3) aC))) (aA (pv 8) (aA (iM rL (dB G__law_draw hr (aA (pv 0) (aA aG aC))) aG (cD _)) aC)))) aC))))))
   (aK (bE (bG (aA (aU (bL (K:=K) rfl) rfl T.b_tuple bR (aA (pv 5) aC)) (aA (aU (bL (K:=K) rfl) rfl T.b_tuple bR (aA (pv 6) aC)) aC)))))))))),?_⟩
  refine nS (t:=t) (sl:=sl) (H0:=H) (x:=1) (y:=2) (l:=0) (h:=most) (kJ ⟨1,rfl,by omega,by omega⟩) (iC (m:=most) rfl rfl (by omega) (by omega)) _ _ ⟨dJ.refl _,tp⟩ ?_;rintro v H1 e1 _ ⟨n',rfl,n0,n1⟩;obtain⟨n,rfl⟩:=Int.eq_ofNat_of_zero_le (show 0<=n' by omega);refine eG (t:=t) (sl:=sl) (H0:=H) (P:=cA 0 13) (g8 (aZ rfl (by decide) (by decide)) (Int.le_refl _) (by decide)) (aZ rfl (by decide) (by decide)) (mB (aZ rfl (by decide) (by decide))) _ _ e1 ?_;rintro v H2 e2 _ ⟨m',rfl,m0,m1⟩;obtain⟨m,rfl⟩:=Int.eq_ofNat_of_zero_le m0;refine⟨_,rfl,_,rfl,by omega,by omega,?_⟩;refine g6 (n:=n) (λ D i r Z H'=>H2 D=none/\Ext t sl H H'/\H' D=some (.lst r)/\∃ vs:List Vs,vs.length=i/\L2.IsL K H' (vs.map r8) r/\(∀ v∈vs,VOk n m v)/\(∀ i v,vs[i]? = some v->VFull i v)/\∃ v0,Z=[v0,some (.ref t),some (.int (n:Int)),some (.int (m:Int)),some (.bl small)])
   (λ D hD=>⟨hD,e2.new hD,aB,[],rfl,.nil,(λ v hv=>nomatch hv),(λ i v hv=>by simp at hv),none,rfl⟩) ?_ ?_
  rotate_left
  ·rintro D i r Z H3 hi ⟨hD,e3,hl,vs,hlen,hvl,hok,hfu,v0,rfl⟩;refine dU ?_;refine⟨_,rfl,_,rfl,_,rfl,_,rfl,_,rfl,t,sl,i,n,m,small,rfl,e3.tp,hi,by omega,by omega,λ v p H4 e4 vok vfu hp=>?_⟩;have nD:D≠t:=e2.ne hD;have fD:H D=none:=e2.bt.free nD hD;have hl4:H4 D=some (.lst r):=e4.bt D _ nD hl;have hrl:r.length=vs.length:=by rw[hvl.length,aad]
   have mt:oM (H4 D):=by rw[hl4];exact trivial
   refine⟨hl4,aM (by omega),hD,(e3.trans e4).put tp fD,aB,vs++[v],by simp [hlen],?_,?_,?_,_,rfl⟩
   ·rw[aal];exact L2.IsL.snoc (Is.mono (bC.put (bC.refl _) (.inr mt)) _ _ hp) (L2.IsL.mono (bC.put (e4.bt.ts e3.tp.mut) (.inr mt)) _ _ hvl)
   ·intro u hu;rcases aci.mp hu with hu | hu
    ·exact hok u hu
    ·rw[acd.mp hu];exact vok
   ·intro j u hu;rcases Nat.lt_or_ge j vs.length with hj | hj
    ·rw[abk hj] at hu;exact hfu j u hu
    ·rw[abp hj] at hu;have e0:j - vs.length=0:=by
      rcases Nat.eq_zero_or_pos (j - vs.length) with h | h
      ·exact h
      ·rw[List.getElem?_eq_none (show [v].length<=j - vs.length from h)] at hu;cases hu
     rw[e0] at hu;have e1:j=i:=by omega
     cases hu;rw[e1];exact vfu
  rintro D r Z H3 ⟨hD,e3,hl,vs,hlen,hvl,hok,hfu,_⟩;have nD:D≠t:=e2.ne hD;have fD:H D=none:=e2.bt.free nD hD;refine⟨abn _,λ fl hfl=>?_⟩;have nf:fl≠t:=e3.ne hfl;have ff:H fl=none:=e3.bt.free nf hfl;have nDf:D≠fl:=aJ hl hfl;refine⟨_,rfl,_,rfl,by omega,by omega,?_⟩;refine dA (lo:=0) (n:=m) (λ j Z H'=>Ext t sl H H'/\H' D=some (.lst r)/\L2.IsL K H' (vs.map r8) r/\∃ (sps:List vU) (xs:List V),H' fl=some (.lst xs)/\L2.IsL K H' (sps.map CM) xs/\sps.length=j/\(∀ s∈sps,(0<=s.1/\s.1 < n)/\0<=s.2.1/\s.2.1<=60)/\
   ∃ v7 v8,Z=[some (.ref t),some (.int most),some (.bl small),some (.int (n:Int)),some (.int (m:Int)),some (.ref D),some (.ref fl),v7,v8]) ?_ ?_ ?_
  ·exact⟨e3.new hfl,by rw[aH nDf];exact hl,L2.IsL.mono (aF.new hfl).ts _ _ hvl,[],[],aB,.nil,rfl,(λ s hs=>nomatch hs),none,none,rfl⟩
  ·rintro j Z H4 hj ⟨e4,hl4,hv4,sps,xs,hf4,hs4,hslen,hsok,v7,v8,rfl⟩;refine eG (t:=t) (sl:=sl) (H0:=H) (P:=cA 0 61) (g8 (aZ rfl (by decide) (by decide)) (Int.le_refl _) (by decide))
    (g8 (iD (lo:=4) (hi:=62) rfl (by decide) (by decide) (m9 rfl ⟨by decide,by decide⟩ ⟨by decide,by decide⟩)) (Int.le_refl _) (by decide)) (mB (aZ rfl (by decide) (by decide))) _ _ e4 ?_
   rintro v H5 e5 b5 ⟨flow,rfl,fl0,fl1⟩;have hf5:H5 fl=some (.lst xs):=b5 fl _ nf hf4;refine⟨_,rfl,.inl ⟨rfl,_,bF.of hf5⟩,?_⟩;refine iC (t:=t) (sl:=sl) (H0:=H) (m:=(n:Int)) rfl rfl (by omega) (by omega) _ _ e5 ?_;rintro v H6 e6 b6 ⟨tg,rfl,tg0,tg1⟩;refine⟨_,rfl,?_⟩;refine zZ (t:=t) (sl:=sl) (H0:=H) (aZ rfl (by decide) (by decide)) _ _ e6 ?_;rintro v H7 e7 b7 ⟨dr,rfl⟩;refine⟨(show 3<=sizeLine by decide),λ q hq=>?_⟩;have b47:dJ t H4 H7:=b5.trans (b6.trans b7);have hf7:H7 fl=some (.lst xs):=b47 fl _ nf hf4;have hl7:H7 D=some (.lst r):=b47 D _ nD hl4;have nq:fl≠q:=aJ hf7 hq;have nDq:D≠q:=aJ hl7 hq;have hxl:xs.length=sps.length:=by rw[hs4.length,aad]
   refine⟨fl,xs,_,rfl,rfl,by rw[aH nq];exact hf7,aM (by omega),?_⟩;have mt:oM (upd H7 q (.tup [.int tg,.int flow,.bl dr]) fl):=by rw[aH nq,hf7];exact trivial
   have ts:bC K H4 (upd (upd H7 q (.tup [.int tg,.int flow,.bl dr])) fl (.lst (xs++[.ref q]))):=bC.put ((b47.trans (aF.new hq).but).ts e4.tp.mut) (.inr mt);refine⟨(e7.new hq).put tp ff,by rw[aH nDf,aH nDq];exact hl7,L2.IsL.mono ts _ _ hv4,sps++[(tg,flow,dr)],xs++[.ref q],aB,?_,by simp [hslen],?_,_,_,rfl⟩
   ·rw[aal];exact L2.IsL.snoc (Is.tupOf (ds:=[.int tg,.int flow,.bl dr]) (bC.put (bC.refl _) (.inr mt) _ _ (bB.of aB)) (.cons (Is.i _) (.cons (Is.i _) (.cons (Is.b _) .nil)))) (L2.IsL.mono ts _ _ hs4)
   ·intro s hs;rcases aci.mp hs with hs | hs
    ·exact hsok s hs
    ·rw[acd.mp hs];exact⟨⟨tg0,tg1⟩,fl0,show flow<=60 by omega⟩
  ·rintro Z H4 ⟨e4,hl4,hv4,sps,xs,hf4,hs4,hslen,hsok,v7,v8,rfl⟩;refine⟨_,rfl,D,_,rfl,.inl ⟨bF.of hl4,λ q1 hq1=>⟨_,rfl,fl,_,rfl,.inl ⟨bF.of (aF.new hq1 _ _ hf4),λ q2 hq2=>⟨(show 2<=sizeLine by decide),λ q3 hq3=>?_⟩⟩⟩⟩⟩;have m1:aF H4 (upd H4 q1 (.tup r)):=aF.new hq1;have m2:aF (upd H4 q1 (.tup r)) (upd (upd H4 q1 (.tup r)) q2 (.tup xs)):=aF.new hq2;have m3:aF (upd (upd H4 q1 (.tup r)) q2 (.tup xs)) (upd (upd (upd H4 q1 (.tup r)) q2 (.tup xs)) q3 (.tup [.ref q1,.ref q2])):=aF.new hq3;refine k ⟨vs,sps⟩ _ _ (((e4.new hq1).new hq2).new hq3) ⟨by show 1<=vs.length;omega,by show vs.length<=12;omega,by show sps.length<=12;omega,λ v hv=>by rw[hlen,hslen];exact hok v hv,λ s hs=>by rw[hlen];exact (hsok s hs).1⟩ ⟨hfu,λ s hs=>(hsok s hs).2⟩ (by show (vs.length:Int)<=most;omega) ?_;refine Is.tupOf (bB.of aB) (.cons (Is.tupOf (m3.tup (m2.tup (bB.of aB))) ?_) (.cons (Is.tupOf (m3.tup (bB.of aB)) ?_) .nil))
   ·exact L2.IsL.mono m3.ts _ _ (L2.IsL.mono m2.ts _ _ (L2.IsL.mono m1.ts _ _ hv4))
   ·exact L2.IsL.mono m3.ts _ _ (L2.IsL.mono m2.ts _ _ (L2.IsL.mono m1.ts _ _ hs4))
theorem y8:∀ n:Nat,(List.replicate n [V.int 0]).flatten=(List.replicate n (0:Int)).map V.int
 | 0=>rfl
 | n+1=>by rw[List.replicate_succ,List.replicate_succ,List.flatten_cons,y8 n,aap];rfl
def cT (n:Nat):List Int:=List.replicate n 0
def iK (K:aab):Sp:=λ args H Q _=>∃ (x:V) (net:Net),args=[x]/\Is K H (fB net) x/\NetOk net/\
 ∀ p H',aF H H'->Is K H' (sO (cT net.vs.length) (cT net.vs.length) (net.sps.map (·.2.2))) p->Q p H'
theorem hW:FnScope ["net","vessels","spouts","empty"] ["net"] (aP (bM 1)):={}
theorem nG {f:Addr}{fd:FuncData} (F:Fun K "first_state" "first_state" (bM 1) f fd) (T:Txt mg):FnOk P w K mg base gX 1 f fd ["net"] (iK K):=by
 refine F.ok hW (λ vs H Q E h=>?_) (λ cdv A outer s H vs Q E hr h=>?_)
 ·obtain⟨x,net,rfl,_⟩:=h;rfl
 ·obtain⟨x,net,rfl,hx,nok,k⟩:=h;have sc:=hW;refine⟨_,(aD (bY (pv 0) (aX (K:=K) (n:=2) rfl rfl (aE (gL 1 sc.nd) (aE (gL 2 sc.nd) aW))))
   (aD (pL 3 sc.nd (aT (nB (K:=K) rfl) (bG (aA aG aC)) (oT K T.b_len (pv 1))))
   (aK (bE (bG (aA (pv 3) (aA (pv 3) (aA (aU (bL (K:=K) rfl) rfl T.b_tuple bR (aA (eW (λ _ _ h=>h) rfl (LcOk.mk (N':=["target","flow","door"]) (fr:=[none,none,none]) rfl trivial rfl rfl rfl rfl rfl trivial) (dS (K:=K) rfl (pv 2)) (λ _ _ _=>(aX (K:=K) (n:=3) rfl rfl (aE (gC 0 ["target","flow","door"]) (aE (gC 1 ["target","flow","door"]) (aE (gC 2 ["target","flow","door"]) aW))))) (λ _ _ _=>cH) (λ _ _ _=>(pv 2))) aC)) aC)))))))),?_⟩
  obtain⟨a,b,c,xs,ys,rfl,q,q1,l1,q2,l2⟩:=dL hx;have exl:xs.length=net.vs.length:=by rw[l1.length,aad]
  have eyl:ys.length=net.sps.length:=by rw[l2.length,aad]
  have n1:=nok.lo;have n2:=nok.hi;have n3:=nok.sp;refine⟨_,rfl,a,_,rfl,q,rfl,_,_,rfl,_,_,rfl,rfl,?_⟩;refine⟨(show 1<=sizeLine by decide),λ z hz=>⟨_,rfl,b,xs,rfl,.inr ((aF.new hz).tup q1),z,_,[.int 0],rfl,rfl,bB.of aB,by omega,by omega,by simp,by simp,λ e H1 sm1 qe=>?_⟩⟩;have s1:aF H H1:=(aF.new hz).trans sm1;have en:((xs.length:Nat):Int).toNat=net.vs.length:=by rw[exl];simp
  rw[en,y8] at qe;refine⟨_,rfl,_,rfl,_,rfl,c,rfl,⟨_,s1.tup q2⟩,i9 (K:=K) (a:=c) (xs:=ys) (λ D i r Z H'=>H1 D=none/\aF H1 H'/\H' D=some (.lst r)/\r=((net.sps.take i).map (·.2.2)).map V.bl/\∃ u v w,Z=[u,v,w])
   (λ D i r Z H' p=>p.2.1.tup (s1.tup q2)) (λ D hD=>⟨hD,aF.new hD,aB,by simp,none,none,none,rfl⟩) ?_ ?_⟩
  rotate_left
  ·rintro D i x r Z H2 hx ⟨hD,sm,hDl,rfl,u,v,w',rfl⟩;obtain⟨sp,hsi,sa,rfl,qs⟩:=mR l2 hx;have hil:=(aaf.mp hsi).1;refine⟨sa,_,rfl,sm.tup (s1.tup qs),rfl,_,_,rfl,_,_,rfl,_,_,rfl,rfl,?_⟩;refine mF ⟨_,rfl,hDl,aM (by simp;omega),hD,sm.put hD,aB,?_,_,_,_,rfl⟩;rw[aR hsi];simp
  ·rintro D r Z H2 ⟨hD,sm,hDl,rfl,_⟩;rw[eyl,aax] at hDl;refine⟨D,_,rfl,.inl ⟨bF.of hDl,λ d hd=>⟨(show 3<=sizeLine by decide),λ r hr'=>?_⟩⟩⟩;have m1:aF H2 (upd H2 d (.tup ((net.sps.map (·.2.2)).map V.bl))):=aF.new hd;have m2:aF (upd H2 d (.tup ((net.sps.map (·.2.2)).map V.bl))) (upd (upd H2 d (.tup ((net.sps.map (·.2.2)).map V.bl))) r (.tup [.ref e,.ref e,.ref d])):=aF.new hr';refine k _ _ (((s1.trans sm).trans m1).trans m2) (uK (bB.of aB) ?_ ?_ (m2.tup (bB.of aB)))
   ·exact m2.tup (m1.tup (sm.tup qe))
   ·exact m2.tup (m1.tup (sm.tup qe))
theorem j8:FnScope ["net","none"] ["net"] (aP (bM 33)):={}
theorem oG {f:Addr}{fd:FuncData} (F:Fun K "_law_first" "_law_first" (bM 33) f fd) (T:Txt mg):FnOk P w K mg base gX 1 f fd ["net"] (iK K):=by
 refine F.ok j8 (λ vs H Q E h=>?_) (λ cdv A outer s H vs Q E hr h=>?_)
 ·obtain⟨x,net,rfl,_⟩:=h;rfl
 ·obtain⟨x,net,rfl,hx,nok,k⟩:=h;have sc:=j8;refine⟨_,(aD (pL 1 sc.nd (aT (nB (K:=K) rfl) (bG (aA aG aC)) (oT K T.b_len (px K (pv 0) aG))))
   (aK (bE (bG (aA (pv 1) (aA (pv 1) (aA (aU (bL (K:=K) rfl) rfl T.b_tuple bR (aA (eW (λ _ _ h=>h) rfl (LcOk.mk (N':=["spout"]) (fr:=[none]) rfl trivial rfl rfl rfl rfl rfl trivial) (dS (K:=K) rfl (px K (pv 0) aG)) (λ _ _ _=>(gC 0 ["spout"])) (λ _ _ _=>cH) (λ _ _ _=>(px K (pv 0) aG))) aC)) aC))))))),?_⟩
  obtain⟨a,b,c,xs,ys,rfl,q,q1,l1,q2,l2⟩:=dL hx;have exl:xs.length=net.vs.length:=by rw[l1.length,aad]
  have eyl:ys.length=net.sps.length:=by rw[l2.length,aad]
  have n1:=nok.lo;have n2:=nok.hi;have n3:=nok.sp;refine⟨(show 1<=sizeLine by decide),λ z hz=>⟨_,rfl,.inr (.inl ⟨a,_,0,_,rfl,rfl,(aF.new hz).tup q,rfl,b,xs,rfl,.inr ((aF.new hz).tup q1),z,_,[.int 0],rfl,rfl,bB.of aB,by omega,by omega,by simp,by simp,λ e H1 sm1 qe=>?_⟩)⟩⟩;have s1:aF H H1:=(aF.new hz).trans sm1;have en:((xs.length:Nat):Int).toNat=net.vs.length:=by rw[exl];simp
  rw[en,y8] at qe;refine⟨_,rfl,_,rfl,_,rfl,.inr (.inl ⟨a,_,1,_,rfl,rfl,s1.tup q,rfl,c,rfl,⟨_,s1.tup q2⟩,i9 (K:=K) (a:=c) (xs:=ys) (λ D i r Z H'=>H1 D=none/\aF H1 H'/\H' D=some (.lst r)/\r=((net.sps.take i).map (·.2.2)).map V.bl/\∃ u,Z=[u])
   (λ D i r Z H' p=>p.2.1.tup (s1.tup q2)) (λ D hD=>⟨hD,aF.new hD,aB,by simp,none,rfl⟩) ?_ ?_⟩)⟩
  rotate_left
  ·rintro D i x r Z H2 hx ⟨hD,sm,hDl,rfl,u,rfl⟩;obtain⟨sp,hsi,sa,rfl,qs⟩:=mR l2 hx;have hil:=(aaf.mp hsi).1;refine dU ?_;refine⟨_,rfl,.inr (.inl ⟨sa,_,2,_,rfl,rfl,sm.tup (s1.tup qs),rfl,hDl,aM (by simp;omega),hD,sm.put hD,aB,?_,_,rfl⟩)⟩;rw[aR hsi];simp
  ·rintro D r Z H2 ⟨hD,sm,hDl,rfl,_⟩;rw[eyl,aax] at hDl;refine⟨D,_,rfl,.inl ⟨bF.of hDl,λ d hd=>⟨(show 3<=sizeLine by decide),λ r hr'=>?_⟩⟩⟩;have m1:aF H2 (upd H2 d (.tup ((net.sps.map (·.2.2)).map V.bl))):=aF.new hd;have m2:aF (upd H2 d (.tup ((net.sps.map (·.2.2)).map V.bl))) (upd (upd H2 d (.tup ((net.sps.map (·.2.2)).map V.bl))) r (.tup [.ref e,.ref e,.ref d])):=aF.new hr';refine k _ _ (((s1.trans sm).trans m1).trans m2) (uK (bB.of aB) ?_ ?_ (m2.tup (bB.of aB)))
   ·exact m2.tup (m1.tup (sm.tup qe))
   ·exact m2.tup (m1.tup (sm.tup qe))
def FH (K:aab) (H:Hp) (a:Addr) (xs:List V):Prop:=bB K H a xs\/bF K H a xs
theorem FH.same {H H':Hp}{a:Addr}{xs:List V} (h:FH K H a xs) (s:aF H H'):FH K H' a xs:=h.elim (λ h=>.inl (s.tup h)) λ h=>.inr (s.seq h)
theorem GH {H:Hp}{z:Addr}{xs:List V}{i:Int}{v:V}{Q:VK} (h:FH K H z xs) (e:AE xs i=some v) (k:Q v H):sP K (.ref z) (.int i) H Q:=h.elim (λ h=>.inr (.inl ⟨z,xs,i,v,rfl,rfl,h,e,k⟩)) λ h=>.inl ⟨z,xs,i,v,rfl,rfl,h,e,k⟩
def kU (K:aab):Sp:=λ args H Q _=>∃ (x y:V) (z:Addr) (net:Net) (held coming poured:List Int) (doors:List Bool),args=[x,y,.ref z]/\Is K H (fB net) x/\Is K H (sO held coming doors) y/\FH K H z (poured.map V.int)/\
 NetOk net/\StOk net held coming doors/\poured.length=net.vs.length/\∀ p H',aF H H'->H p=none->H' p=some (.lst ((aL net held coming poured doors).map V.int))->Q (.ref p) H'
theorem hZ:FnScope ["net","state","poured","has","k"] ["net","state","poured"] (aP (bM 34)):={}
theorem nI {f:Addr}{fd:FuncData} (F:Fun K "_law_filled" "_law_filled" (bM 34) f fd) (T:Txt mg):FnOk P w K mg base gX 1 f fd ["net","state","poured"] (kU K):=by
 refine F.ok hZ (λ vs H Q E h=>?_) (λ cdv A outer s H vs Q E hr h=>?_)
 ·obtain⟨x,y,z,net,held,coming,poured,doors,rfl,_⟩:=h;rfl
 ·obtain⟨x,y,z,net,held,coming,poured,doors,rfl,hx,hy,qz,nok,sok,hpl,k⟩:=h;have sc:=hZ;refine⟨_,(aD (fX (i:=3) sc.nd rfl rfl (λ _ _ h=>h) rfl (LcOk.mk (N':=["k","poured","state"]) (fr:=[none,some 2,some 1]) rfl ⟨rfl,rfl,trivial⟩ rfl rfl rfl rfl rfl ⟨⟨_,rfl,rfl,rfl,rfl⟩,⟨_,rfl,rfl,rfl,rfl⟩,trivial⟩) (bT rfl T.b_range (aA (oT K T.b_len (px K (pv 0) aG)) aC)) (λ _ _ _=>(gC 0 ["k","poured","state"])) (λ _ _ _=>cH) (λ _ _ _=>(aT cC (aT cC (px K (px K (pv 2) aG) (pv 0)) (px K (px K (pv 2) aG) (pv 0))) (px K (pv 1) (pv 0)))))
   (aD (dD PassesOwn.never rfl (bT rfl T.b_range (aA (oT K T.b_len (px K (pv 0) aG)) aC)) (gL 4 sc.nd) (aK (dR (i5 (px K (px K (pv 1) aG) (pv 4))) (aK (bY (aT cC (px K (pv 3) (px K (px K (px K (pv 0) aG) (pv 4)) aG)) (px K (px K (px K (pv 0) aG) (pv 4)) aG)) (kY (pv 3) (px K (px K (px K (pv 0) aG) (pv 4)) aG) eU))) cB)))
   (aK (bE (pv 3))))),?_⟩
  obtain⟨a,b,c,xs,ys,rfl,q,q1,l1,q2,l2⟩:=dL hx;obtain⟨ay,a1,a2,a3,rfl,qy,p1,p2,p3⟩:=rE hy;have exl:xs.length=net.vs.length:=by rw[l1.length,aad]
  have eyl:ys.length=net.sps.length:=by rw[l2.length,aad]
  have n1:=nok.lo;have n2:=nok.hi;have n3:=nok.sp;have la:=fA sok.h sok.c hpl;refine⟨_,rfl,.inr (.inl ⟨a,_,0,_,rfl,rfl,q,rfl,b,xs,rfl,.inr q1,_,rfl,by omega,by omega,?_⟩)⟩;have hn:((xs.length:Nat):Int).toNat=net.vs.length:=by rw[exl];simp
  rw[hn];refine g6 (n:=net.vs.length) (λ D i r Z H'=>H D=none/\aF H H'/\H' D=some (.lst r)/\r=((fC held coming poured).take i).map V.int/\∃ v,Z=[v,some (.ref z),some (.ref ay)])
   (λ D hD=>⟨hD,aF.new hD,aB,by simp,none,rfl⟩) ?_ ?_
  rotate_left
  ·rintro D i r Z H' hi ⟨hD,sm,hDl,rfl,v,rfl⟩;refine dU ?_;have g1:held[i]? = some (held[i]'(by rw[sok.h];exact hi)):=by simp
   have g2:coming[i]? = some (coming[i]'(by rw[sok.c];exact hi)):=by simp
   have g3:poured[i]? = some (poured[i]'(by rw[hpl];exact hi)):=by simp
   have g4:=o7 g1 g2 g3;have m1:∀ {l:List Int}{u:Int},l[i]? = some u->(l.map V.int)[i]? = some (.int u):=λ e=>by rw[aag,e];rfl
   refine⟨_,rfl,.inr (.inl ⟨ay,_,0,_,rfl,rfl,sm.tup qy,rfl,_,rfl,.inr (.inl ⟨a1,_,(i:Int),_,rfl,rfl,sm.tup p1,bW (m1 g1),?_⟩)⟩)⟩;refine⟨_,rfl,.inr (.inl ⟨ay,_,1,_,rfl,rfl,sm.tup qy,rfl,_,rfl,.inr (.inl ⟨a2,_,(i:Int),_,rfl,rfl,sm.tup p2,bW (m1 g2),?_⟩)⟩)⟩;refine⟨_,_,rfl,rfl,_,rfl,_,rfl,GH (qz.same sm) (bW (m1 g3)) ⟨_,_,rfl,rfl,hDl,aM (by simp;omega),hD,sm.put hD,aB,?_,_,rfl⟩⟩;rw[aR g4,aal];rfl
  rintro D r Z H1 ⟨hD,sm,hDl,rfl,_⟩;rw[<- la,aax] at hDl;refine⟨_,rfl,.inr (.inl ⟨a,_,1,_,rfl,rfl,sm.tup q,rfl,c,ys,rfl,.inr (sm.tup q2),_,rfl,by omega,by omega,?_⟩)⟩;have hm:((ys.length:Nat):Int).toNat=net.sps.length:=by rw[eyl];simp
  rw[hm];refine dA (lo:=0) (n:=net.sps.length) (λ i Z H'=>aF H H'/\H' D=some (.lst ((dN (fC held coming poured) (net.sps.take i) (doors.take i)).map V.int))/\
   ∃ v4,Z=[some (.ref a),some (.ref ay),some (.ref z),some (.ref D),v4]) ⟨sm,by cases net.sps <;> exact hDl,none,rfl⟩ ?_ ?_
  ·rintro i Z H2 hi ⟨sm2,h2,v4,rfl⟩;rw[Int.zero_add];have hsi:net.sps[i]? = some net.sps[i]:=by simp [hi]
   have hdi:doors[i]? = some (doors[i]'(by rw[sok.d];exact hi)):=by simp
   obtain⟨xv,hxv,ixv⟩:=l2.get (i:=i) (d:=CM net.sps[i]) (by rw[aag,hsi];rfl);obtain⟨sp,hsi',sa,rfl,qs⟩:=mR l2 hxv;rw[hsi] at hsi';cases hsi';have snoc:=jH net.sps doors i (fC held coming poured) _ _ hsi hdi;have hs:=nok.sps net.sps[i] (acf hi);have hdm:(doors.map V.bl)[i]? = some (.bl (doors[i]'(by rw[sok.d];exact hi))):=by rw[aag,hdi];rfl
   refine⟨_,rfl,.inr (.inl ⟨ay,_,2,_,rfl,rfl,sm2.tup qy,rfl,_,rfl,.inr (.inl ⟨a3,_,(i:Int),_,rfl,rfl,sm2.tup p3,bW hdm,_,rfl,?_⟩)⟩)⟩;cases hdr:(doors[i]'(by rw[sok.d];exact hi)) with
   | false=>
    rw[hdr] at snoc;refine j4 ?_;exact⟨sm2,by rw[snoc];exact h2,_,rfl⟩
   | true=>
    rw[hdr] at snoc;refine lC ?_;have hlen:(dN (fC held coming poured) (net.sps.take i) (doors.take i)).length=net.vs.length:=by rw[dZ,la]
    have hlt:net.sps[i].1.toNat < (dN (fC held coming poured) (net.sps.take i) (doors.take i)).length:=by rw[hlen];omega
    have hg:((dN (fC held coming poured) (net.sps.take i) (doors.take i)).map V.int)[net.sps[i].1.toNat]? = some (.int ((dN (fC held coming poured) (net.sps.take i) (doors.take i)).getD net.sps[i].1.toNat 0)):=by
     rw[aag,acp];simp [hlt]
    refine⟨_,rfl,_,rfl,.inr (.inl ⟨a,_,1,_,rfl,rfl,sm2.tup q,rfl,_,rfl,.inr (.inl ⟨c,ys,(i:Int),_,rfl,rfl,sm2.tup q2,bW hxv,.inr (.inl ⟨sa,_,0,_,rfl,rfl,sm2.tup qs,rfl,.inl ⟨D,_,_,_,rfl,rfl,bF.of h2,mC hs.1 hg,?_⟩⟩)⟩)⟩)⟩;refine⟨_,rfl,.inr (.inl ⟨a,_,1,_,rfl,rfl,sm2.tup q,rfl,_,rfl,.inr (.inl ⟨c,ys,(i:Int),_,rfl,rfl,sm2.tup q2,bW hxv,.inr (.inl ⟨sa,_,1,_,rfl,rfl,sm2.tup qs,rfl,_,_,rfl,rfl,?_⟩)⟩)⟩)⟩;refine⟨_,rfl,_,rfl,.inr (.inl ⟨a,_,1,_,rfl,rfl,sm2.tup q,rfl,_,rfl,.inr (.inl ⟨c,ys,(i:Int),_,rfl,rfl,sm2.tup q2,bW hxv,.inr (.inl ⟨sa,_,0,_,rfl,rfl,sm2.tup qs,rfl,D,_,_,net.sps[i].1.toNat,rfl,rfl,h2,m8 hs.1 (by rw[aad,hlen];omega),?_⟩)⟩)⟩)⟩;refine⟨sm2.put hD,?_,_,rfl⟩;rw[aB,snoc,nV,if_pos rfl,List.map_set]
  ·rintro Z H2 ⟨sm2,h2,v4,rfl⟩;rw[<- sok.d,aax,sok.d,aax] at h2;exact⟨_,rfl,k D H2 sm2 hD h2⟩
end Tw
namespace L2
open PySem PySem.Spec PyProof.Rows
theorem AB:∀ (names:List (Str×NameKind)) (h:Heap) (acc:List (Str×Addr)) (x:Str) (c:Addr),(cellsFrom h.objs.size names acc).lookup x=some c->
  (h.objs.size<=c/\(x,NameKind.cell)∈names/\(pushCells h names).IsCell c none)\/acc.lookup x=some c
 | [],h,acc,x,c,e=>.inr e
 | (name,kind)::r,h,acc,x,c,e=>by
  unfold cellsFrom at e;unfold pushCells;cases hk:kind == NameKind.cell with
  | true=>
   rw[hk,if_pos rfl] at e;rw[if_pos rfl];have hk':kind=.cell:=by simpa using hk
   have ih:=AB r (h.push { cls:=.type "cell",data:=.cell none }) ((name,h.objs.size)::acc) x c (by rw[abh];exact e);rw[abh] at ih;rcases ih with ⟨a,b,d⟩ | ih
   ·exact .inl ⟨Nat.le_of_succ_le a,aau _ b,d⟩
   ·cases hx:x == name with
    | true=>
     simp only [List.lookup_cons,hx] at ih;cases ih;have e':x=name:=by simpa using hx
     subst e' hk';exact .inl ⟨aaj _,abi,_,pushCells_keeps _ _ _ _ (aak _ rfl),rfl⟩
    | false=>
     simp only [List.lookup_cons,hx] at ih;exact .inr ih
  | false=>
   rw[hk,if_neg aai] at e;rw[if_neg aai];rcases AB r h acc x c e with ⟨a,b,d⟩ | ih
   ·exact .inl ⟨a,aau _ b,d⟩
   ·exact .inr ih
theorem qO:∀ (names:List (Str×NameKind)) (n m:Nat) (acc:List (Str×Addr)) (x:Str),m<=n->((x,NameKind.cell)∈names\/∃ c,m<=c/\acc.lookup x=some c)->∃ c,m<=c/\(cellsFrom n names acc).lookup x=some c
 | [],n,m,acc,x,_,h=>by
  rcases h with h | h
  ·simp at h
  ·exact h
 | (name,kind)::r,n,m,acc,x,hm,h=>by
  unfold cellsFrom;cases hk:kind == NameKind.cell with
  | true=>
   rw[if_pos rfl];have hk':kind=.cell:=by simpa using hk
   refine qO r (n+1) m _ x (by omega) ?_;cases hx:x == name with
   | true=>exact .inr ⟨n,hm,by simp only [List.lookup_cons,hx]⟩
   | false=>
    have ne:x≠name:=λ z=>by rw[z] at hx;simp at hx
    rcases h with h | ⟨c,h1,h2⟩
    ·rcases aay.mp h with h | h
     ·exact absurd (by injection h) ne
     ·exact .inl h
    ·exact .inr ⟨c,h1,by simp only [List.lookup_cons,hx];exact h2⟩
  | false=>
   rw[if_neg aai];refine qO r n m _ x hm ?_;rcases h with h | h
   ·rcases aay.mp h with h | h
    ·injection h with h1 h2;rw[<- h2] at hk;simp at hk
    ·exact .inl h
   ·exact .inr h
theorem qP:∀ (names:List (Str×NameKind)) (n:Nat) (acc:List (Str×Addr)) (x:Str),(x,NameKind.cell)∉names->(cellsFrom n names acc).lookup x=acc.lookup x
 | [],_,_,_,_=>rfl
 | (name,kind)::r,n,acc,x,h=>by
  unfold cellsFrom;have hr:(x,NameKind.cell)∉r:=λ z=>h (aau _ z);cases hk:kind == NameKind.cell with
  | true=>
   rw[if_pos rfl,qP r (n+1) _ x hr];have hk':kind=.cell:=by simpa using hk
   have hx:(x == name)=false:=by
    cases hx:x == name with
    | false=>rfl
    | true=>
     have e':x=name:=by simpa using hx
     subst e' hk';exact absurd abi h
   simp only [List.lookup_cons,hx]
  | false=>rw[if_neg aai,qP r n _ x hr]
theorem u5:∀ (names:List (Str×NameKind)) (n:Nat) (acc:List (Str×Addr)),(∀ x y c,acc.lookup x=some c->acc.lookup y=some c->x=y)->(∀ x c,acc.lookup x=some c->c < n)->
  ∀ x y c,(cellsFrom n names acc).lookup x=some c->(cellsFrom n names acc).lookup y=some c->x=y
 | [],_,_,h,_=>h
 | (name,kind)::r,n,acc,h,hb=>by
  unfold cellsFrom
  split
  ·refine u5 r (n+1) _ (λ x y c e1 e2=>?_) λ x c e=>?_
   ·cases hx:x == name <;> cases hy:y == name <;> simp only [List.lookup_cons,hx,hy] at e1 e2
    ·exact h x y c e1 e2
    ·cases e2;exact absurd (hb x _ e1) (ach _)
    ·cases e1;exact absurd (hb y _ e2) (ach _)
    ·have a:x=name:=by simpa using hx
     have b:y=name:=by simpa using hy
     rw[a,b]
   ·cases hx:x == name <;> simp only [List.lookup_cons,hx] at e
    ·exact Nat.lt_succ_of_lt (hb x c e)
    ·cases e;exact Nat.lt_succ_self _
  ·exact u5 r n acc h hb
section
variable {M:Model}{A:Around}{E:Value->Shared->Prop}{s:Shared}
theorem oB {scope:Scope}{globals:Addr}{cl:List (Str×Addr)}{qual:Str}{func:Option Addr}{code:Value}{env:Env}{builtins:Addr}{Q:Env->Shared->Prop}
  (h:Q { scope,locals:=s.heap.objs.size,globals,cells:=cellsFrom (s.heap.objs.size+1) scope.names cl,qual,func,code:=env.code,frame:=env.frame,builtins:=env.builtins }
   { s with heap:=pushCells (s.heap.push { cls:=.type "dict",data:=.dict #[] }) scope.names }):wpAny M A (newFunctionEnv scope globals cl [] qual func code (some env) builtins) Q E s:=by
 simp only [newFunctionEnv,Option.isSome_some,if_true];refine aaa (wpAny_alloc ?_);refine aaa (wpAny_layCells _ (λ name kind cells=>by cases hkc:kind == NameKind.cell <;> simp [hkc]) _ _ _ _ ?_);rw[show ({ s with heap:=s.heap.push { cls:=.type "dict",data:=.dict #[] } }:Shared).heap.objs.size=s.heap.objs.size+1 from abh ..];rw[List.forIn_nil];exact aaa (aae (aae h))
end
structure LcOk2 (X:Cx) (scope:Scope) (cl:List (Str×Addr)) (N':List Str) (fr:List (Option Nat)):Prop where
 clos:closureFor scope X.env=pure cl
 cls:xL X.env cl
 kind:scope.kind=.function
 owns:(scope.names.all λ p=>p.2 != NameKind.cell || scope.names.lookup p.1 == some NameKind.cell)=true
 locs:(scope.names.all λ p=>p.2 != NameKind.local || scope.names.lookup p.1 == some NameKind.local)=true
 frees:(scope.names.all λ p=>p.2 != NameKind.free || (cl.lookup p.1).isSome)=true
 len:fr.length=N'.length
 fr:qW X scope N' fr 0
def qY (X:Cx) (N':List Str) (scope:Scope) (cl:List (Str×Addr)) (fp:List Addr) (s:Shared) (H:Hp):Cx:=
 { X with N:=N',s₀:=s,H₀:=H,env:=compEnvC scope (cellsFrom (s.heap.objs.size+1) scope.names cl) s.heap.objs.size X.env,outer:=X.stack,ex:=fp,fn:=λ x=>scope.names.lookup x == some .cell,pn:=[] }
section
variable {X:Cx}
theorem LcOk2.cells {scope:Scope}{cl:List (Str×Addr)}{N':List Str}{fr:List (Option Nat)} (S:LcOk2 X scope cl N' fr) {s:Shared}{o:Obj}{x:Str}{c:Addr} (e:(cellsFrom (s.heap.objs.size+1) scope.names cl).lookup x=some c) :
  (s.heap.objs.size < c/\(x,NameKind.cell)∈scope.names/\(pushCells (s.heap.push o) scope.names).IsCell c none)\/X.env.cells.lookup x=some c:=by
 have:=AB scope.names (s.heap.push o) cl x c (by rw[abh];exact e);rw[abh] at this;rcases this with ⟨a,b,d⟩ | h
 ·exact .inl ⟨a,b,d⟩
 ·exact .inr (S.cls.get x c h)
theorem LcOk2.invC {scope:Scope}{cl:List (Str×Addr)}{N':List Str}{fr:List (Option Nat)}{pins:List (Addr×Obj)}{σ:St}{H:Hp}{s:Shared}{o:Obj}{fp:List Addr}{m1:Str->Option Value}{tk:Nat}
  (S:LcOk2 X scope cl N' fr) (I:Inv X pins σ H s) (hf:∀ b∈fp,eP X pins H b) (hfo:∀ b∈fp,b < s.heap.objs.size)
  (hn:(pushCells (s.heap.push o) scope.names).Ns s.heap.objs.size m1):Inv (qY X N' scope cl fp s H) [] (oI fr σ) H { s with heap:=pushCells (s.heap.push o) scope.names,toks:=tk }:=by
 have hfree:=S.frees;have hown:=S.owns;rw[aca] at hfree hown;have k:∀ b o',s.heap.get? b=some o'->(pushCells (s.heap.push o) scope.names).get? b=some o':=λ b o' e=>pushCells_keeps _ _ b o' (aac _ e);have fresh:H s.heap.objs.size=none:=I.hok.fresh (aaj _);have clg:=S.cls.get;have cg:=λ x c e=>S.cells (s:=s) (o:=o) (x:=x) (c:=c) e;have clt:∀ x c,cl.lookup x=some c->c < s.heap.objs.size:=λ x c e=>by
  obtain⟨v,oc,hoc,hd⟩:=I.cell x c (clg x c e);exact aam hoc
 have notown:∀ x,scope.names.lookup x=some .free->(x,NameKind.cell)∉scope.names:=λ x e hm=>by
  have:=hown _ hm;simp only [bne_self_eq_false,Bool.false_or,beq_iff_eq] at this;rw[e] at this;cases this
 refine⟨⟨I.ok.mod,S.kind,I.ok.glob,I.ok.blt,aaj _,u5 scope.names _ cl (λ x y c e1 e2=>I.ok.inj x y c (clg x c e1) (clg y c e2)) (λ x c e=>Nat.lt_succ_of_lt (clt x c e)),λ x hx=>?_,λ x c e1 e2=>?_,I.ok.hd,I.ok.frames,.inl rfl,λ b hb=>⟨abb (hfo b hb),λ x c e=>?_⟩,
  I.bs,acj I.ok.bsz I.sz,λ b o e hb=>?_,λ b hb hz=>?_,I.stack,I.stkFree⟩,rfl,I.bare,Un.kept k,⟨m1,hn,λ i x v e1 e2 e3=>?_⟩,λ x c e=>?_,fresh,λ x c e=>?_,λ p hp=>absurd (show p∈([]:List (Addr×Obj)) from hp) (by simp),I.hok.kept k,?_⟩
 ·
  have hm:∃ k',(x,k')∈scope.names/\(k'=NameKind.free\/k'=NameKind.cell):=by
   have hx':(relabel scope X.env).names.lookup x=some .cell\/(relabel scope X.env).names.lookup x=some .free:=hx;obtain⟨k',e,hk'⟩:∃ k',(relabel scope X.env).names.lookup x=some k'/\(k'=.cell\/k'=.free):=by
    rcases hx' with e | e
    ·exact⟨_,e,.inl rfl⟩
    ·exact⟨_,e,.inr rfl⟩
   have hmem:=ace e;obtain⟨⟨n,kn⟩,hp,he⟩:=abo.mp hmem;dsimp only at he
   split at he
   ·rename_i hc
    cases he;have:kn=.free:=by
     simp only [Bool.and_eq_true,beq_iff_eq] at hc;exact hc.1.1
    exact⟨kn,hp,.inl this⟩
   ·cases he;rcases hk' with e' | e'
    ·exact⟨_,hp,.inr e'⟩
    ·exact⟨_,hp,.inl e'⟩
  obtain⟨k',hp,hk'⟩:=hm
  by_cases hc:(x,NameKind.cell)∈scope.names
  ·obtain⟨c,_,e⟩:=qO scope.names (s.heap.objs.size+1) 0 cl x (abn _) (.inl hc);exact⟨c,e⟩
  ·rcases hk' with rfl | rfl
   ·have:=hfree _ hp;simp only [bne_self_eq_false,Bool.false_or] at this;obtain⟨c,e⟩:=Option.isSome_iff_exists.mp this;exact⟨c,by show (cellsFrom _ _ _).lookup x=_;rw[qP _ _ _ _ hc];exact e⟩
   ·exact absurd hp hc
 ·have e1':scope.names.lookup x=some .cell:=by simpa using (show (scope.names.lookup x == some NameKind.cell)=true from e1)
  obtain⟨c',hc',e'⟩:=qO scope.names (s.heap.objs.size+1) (s.heap.objs.size+1) cl x (aaj _) (.inl (ace e1'));have e2':(cellsFrom (s.heap.objs.size+1) scope.names cl).lookup x=some c:=e2;rw[e'] at e2';cases e2';exact Nat.le_of_succ_le hc'
 ·rcases cg x c e with ⟨a,_⟩ | e'
  ·exact Ne.symm (abb (Nat.lt_trans (hfo b hb) a))
  ·exact (hf b hb).2.2.2.2.1 x c e'
 ·rcases (hf b hb).2.2.2.1 with z | z
  ·exact I.ok.noex b o e z
  ·have:=aam e;exact absurd (aas this (acj I.ok.bsz z)) (ach _)
 ·obtain⟨_,f1,f2,_⟩:=hf b hb;rcases aay.mp (I.stkSub b hz) with e | e
  ·exact f1 e
  ·exact f2 e
 ·
  unfold oI at e2;rw[aag] at e2;cases ef:fr[i]? with
  | none=>rw[ef] at e2;cases e2
  | some o=>
   rw[ef] at e2;cases o with
   | none=>simp at e2
   | some j=>
    have e2':(σ[j]?).join=some v:=by simpa using e2
    obtain⟨x',h1',h2',h3',h4'⟩:=S.fr.get i j ef;rw[Nat.zero_add] at h1';have ex:x'=x:=by
     have:N'[i]? = some x:=e1;rw[h1'] at this;exact abx this
    subst ex;have e2'':σ[j]? = some (some v):=by
     cases q:σ[j]? with
     | none=>rw[q] at e2';cases e2'
     | some z=>rw[q] at e2';simp at e2';rw[e2']
    obtain⟨m,hm,hl⟩:=I.loc;obtain⟨u,r,lk⟩:=hl j x' v h2' e2'' (.inr (.inl h4'));refine⟨u,r,?_⟩;rcases lk with ⟨q,_⟩ | ⟨_,c,hc,z⟩
    ·rw[h4'] at q;cases q
    ·have hcl:∃ c',cl.lookup x'=some c':=by
      have:=hfree _ (ace h3');simp only [bne_self_eq_false,Bool.false_or] at this;exact Option.isSome_iff_exists.mp this
     obtain⟨c',hc'⟩:=hcl;have e':=clg x' c' hc';rw[hc] at e';cases e';obtain⟨oc,hoc,hd⟩:=z;refine .inr ⟨.inl ?_,c,?_,oc,k c oc hoc,hd⟩
     ·exact dF I.ok.kind h3' h4'
     ·show (cellsFrom _ _ _).lookup x'=_;rw[qP _ _ _ _ (notown x' h3')];exact hc'
 ·rcases cg x c e with ⟨_,_,z⟩ | e'
  ·exact⟨_,z⟩
  ·obtain⟨v,oc,hoc,hd⟩:=I.cell x c e';exact⟨v,oc,k c oc hoc,hd⟩
 ·rcases cg x c e with ⟨a,_⟩ | e'
  ·exact I.hok.fresh (acl a)
  ·exact I.freeC x c e'
 ·show (oI fr σ).length=N'.length;unfold oI;rw[aad,S.len]
theorem Inv.outD {scope:Scope}{cl:List (Str×Addr)}{N':List Str}{pins pins':List (Addr×Obj)}{σ Z:St}{H H':Hp}{s s':Shared}{fp:List Addr} (I:Inv X pins σ H s) (J:Inv (qY X N' scope cl fp s H) pins' Z H' s')
  (hf:∀ b∈fp,eP X pins H b):Inv X pins σ H' s':=
 I.call' (ch:=fp) J.os J.base J.hok J.bare λ b hb=>by
  obtain⟨_,f1,_,f3,f4,f5⟩:=hf b hb;exact⟨f3,f1,f4,f5⟩
theorem oW {elt tg iter:Expr}{ifs:List Expr}{scope:Scope}{pos:Pos}{N':List Str}{fr:List (Option Nat)}{cl:List (Str×Addr)}{g:TG}{tc:TT}{te:TE}
  {pins:List (Addr×Obj)}{σ:St}{H:Hp}{s:Shared}{J:It}{fp:List Addr}{it:Addr}{tn:Nat->Heap->Prop}{Q:Addr->Hp->Prop}{RR:Value->Addr->Result->Shared->Prop}{E:Value->Shared->Prop}
  (hx:∀ e s,¬ X.xe e s) (hc:X.calm=true) (S:LcOk2 X scope cl N' fr)
  (hg:∀ fp s H,PG (qY X N' scope cl fp s H) tg g) (ht:∀ fp s H,AM (qY X N' scope cl fp s H) ifs tc) (he:∀ fp s H,PE (qY X N' scope cl fp s H) elt te)
  (I:Inv X pins σ H s) (T:Turn X.prog X.w X.K tg J fp it tn) (st:tn 0 s.heap) (hf:∀ b∈fp,eP X pins H b) (h:gK J g tc te fr σ H Q)
  (hRR:∀ D C H' s' m',Inv X pins σ H' s'->Q D H'->s'.heap.Ns C m'->eP X pins H' C->RR (.ref D) C (.ok .next) s') :
  wpAny (model X.prog X.w) X.A (newList []) (λ acc bn=>wpAny (model X.prog X.w) X.A (newFunctionEnv scope X.env.globals cl [] X.env.qual none .none (some X.env)) (λ cenv bz=>
   codeAny (model X.prog X.w) X.A (.compStart (.ListComp elt [⟨tg,iter,ifs,0⟩] scope pos) 0 (.ref it) acc { cenv with scope:=relabel scope X.env }) (RR acc cenv.locals) bz) E bn) E s:=by
 refine wpAny_newObj_type (oB ?_);dsimp only;have fresh:H s.heap.objs.size=none:=I.hok.fresh (aaj _);have I3:Inv X pins σ (upd H s.heap.objs.size (.lst [])) { s with heap:=s.heap.push { cls:=.type "list",data:=.seq ([]:List Value).toArray },toks:=s.toks }:=I.lnew (ys:=[]) (its:=[]) .nil (abn _);have hf3:∀ b∈fp,eP X pins (upd H s.heap.objs.size (.lst [])) b:=λ b hb=>by
  obtain⟨o,ho,_⟩:=T.obj _ _ st b hb;exact⟨by rw[aH (abb (aam ho))];exact (hf b hb).1,(hf b hb).2⟩
 generalize hs3:({ s with heap:=s.heap.push { cls:=.type "list",data:=.seq ([]:List Value).toArray },toks:=s.toks }:Shared)=s3 at I3;have e3:s3.heap=s.heap.push { cls:=.type "list",dict:=none,data:=.seq ([]:List Value).toArray }:=by rw[<- hs3]
 have e3s:({ s with heap:=s.heap.push { cls:=.type "list",dict:=none,data:=.seq ([]:List Value).toArray } }:Shared)=s3:=hs3;have hsz3:s3.heap.objs.size=s.heap.objs.size+1:=by rw[e3,abh]
 have hfo:∀ b∈fp,b < s3.heap.objs.size:=λ b hb=>by
  obtain⟨o,ho,_⟩:=T.obj _ _ st b hb;rw[hsz3];exact Nat.lt_succ_of_lt (aam ho)
 rw[<- e3];generalize hh1:pushCells (s3.heap.push { cls:=.type "dict",data:=.dict #[] }) scope.names=ak;have bp:(pushCells (s3.heap.push { cls:=.type "dict",data:=.dict #[] }) scope.names).Ns s3.heap.objs.size (λ _=>none):=(Heap.Ns.new s3.heap (.type "dict")).keeps (pushCells_keeps _ _);have old3:∀ b o,s3.heap.get? b=some o->ak.get? b=some o:=λ b o e=>by rw[<- hh1];exact pushCells_keeps _ _ b o (aac _ e)
 have old:∀ b o,s.heap.get? b=some o->s3.heap.get? b=some o:=λ b o e=>by rw[e3];exact aac _ e
 have I4:=S.invC (tk:=s3.toks) I3 hf3 hfo bp;rw[hh1] at I4;obtain⟨W,⟨m0,w0⟩,turn⟩:=h s.heap.objs.size fresh;have stat:∀ {H':Hp},(∀ b∈fp,H' b=none)->∀ b∈fp,eP (qY X N' scope cl fp s3 (upd H s.heap.objs.size (.lst []))) [] H' b:=λ hn b hb=>by
  refine⟨hn b hb,abb (hfo b hb),?_,.inl hb,λ x c e=>?_,λ p hp=>absurd (show p∈([]:List (Addr×Obj)) from hp) (by simp)⟩
  ·intro hz;obtain⟨_,f1,f2,_⟩:=hf b hb;rcases aay.mp (I.stkSub b hz) with e | e
   ·exact f1 e
   ·exact f2 e
  ·rcases S.cells (s:=s3) (o:={ cls:=.type "dict",data:=.dict #[] }) e with ⟨a,_⟩ | e'
   ·exact Ne.symm (abb (Nat.lt_trans (hfo b hb) a))
   ·exact (hf b hb).2.2.2.2.1 x c e'
 have loop:∀ s4:Shared,s4={ s3 with heap:=ak,toks:=s3.toks }->
   codeAny (model X.prog X.w) X.A (.compLoop (.ListComp elt [⟨tg,iter,ifs,0⟩] scope pos) 0 (.ref it) (.ref s.heap.objs.size) (compEnvC scope (cellsFrom (s3.heap.objs.size+1) scope.names cl) s3.heap.objs.size X.env)) (RR (.ref s.heap.objs.size) s3.heap.objs.size) s4:=by
  intro s4 hs4;refine kL (λ n s'=>∃ i ys Z H',Inv (qY X N' scope cl fp s3 (upd H s.heap.objs.size (.lst []))) [] Z H' s'/\tn i s'.heap/\(∀ b∈fp,H' b=none)/\W i n ys Z H') ?_ m0
   ⟨0,[],oI fr σ,_,by rw[hs4];exact I4,by rw[hs4];exact T.keep _ _ _ st λ b _ o e=>old3 b o (old b o e),λ b hb=>(hf3 b hb).1,w0⟩
  rintro n s5 ⟨i,ys,ce,H5,I5,st5,fr5,w5⟩;rcases turn i n ys ce H5 w5 with ⟨stop,qn⟩ | ⟨go,N,hN,step⟩
  ·refine cI (T.done (qY X N' scope cl fp s3 (upd H s.heap.objs.size (.lst []))) rfl rfl rfl hc i [] s5 ce H5 _ I5 (stat fr5) st5 stop) λ r s6 ⟨hr,I6⟩=>?_;subst hr;obtain⟨m',hm',_⟩:=I6.loc;exact hRR _ _ H5 s6 m' (I3.outD I6 hf3) qn hm' (I3.fpOk (aaj _) I6.free)
  ·refine cI (T.item (qY X N' scope cl fp s3 (upd H s.heap.objs.size (.lst []))) rfl rfl rfl hc i [] s5 ce H5 _ I5 (stat fr5) st5 go) λ r s6 ⟨u,hr,h6⟩=>?_;subst hr;refine cI h6 λ _ s7 ⟨x,H7,I7,r7,y7,st7,fr7⟩=>?_;have I7':=I7.pinned (stat fr7) (T.obj _ _ st7);refine abg (hg fp s3 _ _ s7 ce H7 x u _ I7' r7 (step x H7 y7)) (λ _ s8 ⟨bj,H8,I8,q8⟩=>?_) λ e s' z=>(hx e s' z).elim;refine abg (ht fp s3 _ _ s8 bj H8 _ I8 q8) (λ ok s9 ⟨H9,I9,q9⟩=>?_) λ e s' z=>(hx e s' z).elim;have again:∀ {s10:Shared}{H10:Hp}{ys':List V},Inv (qY X N' scope cl fp s3 (upd H s.heap.objs.size (.lst []))) ([]++jE fp s7.heap) bj H10 s10->N ys' bj H10->
     ∃ m,m < n/\∃ i ys Z H',Inv (qY X N' scope cl fp s3 (upd H s.heap.objs.size (.lst []))) [] Z H' s10/\tn i s10.heap/\(∀ b∈fp,H' b=none)/\W i m ys Z H':=λ {s10 H10 ys'} I10 n10=>by
    obtain⟨m',hm,w10⟩:=hN ys' bj H10 n10;refine⟨m',hm,i+1,ys',bj,H10,I10.unpinned,T.keep _ _ _ st7 λ b hb o e=>(I10.pin (b,o) (aat _ (aat _ (d9 hb e)))).1,λ b hb=>?_,w10⟩;obtain⟨o,e,d⟩:=T.obj _ _ st7 b hb;exact (I10.pin (b,o) (aat _ (aat _ (d9 hb e)))).2.1
   cases ok with
   | false=>
    rw[if_neg aai] at q9 ⊢;exact again I9 q9
   | true=>
    rw[if_pos rfl] at q9 ⊢;refine abg (he fp s3 _ _ s9 bj H9 _ I9 q9) (λ y s10 ⟨yv,H10,I10,r10,hD,hlen,q10⟩=>?_) λ e s' z=>(hx e s' z).elim;refine abg (bU (X:=qY X N' scope cl fp s3 (upd H s.heap.objs.size (.lst []))) _ s10 bj H10 (.ref s.heap.objs.size) [yv] (.ref s.heap.objs.size) [y] (λ _ H11=>H11=upd H10 s.heap.objs.size (.lst (ys++[yv]))) I10 rfl (.cons r10 .nil)
     ⟨_,ys,yv,rfl,rfl,hD,hlen,rfl⟩) (λ _ s11 ⟨_,H11,I11,_,e11⟩=>?_) λ e s' z=>(hx e s' z).elim
    subst e11;exact again I11 q10
 exact codeAny_compStart_list (loop _ (by rw[<- e3s])) (T.self X.A 0 _ _ _ (T.keep _ _ _ st λ b _ o e=>old3 b o (old b o e)) (loop _ (by rw[<- e3s])))
theorem E6 {elt tg iter:Expr}{ifs:List Expr}{scope:Scope}{pos:Pos}{N':List Str}{fr:List (Option Nat)}{cl:List (Str×Addr)}{wi:TI}{g:TG}{tc:TT}{te:TE}
  (hx:∀ e s,¬ X.xe e s) (hc:X.calm=true) (S:LcOk2 X scope cl N' fr) (hi:PI X tg iter wi)
  (hg:∀ fp s H,PG (qY X N' scope cl fp s H) tg g) (ht:∀ fp s H,AM (qY X N' scope cl fp s H) ifs tc) (he:∀ fp s H,PE (qY X N' scope cl fp s H) elt te)
  (hs:∀ x,foldedSetIterable iter X.env x=pure x:=by intro _;with_unfolding_all rfl):PE X (.ListComp elt [⟨tg,iter,ifs,0⟩] scope pos) (tLC wi fr g tc te):=by
 intro pins s σ H Q I h;have hloc:=S.locs;rw[aca] at hloc;rw[eval_ListComp];refine wpAny_comprehension_free (use:=none) rfl hs S.clos S.kind (λ x hx' hl=>by have:=hloc x hx';rw[hl] at this;simpa using this) (cI (hi pins s σ H _ I h) λ v s1 h1=>cI h1 λ itv s2 h2=>?_);obtain⟨it,fp,tn,J,H2,e,I2,T,st2,f2,rest⟩:=h2;subst e;refine oW (RR:=λ acc C=>compPost (model X.prog X.w) X.A X.xe none (EP X pins σ Q) acc C) hx hc S hg ht he I2 T st2 f2 rest ?_;intro D C H' s' m' I' q hn f;exact⟨m',hn,λ h' hsb=>⟨.ref D,H',I'.letgo f hsb,rfl,q⟩⟩
theorem n9 {i:Nat}{y:Str}{py:Pos}{spos:Pos}{elt tg iter:Expr}{ifs:List Expr}{scope:Scope}{pos:Pos}{N':List Str}{fr:List (Option Nat)}{cl:List (Str×Addr)}{wi:TI}{g:TG}{tc:TT}{te:TE}
  (hN:X.N.Nodup) (hy:X.N[i]? = some y) (hk:X.env.scope.names.lookup y=some .local)
  (hx:∀ e s,¬ X.xe e s) (hc:X.calm=true) (S:LcOk2 X scope cl N' fr) (hi:PI X tg iter wi)
  (hg:∀ fp s H,PG (qY X N' scope cl fp s H) tg g) (ht:∀ fp s H,AM (qY X N' scope cl fp s H) ifs tc) (he:∀ fp s H,PE (qY X N' scope cl fp s H) elt te)
  (hsw:swapsWith (.ListComp elt [⟨tg,iter,ifs,0⟩] scope pos) (some (.Name y py)) spos.line X.env=pure true:=by with_unfolding_all rfl)
  (hs:∀ x,foldedSetIterable iter X.env x=pure x:=by intro _;with_unfolding_all rfl):PS X (.Assign [.Name y py] (.ListComp elt [⟨tg,iter,ifs,0⟩] scope pos) spos) (h7 (tLC wi fr g tc te) (cX i)):=by
 intro pins s σ H D I h;have hloc:=S.locs;rw[aca] at hloc;rw[exec_Assign_Name_used _ _ _ _ hsw];refine aaa (wpAny_standAt (aaa ?_));show wpAny _ X.A (do let _ <- comprehension (.ListComp elt [⟨tg,iter,ifs,0⟩] scope pos) scope X.env _ (newList []) false (eval iter X.env) (some (assign (.Name y py) X.env))) _ _ s;refine aaa (abg (wpAny_comprehension_free (use:=some (assign (.Name y py) X.env)) (Q:=λ _ s'=>SP X pins D .next s') rfl hs S.clos S.kind (λ x hx' hl=>by have:=hloc x hx';rw[hl] at this;simpa using this)
  (cI (hi pins s σ H _ I h) λ v s1 h1=>cI h1 λ itv s2 h2=>?_)) (λ _ s' hq=>aae (aae hq)) λ _ _ e=>e)
 obtain⟨it,fp,tn,J,H2,e,I2,T,st2,f2,rest⟩:=h2;subst e;refine oW (RR:=λ acc C=>compPost (model X.prog X.w) X.A X.xe (some (assign (.Name y py) X.env)) (λ _ s'=>SP X pins D .next s') acc C) hx hc S hg ht he I2 T st2 f2 rest ?_;intro Da C H' s' m' I' q hn f;show wpAny _ X.A (assign (.Name y py) X.env (.ref Da)) _ _ _;refine wpAny_assign_Name (kT I' hN hy (.inl hk) (v:=.ref Da) rfl (λ s'' I'' hch=>?_) (.inr hk));obtain⟨a,hsb,ha⟩:=hch;have haC:a≠C:=by
  rcases ha with e | e
  ·rw[e];exact Ne.symm f.2.1
  ·exact f.2.2.2.2.1 _ _ e
 exact⟨m',hn.sameBut hsb (Ne.symm haC),λ h' hs'=>⟨_,H',I''.letgo f hs',q⟩⟩
end
def GM (K:aab) (n:Nat) (t:AL):TG:=λ v σ H Q=>∃ a xs,v=.ref a/\bF K H a xs/\xs.length=n/\t xs σ H Q
theorem E3 {X:Cx}{pos:Pos}{es:List Expr}{k:Nat}{t:AL}{n:Nat} (hc:X.calm=true) (h:EX X es t)
  (hn:(assignEach es X.env).length=n:=by with_unfolding_all rfl) (hst:(assignEach es X.env).findIdx? (·.1)=none:=by with_unfolding_all rfl):PG X (.Tuple es k pos) (GM X.K n t):=by
 intro pins s σ H v u Q I r hw;obtain⟨a,xs,e1,hq,hl,hw⟩:=hw;subst e1;cases r;obtain⟨its,rv,ht,hz⟩:=I.list hq;rw[assign_Tuple];refine aaa (wpAny_standAt ?_);unfold unpack;have e:(assignEach es X.env).length=its.toArray.size:=by simp [hn,<- hl,rv.length]
 rw[e,hst];refine aaa (abr (PySem.W.kun_itemsOf (I.ok.hd hc) ht.isList λ h' hx=>?_));have I1:Inv X pins σ H { s with heap:=h' }:=I.kept (t':=s.toks) λ b o e=>hx b o (abb (aam e)) e;exact h pins _ σ H xs _ Q I1 (by simpa using rv) hw
theorem uU {X:Cx}{K:aab}{pos:Pos}{es:List Expr}{k:Nat}{t:AL}{n:Nat} (hK:X.K=K) (hc:X.calm=true) (h:EX X es t)
  (hn:(assignEach es X.env).length=n:=by with_unfolding_all rfl) (hst:(assignEach es X.env).findIdx? (·.1)=none:=by with_unfolding_all rfl):PG X (.Tuple es k pos) (GM K n t):=by
 subst hK;exact E3 hc h hn hst
end L2
namespace Tw
open PySem L2
def o6 (k:Option Int) (gs:List (Option Int×Int)):List Int:=(gs.filter λ g=>decide (g.1=k)).map (·.2)
theorem o5 (k:Option Int):∀ gs:List (Option Int×Int),(o6 k gs).sum=cK k gs
 | []=>rfl
 | g::r=>by
  have ih:=o5 k r;unfold o6 at ih ⊢;unfold cK
  by_cases h:g.1=k
  ·simp [h,<- ih]
  ·simp [h,<- ih]
theorem iW (k:Option Int) (gs:List (Option Int×Int)) (g:Option Int×Int):o6 k (gs++[g])=o6 k gs++(if g.1=k then [g.2] else []):=by
 unfold o6;rw[List.filter_append,aal]
 by_cases h:g.1=k <;> simp [h]
theorem sM (k:Option Int) (gs:List (Option Int×Int)):(o6 k gs).length<=gs.length:=by
 unfold o6;rw[aad];exact act _ _
theorem AU {wd:Str} (h:wd = "open" \/ wd = "shut" \/ wd = "turn"):∃ j:Nat,j < 3/\(∀ z,[V.str "turn",V.str "open",V.str "shut"][j]? = some z->sD z (.str wd)=true)/\(∀ i z,i < j->[V.str "turn",V.str "open",V.str "shut"][i]? = some z->sD z (.str wd)=false)/\
  ∀ old:Bool,[V.bl (!old),V.bl true,V.bl false][j]? = some (.bl (if wd = "open" then true else if wd = "turn" then !old else false)):=by
 rcases h with rfl | rfl | rfl
 ·refine⟨1,by decide,λ z hz=>by cases hz;rfl,λ i z hi hz=>?_,λ old=>rfl⟩;have:i=0:=by omega
  subst this;cases hz;rfl
 ·refine⟨2,by decide,λ z hz=>by cases hz;rfl,λ i z hi hz=>?_,λ old=>rfl⟩;rcases (show i=0\/i=1 by omega) with rfl | rfl <;> cases hz <;> rfl
 ·exact⟨0,by decide,λ z hz=>by cases hz;rfl,λ i z hi hz=>absurd hi (acr _),λ old=>rfl⟩
theorem IsL.append {H:Hp}:∀ {ds es:List L2.D}{xs ys:List V},L2.IsL K H ds xs->L2.IsL K H es ys->L2.IsL K H (ds++es) (xs++ys)
 | [],es,xs,ys,h1,h2=>by rw[h1.un0];exact h2
 | d::ds,es,xs,ys,h1,h2=>by
  obtain⟨x,r,rfl,hx,hr⟩:=h1.un;exact .cons hx (IsL.append hr h2)
theorem sB {H1 H2:Hp}{gl gq:Addr}{gs:List (Option Int×Int)}{gxs:List V} (sm:aF H1 H2) (fg:H1 gl=none) (hg:H2 gl=some (.lst gxs)) (ig:L2.IsL K H2 (gs.map outD) gxs) (hq:H2 gq=none) (t:Option Int) (n:Int) :
  aF H1 (upd (upd H2 gq (.tup [j5 t,.int n])) gl (.lst (gxs++[.ref gq])))/\upd (upd H2 gq (.tup [j5 t,.int n])) gl (.lst (gxs++[.ref gq])) gl=some (.lst (gxs++[.ref gq]))/\
  L2.IsL K (upd (upd H2 gq (.tup [j5 t,.int n])) gl (.lst (gxs++[.ref gq]))) ((gs++[(t,n)]).map outD) (gxs++[.ref gq])/\∀ p o,p≠gl->H2 p=some o->upd (upd H2 gq (.tup [j5 t,.int n])) gl (.lst (gxs++[.ref gq])) p=some o:=by
 have nq:gl≠gq:=aJ hg hq;have mt:oM (upd H2 gq (.tup [j5 t,.int n]) gl):=by rw[aH nq,hg];exact trivial
 refine⟨λ b o e=>by rw[aH (aJ e fg)];exact aF.new hq b o (sm b o e),aB,?_,λ p o hp e=>by rw[aH hp];exact aF.new hq p o e⟩;rw[aal];exact L2.IsL.snoc (Is.tupOf (ds:=[AO t,.int n]) (bC.put (bC.refl _) (.inr mt) _ _ (bB.of aB)) (.cons (Is.tgOf _) (.cons (Is.i _) .nil))) (L2.IsL.mono (bC.put (aF.new hq).ts (.inr mt)) _ _ ig)
theorem jY:FnScope ["net","state","poured","fast","has","goes","tipped","stays","number","size","brim","outs","holds","spill","acts","here","whole","doors","word","spout","later","ground"] ["net","state","poured","fast"] (aP (bM 35)):={}
def cE (fo:Option Nat) (i:Nat) (v:Vs):Vs:=if fo=some i then { v with size:=v.brim+1 } else v
def bS (vs:List Vs) (fo:Option Nat):List Vs:=vs.mapIdx λ i v=>cE fo i v
def aN (net:Net) (fo:Option Nat):Net:=⟨bS net.vs fo,net.sps⟩
def bJ:Option Nat->V
 | none=>.non
 | some j=>.int (j:Int)
theorem cO (vs:List Vs) (fo:Option Nat):(bS vs fo).length=vs.length:=by unfold bS;rw[List.length_mapIdx]
theorem mQ {vs:List Vs} (fo:Option Nat) {i:Nat}{v:Vs} (h:vs[i]? = some v):(bS vs fo)[i]? = some (cE fo i v):=by unfold bS;rw[List.getElem?_mapIdx,h];rfl
theorem rC (fo:Option Nat) (i:Nat) (v:Vs):(cE fo i v).acts=v.acts:=by unfold cE;split <;> rfl
theorem pF (fo:Option Nat) (i:Nat) (v:Vs):(cE fo i v).spill=v.spill:=by unfold cE;split <;> rfl
theorem lK (fo:Option Nat) (i:Nat) (v:Vs) (h:Int):b0 (cE fo i v) h=b0 v h:=by unfold cE;split <;> rfl
theorem oQ {fo:Option Nat}{i:Nat}{v:Vs}{h:Int} (z:fo=some i):eR (cE fo i v) h=false:=by
 have:eR { v with size:=v.brim+1 } h=false:=by
  unfold eR b0;rw[abq];show ¬ v.brim+1<=min h v.brim;omega
 unfold cE;rw[if_pos z];exact this
theorem wD {fo:Option Nat}{i:Nat}{v:Vs}{h:Int} (z:¬ fo≠some i):eR (cE fo i v) h=false:=oQ (Classical.not_not.1 z)
theorem CC {fo:Option Nat}{i:Nat} (z:fo≠some i):(!decide (V.int (i:Int)=bJ fo))=true:=by
 cases fo with
 | none=>rfl
 | some j=>
  rw[Bool.not_eq_true',abq];intro e;injection e with e;exact z (by congr 1;omega)
theorem wI (fo:Option Nat) (i:Nat):B5 (.int (i:Int)) (bJ fo)=true:=by cases fo <;> rfl
theorem rD (net:Net):aN net none=net:=by
 have:bS net.vs none=net.vs:=by
  apply List.ext_getElem?;intro i;unfold bS;rw[List.getElem?_mapIdx];cases net.vs[i]? <;> rfl
 unfold aN;rw[this]
def pH (K:aab):Sp:=λ args H Q _=>∃ (x y:V) (z:Addr) (net:Net) (held coming poured:List Int) (doors:List Bool) (fo:Option Nat),args=[x,y,.ref z,bJ fo]/\Is K H (fB net) x/\Is K H (sO held coming doors) y/\FH K H z (poured.map V.int)/\
 NetOk net/\NetOk (aN net fo)/\StOk net held coming doors/\poured.length=net.vs.length/\∀ (l:Addr) (p1 p2:V) H',aF H H'->H' l=some (.lst [p1,p2,.int (dQ (aN net fo) held coming poured doors).ground])->
  Is K H' (sO (dQ (aN net fo) held coming poured doors).held (dQ (aN net fo) held coming poured doors).coming (dQ (aN net fo) held coming poured doors).doors) p1->
  Is K H' (.tup ((dQ (aN net fo) held coming poured doors).tip.map λ (i:Nat)=>D.int (i:Int))) p2->Q (.ref l) H'
theorem oF {f fF:Addr}{fd fdF:FuncData} (F:Fun K "_law_tick" "_law_tick" (bM 35) f fd) (T:Txt mg) (G__law_filled:Callee P w K mg base "_law_filled" ["net","state","poured"] 1 (kU K) fF fdF):FnOk P w K mg base gX 2 f fd ["net","state","poured","fast"] (pH K):=by
 refine F.ok jY (λ vs H Q E h=>?_) (λ cdv A outer s H vs Q E hr h=>?_)
 ·obtain⟨x,y,z,net,held,coming,poured,doors,fo,rfl,_⟩:=h;rfl
 ·obtain⟨x,y,z,net,held,coming,poured,doors,fo,rfl,hx,hy,qz,nok,nokw,sok,hpl,k⟩:=h;have wl:(bS net.vs fo).length=net.vs.length:=cO _ _;have wat:∀ {i:Nat}{v:Vs},net.vs[i]? = some v->(bS net.vs fo)[i]? = some (cE fo i v):=λ h=>mQ fo h;have wok:∀ v∈bS net.vs fo,VOk net.vs.length net.sps.length v:=λ v hv=>by have:=nokw.vs v hv;rw[show (aN net fo).vs.length=net.vs.length from wl] at this;exact this
  generalize hws:bS net.vs fo=ws at wl wat wok;have sc:=jY;refine⟨_,(aD (pL 4 sc.nd (dB G__law_filled hr (aA (pv 0) (aA (pv 1) (aA (pv 2) aC)))))
   (aD (dY (i:=5) sc.nd rfl (Or.inr rfl) (bD aC))
   (aD (pL 6 sc.nd (bD aC))
   (aD (pL 7 sc.nd (bD aC))
   (aD (dD PassesOwn.never rfl (bT rfl T.b_range (aA (oT K T.b_len (px K (pv 0) aG)) aC)) (gL 8 sc.nd) (aD (bY (px K (px K (pv 0) aG) (pv 8)) (aX (K:=K) (n:=6) rfl rfl (aE (gL 9 sc.nd) (aE (gL 10 sc.nd) (aE (gL 11 sc.nd) (aE (gL 12 sc.nd) (aE (gL 13 sc.nd) (aE (gL 14 sc.nd) aW))))))))
   (aD (dY (i:=15) sc.nd rfl (Or.inr rfl) (bH (xE rfl) rfl T.b_min PyProof.Rows.boot_min (aA (px K (pv 4) (pv 8)) (aA (pv 10) aC))))
   (aD (cG (d8 (K:=K) rfl aav abd abe bU (pv 5) (aA (bG (aA (pv 13) (aA (aT i6 (px K (pv 4) (pv 8)) (pv 15)) aC))) aC)))
   (aD (dR (PW.pt (yG (bQ CZ (pv 15) (pv 9) (cD _)) (uR (bQ GC (pv 8) (pv 3) (cD _))))) (aD (dY (i:=16) sc.nd rfl (Or.inr rfl) (bH (eA (K:=K) rfl rfl) rfl T.b_sum PyProof.Rows.boot_sum (aA (eW (λ _ _ h=>h) rfl (LcOk.mk (N':=["target","parts"]) (fr:=[none,none]) rfl trivial rfl rfl rfl rfl rfl trivial) (dS (K:=K) rfl (pv 11)) (λ _ _ _=>(aX (K:=K) (n:=2) rfl rfl (aE (gC 0 ["target","parts"]) (aE (gC 1 ["target","parts"]) aW)))) (λ _ _ _=>cH) (λ _ _ _=>(pv 1))) aC)))
   (aD (dY (i:=5) sc.nd rfl (Or.inr rfl) (aT pV (pv 5) (eW (λ _ _ h=>h) rfl (LcOk.mk (N':=["target","parts","here","whole"]) (fr:=[none,none,some 15,some 16]) rfl ⟨rfl,rfl,trivial⟩ rfl rfl rfl rfl rfl ⟨⟨_,rfl,rfl,rfl,rfl⟩,⟨_,rfl,rfl,rfl,rfl⟩,trivial⟩) (dS (K:=K) rfl (pv 11)) (λ _ _ _=>(aX (K:=K) (n:=2) rfl rfl (aE (gC 0 ["target","parts","here","whole"]) (aE (gC 1 ["target","parts","here","whole"]) aW)))) (λ _ _ _=>cH) (λ _ _ _=>(bG (aA (pv 0) (aA (aT i7 (aT fI (pv 2) (pv 3)) (pv 1)) aC)))))))
   (aD (dY (i:=15) sc.nd rfl (Or.inr rfl) (aT kZ (pv 15) (pv 16)))
   (aD (cG (d8 (K:=K) rfl aav abd abe bU (pv 6) (aA (pv 8) aC)))
   (aK (dR (tI (i5 (pv 12))) (aD (cG (d8 (K:=K) rfl aav abd abe bU (pv 5) (aA (bG (aA fM (aA (pv 15) aC))) aC)))
   (aK (dY (i:=15) sc.nd rfl (Or.inr rfl) aG))) cB)))))) cB)
   (aK (cG (d8 (K:=K) rfl aav abd abe bU (pv 7) (aA (pv 15) aC)))))))))
   (aD (pL 17 sc.nd (aU (iU (K:=K) rfl) rfl T.b_list kM (aA (px K (pv 1) aG) aC)))
   (aD (dD PassesOwn.never rfl (dH (K:=K) rfl (pv 6)) (gL 8 sc.nd) (aK (dD PassesOwn.never rfl (dS (K:=K) rfl (px K (px K (px K (pv 0) aG) (pv 8)) aG)) (aX (K:=K) (n:=2) rfl rfl (aE (gL 18 sc.nd) (aE (gL 19 sc.nd) aW))) (aK (bY (px K (bD (aA (pR (px K (pv 17) (pv 19))) (aA j9 (aA j9 aC)))) (d8 (K:=K) rfl aav PySem.F.slot_list_index PySem.F.type_list_index nK (bD (aA gG (aA gG (aA gG aC)))) (aA (pv 18) aC))) (kY (pv 17) (pv 19) eU))))))
   (aD (n9 (i:=20) sc.nd rfl rfl (λ _ _ h=>h) rfl (LcOk2.mk (N':=["k","goes"]) (fr:=[none,some 5]) rfl ⟨rfl,trivial⟩ rfl rfl rfl rfl rfl ⟨⟨_,rfl,rfl,rfl,rfl⟩,trivial⟩) (bT rfl T.b_range (aA (oT K T.b_len (px K (pv 0) aG)) aC)) (λ _ _ _=>(fH (i:=0) (show (["k","goes"]:List Str).Nodup by decide +kernel) rfl (Or.inr rfl) (Or.inl rfl))) (λ _ _ _=>cH) (λ _ _ _=>(bH (eA (K:=K) rfl rfl) rfl T.b_sum PyProof.Rows.boot_sum (aA (eW (λ _ _ h=>h) rfl (LcOk.mk (N':=["target","amount","k"]) (fr:=[none,none,some 0]) rfl ⟨rfl,trivial⟩ rfl rfl rfl rfl rfl ⟨⟨_,rfl,rfl,rfl,rfl⟩,trivial⟩) (dH (K:=K) rfl (pv 1)) (λ _ _ _=>(aX (K:=K) (n:=2) rfl rfl (aE (gC 0 ["target","amount","k"]) (aE (gC 1 ["target","amount","k"]) aW)))) (λ _ _ _=>iL (bQ lP (pv 0) (pv 2) (cD _))) (λ _ _ _=>(pv 1))) aC))))
   (aD (pL 21 sc.nd (bH (eA (K:=K) rfl rfl) rfl T.b_sum PyProof.Rows.boot_sum (aA (eW (λ _ _ h=>h) rfl (LcOk.mk (N':=["target","amount"]) (fr:=[none,none]) rfl trivial rfl rfl rfl rfl rfl trivial) (dH (K:=K) rfl (pv 5)) (λ _ _ _=>(aX (K:=K) (n:=2) rfl rfl (aE (gC 0 ["target","amount"]) (aE (gC 1 ["target","amount"]) aW)))) (λ _ _ _=>iL (bQ yR (pv 0) fM (cD _))) (λ _ _ _=>(pv 1))) aC)))
   (aK (bE (bD (aA (bG (aA (aU (bL (K:=K) rfl) rfl T.b_tuple bR (aA (pv 7) aC)) (aA (aU (bL (K:=K) rfl) rfl T.b_tuple bR (aA (pv 20) aC)) (aA (aU (bL (K:=K) rfl) rfl T.b_tuple bR (aA (pv 17) aC)) aC)))) (aA (aU (bL (K:=K) rfl) rfl T.b_tuple bR (aA (pv 6) aC)) (aA (pv 21) aC))))))))))))))),?_⟩
  obtain⟨a,b,c,xs,ys,rfl,q,q1,l1,q2,l2⟩:=dL hx;obtain⟨ay,a1,a2,a3,rfl,qy,p1,p2,p3⟩:=rE hy;have exl:xs.length=net.vs.length:=by rw[l1.length,aad]
  have n1:=nok.lo;have n2:=nok.hi;have n3:=nok.sp;have hn:((xs.length:Nat):Int).toNat=net.vs.length:=by rw[exl];simp
  have hsl:(aL net held coming poured doors).length=net.vs.length:=by
   unfold aL;rw[dZ,fA sok.h sok.c hpl]
  have hgl60:(bO ws (aL net held coming poured doors)).length<=60:=by
   have:=iQ ws (aL net held coming poured doors) wok;omega
  have hgt:∀ i,(bO (ws.take i) ((aL net held coming poured doors).take i)).length<=60:=λ i=>by
   have h1:=iQ (ws.take i) ((aL net held coming poured doors).take i) λ v hv=>wok v (List.mem_of_mem_take hv);have h2:(ws.take i).length<=12:=by rw[aaw];omega
   omega
  have htt:∀ i,(aV 0 (ws.take i) ((aL net held coming poured doors).take i)).length<=12:=λ i=>by
   have h1:=fR (ws.take i) ((aL net held coming poured doors).take i) 0;have h2:(ws.take i).length<=12:=by rw[aaw];omega
   omega
  have hst:∀ i,(cW (ws.take i) ((aL net held coming poured doors).take i)).length<=12:=λ i=>by
   rw[eT _ _ (by rw[aaw,aaw,hsl,wl]),aaw];omega
  refine⟨_,rfl,_,rfl,_,rfl,.ref a,.ref ay,z,net,held,coming,poured,doors,rfl,hx,hy,qz,nok,sok,hpl,λ hl H1 sm1 fr1 hH1=>?_⟩;refine⟨abn _,λ gl hgl=>⟨abn _,λ tl htl=>⟨abn _,λ sl hsl'=>?_⟩⟩⟩;have ft:H1 tl=none:=aF.free (aF.new hgl) htl;have fs:H1 sl=none:=aF.free (aF.new hgl) (aF.free (aF.new htl) hsl');have nts:tl≠sl:=aJ (show upd _ tl (.lst []) tl=_ from aB) hsl';have ngt:gl≠tl:=aJ (show upd H1 gl (.lst []) gl=_ from aB) htl;have ngs:gl≠sl:=aJ (show upd (upd H1 gl (.lst [])) tl (.lst []) gl=some (.lst []) by rw[aH ngt];exact aB) hsl';refine⟨_,rfl,.inr (.inl ⟨a,_,0,_,rfl,rfl,((((sm1.trans (aF.new hgl)).trans (aF.new htl)).trans (aF.new hsl')).tup q),rfl,b,xs,rfl,.inr ((((sm1.trans (aF.new hgl)).trans (aF.new htl)).trans (aF.new hsl')).tup q1),_,rfl,by omega,by omega,?_⟩)⟩;rw[hn];refine dA (lo:=0) (n:=net.vs.length) (λ i Z H'=>aF H1 H'/\H' tl=some (.lst ((aV 0 (ws.take i) ((aL net held coming poured doors).take i)).map λ (j:Nat)=>V.int (j:Int)))/\
   H' sl=some (.lst ((cW (ws.take i) ((aL net held coming poured doors).take i)).map V.int))/\∃ (gl:Addr) (gxs:List V),H1 gl=none/\gl≠tl/\gl≠sl/\H' gl=some (.lst gxs)/\L2.IsL K H' ((bO (ws.take i) ((aL net held coming poured doors).take i)).map outD) gxs/\
   ∃ v8 v9 v10 v11 v12 v13 v14 v15 v16,Z=[some (.ref a),some (.ref ay),some (.ref z),some (bJ fo),some (.ref hl),some (.ref gl),some (.ref tl),some (.ref sl),v8,v9,v10,v11,v12,v13,v14,v15,v16,none,none,none,none,none]) ?_ ?_ ?_
  ·refine⟨((aF.new hgl).trans (aF.new htl)).trans (aF.new hsl'),by rw[aH nts,aB];simp [aV],by rw[aB];simp [cW],gl,[],hgl,ngt,ngs,by rw[aH ngs,aH ngt,aB],?_,none,none,none,none,none,none,none,none,none,rfl⟩;simp only [List.take_zero,bO,ack];exact .nil
  ·rintro i Z H2 hi ⟨sm,ht2,hs2,gl,gxs,fg,ngt,ngs,hg2,ig2,v8,v9,v10,v11,v12,v13,v14,v15,v16,rfl⟩;rw[Int.zero_add];have hv:net.vs[i]? = some net.vs[i]:=by simp [hi]
   have vok:=nok.vs net.vs[i] (acf hi);have hil:i < (aL net held coming poured doors).length:=by rw[hsl];exact hi
   have hhi:(aL net held coming poured doors)[i]? = some ((aL net held coming poured doors)[i]'hil):=by simp
   generalize hh:(aL net held coming poured doors)[i]'hil=h at hhi;have hhm:((aL net held coming poured doors).map V.int)[i]? = some (.int h):=by rw[aag,hhi];rfl
   have sA:aF H H2:=sm1.trans sm;have s1:=h8 ws (aL net held coming poured doors) i _ _ (wat hv) hhi;have s2:=jB ws (aL net held coming poured doors) i 0 _ _ (wat hv) hhi;have s3:=jG ws (aL net held coming poured doors) i _ _ (wat hv) hhi;generalize hvv:net.vs[i]=v at hv vok s1 s2 s3;obtain⟨xv,hxv,ixv⟩:=l1.get (i:=i) (d:=r8 v) (by rw[aag,hv];rfl);obtain⟨va,o,cc,rfl,qv,ho,hc⟩:=r6 ixv;obtain⟨oa,os,rfl,qo,lo⟩:=ho.un;have eol:os.length=v.outs.length:=by rw[lo.length,aad]
   have hw1:=oN vok.ne vok.outs;have hw2:=mG vok.outs;have ho3:=vok.o3;refine⟨_,rfl,.inr (.inl ⟨a,_,0,_,rfl,rfl,sA.tup q,rfl,_,rfl,.inr (.inl ⟨b,xs,(i:Int),_,rfl,rfl,sA.tup q1,bW hxv,va,_,rfl,sA.tup qv,rfl,_,_,rfl,_,_,rfl,_,_,rfl,_,_,rfl,_,_,rfl,_,_,rfl,rfl,?_⟩)⟩)⟩;refine⟨_,rfl,_,rfl,.inl ⟨hl,_,(i:Int),_,rfl,rfl,bF.of (sm _ _ hH1),bW hhm,_,rfl,_,_,rfl,?_⟩⟩;have eh:(if v.brim < h then v.brim else h)=b0 v h:=by unfold b0;split <;> omega
   rw[eh];refine⟨_,rfl,.inl ⟨rfl,_,bF.of hg2⟩,_,rfl,_,rfl,_,rfl,.inl ⟨hl,_,(i:Int),_,rfl,rfl,bF.of (sm _ _ hH1),bW hhm,_,rfl,_,_,rfl,rfl,(show 2<=sizeLine by decide),λ gq hgq=>?_⟩⟩;have ngq:gl≠gq:=aJ hg2 hgq;have hgxl:gxs.length=(bO (ws.take i) ((aL net held coming poured doors).take i)).length:=by rw[ig2.length,aad]
   have hg60:=hgt i;refine⟨gl,gxs,_,rfl,rfl,by rw[aH ngq];exact hg2,aM (by omega),?_⟩;obtain⟨sm3,hg3,ig3,kp3⟩:=sB sm fg hg2 ig2 hgq v.spill (h - b0 v h);have ht3:=kp3 tl _ (Ne.symm ngt) ht2;have hs3:=kp3 sl _ (Ne.symm ngs) hs2;generalize upd (upd H2 gq (.tup [j5 v.spill,.int (h - b0 v h)])) gl (.lst (gxs++[.ref gq]))=H3 at sm3 hg3 ig3 kp3 ht3 hs3 ⊢;have sA3:aF H H3:=sm1.trans sm3;dsimp only [iZ,h7,tC,cX];refine vF (λ Z H'=>aF H1 H'/\H' tl=some (.lst ((aV 0 (ws.take (i+1)) ((aL net held coming poured doors).take (i+1))).map λ (j:Nat)=>V.int (j:Int)))/\
    H' sl=some (.lst ((cW (ws.take i) ((aL net held coming poured doors).take i)).map V.int))/\∃ (gl:Addr) (gxs:List V),H1 gl=none/\gl≠tl/\gl≠sl/\H' gl=some (.lst gxs)/\L2.IsL K H' ((bO (ws.take (i+1)) ((aL net held coming poured doors).take (i+1))).map outD) gxs/\
    ∃ v8 v9 v10 v11 v12 v13 v14 v16,Z=[some (.ref a),some (.ref ay),some (.ref z),some (bJ fo),some (.ref hl),some (.ref gl),some (.ref tl),some (.ref sl),v8,v9,v10,v11,v12,v13,v14,some (.int (eE (cE fo i v) h)),v16,none,none,none,none,none]) (λ D' hD=>?_) ?_
   ·refine⟨_,rfl,_,rfl,_,_,rfl,rfl,_,rfl,?_⟩;have other:∀ bx,(∃ v8 v9 v10 v11 v12 v13 v14 v16,bx=[some (.ref a),some (.ref ay),some (.ref z),some (bJ fo),some (.ref hl),some (.ref gl),some (.ref tl),some (.ref sl),v8,v9,v10,v11,v12,v13,v14,some (.int (b0 v h)),v16,none,none,none,none,none])->eR (cE fo i v) h=false->D'.nx bx H3:=by
     rintro bx ⟨v8,v9,v10,v11,v12,v13,v14,v16,rfl⟩ tips;have es:b0 v h=eE (cE fo i v) h:=by unfold eE;rw[tips,lK];rfl
     have eg:eF (cE fo i v) h=[(v.spill,h - b0 v h)]:=by unfold eF;rw[tips,lK,pF];rfl
     rw[tips,if_neg aai,acn] at s2;exact hD _ _ ⟨sm3,by rw[s2];exact ht3,hs3,gl,_,fg,ngt,ngs,hg3,by rw[s3,eg];exact ig3,_,_,_,_,_,_,_,_,by rw[<- es]⟩
    refine gM (λ hge=>?_) (λ hlt=>j4 ?_)
    ·refine⟨_,rfl,_,rfl,wI fo i,_,rfl,?_⟩;refine gM (λ hnf=>?_) (λ hst=>other _ ⟨_,_,_,_,_,_,_,_,rfl⟩ (wD λ z=>hst (CC z)));have ev:cE fo i v=v:=if_neg λ z=>by rw[z] at hnf;simp [bJ] at hnf
     rw[ev] at s1 s2 s3 hD;have tips:eR v h=true:=hge;refine⟨_,rfl,oa,rfl,⟨_,sA3.tup qo⟩,i9 (K:=K) (a:=oa) (xs:=os) (λ D j ys Z H'=>H3 D=none/\aF H3 H'/\H' D=some (.lst ys)/\ys=(v.outs.take j).map (λ x=>V.int x.2)/\∃ x y,Z=[x,y])
      (λ D j ys Z H' p=>p.2.1.tup (sA3.tup qo)) (λ D hD=>⟨hD,aF.new hD,aB,by simp,none,none,rfl⟩) ?_ ?_⟩
     rotate_left
     ·rintro D j x ys Z H' hx ⟨hD,smx,hDl,rfl,v1,v2,rfl⟩;obtain⟨ot,hot,oq,rfl,qa⟩:=iN lo hx;have hjl:=(aaf.mp hot).1;refine⟨oq,_,rfl,smx.tup (sA3.tup qa),rfl,_,_,rfl,_,_,rfl,rfl,?_⟩;refine mF ⟨_,rfl,hDl,aM (by simp;omega),hD,smx.put hD,aB,?_,_,_,rfl⟩;rw[aR hot];simp
     rintro D ys Z H4 ⟨hD4,sm4,hDl,rfl,_⟩;rw[eol,aax] at hDl;refine⟨false,D,v.outs.map (·.2),rfl,bF.of (by rw[acb];exact hDl),?_⟩;have ew:(v.outs.map (·.2)).sum=whole v.outs:=rfl;rw[ew];have sA4:aF H H4:=sA3.trans sm4;refine⟨_,rfl,_,rfl,oa,rfl,⟨_,sA4.tup qo⟩,i9 (K:=K) (a:=oa) (xs:=os) (λ D j ys Z H'=>H4 D=none/\aF H4 H'/\H' D=some (.lst ys)/\L2.IsL K H' (((dX v (b0 v h)).take j).map outD) ys/\∃ x y,Z=[x,y,some (.int (b0 v h)),some (.int (whole v.outs))])
      (λ D j ys Z H' p=>p.2.1.tup (sA4.tup qo)) (λ D hD=>⟨hD,aF.new hD,aB,by simp only [List.take_zero,ack];exact .nil,none,none,rfl⟩) ?_ ?_⟩
     rotate_left
     ·rintro D j x ys Z H' hx ⟨hD,smx,hDl,hys,v1,v2,rfl⟩;obtain⟨ot,hot,oq,rfl,qa⟩:=iN lo hx;have hjl:=(aaf.mp hot).1;have hom:=vok.outs ot (abc hot);refine⟨oq,_,rfl,smx.tup (sA4.tup qa),rfl,_,_,rfl,_,_,rfl,rfl,?_⟩;refine mF ⟨_,rfl,_,rfl,_,rfl,_,_,rfl,rfl,⟨by omega,by omega⟩,_,rfl,_,_,rfl,rfl,.inr ⟨by have:=hom.lo;omega,by have:=hom.hi;omega⟩,(show 2<=sizeLine by decide),λ tq htq=>?_⟩;have nD:D≠tq:=aJ hDl htq;have hysl:ys.length<=3:=by rw[hys.length,aad,aaw];unfold dX;rw[aad];omega
      have mt:oM (upd H' tq (.tup [j5 ot.1,.int (b0 v h / whole v.outs * ot.2)]) D):=by rw[aH nD,hDl];exact trivial
      have hsh:(dX v (b0 v h))[j]? = some (ot.1,b0 v h / whole v.outs * ot.2):=by unfold dX;rw[aag,hot];rfl
      refine⟨by rw[aH nD];exact hDl,aM (by omega),hD,λ b o e=>by rw[aH (aJ e hD)];exact aF.new htq b o (smx b o e),aB,?_,_,_,rfl⟩;rw[aR hsh,aal];exact L2.IsL.snoc (Is.tupOf (ds:=[AO ot.1,.int (b0 v h / whole v.outs * ot.2)]) (bC.put (bC.refl _) (.inr mt) _ _ (bB.of aB)) (.cons (Is.tgOf _) (.cons (Is.i _) .nil))) (L2.IsL.mono (bC.put (aF.new htq).ts (.inr mt)) _ _ hys)
     rintro D2 ys Z H5 ⟨hD5,sm5,hD5l,hys,_⟩;have esh:(dX v (b0 v h)).length=os.length:=by unfold dX;rw[aad,eol]
     rw[abl (Nat.le_of_eq esh)] at hys;have hysl:ys.length<=3:=by rw[hys.length,aad,esh,eol];exact ho3
     have hg5:=sm5 _ _ (sm4 _ _ hg3);refine⟨gl,D2,gxs++[.ref gq],ys,rfl,rfl,hg5,hD5l,acl (aM (by simp;omega)),λ gl2 hgl2=>?_⟩;have fg2:H1 gl2=none:=aF.free (sm3.trans (sm4.trans sm5)) hgl2;have ht5:=sm5 _ _ (sm4 _ _ ht3);have hs5:=sm5 _ _ (sm4 _ _ hs3);have ngt2:gl2≠tl:=Ne.symm (aJ ht5 hgl2);have ngs2:gl2≠sl:=Ne.symm (aJ hs5 hgl2);have m6:aF H5 (upd H5 gl2 (.lst (gxs++[.ref gq]++ys))):=aF.new hgl2;have ig6:L2.IsL K (upd H5 gl2 (.lst (gxs++[.ref gq]++ys))) ((bO (ws.take i) ((aL net held coming poured doors).take i)++[(v.spill,h - b0 v h)]++dX v (b0 v h)).map outD) (gxs++[.ref gq]++ys):=by
      rw[aal];exact IsL.append (L2.IsL.mono m6.ts _ _ (L2.IsL.mono sm5.ts _ _ (L2.IsL.mono sm4.ts _ _ ig3))) (L2.IsL.mono m6.ts _ _ hys)
     have hg6:upd H5 gl2 (.lst (gxs++[.ref gq]++ys)) gl2=some (.lst (gxs++[.ref gq]++ys)):=aB;have sm6:aF H1 (upd H5 gl2 (.lst (gxs++[.ref gq]++ys))):=(sm3.trans (sm4.trans sm5)).trans m6;have ht6:=m6 _ _ ht5;have hs6:=m6 _ _ hs5;generalize upd H5 gl2 (.lst (gxs++[.ref gq]++ys))=H6 at sm6 hg6 ig6 ht6 hs6 ⊢;refine⟨_,rfl,_,rfl,_,_,rfl,rfl,(show 0 < whole v.outs by omega),?_⟩;have htl:=htt i;refine⟨_,rfl,.inl ⟨rfl,_,bF.of ht6⟩,_,rfl,tl,_,_,rfl,rfl,ht6,aM (by rw[aad];omega),?_⟩;have mtt:oM (H6 tl):=by rw[ht6];exact trivial
     rw[tips,if_pos rfl,Nat.zero_add] at s2;have hg7:upd H6 tl (.lst (((aV 0 (ws.take i) ((aL net held coming poured doors).take i)).map λ (j:Nat)=>V.int (j:Int))++[.int (i:Int)])) gl2=some (.lst (gxs++[.ref gq]++ys)):=by rw[aH ngt2];exact hg6
     have ig7:=L2.IsL.mono (bC.put (o:=HO.lst (((aV 0 (ws.take i) ((aL net held coming poured doors).take i)).map λ (j:Nat)=>V.int (j:Int))++[.int (i:Int)])) (bC.refl H6) (.inr mtt)) _ _ ig6;have sm7:aF H1 (upd H6 tl (.lst (((aV 0 (ws.take i) ((aL net held coming poured doors).take i)).map λ (j:Nat)=>V.int (j:Int))++[.int (i:Int)]))):=sm6.put ft;have ht7:upd H6 tl (.lst (((aV 0 (ws.take i) ((aL net held coming poured doors).take i)).map λ (j:Nat)=>V.int (j:Int))++[.int (i:Int)])) tl=some (.lst ((aV 0 (ws.take (i+1)) ((aL net held coming poured doors).take (i+1))).map λ (j:Nat)=>V.int (j:Int))):=by
      rw[aB,s2,aal];rfl
     have hs7:upd H6 tl (.lst (((aV 0 (ws.take i) ((aL net held coming poured doors).take i)).map λ (j:Nat)=>V.int (j:Int))++[.int (i:Int)])) sl=_:=(aH (Ne.symm nts)).trans hs6;generalize upd H6 tl (.lst (((aV 0 (ws.take i) ((aL net held coming poured doors).take i)).map λ (j:Nat)=>V.int (j:Int))++[.int (i:Int)]))=H7 at hg7 ig7 sm7 ht7 hs7 ⊢;refine⟨_,rfl,_,rfl,?_⟩;cases hhd:v.holds with
     | true=>
      refine j4 ?_;have es:b0 v h % whole v.outs=eE v h:=by unfold eE;rw[tips,hhd];rfl
      refine hD _ _ ⟨sm7,ht7,hs7,gl2,_,fg2,ngt2,ngs2,hg7,?_,_,_,_,_,_,_,_,_,by rw[<- es];rfl⟩;have eg:eF v h=[(v.spill,h - b0 v h)]++dX v (b0 v h):=by unfold eF;rw[tips,hhd];simp
      rw[s3,eg,<- acm];exact ig7
     | false=>
      refine lC ?_;refine⟨_,rfl,.inl ⟨rfl,_,bF.of hg7⟩,_,rfl,(show 2<=sizeLine by decide),λ gq2 hgq2=>?_⟩;have ngq2:gl2≠gq2:=aJ hg7 hgq2;refine⟨gl2,_,_,rfl,rfl,by rw[aH ngq2];exact hg7,aM (by simp;omega),?_⟩;obtain⟨sm8,hg8,ig8,kp8⟩:=sB sm7 fg2 hg7 ig7 hgq2 none (b0 v h % whole v.outs);have es:eE v h=0:=by unfold eE;rw[tips,hhd];rfl
      refine hD _ _ ⟨sm8,kp8 tl _ (Ne.symm ngt2) ht7,kp8 sl _ (Ne.symm ngs2) hs7,gl2,_,fg2,ngt2,ngs2,hg8,?_,_,_,_,_,_,_,_,_,by rw[es];rfl⟩;have eg:eF v h=[(v.spill,h - b0 v h)]++dX v (b0 v h)++[(none,b0 v h % whole v.outs)]:=by unfold eF;rw[tips,hhd];simp
      rw[s3,eg,<- acm,<- acm];exact ig8
    ·refine other _ ⟨_,_,_,_,_,_,_,_,rfl⟩ ?_
     by_cases z:fo=some i
     ·exact oQ z
     ·rw[show cE fo i v=v from if_neg z];cases e:eR v h with
      | false=>rfl
      | true=>exact absurd e hlt
   rintro am H4 ⟨sm4,ht4,hs4,gl,gxs,fg,ngt,ngs,hg4,ig4,v8,v9,v10,v11,v12,v13,v14,v16,rfl⟩;have hsl2:=hst i;refine⟨_,rfl,.inl ⟨rfl,_,bF.of hs4⟩,_,rfl,sl,_,_,rfl,rfl,hs4,aM (by rw[aad];omega),?_⟩;refine⟨sm4.put fs,by rw[aH nts];exact ht4,by rw[aB,s1,aal];rfl,gl,gxs,fg,ngt,ngs,by rw[aH ngs];exact hg4,L2.IsL.mono (bC.put (bC.refl _) (.inr (by rw[hs4];exact trivial))) _ _ ig4,_,_,_,_,_,_,_,_,_,rfl⟩
  ·rintro Z H2 ⟨sm,ht2,hs2,gl,gxs,fg,ngt,ngs,hg2,ig2,v8,v9,v10,v11,v12,v13,v14,v15,v16,rfl⟩;have ek:ws.take net.vs.length=ws:=by rw[<- wl,aax]
   have ek2:(aL net held coming poured doors).take net.vs.length=aL net held coming poured doors:=by rw[<- hsl,aax]
   rw[ek,ek2] at ht2 hs2 ig2;have sA:aF H H2:=sm1.trans sm;have etl:(aV 0 ws (aL net held coming poured doors)).length<=12:=by have:=fR ws (aL net held coming poured doors) 0;omega
   refine⟨_,rfl,.inr (.inl ⟨ay,_,2,_,rfl,rfl,sA.tup qy,rfl,a3,_,rfl,.inr (sA.tup p3),λ dl hdl=>?_⟩)⟩;have m3:aF H2 (upd H2 dl (.lst (doors.map V.bl))):=aF.new hdl;refine⟨_,rfl,tl,rfl,⟨_,bF.of (m3 _ _ ht2)⟩,sC (K:=K) (a:=tl) (xs:=(aV 0 ws (aL net held coming poured doors)).map λ (j:Nat)=>V.int (j:Int))
    (λ i Z H'=>aF H2 H'/\H' dl=some (.lst ((bP ws doors ((aV 0 ws (aL net held coming poured doors)).take i)).map V.bl))/\
     ∃ v8 v9 v10 v11 v12 v13 v14 v15 v16 v18 v19,Z=[some (.ref a),some (.ref ay),some (.ref z),some (bJ fo),some (.ref hl),some (.ref gl),some (.ref tl),some (.ref sl),v8,v9,v10,v11,v12,v13,v14,v15,v16,some (.ref dl),v18,v19,none,none])
    ⟨m3,aB,_,_,_,_,_,_,_,_,_,_,_,rfl⟩ (λ i Z H' _ p=>bF.of (p.1 _ _ ht2)) ?_ ?_⟩
   ·rintro i x Z H3 hx' ⟨sm3,hd3,v8,v9,v10,v11,v12,v13,v14,v15,v16,v18,v19,rfl⟩;rw[aag] at hx';obtain⟨j,hj,rfl⟩:=aaq.mp hx';have hjv:j < net.vs.length:=by have:=mM _ _ _ _ (abc hj);omega
    have hv:net.vs[j]? = some net.vs[j]:=by simp [hjv]
    have vok:=nok.vs net.vs[j] (acf hjv);have dsn:=lQ ws doors ((aV 0 ws (aL net held coming poured doors)).take i) j _ (wat hv);rw[rC] at dsn;generalize hvv:net.vs[j]=v at hv vok dsn;obtain⟨xv,hxv,ixv⟩:=l1.get (i:=j) (d:=r8 v) (by rw[aag,hv];rfl);obtain⟨va,o,cc,rfl,qv,ho,hc⟩:=r6 ixv;obtain⟨ca,cs,rfl,qc,lc⟩:=hc.un;have ecs:cs.length=v.acts.length:=by rw[lc.length,aad]
    have sA3:aF H H3:=sA.trans sm3;refine⟨_,rfl,.inr (.inl ⟨a,_,0,_,rfl,rfl,sA3.tup q,rfl,_,rfl,.inr (.inl ⟨b,xs,(j:Int),_,rfl,rfl,sA3.tup q1,bW hxv,.inr (.inl ⟨va,_,5,_,rfl,rfl,sA3.tup qv,rfl,ca,rfl,⟨_,sA3.tup qc⟩,qJ (K:=K) (a:=ca) (xs:=cs)
     (λ l Z H'=>aF H2 H'/\H' dl=some (.lst ((dC (bP ws doors ((aV 0 ws (aL net held coming poured doors)).take i)) (v.acts.take l)).map V.bl))/\
      ∃ v8 v9 v10 v11 v12 v13 v14 v15 v16 v18 v19,Z=[some (.ref a),some (.ref ay),some (.ref z),some (bJ fo),some (.ref hl),some (.ref gl),some (.ref tl),some (.ref sl),v8,v9,v10,v11,v12,v13,v14,v15,v16,some (.ref dl),v18,v19,none,none])
     ⟨sm3,hd3,_,_,_,_,_,_,_,_,_,_,_,rfl⟩ (λ l Z H' _ p=>(sA.trans p.1).tup qc) ?_ ?_⟩)⟩)⟩)⟩
    ·rintro l x Z H4 hl' ⟨sm4,hd4,v8,v9,v10,v11,v12,v13,v14,v15,v16,v18,v19,rfl⟩;obtain⟨at',hat,aa,rfl,qa⟩:=vT lc hl';have aok:=vok.acts at' (abc hat);refine⟨aa,_,rfl,(sA.trans sm4).tup qa,rfl,_,_,rfl,_,_,rfl,rfl,?_⟩;have asn:=o8 (bP ws doors ((aV 0 ws (aL net held coming poured doors)).take i)) (v.acts.take l) at';have hdl':(dC (bP ws doors ((aV 0 ws (aL net held coming poured doors)).take i)) (v.acts.take l)).length=doors.length:=by rw[iX,eZ]
     generalize dC (bP ws doors ((aV 0 ws (aL net held coming poured doors)).take i)) (v.acts.take l)=DS at hd4 asn hdl';have hsp:at'.2.toNat < DS.length:=by rw[hdl',sok.d];have:=aok.lo;have:=aok.hi;omega
     have hg:(DS.map V.bl)[at'.2.toNat]? = some (.bl (DS.getD at'.2.toNat false)):=by
      rw[aag,acp];simp [hsp]
     obtain⟨jj,hj3,w1,w2,w3⟩:=AU aok.word;refine⟨_,rfl,_,rfl,.inl ⟨dl,_,at'.2,_,rfl,rfl,bF.of hd4,mC aok.lo hg,_,rfl,(show 3<=sizeLine by decide),λ b1 hb1=>⟨(show 3<=sizeLine by decide),λ b2 hb2=>⟨.inl ⟨rfl,_,bF.of aB⟩,_,rfl,?_⟩⟩⟩⟩;have m5:aF H4 (upd H4 b1 (.lst [.bl (!DS.getD at'.2.toNat false),.bl true,.bl false])):=aF.new hb1;have m6:aF (upd H4 b1 (.lst [.bl (!DS.getD at'.2.toNat false),.bl true,.bl false])) (upd (upd H4 b1 (.lst [.bl (!DS.getD at'.2.toNat false),.bl true,.bl false])) b2 (.lst [.str "turn",.str "open",.str "shut"])):=aF.new hb2;refine⟨b2,_,_,jj,rfl,rfl,aB,rfl,rfl,hj3,w1,w2,.inl ⟨b1,_,(jj:Int),_,rfl,rfl,bF.of (m6 _ _ aB),bW (w3 (DS.getD at'.2.toNat false)),?_⟩⟩;refine⟨_,rfl,_,rfl,dl,_,at'.2,at'.2.toNat,rfl,rfl,m6 _ _ (m5 _ _ hd4),m8 aok.lo (by rw[aad];have:=aok.lo;omega),?_⟩;refine⟨((sm4.trans m5).trans m6).put hdl,?_,_,_,_,_,_,_,_,_,_,_,_,rfl⟩;rw[aB,aR hat,asn,uC,List.map_set]
    ·rintro Z H4 ⟨sm4,hd4,v8,v9,v10,v11,v12,v13,v14,v15,v16,v18,v19,rfl⟩;rw[ecs,aax] at hd4;refine⟨sm4,?_,_,_,_,_,_,_,_,_,_,_,_,rfl⟩;rw[aR hj,dsn];exact hd4
   ·rintro Z H3 ⟨sm3,hd3,v8,v9,v10,v11,v12,v13,v14,v15,v16,v18,v19,rfl⟩;rw[aad,aax] at hd3;have sA3:aF H H3:=sA.trans sm3;have hg3:=sm3 _ _ hg2;have ig3:=L2.IsL.mono sm3.ts _ _ ig2;have hgxl:gxs.length=(bO ws (aL net held coming poured doors)).length:=by rw[ig2.length,aad]
    refine⟨_,rfl,.inr (.inl ⟨a,_,0,_,rfl,rfl,sA3.tup q,rfl,b,xs,rfl,.inr (sA3.tup q1),_,rfl,by omega,by omega,?_⟩)⟩;rw[hn];refine g6 (n:=net.vs.length) (λ D i r Z H'=>H3 D=none/\aF H3 H'/\H' D=some (.lst r)/\r=((cP net.vs.length (bO ws (aL net held coming poured doors))).take i).map V.int/\∃ v,Z=[v,some (.ref gl)])
     (λ D hD=>⟨hD,aF.new hD,aB,by simp,none,rfl⟩) ?_ ?_
    rotate_left
    ·rintro D i r Z H4 hi ⟨hD,sm4,hDl,rfl,v,rfl⟩;refine dU ?_;refine⟨_,rfl,gl,rfl,⟨_,bF.of (sm4 _ _ hg3)⟩,gJ (K:=K) (a:=gl) (xs:=gxs) (λ D' j r' Z H'=>H4 D'=none/\aF H4 H'/\H' D'=some (.lst r')/\r'=(o6 (some (i:Int)) ((bO ws (aL net held coming poured doors)).take j)).map V.int/\∃ u1 u2,Z=[u1,u2,some (.int (i:Int))])
      (λ D' j r' Z H' p=>bF.of (p.2.1 _ _ (sm4 _ _ hg3))) (λ D' hD'=>⟨hD',aF.new hD',aB,by simp [o6],none,none,rfl⟩) ?_ ?_⟩
     rotate_left
     ·rintro D' j x r' Z H5 hx' ⟨hD',sm5,hD'l,rfl,u1,u2,rfl⟩;obtain⟨g,hg,ga,rfl,qg⟩:=iN (L2.IsL.mono sm4.ts _ _ ig3) hx';refine⟨ga,_,rfl,sm5.tup qg,rfl,_,_,rfl,_,_,rfl,rfl,?_⟩;have hsc:B5 (j5 g.1) (.int (i:Int))=true:=by cases g.1 <;> rfl
      have hiff:j5 g.1=.int (i:Int)↔g.1=some (i:Int):=by cases g.1 <;> simp [j5]
      have hal:=sM (some (i:Int)) ((bO ws (aL net held coming poured doors)).take j);rw[aaw] at hal;refine⟨_,rfl,_,rfl,hsc,_,rfl,?_⟩;refine gM (λ ht=>?_) (λ hf=>?_)
      ·refine⟨_,rfl,hD'l,aM (by rw[aad];omega),hD',sm5.put hD',aB,?_,_,_,rfl⟩;rw[aR hg,iW,if_pos (hiff.mp (abw ht)),aal];rfl
      ·refine⟨hD',sm5,hD'l,?_,_,_,rfl⟩;rw[aR hg,iW,if_neg (λ e=>hf (abm (hiff.mpr e))),acn]
     rintro D' r' Z H5 ⟨hD',sm5,hD'l,rfl,_⟩;rw[hgxl,aax] at hD'l;refine⟨false,D',_,rfl,bF.of hD'l,sm5 _ _ hDl,aM (by simp [cP];omega),hD,(sm4.trans sm5).put hD,aB,?_,_,rfl⟩;have e:(cP net.vs.length (bO ws (aL net held coming poured doors)))[i]? = some (cK (some (i:Int)) (bO ws (aL net held coming poured doors))):=by
      unfold cP;simp [hi]
     rw[aR e,aal,o5];rfl
    rintro D r Z H4 ⟨hD,sm4,hDl,rfl,_⟩;have ll:(cP net.vs.length (bO ws (aL net held coming poured doors))).length=net.vs.length:=by unfold cP;simp
    rw[abl (Nat.le_of_eq ll)] at hDl;refine⟨_,rfl,gl,rfl,⟨_,bF.of (sm4 _ _ hg3)⟩,gJ (K:=K) (a:=gl) (xs:=gxs) (λ D' j r' Z H'=>H4 D'=none/\aF H4 H'/\H' D'=some (.lst r')/\r'=(o6 none ((bO ws (aL net held coming poured doors)).take j)).map V.int/\∃ u1 u2,Z=[u1,u2])
     (λ D' j r' Z H' p=>bF.of (p.2.1 _ _ (sm4 _ _ hg3))) (λ D' hD'=>⟨hD',aF.new hD',aB,by simp [o6],none,none,rfl⟩) ?_ ?_⟩
    rotate_left
    ·rintro D' j x r' Z H5 hx' ⟨hD',sm5,hD'l,rfl,u1,u2,rfl⟩;obtain⟨g,hg,ga,rfl,qg⟩:=iN (L2.IsL.mono sm4.ts _ _ ig3) hx';refine⟨ga,_,rfl,sm5.tup qg,rfl,_,_,rfl,_,_,rfl,rfl,?_⟩;have hiff:j5 g.1=.non↔g.1=none:=by cases g.1 <;> simp [j5]
     have hal:=sM none ((bO ws (aL net held coming poured doors)).take j);rw[aaw] at hal;refine⟨_,rfl,rfl,_,rfl,?_⟩;refine gM (λ ht=>?_) (λ hf=>?_)
     ·refine⟨_,rfl,hD'l,aM (by rw[aad];omega),hD',sm5.put hD',aB,?_,_,_,rfl⟩;rw[aR hg,iW,if_pos (hiff.mp (abw ht)),aal];rfl
     ·refine⟨hD',sm5,hD'l,?_,_,_,rfl⟩;rw[aR hg,iW,if_neg (λ e=>hf (abm (hiff.mpr e))),acn]
    rintro D' r' Z H5 ⟨hD',sm5,hD'l,rfl,_⟩;rw[hgxl,aax] at hD'l;refine⟨false,D',_,rfl,bF.of hD'l,?_⟩;rw[o5];have c1:=sm5 _ _ (sm4 _ _ (sm3 _ _ hs2));have c2:=sm5 _ _ hDl;have c3:=sm5 _ _ (sm4 _ _ hd3);have c4:=sm5 _ _ (sm4 _ _ (sm3 _ _ ht2));refine⟨_,rfl,sl,_,rfl,.inl ⟨bF.of c1,λ t1 ht1=>?_⟩⟩;have m1:=aF.new (o:=HO.tup ((cW ws (aL net held coming poured doors)).map V.int)) ht1;refine⟨_,rfl,D,_,rfl,.inl ⟨bF.of (m1 _ _ c2),λ t2 ht2=>?_⟩⟩;have m2:=aF.new (o:=HO.tup ((cP net.vs.length (bO ws (aL net held coming poured doors))).map V.int)) ht2;refine⟨_,rfl,dl,_,rfl,.inl ⟨bF.of (m2 _ _ (m1 _ _ c3)),λ t3 ht3=>?_⟩⟩;have m3:=aF.new (o:=HO.tup ((bP ws doors (aV 0 ws (aL net held coming poured doors))).map V.bl)) ht3;refine⟨(show 3<=sizeLine by decide),λ t4 ht4=>?_⟩;have m4:=aF.new (o:=HO.tup [.ref t1,.ref t2,.ref t3]) ht4;refine⟨_,rfl,tl,_,rfl,.inl ⟨bF.of (m4 _ _ (m3 _ _ (m2 _ _ (m1 _ _ c4)))),λ t5 ht5=>?_⟩⟩;have m5:=aF.new (o:=HO.tup ((aV 0 ws (aL net held coming poured doors)).map λ (j:Nat)=>V.int (j:Int))) ht5;refine⟨_,rfl,(show 3<=sizeLine by decide),λ t6 ht6=>?_⟩;have m6:aF _ _:=aF.new (o:=HO.lst [.ref t4,.ref t5,.int (cK none (bO ws (aL net held coming poured doors)))]) ht6;refine k t6 (.ref t4) (.ref t5) _ (((((((((sA3.trans sm4).trans sm5).trans m1).trans m2).trans m3).trans m4).trans m5)).trans m6) (by rw[show (dQ (aN net fo) held coming poured doors).ground=cK none (bO ws (aL net held coming poured doors)) by rw[<- hws];rfl];exact aB) ?_ ?_
    ·have ecm:(dQ (aN net fo) held coming poured doors).coming=cP net.vs.length (bO ws (aL net held coming poured doors)):=by
      show cP (bS net.vs fo).length (bO (bS net.vs fo) _)=_;rw[hws,wl];rfl
     have ehd:(dQ (aN net fo) held coming poured doors).held=cW ws (aL net held coming poured doors):=by rw[<- hws];rfl
     have edr:(dQ (aN net fo) held coming poured doors).doors=bP ws doors (aV 0 ws (aL net held coming poured doors)):=by rw[<- hws];rfl
     rw[ecm,ehd,edr];exact Is.mono m6.ts _ _ (Is.mono m5.ts _ _ (uK (bB.of aB) (m4.tup (m3.tup (m2.tup (bB.of aB)))) (m4.tup (m3.tup (bB.of aB))) (m4.tup (bB.of aB))))
    ·refine Is.mono m6.ts _ _ (Is.tupOf (bB.of aB) ?_);rw[show (dQ (aN net fo) held coming poured doors).tip=aV 0 ws (aL net held coming poured doors) by rw[<- hws];rfl];have e1:((aV 0 ws (aL net held coming poured doors)).map λ (i:Nat)=>L2.D.int (i:Int))=((aV 0 ws (aL net held coming poured doors)).map λ (i:Nat)=>(i:Int)).map L2.D.int:=by rw[acb];rfl
     have e2:((aV 0 ws (aL net held coming poured doors)).map λ (i:Nat)=>V.int (i:Int))=((aV 0 ws (aL net held coming poured doors)).map λ (i:Nat)=>(i:Int)).map V.int:=by rw[acb];rfl
     rw[e1,e2];exact L2.IsL.of_ints _
theorem EC (K:aab):PySem.W.kitOne K (.type "tuple") (.type "tuple")=some true:=by
 unfold PySem.W.kitOne;rw[if_pos (by decide +kernel)]
theorem zG (K:aab):PySem.W.kitOne K (.type "int") (.type "bool")=some false:=by
 unfold PySem.W.kitOne;rw[if_neg (by decide +kernel)];show (if PySem.W.kitMeta "bool" = true then PySem.W.subIn K (.type "int") (.type "bool") else none)=some false;rw[if_pos (by decide +kernel)];show (PySem.fastBuiltinMro "int").map (·.contains (.type "bool"))=some false;decide +kernel
def uL (K:aab):Sp:=λ vs H Q _=>∃ (a:Addr) (ns:List Int),vs=[.ref a]/\bF K H a (ns.map V.int)/\ns.length<=63/\∀ H',Q (.bl true) H'
end Tw
namespace L2
open PySem PySem.Spec PyProof.Rows TwZ
section
variable {X:Cx}
theorem yS (hK:X.K=K):gA X (compareOp .In) (rIn K false):=by subst hK;exact wK
theorem BJ (hK:X.K=K):gA X (compareOp .NotIn) (rIn K true):=by subst hK;exact pU
end
end L2
namespace Tw
open PySem L2
theorem ED (K:aab):PySem.W.kitOne K (.type "int") (.type "int")=some true:=by
 unfold PySem.W.kitOne;rw[if_pos (by decide +kernel)]
section
variable {aw:Addr}
theorem lL:FnScope ["thing","least","most"] ["thing","least","most"] (aP (bM 20)):={}
end
end Tw
namespace L2
open PySem PySem.Spec PyProof.Rows TwZ
section
variable {X:Cx}
theorem yV (hK:X.K=K):gA X (binaryOp .Add) (CV K):=by subst hK;exact uX
theorem mK (l:Addr) (items:Array Value) (n:Nat) (x:Int) (u:Tok) (dd:Option Addr) (sl:Array (Option Value)) (c0:¬ (decide (x < -(2 ^ 63)) || decide (x ≥ 2 ^ 63))=true) (c1:¬ (items.isEmpty || x == 1)=true)
  (c2:(decide (x<=0) || items.isEmpty)=true) :
  Meets (Builtin.«tuple.__mul__» ⟨[.ref l,.int x u],[]⟩) (λ _ R s=>s.heap.get? l=some { cls:=.type "tuple",dict:=dd,data:=.seq items n,slots:=sl }/\
   R (.ok (.ret (.ref s.heap.objs.size))) { s with heap:=s.heap.push { cls:=.type "tuple",data:=.seq #[] } }):=
 .of_wp λ prog w A R s h=>by
  obtain⟨hp,g,d,tk,os⟩:=s;obtain⟨hl,h⟩:=h
  wp_walk
  rw[if_neg c0]
  wp_walk
  all_goals (try rw[if_neg c1])
  wp_walk
  all_goals (try rw[if_pos c2])
  wp_walk
  exact⟨_,rfl,h⟩
def CP (K:aab):R2:=λ x y H Q=>∃ (l:Addr) (k:Int) (xs:List V),x=.ref l/\y=.int k/\bB K H l xs/\0<=k/\k < 1000000/\xs≠[]/\xs.length<=10/\
 ∀ p H',aF H H'->bB K H' p (List.replicate k.toNat xs).flatten->Q (.ref p) H'
theorem BI:gA X (binaryOp .Mult) (CP X.K):=by
 intro pins s σ H x y v u Q I rx ry h;obtain⟨l,k,xs,rfl,rfl,hq,h1,h2,hne,hl10,q⟩:=h
 by_cases hk:1<=k
 ·exact uV pins s σ H _ _ v u Q I rx ry ⟨l,k,xs,rfl,rfl,hq,hk,h2,hne,hl10,q⟩
 ·have hk0:k=0:=by omega
  subst hk0;cases rx;obtain⟨t,rfl⟩:=ry;obtain⟨its,r,ht,z⟩:=I.tuple hq;have hlen:=r.length;obtain⟨⟨cls,dd,data,sl⟩,e,hc,n,hd⟩:=id ht;simp only at hc hd;subst hc hd;refine wpAny_binaryOp_repeat_ref (T := "tuple") (U := "int") (by decide) ⟨_,e,rfl⟩ (λ s'=>typeIs_int s' 0 t) fY F.fills_int_mul F.slot_int_rmul kB F.slot_int_index.lookup
   (call_meets F.slot_int_rmul (typeIs_int s 0 t) F.entry_int_rmul (F.args_int_rmul_2 _ _) (iA 0 t l its.toArray n dd sl) ⟨e,rfl,⟨_,e,rfl⟩,?_⟩)
  have hne':its≠[]:=λ z=>by rw[z] at hlen;exact hne (List.eq_nil_of_length_eq_zero hlen)
  have hemp:its.toArray.isEmpty=false:=by cases its with
   | nil=>exact absurd rfl hne'
   | cons a r=>rfl
  refine call_meets F.slot_tuple_mul ⟨_,e,rfl⟩ F.entry_tuple_mul (F.args_tuple_mul_2 _ _) (mK l its.toArray n 0 t dd sl (by decide) (by rw[hemp];decide) (by simp)) ⟨e,?_⟩;have I1:=I.laid (a:=s.heap.objs.size) (o:=.tup []) (h':=s.heap.push { cls:=.type "tuple",data:=.seq #[] }) (t':=s.toks)
   (λ _ _ q=>aac _ q) (aaj _) ⟨abn _,[],.nil,⟨_,aak _ rfl,rfl,0,rfl⟩⟩
  exact⟨.ref _,_,I1,rfl,q _ _ (aF.new I.fresh) (bB.of aB)⟩
theorem yP (hK:X.K=K):gA X (binaryOp .Mult) (CP K):=by subst hK;exact BI
end
section
variable {g:TG}{tc:TT}{te:TE}{fr:List (Option Nat)}{σ:St}{H1:Hp}{Q:Addr->Hp->Prop}
theorem BV {t1 t2:Bool}{a1 a2:Addr}{xs ys:List V}{n:Nat} (h1:xs.length=n) (h2:ys.length=n) (Pv:Addr->Nat->List V->St->Hp->Prop)
  (hq:∀ D i r σ H,Pv D i r σ H->gW K H t1 a1 xs/\gW K H t2 a2 ys)
  (h0:∀ D,H1 D=none->Pv D 0 [] (oI fr σ) (upd H1 D (.lst []))) (hstop:∀ D r Z H',Pv D n r Z H'->Q D H')
  (hgo:∀ D i x y r Z H' T,xs[i]? = some x->ys[i]? = some y->Pv D i r Z H'->H' T=none->g (.ref T) Z (upd H' T (.tup [x,y])) λ am H3=>tc am H3 λ b H4=>
    if b=true then te am H4 λ y H5=>H5 D=some (.lst r)/\r.length < PySem.sizeLine/\Pv D (i+1) (r++[y]) am (upd H5 D (.lst (r++[y])))
    else Pv D (i+1) r am H4):gK (CH K t1 t2 a1 a2) g tc te fr σ H1 Q:=by
 refine nM (n:=n) Pv h0 (λ D r Z H' p=>?_) λ D i r Z H' hi p=>?_
 ·obtain⟨q1,q2⟩:=hq D _ r Z H' p;exact⟨⟨xs,ys,q1,q2,.inl (by omega)⟩,hstop D r Z H' p⟩
 ·obtain⟨q1,q2⟩:=hq D _ r Z H' p;refine⟨⟨xs,ys,xs[i]'(by omega),ys[i]'(by omega),q1,q2,by simp,by simp⟩,?_⟩;rintro v H2 ⟨T,x,y,hT,rfl,e1,e2,rfl⟩;exact hgo D i x y r Z H' T (e1 xs q1) (e2 ys q2) p hT
end
end L2
namespace Tw
open PySem L2
structure Mom where
 tick:Int
 held:List Int
 coming:List Int
 doors:List Bool
 poured:List Int
 came:Int
 ground:Int
def qE (m:Mom):L2.D:=.tup [.int m.tick,sO m.held m.coming m.doors,.tup (m.poured.map L2.D.int),.int m.came,.int m.ground]
def eC:List vU->List Bool->Int
 | s::ss,d::ds=>(if d=true then s.2.1 else 0)+eC ss ds
 | _,_=>0
structure MomOk (net:Net) (m:Mom):Prop where
 st:StOk net m.held m.coming m.doors
 pl:m.poured.length=net.vs.length
def Mom.tk (net:Net) (m:Mom):Tick:=dQ net m.held m.coming m.poured m.doors
def Mom.step (net:Net) (m:Mom):Mom:=
 { tick:=m.tick+1,held:=(m.tk net).held,coming:=(m.tk net).coming,doors:=(m.tk net).doors,poured:=cT net.vs.length,came:=m.came+(m.poured.sum+eC net.sps m.doors),ground:=m.ground+(m.tk net).ground }
def dP (net:Net) (m:Mom):Nat->Mom
 | 0=>m
 | i+1=>(dP net m i).step net
def kQ (net:Net) (m:Mom):List (Int×Nat):=(m.tk net).tip.map λ k=>(m.tick,k)
def kS (net:Net) (m:Mom):Nat->List (Int×Nat)
 | 0=>[]
 | i+1=>kS net m i++kQ net (dP net m i)
def oD (t:Int×Nat):L2.D:=.tup [.int t.1,.int (t.2:Int)]
def eX (net:Net):Mom:=⟨0,cT net.vs.length,cT net.vs.length,net.sps.map (·.2.2),cT net.vs.length,0,0⟩
theorem iH (n:Nat):(cT n).length=n:=by simp [cT]
theorem mE {n:Nat} (h:1<=n):(0:Int)::cT (n - 1)=cT n:=by
 obtain⟨k,rfl⟩:∃ k,n=k+1:=⟨n - 1,by omega⟩;simp [cT,List.replicate_succ]
theorem BS (net:Net):MomOk net (eX net):=⟨⟨iH _,iH _,by simp [eX]⟩,iH _⟩
theorem Mom.hs_len {net:Net}{m:Mom} (h:MomOk net m):(aL net m.held m.coming m.poured m.doors).length=net.vs.length:=by
 unfold aL;rw[dZ,fA h.st.h h.st.c h.pl]
theorem MomOk.step {net:Net}{m:Mom} (h:MomOk net m):MomOk net (m.step net):=
 ⟨⟨eT _ _ (Mom.hs_len h).symm,by show (cP _ _).length=_;unfold cP;simp,by show (bP _ _ _).length=_;rw[eZ];exact h.st.d⟩,iH _⟩
theorem uY {net:Net}{m:Mom} (h:MomOk net m):∀ i,MomOk net (dP net m i)
 | 0=>h
 | i+1=>(uY h i).step
theorem xS (net:Net) (m:Mom):(m.tk net).tip.length<=net.vs.length:=fR _ _ _
theorem jP {net:Net}{m:Mom} (nok:NetOk net):∀ (i:Nat),(kS net m i).length<=12 * i
 | 0=>by simp [kS]
 | i+1=>by
  have h1:=jP (m:=m) nok i;have h2:=xS net (dP net m i);have h3:=nok.hi;show (kS net m i++kQ net (dP net m i)).length<=_;rw[aao];unfold kQ;rw[aad];omega
section
variable {r dx R M T:Addr}{H H':Hp}{S:RunS}{fp:List Addr}{np mv:V}{ts:List Addr}{rs ms:List V}
theorem yZ {m:Mom}{v:V} (h:Is K H (qE m) v):∃ (a po:Addr) (st:V),v=.ref a/\bB K H a [.int m.tick,st,.ref po,.int m.came,.int m.ground]/\Is K H (sO m.held m.coming m.doors) st/\bB K H po (m.poured.map V.int):=by
 obtain⟨a,zs,rfl,q,l⟩:=(show Is K H (.tup [.int m.tick,sO m.held m.coming m.doors,.tup (m.poured.map L2.D.int),.int m.came,.int m.ground]) v from h).un;obtain⟨x1,r,rfl,h1,l⟩:=l.un;obtain⟨x2,r,rfl,h2,l⟩:=l.un;obtain⟨x3,r,rfl,h3,l⟩:=l.un;obtain⟨x4,r,rfl,h4,l⟩:=l.un;obtain⟨x5,r,rfl,h5,l⟩:=l.un;have:=l.un0;subst this;have:=h1.ui;subst this;have:=h4.ui;subst this;have:=h5.ui;subst this;obtain⟨po,xs,rfl,q1,l1⟩:=h3.un;have:=l1.ints;subst this;exact⟨a,po,x2,rfl,q,h2,q1⟩
theorem zB {m:Mom}{a po:Addr}{st:V} (q:bB K H a [.int m.tick,st,.ref po,.int m.came,.int m.ground]) (hs:Is K H (sO m.held m.coming m.doors) st) (hp:bB K H po (m.poured.map V.int)):Is K H (qE m) (.ref a):=
 Is.tupOf q (.cons (Is.i _) (.cons hs (.cons (Is.tupOf hp (IsL.of_ints _)) (.cons (Is.i _) (.cons (Is.i _) .nil)))))
end
theorem hU:FnScope ["net","number","vessels","spouts"] ["net","number"] (aP (bM 18)):={}
def iJ (K:aab):Sp:=λ vs H Q _=>∃ (x:V) (net:Net) (v:Int),vs=[x,.int v]/\Is K H (fB net) x/\NetOk net/\∀ p H',aF H H'->bB K H' p ((v::cT (net.vs.length - 1)).map V.int)->Q (.ref p) H'
theorem n6:FnScope ["net","amount","vessels","spouts"] ["net","amount"] (aP (bM 2)):={}
theorem tN {f:Addr}{fd:FuncData} (F:Fun K "pouring" "pouring" (bM 2) f fd) (T:Txt mg):FnOk P w K mg base gX 1 f fd ["net","amount"] (iJ K):=by
 refine F.ok n6 (λ vs H Q E h=>?_) (λ cdv A outer s H vs Q E hr h=>?_)
 ·obtain⟨x,net,v,rfl,_⟩:=h;rfl
 ·obtain⟨x,net,v,rfl,hx,nok,k⟩:=h;have sc:=n6;refine⟨_,(aD (bY (pv 0) (aX (K:=K) (n:=2) rfl rfl (aE (gL 2 sc.nd) (aE (gL 3 sc.nd) aW))))
   (aK (bE (aT (yV (K:=K) rfl) (bG (aA (pv 1) aC)) (aT (yP (K:=K) rfl) (bG (aA aG aC)) (aT i6 (oT K T.b_len (pv 2)) aG)))))),?_⟩
  obtain⟨a,b,c,xs,ys,rfl,q,q1,l1,q2,l2⟩:=dL hx;have exl:xs.length=net.vs.length:=by rw[l1.length,aad]
  have n1:=nok.lo;have n2:=nok.hi;refine⟨_,rfl,a,_,rfl,q,rfl,_,_,rfl,_,_,rfl,rfl,?_⟩;refine⟨_,rfl,(show 1<=sizeLine by decide),λ y hy=>⟨(show 1<=sizeLine by decide),λ z hz=>?_⟩⟩;have m1:=aF.new (o:=HO.tup [.int v]) hy;have m2:=aF.new (o:=HO.tup [.int 0]) hz;refine⟨_,rfl,b,xs,rfl,.inr (m2.tup (m1.tup q1)),_,_,rfl,rfl,z,_,[.int 0],rfl,rfl,bB.of aB,by omega,by omega,by simp,by simp,λ e H1 sm1 qe=>?_⟩;have en:(((xs.length:Nat):Int) - 1).toNat=net.vs.length - 1:=by rw[exl];omega
  rw[en,y8] at qe;refine⟨y,e,[.int v],_,rfl,rfl,sm1.tup (m2.tup (bB.of aB)),qe,by simp,aM (by simp;omega) |> acl,λ he=>?_,λ _ p hp=>?_⟩
  ·refine k _ _ ((m1.trans m2).trans sm1) ?_;have e0:cT (net.vs.length - 1)=[]:=List.map_eq_nil_iff.mp he;rw[e0];exact sm1.tup (m2.tup (bB.of aB))
  ·exact k _ _ (((m1.trans m2).trans sm1).trans (aF.new hp)) (bB.of aB)
def mZ (K:aab):Sp:=λ vs H Q _=>∃ (x y:V) (z:Addr) (net:Net) (held coming poured:List Int) (doors:List Bool),vs=[x,y,.ref z]/\Is K H (fB net) x/\Is K H (sO held coming doors) y/\bB K H z (poured.map V.int)/\
 NetOk net/\StOk net held coming doors/\∀ H',aF H H'->Q (.int (poured.sum+eC net.sps doors)) H'
theorem kD:∀ (ss:List vU) (ds:List Bool) (i:Nat) (s:vU) (d:Bool),ss[i]? = some s->ds[i]? = some d->eC (ss.take (i+1)) (ds.take (i+1))=eC (ss.take i) (ds.take i)+(if d=true then s.2.1 else 0)
 | [],_,i,_,_,h,_=>by simp at h
 | _::_,[],i,_,_,_,h=>by simp at h
 | a::ss,b::ds,0,s,d,h1,h2=>by simp at h1 h2;subst h1 h2;simp [eC]
 | a::ss,b::ds,i+1,s,d,h1,h2=>by
  simp only [List.take_succ_cons,eC];rw[kD ss ds i s d (by simpa using h1) (by simpa using h2)];omega
theorem n8:FnScope ["net","state","poured","vessels","spouts","held","coming","doors"] ["net","state","poured"] (aP (bM 4)):={}
theorem tO {f:Addr}{fd:FuncData} (F:Fun K "came_in" "came_in" (bM 4) f fd) (T:Txt mg):FnOk P w K mg base gX 1 f fd ["net","state","poured"] (mZ K):=by
 refine F.ok n8 (λ vs H Q E h=>?_) (λ cdv A outer s H vs Q E hr h=>?_)
 ·obtain⟨x,y,z,net,held,coming,poured,doors,rfl,_⟩:=h;rfl
 ·obtain⟨x,y,z,net,held,coming,poured,doors,rfl,hx,hy,qz,nok,sok,k⟩:=h;have sc:=n8;refine⟨_,(aD (bY (pv 0) (aX (K:=K) (n:=2) rfl rfl (aE (gL 3 sc.nd) (aE (gL 4 sc.nd) aW))))
   (aD (bY (pv 1) (aX (K:=K) (n:=3) rfl rfl (aE (gL 5 sc.nd) (aE (gL 6 sc.nd) (aE (gL 7 sc.nd) aW)))))
   (aK (bE (aT cC (bH (eA (K:=K) rfl rfl) rfl T.b_sum PyProof.Rows.boot_sum (aA (pv 2) aC)) (bH (eA (K:=K) rfl rfl) rfl T.b_sum PyProof.Rows.boot_sum (aA (eW (λ _ _ h=>h) rfl (LcOk.mk (N':=["target","flow","first_door","door"]) (fr:=[none,none,none,none]) rfl trivial rfl rfl rfl rfl rfl trivial) (rH (K:=K) rfl rfl T.b_zip (aA (pv 4) (aA (pv 7) aC))) (λ _ _ _=>(aX (K:=K) (n:=2) rfl rfl (aE (aX (K:=K) (n:=3) rfl rfl (aE (gC 0 ["target","flow","first_door","door"]) (aE (gC 1 ["target","flow","first_door","door"]) (aE (gC 2 ["target","flow","first_door","door"]) aW)))) (aE (gC 3 ["target","flow","first_door","door"]) aW)))) (λ _ _ _=>iL (i5 (pv 3))) (λ _ _ _=>(pv 1))) aC))))))),?_⟩
  obtain⟨a,b,c,xs,ys,rfl,q,q1,l1,q2,l2⟩:=dL hx;obtain⟨ay,b1,b2,b3,rfl,qy,qb1,qb2,qb3⟩:=rE hy;have eyl:ys.length=net.sps.length:=by rw[l2.length,aad]
  have n3:=nok.sp;refine⟨_,rfl,a,_,rfl,q,rfl,_,_,rfl,_,_,rfl,rfl,?_⟩;refine⟨_,rfl,ay,_,rfl,qy,rfl,_,_,rfl,_,_,rfl,_,_,rfl,rfl,?_⟩;refine⟨_,rfl,true,z,_,rfl,qz,?_⟩;refine⟨_,rfl,_,rfl,true,true,c,b3,rfl,⟨_,q2⟩,⟨_,qb3⟩,BV (K:=K) (t1:=true) (t2:=true) (xs:=ys) (ys:=doors.map V.bl) (n:=net.sps.length) eyl (by rw[aad];exact sok.d)
   (λ D i r Z H'=>H D=none/\aF H H'/\H' D=some (.lst r)/\(∃ ns:List Int,r=ns.map V.int/\ns.sum=eC (net.sps.take i) (doors.take i)/\ns.length<=i)/\∃ u1 u2 u3 u4,Z=[u1,u2,u3,u4])
   (λ D i r Z H' p=>⟨p.2.1.tup q2,p.2.1.tup qb3⟩) (λ D hD=>⟨hD,aF.new hD,aB,⟨[],rfl,by simp [eC],by simp⟩,none,none,none,none,rfl⟩) ?_ ?_⟩
  rotate_left
  ·rintro D i x y r Z H2 Tt hx hy ⟨hD,sm,hDl,⟨ns,rfl,hns,hnl⟩,u1,u2,u3,u4,rfl⟩ hT;obtain⟨sp,hsi,sa,rfl,qs⟩:=mR l2 hx;have hil:=(aaf.mp hsi).1;obtain⟨d,hdi,rfl⟩:∃ d,doors[i]? = some d/\y=V.bl d:=by
    rw[aag] at hy;cases hd:doors[i]? with
    | none=>rw[hd] at hy;cases hy
    | some d=>rw[hd] at hy;cases hy;exact⟨d,rfl,rfl⟩
   have mT:=aF.new (o:=HO.tup [.ref sa,.bl d]) hT;have hs:=kD net.sps doors i sp d hsi hdi;refine⟨Tt,_,rfl,bB.of aB,rfl,_,_,rfl,sa,_,rfl,mT.tup (sm.tup qs),rfl,_,_,rfl,_,_,rfl,_,_,rfl,rfl,_,_,rfl,rfl,?_⟩;refine⟨_,rfl,_,rfl,?_⟩;have smT:=sm.trans mT;cases d with
   | false=>
    refine j4 ⟨hD,smT,mT _ _ hDl,⟨ns,rfl,by rw[hs,hns];simp,by omega⟩,_,_,_,_,rfl⟩
   | true=>
    refine lC ⟨_,rfl,mT _ _ hDl,aM (by simp;omega),hD,smT.put hD,aB,⟨ns++[sp.2.1],by rw[aal];rfl,by rw[hs,List.sum_append,hns];simp,by simp;omega⟩,_,_,_,_,rfl⟩
  ·rintro D r Z H2 ⟨hD,sm,hDl,⟨ns,rfl,hns,hnl⟩,_⟩;refine⟨false,D,_,rfl,bF.of hDl,_,_,rfl,rfl,?_⟩;rw[hns,abl (aaj _),abl (Nat.le_of_eq sok.d)];exact k _ sm
def mW (K:aab):Sp:=λ vs H Q _=>∃ (x y:V) (net:Net) (m:Mom),vs=[x,y]/\Is K H (fB net) x/\Is K H (qE m) y/\NetOk net/\MomOk net m/\
 ∀ p p1 p2 H',aF H H'->bB K H' p [p1,.ref p2]->Is K H' (qE (m.step net)) p1->bB K H' p2 ((m.tk net).tip.map λ (k:Nat)=>V.int (k:Int))->Q (.ref p) H'
theorem fW:FnScope ["net","moment","tick","state","poured","came","grounded","behind","tipped","lost"] ["net","moment"] (aP (bM 13)):={}
theorem lA {f f1 f2 f3:Addr}{fd fd1 fd2 fd3:FuncData} (F:Fun K "moment_behind" "moment_behind" (bM 13) f fd) (T:Txt mg) (G_tick_behind:Callee P w K mg base "tick_behind" ["net","state","poured"] 4 (t9 K) f1 fd1)
  (G_came_in:Callee P w K mg base "came_in" ["net","state","poured"] 1 (mZ K) f2 fd2) (G_pouring:Callee P w K mg base "pouring" ["net","amount"] 1 (iJ K) f3 fd3):FnOk P w K mg base gX 5 f fd ["net","moment"] (mW K):=by
 refine F.ok fW (λ vs H Q E h=>?_) (λ cdv A outer s H vs Q E hr h=>?_)
 ·obtain⟨x,y,net,m,rfl,_⟩:=h;rfl
 ·obtain⟨x,y,net,m,rfl,hx,hy,nok,mok,k⟩:=h;have sc:=fW;refine⟨_,(aD (bY (pv 1) (aX (K:=K) (n:=5) rfl rfl (aE (gL 2 sc.nd) (aE (gL 3 sc.nd) (aE (gL 4 sc.nd) (aE (gL 5 sc.nd) (aE (gL 6 sc.nd) aW)))))))
   (aD (bY (dB G_tick_behind hr (aA (pv 0) (aA (pv 3) (aA (pv 4) aC)))) (aX (K:=K) (n:=3) rfl rfl (aE (gL 7 sc.nd) (aE (gL 8 sc.nd) (aE (gL 9 sc.nd) aW)))))
   (aD (yI (i:=5) sc.nd rfl (Or.inl rfl) (dB G_came_in hr (aA (pv 0) (aA (pv 3) (aA (pv 4) aC)))) zO)
   (aK (bE (bG (aA (bG (aA (aT cC (pv 2) aG) (aA (pv 7) (aA (dB G_pouring hr (aA (pv 0) (aA aG aC))) (aA (pv 5) (aA (aT cC (pv 6) (pv 9)) aC)))))) (aA (pv 8) aC)))))))),?_⟩
  obtain⟨a,po,st,rfl,q,hs,hp⟩:=yZ hy;refine⟨_,rfl,a,_,rfl,q,rfl,_,_,rfl,_,_,rfl,_,_,rfl,_,_,rfl,_,_,rfl,rfl,?_⟩;refine⟨_,rfl,_,rfl,_,rfl,x,st,po,net,m.held,m.coming,m.poured,m.doors,rfl,hx,hs,hp,nok,mok.st,mok.pl,λ f fxs H1 sm1 _ if1=>?_⟩;obtain⟨fa,gxs,ef,qf,lf⟩:=(show Is K H1 (.tup [sO (m.tk net).held (m.tk net).coming (m.tk net).doors,.tup ((m.tk net).tip.map λ (i:Nat)=>L2.D.int (i:Int)),.int (m.tk net).ground]) (.ref f) from if1).un;cases ef;obtain⟨y1,r,rfl,j1,lf⟩:=lf.un;obtain⟨y2,r,rfl,j2,lf⟩:=lf.un;obtain⟨y3,r,rfl,j3,lf⟩:=lf.un;have:=lf.un0;subst this;have:=j3.ui;subst this;obtain⟨p2,ts,rfl,qt,lt⟩:=j2.un;have et:ts=(m.tk net).tip.map λ (k:Nat)=>V.int (k:Int):=by
   have e1:((m.tk net).tip.map λ (i:Nat)=>L2.D.int (i:Int))=((m.tk net).tip.map λ (i:Nat)=>(i:Int)).map L2.D.int:=by rw[acb];rfl
   rw[e1] at lt;rw[lt.ints,acb];rfl
  subst et;refine⟨f,_,rfl,qf,rfl,_,_,rfl,_,_,rfl,_,_,rfl,rfl,?_⟩;refine⟨_,rfl,_,rfl,_,rfl,_,rfl,x,st,po,net,m.held,m.coming,m.poured,m.doors,rfl,Is.mono sm1.ts _ _ hx,Is.mono sm1.ts _ _ hs,sm1.tup hp,nok,mok.st,λ H2 sm2=>⟨_,_,rfl,rfl,?_⟩⟩;have s2:aF H H2:=sm1.trans sm2;refine⟨_,rfl,_,_,rfl,rfl,_,rfl,_,rfl,x,net,0,rfl,Is.mono s2.ts _ _ hx,nok,λ z H3 sm3 qz=>?_⟩;rw[mE nok.lo] at qz;refine⟨_,rfl,_,rfl,_,rfl,_,_,rfl,rfl,(show 5<=sizeLine by decide),λ p1 hp1=>?_⟩;have m1:aF H3 _:=aF.new (o:=HO.tup [.int (m.tick+1),y1,.ref z,.int (m.came+(m.poured.sum+eC net.sps m.doors)),.int (m.ground+(m.tk net).ground)]) hp1;refine⟨_,rfl,(show 2<=sizeLine by decide),λ p hpp=>?_⟩;have m2:aF _ _:=aF.new (o:=HO.tup [.ref p1,.ref p2]) hpp;refine k p (.ref p1) p2 _ (((s2.trans sm3).trans m1).trans m2) (bB.of aB) (zB (m:=m.step net) (m2.tup (bB.of aB)) ?_ ?_) ?_
  ·exact Is.mono m2.ts _ _ (Is.mono m1.ts _ _ (Is.mono sm3.ts _ _ (Is.mono sm2.ts _ _ j1)))
  ·exact m2.tup (m1.tup qz)
  ·exact m2.tup (m1.tup (sm3.tup (sm2.tup qt)))
end Tw
namespace L2
open PySem PySem.Spec PyProof.Rows TwZ
section
variable {X:Cx}{pins:List (Addr×Obj)}{σ:St}{H:Hp}{s:Shared}
end
section
variable {H:Hp}
end
structure Fly (P:Program) (w:World) (stack:List Env) (H:Hp) (h:Heap) (ea:Addr) (cls a0:Value) (H':Hp) (h' B:Heap):Prop where
 fl:Heap.FlyingW B stack ea cls a0 h'
 keep:∀ b o,h.get? b=some o->H b=none->b∉lD stack->B.get? b=some o
 slot:∀ b o,h.get? b=some o->H b=none->b∈lD stack->∃ sl,h'.get? b=some { o with slots:=sl }
 free:∀ b o,h.get? b=some o->H b=none->H' b=none
 there:∀ b o,h.get? b=some o->b∉lD stack->∃ o',B.get? b=some o'
 tups:∀ b xs,H b=some (.tup xs)->H' b=some (.tup xs)
 frzs:∀ b o u,H b=some (.frz o u)->H' b=some (.frz o u)
 tbls:∀ b ps,H b=some (.tbl ps)->∃ more,H' b=some (.tbl (ps++more))
 hok:jN P w H' B
def AR (P:Program) (w:World):xM:=λ outer H s E e s'=>∃ (ea:Addr) (cls a0:Value) (H':Hp) (B:Heap),e=.ref ea/\s'.os=s.os/\AllBare s'.gens/\Fly P w outer H s.heap ea cls a0 H' s'.heap B/\E cls none H'
structure Leaves (X:Cx) (E:XK):Prop where
 stk:X.stack=X.env::X.outer
 fr:X.env.frame=some X.env.locals
 ex:X.ex=[]
 xe:∀ e s',wpAny (model X.prog X.w) X.A (leaving X.env e) (λ _ s''=>AR X.prog X.w X.outer X.H₀ X.s₀ E e s'') (λ e' s''=>AR X.prog X.w X.outer X.H₀ X.s₀ E e' s'') s'->X.xe e s'
section
variable {X:Cx}{pins:List (Addr×Obj)}{σ:St}{H H':Hp}{s s':Shared}{E:XK}
theorem BT {l:List Env}{b:Addr}{env:Env} (he:env∈l) (hf:env.frame=some b):b∈lD l:=List.mem_filterMap.mpr ⟨env,he,hf⟩
theorem kG {l:List Env}{b L:Addr}{env:Env} (hf:env.frame=some L) (h:b∈lD (env::l)):b=L\/b∈lD l:=by
 unfold lD at h ⊢;rw[List.filterMap_cons,hf] at h;exact aay.1 h
theorem yC {h':Heap}{ea:Addr}{cls:Value}{vs:List Value} (L:Leaves X E) (I:Inv X pins σ H s) (hx:Heap.MadeExcOf s.heap h' ea cls vs) (hE:E cls none H):X.xe (.ref ea) { s with heap:=h' }:=by
 refine L.xe _ _ ?_;have fr:X.A.frames=some (X.env::X.outer):=by rw[<- L.stk];exact I.ok.frames
 have hs:s.heap.FunFrames X.base (X.env::X.outer):=by rw[<- L.stk];exact I.stack
 have hfree:∀ b∈lD (X.env::X.outer),H b=none:=by rw[<- L.stk];exact I.stkFree
 have nex:∀ b:Addr,b∉X.ex:=λ b z=>by rw[L.ex] at z;cases z
 have out:∀ b o,X.s₀.heap.get? b=some o->b∉lD X.outer->b∉lD (X.env::X.outer):=λ b o e hb z=>by
  rcases kG L.fr z with z | z
  ·exact absurd (aas (aam e) I.ok.above) (by rw[z];exact ach _)
  ·exact hb z
 refine wpAny_leaves_madeW (base:=PySem.W.hideAll s.heap (lD (X.env::X.outer))) fr L.fr (λ b o q=>PySem.W.of_hideAll _ q) (PySem.W.funFrames_hide hs λ env he a hf=>BT he hf) hx λ h2 t x1 x2 x3 x4=>?_;refine⟨ea,cls,.ref t,H,_,rfl,I.os,I.bare,⟨x1,λ b o e n hb=>?_,λ b o e n hb=>?_,λ b o e n=>I.base.free b o e n (nex b),λ b o e hb=>?_,I.base.tups,I.base.frzs,I.base.tbls,λ a o e=>?_⟩,hE⟩
 ·exact PySem.W.hideAll_get _ (I.base.keep b o e n hb (nex b)) (out b o e hb)
 ·obtain⟨sl,e1⟩:=I.base.slot b o e n hb (nex b);obtain⟨_,o',ho',hd⟩:=I.ok.funs.mem hb;rw[e] at ho';cases ho';obtain⟨sl',e2⟩:=x4 b _ (hx.keeps _ _ e1) hd;exact⟨sl',e2⟩
 ·obtain⟨o',e1⟩:=I.base.there b o e (nex b);exact⟨o',PySem.W.hideAll_get _ e1 (out b o e hb)⟩
 ·refine (I.hok a o e).stay (λ b u hb q=>PySem.W.hideAll_get _ q λ z=>?_) (λ _ q=>q) λ _ _ q=>q;have:=hfree b z;rcases hb with rfl | hb
  ·rw[e] at this;cases this
  ·rw[hb] at this;cases this
theorem BH (L:Leaves X E):o9 (AR X.prog X.w) X E:=by
 intro pins σ H s e s' I h;obtain⟨ea,cls,a0,H',B,rfl,os,bare,F,hE⟩:=h;refine L.xe _ _ ?_;have fr:X.A.frames=some (X.env::X.outer):=by rw[<- L.stk];exact I.ok.frames
 have nex:∀ b:Addr,b∉X.ex:=λ b z=>by rw[L.ex] at z;cases z
 have out:∀ b o,X.s₀.heap.get? b=some o->b∉lD X.outer->b∉lD X.stack:=λ b o e hb z=>by
  rw[L.stk] at z;rcases kG L.fr z with z | z
  ·exact absurd (aas (aam e) I.ok.above) (by rw[z];exact ach _)
  ·exact hb z
 have inn:∀ b,b∈lD X.outer->b∈lD X.stack:=λ b hb=>by
  rw[L.stk];unfold lD at hb ⊢;rw[List.filterMap_cons,L.fr];exact aau _ hb
 refine wpAny_leaves_onW fr L.fr (by rw[<- L.stk];exact F.fl) λ h2 x1 x2=>?_;refine⟨ea,cls,a0,H',B,rfl,os.trans I.os,bare,⟨x1,λ b o e n hb=>?_,λ b o e n hb=>?_,λ b o e n=>?_,λ b o e hb=>?_,λ b xs e=>F.tups b xs (I.base.tups b xs e),λ b o u e=>F.frzs b o u (I.base.frzs b o u e),λ b ps e=>?_,F.hok⟩,hE⟩
 ·exact F.keep b o (I.base.keep b o e n hb (nex b)) (I.base.free b o e n (nex b)) (out b o e hb)
 ·obtain⟨sl,e1⟩:=I.base.slot b o e n hb (nex b);obtain⟨sl',e2⟩:=F.slot b _ e1 (I.base.free b o e n (nex b)) (inn b hb);obtain⟨_,o',ho',hd⟩:=I.ok.funs.mem hb;rw[e] at ho';cases ho';obtain⟨sl'',e3⟩:=x2 b _ e2 hd;exact⟨sl'',e3⟩
 ·obtain⟨o',e1⟩:=I.base.there b o e (nex b);exact F.free b o' e1 (I.base.free b o e n (nex b))
 ·obtain⟨o',e1⟩:=I.base.there b o e (nex b);exact F.there b o' e1 (out b o e hb)
 ·obtain⟨m1,e1⟩:=I.base.tbls b ps e;obtain⟨m2,e2⟩:=F.tbls b _ e1;exact⟨m1++m2,by rw[e2,Array.append_assoc]⟩
theorem E7 {P:Program}{w:World}:o9 (AR P w) X E0:=λ _ _ _ _ _ _ _ h=>by
 obtain⟨_,_,_,_,_,_,_,_,_,h⟩:=h;exact h.elim
def DK (E:XK) (C:Addr) (t:TA):TS:=λ _ σ H=>t σ H λ vs H1=>vs.length<=100/\E (.ref C) none H1
theorem yH {x:Str}{C:Addr}{bm:List Value}{newId initId B:String}{np cpos pos:Pos}{dv:Expr}{rest:List Expr}{t:TA} (L:Leaves X E) (hc:X.calm=true) (hg:Gl X x) (O:PySem.W.excIn X.K C bm newId=true) (hm:PySem.W.nsIn X.K mainGlobals x=some (some (.ref C))) (FB:ExcBaseFacts B newId initId bm) (ha:PA X (dv::rest) t)
  (he:starEach (dv::rest) X.env=(false,eval dv X.env)::starEach rest X.env:=by with_unfolding_all rfl) (hplain:(backTo cpos (starEach rest X.env)).any (·.1)=false:=by with_unfolding_all rfl) (hd:(x == ("__debug__" : Str))=false:=by decide) :
  PS X (.Raise (some (.Call (.Name x np) (dv::rest) [] cpos)) none pos) (DK E C t):=by
 intro pins s σ H D I h;have G:X.mg x=some (.ref C):=aaz I.ok.mod.kin I.ok.mod.glob hm;have ocl:OwnCls x C bm newId X.mg X.base:=by
  refine⟨G,?_⟩;have q:=O;unfold PySem.W.excIn at q
  split at q
  ·rename_i dd cd sl ho
   split at q
   ·rename_i C' bm' k0 k1 k2 k3 n k5 hm' hs
    simp only [Bool.and_eq_true,Bool.not_eq_true',beq_iff_eq] at q;obtain⟨⟨⟨⟨⟨rfl,rfl⟩,hdel⟩,ht⟩,hok⟩,hni⟩:=q;obtain⟨nm,bs,mro,ns,qn,hd',sn,sub,ab,col,del⟩:=cd;dsimp only at hm' hdel hok hni;subst hm' hdel;have hsl:sl = #[k0,k1,k2,k3,some (.builtin n),k5]:=by obtain⟨l⟩:=sl;simp only at hs;rw[hs]
    subst hsl;exact⟨bm',ns,nm,qn,bs,hd',sn,sub,ab,col,dd,k0,k1,k2,k3,k5,_,I.ok.mod.kin _ _ ho,.of_isNs (PySem.W.isNs_of_in I.ok.mod.kin hok),PySem.W.nsMap_none_of_in I.ok.mod.kin hok hni,PySem.W.tail_of_in I.ok.mod.kin ht⟩
   ·cases q
  ·cases q
 obtain⟨tl,N,nm,q,bs,hdct,sn,sub,ab,col,dd,k0,k1,k2,k3,k5,mN,hC,hN,hni,T⟩:=ocl.obj;refine wpAny_Raise_call_subT (C:=C) (nm:=nm) (q:=q) (N:=N) (bs:=bs) (bm:=tl) (hdct:=hdct) (sn:=sn) (sub:=sub) (ab:=ab) (col:=col) (dd:=dd) (k0:=k0) (k1:=k1) (k2:=k2) (k3:=k3) (k5:=k5) FB (mN:=mN) (T.hasType FB.hasBase) (I.ok.hd hc) (by rw[he];show (false || (backTo cpos (starEach rest X.env)).any (·.1))=false;rw[hplain];rfl) hni (vC I hg G ⟨rfl,?_⟩ hd);have ha':=ha cpos pins s σ H _ I h;rw[he] at ha' ⊢;refine Calls.evalArgs_plain (abg ha' (λ us ci ⟨vs,H1,I1,r1,hlen,hE⟩=>⟨rfl,?_,I1.bk _ _ hC,hN.keeps I1.bk,T.keeps I1.bk,λ h' e hme=>yC L I1 hme hE⟩) λ _ _ y=>y);have:=r1.length;show us.length<=sizeLine;rw[sizeLine_eq];omega
end
abbrev Cx.within (X:Cx) (pn:List (Addr×Obj)) (E:Value->Shared->Prop):Cx:={ X with pn:=pn,xe:=E }
section
variable {X:Cx}{pins:List (Addr×Obj)}{σ:St}{H:Hp}{s:Shared}{pn:List (Addr×Obj)}{E:Value->Shared->Prop}{ea:Addr}
theorem Cx.Ok.within (ok:X.Ok):(X.within pn E).Ok:=
 ⟨ok.mod,ok.kind,ok.glob,ok.blt,ok.above,ok.inj,ok.has,ok.cab,ok.hd,ok.frames,ok.stk,ok.exf,ok.bs,ok.bsz,ok.noex,ok.exfs,ok.funs,ok.frf⟩
theorem Cx.Ok.unwithin (ok:(X.within pn E).Ok):X.Ok:=
 ⟨ok.mod,ok.kind,ok.glob,ok.blt,ok.above,ok.inj,ok.has,ok.cab,ok.hd,ok.frames,ok.stk,ok.exf,ok.bs,ok.bsz,ok.noex,ok.exfs,ok.funs,ok.frf⟩
theorem Inv.within (I:Inv X pins σ H s):Inv (X.within (X.pn++pins) E) [] σ H s:=
 ⟨I.ok.within,I.os,I.bare,I.base,I.loc,I.cell,I.free,I.freeC,λ p hp=>I.pin p (by simpa using hp),I.hok,I.len⟩
theorem Inv.unwithin {p2:List (Addr×Obj)} (I:Inv (X.within (X.pn++pins) E) p2 σ H s):Inv X pins σ H s:=
 ⟨I.ok.unwithin,I.os,I.bare,I.base,I.loc,I.cell,I.free,I.freeC,λ p hp=>I.pin p (aco _ hp),I.hok,I.len⟩
end
end L2
namespace L2
open PySem PySem.Spec PyProof.Rows TwZ PySem.Builtin PySem.Builtin.ObjectAttr PySem.Builtin.Getset_descriptor
section
variable {prog:Program}{x D:Addr}
end
section
variable {X:Cx}
def yE (K:aab):R2:=λ x y H Q=>∃ a b xs ys,x=.ref a/\y=.ref b/\bB K H a xs/\bB K H b ys/\xs.length+ys.length<=sizeLine/\∀ p H',aF H H'->bB K H' p (xs++ys)->Q (.ref p) H'
theorem yU:gA X (binaryOp .Add) (yE X.K):=by
 intro pins s σ H x y v u Q I rx ry h;obtain⟨a,b,xs,ys,rfl,rfl,ha,hb,hz,q⟩:=h
 by_cases hx:xs=[]
 ·subst hx;cases rx;cases ry;obtain⟨its,r1,p1,_⟩:=I.tuple ha;obtain⟨its2,r2,p2,_⟩:=I.tuple hb;cases r1;obtain⟨⟨cls,dd,data,sl⟩,ho,hc,n,hd⟩:=id p1;obtain⟨⟨cls2,dd2,data2,sl2⟩,ho2,hc2,n2,hd2⟩:=id p2;simp only at hc hd hc2 hd2;subst hc hd hc2 hd2;exact concat_meets ⟨_,ho,rfl⟩ ⟨_,ho2,rfl⟩ noFill_tuple_add seq_tuple_add PySem.F.slot_tuple_add PySem.F.entry_tuple_add (PySem.F.args_tuple_add_2 _ _) (tuple_addW0 a b _ its2.toArray n n2 dd dd2 sl sl2 (by simp)) ⟨ho,ho2,⟨.ref b,H,I,rfl,q b H (aF.refl H) hb⟩⟩
 ·refine uX pins s σ H _ _ v u Q I rx ry ⟨a,b,xs,ys,rfl,rfl,ha,hb,hx,hz,λ e=>?_,λ _ p hp=>?_⟩
  ·subst e;exact q a H (aF.refl H) (by rw[acn];exact ha)
  ·exact q p _ (aF.new hp) (bB.of aB)
theorem oU (hK:X.K=K):gA X (binaryOp .Add) (yE K):=by subst hK;exact yU
theorem uN (hK:X.K=K):SlR X (FV K):=by subst hK;exact DR
end
theorem Fun.okR {x qual:Str}{st:Stmt}{f:Addr}{fd:FuncData}{N ps:List Str}{k:Nat}{sp:Sp} (F:Fun K x qual st f fd) (S:FnScope N ps (aP st)) (len:∀ vs H Q E,sp vs H Q E->vs.length=ps.length)
  (hbody:∀ (cdv:Value) (A:Around) (outer:List Env) (s:Shared) (H:Hp) (vs:List V) (Q:VK) (E:XK),Room k (A.deeper (envOfC qual (aP st) s.heap.objs.size f cdv))->sp vs H Q E->
   Leaves (sF (AR P w) P w K mg base N qual (aP st) f cdv A outer s H E) E->
   ∃ t,xK (sF (AR P w) P w K mg base N qual (aP st) f cdv A outer s H E) (fJ st) t/\t { nx:=λ _ H'=>Q .non H',rt:=Q } (jS N vs) H):FnOk P w K mg base (AR P w) (k+1) f fd ps sp:=by
 obtain⟨oc,od,kV,doc,pm,an,cdv,ct,osl,rfl,lk,hcd⟩:=F.ex;exact D9 lk hcd S len λ A outer s H vs Q E hr hsp=>hbody cdv A outer s H vs Q E hr hsp ⟨rfl,rfl,rfl,λ _ _ h=>h⟩
structure CalleeR (P:Program) (w:World) (K:aab) (mg:Str->Option Value) (base:Heap) (x:Str) (ps:List Str) (k:Nat) (sp:Sp) (f:Addr) (fd:FuncData):Prop where
 ok:FnOk P w K mg base (AR P w) k f fd ps sp
 mg:mg x=some (.ref f)
 kp:PySem.W.keepIn K (.ref f)=true
 bd:oA K fd ps []
structure ExC (K:aab) (x:Str) (C:Addr):Prop where
 ns:PySem.W.nsIn K mainGlobals x=some (some (.ref C))
 exc:PySem.W.excIn K C [.type "ValueError",.type "Exception",.type "BaseException",.type "object"] "ValueError.__new__" = true
end L2
namespace Tw
open PySem L2
def mS:Sp:=λ vs H Q _=>∃ (n lo hi:Int),vs=[.int n,.int lo,.int hi]/\Q (.bl (decide (lo<=n) && decide (n<=hi))) H
theorem pY {f:Addr}{fd:FuncData} (F:Fun K "is_whole" "is_whole" (bM 20) f fd) (T:Txt mg):FnOk P w K mg base gX 1 f fd ["thing","least","most"] mS:=by
 refine F.ok lL (λ vs H Q E h=>?_) (λ cdv A outer s H vs Q E hr h=>?_)
 ·obtain⟨n,lo,hi,rfl,_⟩:=h;rfl
 ·obtain⟨n,lo,hi,rfl,k⟩:=h;have sc:=lL;refine⟨_,(aK (bE (tL (bH (iV (K:=K) rfl) rfl T.b_isinstance kN (aA (pv 0) (aA (m7 (v:=.ty "int") rfl T.b_int lG rfl) aC))) (tL (pR (bH (iV (K:=K) rfl) rfl T.b_isinstance kN (aA (pv 0) (aA (m7 (v:=.ty "bool") rfl T.b_bool vQ rfl) aC)))) (tK (yO CY CY (pv 1) (pv 0) (pv 2))))))),?_⟩;refine⟨_,rfl,_,"int",_,true,rfl,.inl (.int _),ED K,_,rfl,lC ?_⟩;refine⟨_,rfl,_,"bool",_,false,rfl,.inl (.int _),zG K,_,rfl,_,rfl,lC ?_⟩;refine⟨_,rfl,_,rfl,_,_,rfl,rfl,_,rfl,gM (λ h1=>?_) λ h1=>?_⟩
  ·rw[h1,Bool.true_and] at k;exact⟨_,rfl,_,_,rfl,rfl,k⟩
  ·rw[Bool.not_eq_true] at h1;rw[h1,Bool.false_and] at k;exact k
def pK (K:aab) (cV:Addr):Sp:=λ vs H Q E=>∃ (x:V) (net:Net) (v:Int),vs=[x,.int v]/\Is K H (fB net) x/\((0<=v/\v < net.vs.length/\Q .non H)\/(¬ (0<=v/\v < net.vs.length)/\E (.ref cV) none H))
theorem lT {f f1:Addr}{fd fd1:FuncData} (F:Fun K "need_vessel" "need_vessel" (bM 18) f fd) (T:Txt mg) (XC_NoVessel:ExC K "NoVessel" c_NoVessel) (G_is_whole:Callee P w K mg base "is_whole" ["thing","least","most"] 1 mS f1 fd1) :
  FnOk P w K mg base (AR P w) 2 f fd ["net","number"] (pK K c_NoVessel):=by
 refine F.okR hU (λ vs H Q E h=>?_) (λ cdv A outer s H vs Q E hr h L=>?_)
 ·obtain⟨x,net,v,rfl,_⟩:=h;rfl
 ·obtain⟨x,net,v,rfl,hx,k⟩:=h;have sc:=hU;refine⟨_,(aD (bY (pv 0) (aX (K:=K) (n:=2) rfl rfl (aE (gL 2 sc.nd) (aE (gL 3 sc.nd) aW))))
   (aK (dR (tI (i5 (dB G_is_whole hr (aA (pv 1) (aA aG (aA (aT i6 (oT K T.b_len (pv 2)) aG) aC)))))) (aK (yH L rfl rfl XC_NoVessel.exc XC_NoVessel.ns PySem.F.excBase_ValueError (aA gG aC))) cB))),?_⟩
  obtain⟨a,b,c,xs,ys,rfl,q,q1,l1,q2,l2⟩:=dL hx;have exl:xs.length=net.vs.length:=by rw[l1.length,aad]
  refine⟨_,rfl,a,_,rfl,q,rfl,_,_,rfl,_,_,rfl,rfl,?_⟩;refine⟨_,rfl,_,rfl,b,xs,rfl,.inr q1,_,_,rfl,rfl,v,0,_,rfl,_,rfl,?_⟩;rcases k with ⟨h0,h1,k⟩ | ⟨hn,k⟩
  ·rw[abm h0,abm (show v<=((xs.length:Nat):Int) - 1 by omega)];exact j4 k
  ·have:(decide (0<=v) && decide (v<=((xs.length:Nat):Int) - 1))=false:=by
    rw[Bool.eq_false_iff];intro z;rw[Bool.and_eq_true,decide_eq_true_eq,decide_eq_true_eq] at z;exact hn ⟨z.1,by omega⟩
   rw[this];exact lC ⟨by show 1<=100;decide,k⟩
end Tw
namespace L2
open PySem PySem.Spec PyProof.Rows TwZ
section
variable {prog:Program}
end
noncomputable instance decD:DecidableEq D:=λ a b=>Classical.propDecidable (a=b)
section
variable {prog:Program}
end
section
variable {X:Cx}{pins:List (Addr×Obj)}{σ:St}{H:Hp}{s:Shared}
end
section
variable {H H':Hp}{a:Addr}{S:D}{kvs:List (D×V)}
end
section
variable {X:Cx}{pins:List (Addr×Obj)}{σ:St}{H:Hp}{s:Shared}{a:Addr}{S:D}{kvs:List (D×V)}
end
end L2
namespace Tw
open PySem L2
structure Sta where
 held:List Int
 coming:List Int
 doors:List Bool
def xY (net:Net):Sta:=⟨cT net.vs.length,cT net.vs.length,net.sps.map (·.2.2)⟩
def Sta.tk (net:Net) (s:Sta):Tick:=dQ net s.held s.coming (cT net.vs.length) s.doors
def Sta.next (net:Net) (s:Sta):Sta:=⟨(s.tk net).held,(s.tk net).coming,(s.tk net).doors⟩
def fU (net:Net):Nat->Sta
 | 0=>xY net
 | t+1=>(fU net t).next net
def DP (s:Sta):L2.D:=sO s.held s.coming s.doors
theorem lX (n:Nat):(cT n).length=n:=by simp [cT]
theorem xX {net:Net} (nok:NetOk net):∀ t,StOk net (fU net t).held (fU net t).coming (fU net t).doors
 | 0=>⟨lX _,lX _,by show (net.sps.map _).length=_;rw[aad]⟩
 | t+1=>by
  have ih:=xX nok t;have hs:(aL net (fU net t).held (fU net t).coming (cT net.vs.length) (fU net t).doors).length=net.vs.length:=by
   unfold aL;rw[dZ,fA ih.h ih.c (lX _)]
  exact⟨eT _ _ hs.symm,by show (cP _ _).length=_;unfold cP;simp,by show (bP _ _ _).length=_;rw[eZ];exact ih.d⟩
end Tw
namespace L2
open PySem PySem.Spec PyProof.Rows TwZ
section
variable {X:Cx}
theorem BB {st:Stmt}{t:TS} (h:∀ pn:List (Addr×Obj),PS (X.within pn λ _ _=>False) st t):PS X st t:=by
 intro pins s σ H D I h1;refine abg (h (X.pn++pins) [] s σ H D I.within h1) (λ f ah hf=>?_) λ _ _ z=>z.elim;cases f with
 | next=>obtain⟨Z,H',J,q⟩:=hf;exact⟨Z,H',J.unwithin,q⟩
 | brk=>obtain⟨Z,H',J,q⟩:=hf;exact⟨Z,H',J.unwithin,q⟩
 | cont=>obtain⟨Z,H',J,q⟩:=hf;exact⟨Z,H',J.unwithin,q⟩
 | ret u=>obtain⟨v,Z,H',J,r,q⟩:=hf;exact⟨v,Z,H',J.unwithin,r,q⟩
end
end L2
namespace Tw
open PySem L2
theorem wC (vs:List Vs) (j:Nat) (v:Vs) (h:vs[j]? = some v):bS vs (some j)=vs.take j++[{ v with size:=v.brim+1 }]++vs.drop (j+1):=by
 have hj:=(aaf.mp h).1;have e:bS vs (some j)=vs.set j { v with size:=v.brim+1 }:=by
  apply List.ext_getElem?;intro i
  by_cases e:i=j
  ·subst e;rw[mQ (some i) h,acw hj];unfold cE;rw[if_pos rfl]
  ·rw[acx (λ z=>e z.symm)];unfold bS;rw[List.getElem?_mapIdx];cases vs[i]? with
   | none=>rfl
   | some w=>
    show some (cE (some j) i w)=some w;unfold cE;rw[if_neg (λ z=>e (by injection z with z;exact z.symm))]
 rw[e,List.set_eq_take_append_cons_drop,if_pos hj,acm];rfl
theorem jR {net:Net} (nok:NetOk net) (nfu:NetFull net) (fo:Option Nat):NetOk (aN net fo) where
 lo:=by show 1<=(bS net.vs fo).length;rw[cO];exact nok.lo
 hi:=by show (bS net.vs fo).length<=12;rw[cO];exact nok.hi
 sp:=nok.sp
 vs:=λ v hv=>by
  show VOk (bS net.vs fo).length net.sps.length v;rw[cO];obtain⟨i,hi,rfl⟩:=List.mem_iff_getElem.1 (show v∈bS net.vs fo from hv);have hil:i < net.vs.length:=by rw[cO] at hi;exact hi
  have h1:net.vs[i]? = some net.vs[i]:=by simp [hil]
  have h2:=mQ fo h1;have h3:(bS net.vs fo)[i]=cE fo i net.vs[i]:=by
   have:(bS net.vs fo)[i]? = some (bS net.vs fo)[i]:=by simp [hi]
   rw[this] at h2;exact abx h2
  rw[h3];have vok:=nok.vs _ (acf hil);have vfu:=nfu.vs i _ h1;unfold cE
  split
  ·exact { size:=by show 1<=net.vs[i].brim+1;have:=vok.size;have:=vfu.br;omega,ne:=vok.ne,o3:=vok.o3,outs:=vok.outs,spill:=vok.spill,a3:=vok.a3,acts:=vok.acts }
  ·exact vok
 sps:=λ s hs=>by
  show 0<=s.1/\s.1 < ((bS net.vs fo).length:Nat);rw[cO];exact nok.sps s hs
theorem t0 (net:Net) (fo:Option Nat):xY (aN net fo)=xY net:=by
 unfold xY;show (⟨cT (bS net.vs fo).length,cT (bS net.vs fo).length,_⟩:Sta)=_;rw[cO];rfl
theorem qZ (net:Net) (fo:Option Nat):cT (aN net fo).vs.length=cT net.vs.length:=by
 show cT (bS net.vs fo).length=_;rw[cO]
theorem sZ {net:Net}{fo:Option Nat}{h c:List Int}{d:List Bool} (s:StOk (aN net fo) h c d):StOk net h c d:=
 ⟨by have:=s.h;rw[show (aN net fo).vs.length=net.vs.length from cO _ _] at this;exact this,by have:=s.c;rw[show (aN net fo).vs.length=net.vs.length from cO _ _] at this;exact this,s.d⟩
theorem vE (k:Nat):∀ l:List Nat,D3 (.int (k:Int)) (l.map λ (i:Nat)=>V.int (i:Int))=decide (k∈l)
 | []=>rfl
 | x::l=>by
  show (sD (.int (x:Int)) (.int (k:Int)) || D3 (.int (k:Int)) (l.map λ (i:Nat)=>V.int (i:Int)))=_;rw[vE k l];show (((x:Int) == (k:Int)) || decide (k∈l))=decide (k∈x::l)
  by_cases h:k=x
  ·subst h;simp
  ·have h1:((x:Int) == (k:Int))=false:=by simp;omega
   have h2:decide (k∈x::l)=decide (k∈l):=by simp [h]
   rw[h1,h2,Bool.false_or]
theorem A5 (l:List Nat):(l.map λ (i:Nat)=>V.int (i:Int)).all eY=true:=by
 rw[aca];intro z hz;obtain⟨i,_,rfl⟩:=abo.1 hz;rfl
theorem DI {K:aab}{H:Hp}{l:List Nat}{v:V} (h:Is K H (.tup (l.map λ (i:Nat)=>L2.D.int (i:Int))) v):∃ a,v=.ref a/\bB K H a (l.map λ (i:Nat)=>V.int (i:Int)):=by
 obtain⟨a,xs,rfl,q,l'⟩:=h.un;have e1:(l.map λ (i:Nat)=>L2.D.int (i:Int))=(l.map λ (i:Nat)=>(i:Int)).map L2.D.int:=by rw[acb];rfl
 rw[e1] at l';have:=l'.ints;subst this;rw[acb] at q;exact⟨a,rfl,q⟩
end Tw
namespace L2
open PySem PySem.Spec PyProof.Rows TwZ
inductive G where
 | non
 | bl (b:Bool)
 | int (i:Int)
 | str (z:Str)
 | tup (gs:List G)
 | lst (gs:List G)
mutual
def aO (K:aab) (H:Hp):G->V->Prop
 | .non,v=>v=.non
 | .bl b,v=>v=.bl b
 | .int i,v=>v=.int i
 | .str z,v=>v=.str z
 | .tup gs,v=>∃ a xs,v=.ref a/\bB K H a xs/\cM K H gs xs
 | .lst gs,v=>∃ a xs,v=.ref a/\bF K H a xs/\cM K H gs xs
def cM (K:aab) (H:Hp):List G->List V->Prop
 | [],vs=>vs=[]
 | g::gs,vs=>∃ v r,vs=v::r/\aO K H g v/\cM K H gs r
end
mutual
def aS:G->G->Bool
 | .non,.non=>true
 | .bl a,.bl b=>a == b
 | .bl a,.int b=>(if a then 1 else 0) == b
 | .int a,.bl b=>a == (if b then 1 else 0)
 | .int a,.int b=>a == b
 | .str a,.str b=>a == b
 | .tup a,.tup b=>d0 a b
 | .lst a,.lst b=>d0 a b
 | _,_=>false
def d0:List G->List G->Bool
 | [],[]=>true
 | a::as,b::bs=>aS a b && d0 as bs
 | _,_=>false
end
mutual
def gN:G->Nat
 | .tup gs=>eI gs+1
 | .lst gs=>eI gs+1
 | _=>0
def eI:List G->Nat
 | []=>0
 | g::gs=>max (gN g) (eI gs)
end
mutual
theorem iE:∀ g:G,aS g g=true
 | .non=>by rw[aS]
 | .bl b=>by rw[aS];simp
 | .int i=>by rw[aS];simp
 | .str z=>by rw[aS];simp
 | .tup gs=>by rw[aS];exact lE gs
 | .lst gs=>by rw[aS];exact lE gs
theorem lE:∀ gs:List G,d0 gs gs=true
 | []=>by rw[d0]
 | g::gs=>by rw[d0,iE g,lE gs];rfl
end
theorem cM.length {K:aab}{H:Hp}:∀ {gs:List G}{xs:List V},cM K H gs xs->xs.length=gs.length
 | [],_,h=>by rw[cM] at h;subst h;rfl
 | g::gs,_,h=>by rw[cM] at h;obtain⟨v,r,rfl,_,h⟩:=h;rw[aba,aba,cM.length h]
theorem cM.get {K:aab}{H:Hp}:∀ {gs:List G}{xs:List V}{i:Nat}{g:G},cM K H gs xs->gs[i]? = some g->∃ x,xs[i]? = some x/\aO K H g x
 | [],_,_,_,_,e=>by simp at e
 | g::gs,_,0,g',h,e=>by rw[cM] at h;obtain⟨v,r,rfl,h1,_⟩:=h;simp at e;subst e;exact⟨v,by simp,h1⟩
 | g::gs,_,i+1,g',h,e=>by
  rw[cM] at h;obtain⟨v,r,rfl,_,h⟩:=h;obtain⟨x,h1,h2⟩:=cM.get h (i:=i) (by simpa using e);exact⟨x,by simpa using h1,h2⟩
theorem dO {g:G}:∀ {gs:List G},g∈gs->gN g<=eI gs
 | [],h=>by cases h
 | a::gs,h=>by
  rw[eI];rcases aay.1 h with rfl | h
  ·omega
  ·have:=dO h;omega
def GN (gs hs:List G) (j:Nat):Bool:=match gs[j]?,hs[j]? with
 | some g,some h=>aS g h
 | _,_=>true
theorem i4 (n:Nat) (e:Nat->Bool):(List.range (n+1)).all e=(e 0 && (List.range n).all λ j=>e (j+1)):=by
 rw[List.range_succ_eq_map,List.all_cons,List.all_map];rfl
theorem mD:∀ (gs hs:List G),gs.length=hs.length->(List.range gs.length).all (GN gs hs)=d0 gs hs
 | [],[],_=>by rw[d0];rfl
 | [],_::_,h=>by simp at h
 | _::_,[],h=>by simp at h
 | g::gs,h::hs,hl=>by
  rw[aba,i4,d0,<- mD gs hs (by simpa using hl)];congr 1
theorem kP:∀ (gs hs:List G),((List.range (min gs.length hs.length)).all (GN gs hs) && gs.length == hs.length)=d0 gs hs
 | [],[]=>by rw[d0];rfl
 | [],_::_=>by simp [d0]
 | _::_,[]=>by simp [d0]
 | g::gs,h::hs=>by
  have e1:min (g::gs).length (h::hs).length=min gs.length hs.length+1:=by rw[aba,aba];omega
  have e2:((g::gs).length == (h::hs).length)=(gs.length == hs.length):=by simp
  rw[e1,e2,i4,d0,<- kP gs hs,Bool.and_assoc];congr 1
theorem kK:∀ (gs hs:List G),gs.length≠hs.length->d0 gs hs=false
 | [],[],h=>absurd rfl h
 | [],_::_,_=>by simp [d0]
 | _::_,[],_=>by simp [d0]
 | g::gs,h::hs,hl=>by rw[d0,kK gs hs (by simpa using hl),Bool.and_false]
theorem qF {h:Heap}{a:Addr}{xs ys:Array Value} (h1:h.IsTuple a xs) (h2:h.IsTuple a ys):xs=ys:=by
 obtain⟨o,e,_,n,d⟩:=h1;obtain⟨o',e',_,n',d'⟩:=h2;rw[e] at e';cases e';rw[d] at d';injection d'
theorem rW {h:Heap}{a:Addr}{xs ys:Array Value} (h1:h.IsList a xs) (h2:h.IsList a ys):xs=ys:=by
 obtain⟨o,e,_,n,d⟩:=h1;obtain⟨o',e',_,n',d'⟩:=h2;rw[e] at e';cases e';rw[d] at d';injection d'
section
variable {X:Cx}{pins:List (Addr×Obj)}{σ:St}{H:Hp}{s:Shared}
mutual
theorem uH (I:Inv X pins σ H s):∀ (g h:G) (x y:V) (u:Value),aO X.K H g x->aO X.K H h y->bA x u->bA y u->g=h
 | .non,h,x,y,u,hx,hy,rx,ry=>by
  rw[aO] at hx;subst hx;cases rx;cases h <;> rw[aO] at hy
  ·subst hy;cases ry
  ·subst hy;obtain⟨_,e⟩:=ry;cases e
  ·subst hy;obtain⟨_,e⟩:=ry;cases e
  ·obtain⟨_,_,rfl,_⟩:=hy;cases ry
  ·obtain⟨_,_,rfl,_⟩:=hy;cases ry
 | .bl b,h,x,y,u,hx,hy,rx,ry=>by
  rw[aO] at hx;subst hx;cases rx;cases h <;> rw[aO] at hy
  ·subst hy;cases ry
  ·subst hy;injection ry with e;rw[e]
  ·subst hy;obtain⟨_,e⟩:=ry;cases e
  ·subst hy;obtain⟨_,e⟩:=ry;cases e
  ·obtain⟨_,_,rfl,_⟩:=hy;cases ry
  ·obtain⟨_,_,rfl,_⟩:=hy;cases ry
 | .int b,h,x,y,u,hx,hy,rx,ry=>by
  rw[aO] at hx;subst hx;obtain⟨t,rfl⟩:=rx;cases h <;> rw[aO] at hy
  ·subst hy;cases ry
  ·subst hy;cases ry
  ·subst hy;obtain⟨_,e⟩:=ry;injection e with e;rw[e]
  ·subst hy;obtain⟨_,e⟩:=ry;cases e
  ·obtain⟨_,_,rfl,_⟩:=hy;cases ry
  ·obtain⟨_,_,rfl,_⟩:=hy;cases ry
 | .str b,h,x,y,u,hx,hy,rx,ry=>by
  rw[aO] at hx;subst hx;obtain⟨t,rfl⟩:=rx;cases h <;> rw[aO] at hy
  ·subst hy;cases ry
  ·subst hy;cases ry
  ·subst hy;obtain⟨_,e⟩:=ry;cases e
  ·subst hy;obtain⟨_,e⟩:=ry;injection e with e;rw[e]
  ·obtain⟨_,_,rfl,_⟩:=hy;cases ry
  ·obtain⟨_,_,rfl,_⟩:=hy;cases ry
 | .tup gs,h,x,y,u,hx,hy,rx,ry=>by
  rw[aO] at hx;obtain⟨a,xs,rfl,q1,l1⟩:=hx;cases rx;cases h <;> rw[aO] at hy
  ·subst hy;cases ry
  ·subst hy;cases ry
  ·subst hy;obtain⟨_,e⟩:=ry;cases e
  ·subst hy;obtain⟨_,e⟩:=ry;cases e
  ·obtain⟨b,ys,rfl,q2,l2⟩:=hy;cases ry;obtain⟨us,r1,p1,_⟩:=I.tuple q1;obtain⟨vs,r2,p2,_⟩:=I.tuple q2;have e:=qF p1 p2;have e':us=vs:=by simpa using e
   subst e';rw[sR I gs _ xs ys us l1 l2 r1 r2]
  ·obtain⟨b,ys,rfl,q2,l2⟩:=hy;cases ry;obtain⟨us,r1,p1,_⟩:=I.tuple q1;obtain⟨vs,r2,p2,_⟩:=I.list q2;exact absurd rfl (SeqAt.ne_of_list_tuple p2.isList p1)
 | .lst gs,h,x,y,u,hx,hy,rx,ry=>by
  rw[aO] at hx;obtain⟨a,xs,rfl,q1,l1⟩:=hx;cases rx;cases h <;> rw[aO] at hy
  ·subst hy;cases ry
  ·subst hy;cases ry
  ·subst hy;obtain⟨_,e⟩:=ry;cases e
  ·subst hy;obtain⟨_,e⟩:=ry;cases e
  ·obtain⟨b,ys,rfl,q2,l2⟩:=hy;cases ry;obtain⟨us,r1,p1,_⟩:=I.list q1;obtain⟨vs,r2,p2,_⟩:=I.tuple q2;exact absurd rfl (SeqAt.ne_of_list_tuple p1.isList p2)
  ·obtain⟨b,ys,rfl,q2,l2⟩:=hy;cases ry;obtain⟨us,r1,p1,_⟩:=I.list q1;obtain⟨vs,r2,p2,_⟩:=I.list q2;have e:=rW p1.isList p2.isList;have e':us=vs:=by simpa using e
   subst e';rw[sR I gs _ xs ys us l1 l2 r1 r2]
theorem sR (I:Inv X pins σ H s):∀ (gs hs:List G) (xs ys:List V) (us:List Value),cM X.K H gs xs->cM X.K H hs ys->b9 xs us->b9 ys us->gs=hs
 | [],hs,xs,ys,us,h1,h2,r1,r2=>by
  rw[cM] at h1;subst h1;cases r1;cases r2;cases hs with
  | nil=>rfl
  | cons h hs=>rw[cM] at h2;obtain⟨_,_,e,_⟩:=h2;cases e
 | g::gs,hs,xs,ys,us,h1,h2,r1,r2=>by
  rw[cM] at h1;obtain⟨x,r,rfl,i1,l1⟩:=h1;cases r1 with
  | cons ra rb=>
   cases hs with
   | nil=>rw[cM] at h2;subst h2;cases r2
   | cons h hs=>
    rw[cM] at h2;obtain⟨y,r',rfl,i2,l2⟩:=h2;cases r2 with
    | cons ra' rb'=>rw[uH I g h _ _ _ i1 i2 ra ra',sR I gs hs _ _ _ l1 l2 rb rb']
end
theorem vI {us:List Value}{j:Nat}{w:Value} (h1:j < us.toArray.size) (h:us[j]? = some w):us.toArray[j]=w:=by
 have:us[j]? = some us.toArray[j]:=by simp
 rw[this] at h;exact abx h
theorem iR {n:Nat}{gs hs:List G}{xs ys:List V}{us vs:List Value}{A:Around}
  (ih:∀ (g h:G) (x y:V) (u v:Value),g∈gs->aO X.K H g x->aO X.K H h y->bA x u->bA y v->SeqAt.EqAt A s u v (aS g h))
  (l1:cM X.K H gs xs) (l2:cM X.K H hs ys) (r1:b9 xs us) (r2:b9 ys vs) (j:Nat) (h1:j < us.toArray.size) (h2:j < vs.toArray.size):SeqAt.EqAt A s us.toArray[j] vs.toArray[j] (GN gs hs j):=by
 have e1:=r1.length;have e2:=r2.length;have e3:=l1.length;have e4:=l2.length;have j1:j < gs.length:=by rw[<- e3,e1];simpa using h1
 have j2:j < hs.length:=by rw[<- e4,e2];simpa using h2
 obtain⟨x,gx,ix⟩:=l1.get (i:=j) (g:=gs[j]) (by simp);obtain⟨y,gy,iy⟩:=l2.get (i:=j) (g:=hs[j]) (by simp);obtain⟨w1,g1,t1⟩:=r1.get gx;obtain⟨w2,g2,t2⟩:=r2.get gy;rw[vI h1 g1,vI h2 g2];have:GN gs hs j=aS gs[j] hs[j]:=by unfold GN;simp [j1,j2]
 rw[this];exact ih _ _ x y w1 w2 (acf j1) ix iy t1 t2
theorem nW (I:Inv X pins σ H s):∀ (n:Nat) (g h:G) (A:Around) (x y:V) (u v:Value),gN g<=n->A.units+n < cLine->aO X.K H g x->aO X.K H h y->bA x u->bA y v->SeqAt.EqAt A s u v (aS g h)
 | n,.non,.non,A,x,y,u,v,hd,hu,hx,hy,rx,ry=>by
  rw[aO] at hx;subst hx;cases rx;rw[aO] at hy;subst hy;cases ry;rw[aS];exact SeqAt.EqAt.same _
 | n,.non,.bl gy,A,x,y,u,v,hd,hu,hx,hy,rx,ry=>by
  rw[aO] at hx;subst hx;cases rx;rw[aO] at hy;subst hy;cases ry;rw[show aS (.non) (.bl gy)=false from by simp [aS]];exact SeqAt.EqAt.none_bool gy
 | n,.non,.int gy,A,x,y,u,v,hd,hu,hx,hy,rx,ry=>by
  rw[aO] at hx;subst hx;cases rx;rw[aO] at hy;subst hy;obtain⟨ty,rfl⟩:=ry;rw[show aS (.non) (.int gy)=false from by simp [aS]];exact SeqAt.EqAt.none_int gy ty
 | n,.non,.str gy,A,x,y,u,v,hd,hu,hx,hy,rx,ry=>by
  rw[aO] at hx;subst hx;cases rx;rw[aO] at hy;subst hy;obtain⟨ty,rfl⟩:=ry;rw[show aS (.non) (.str gy)=false from by simp [aS]];exact SeqAt.EqAt.none_str gy ty
 | n,.non,.tup gy,A,x,y,u,v,hd,hu,hx,hy,rx,ry=>by
  rw[aO] at hx;subst hx;cases rx;rw[aO] at hy;obtain⟨ay,xsy,rfl,qy,ly⟩:=hy;cases ry;obtain⟨usy,vy,py,_⟩:=I.tuple qy;rw[show aS (.non) (.tup gy)=false from by simp [aS]];exact SeqAt.EqAt.none_tuple py (by omega)
 | n,.non,.lst gy,A,x,y,u,v,hd,hu,hx,hy,rx,ry=>by
  rw[aO] at hx;subst hx;cases rx;rw[aO] at hy;obtain⟨ay,xsy,rfl,qy,ly⟩:=hy;cases ry;obtain⟨usy,vy,py,_⟩:=I.list qy;rw[show aS (.non) (.lst gy)=false from by simp [aS]];exact SeqAt.EqAt.none_list py.isList (by omega)
 | n,.bl gx,.non,A,x,y,u,v,hd,hu,hx,hy,rx,ry=>by
  rw[aO] at hx;subst hx;cases rx;rw[aO] at hy;subst hy;cases ry;rw[show aS (.bl gx) (.non)=false from by simp [aS]];exact SeqAt.EqAt.bool_none gx
 | n,.bl gx,.bl gy,A,x,y,u,v,hd,hu,hx,hy,rx,ry=>by
  rw[aO] at hx;subst hx;cases rx;rw[aO] at hy;subst hy;cases ry;rw[aS];exact SeqAt.EqAt.bool_bool gx gy
 | n,.bl gx,.int gy,A,x,y,u,v,hd,hu,hx,hy,rx,ry=>by
  rw[aO] at hx;subst hx;cases rx;rw[aO] at hy;subst hy;obtain⟨ty,rfl⟩:=ry;rw[aS];exact SeqAt.EqAt.bool_int gx gy ty
 | n,.bl gx,.str gy,A,x,y,u,v,hd,hu,hx,hy,rx,ry=>by
  rw[aO] at hx;subst hx;cases rx;rw[aO] at hy;subst hy;obtain⟨ty,rfl⟩:=ry;rw[show aS (.bl gx) (.str gy)=false from by simp [aS]];exact SeqAt.EqAt.bool_str gx gy ty
 | n,.bl gx,.tup gy,A,x,y,u,v,hd,hu,hx,hy,rx,ry=>by
  rw[aO] at hx;subst hx;cases rx;rw[aO] at hy;obtain⟨ay,xsy,rfl,qy,ly⟩:=hy;cases ry;obtain⟨usy,vy,py,_⟩:=I.tuple qy;rw[show aS (.bl gx) (.tup gy)=false from by simp [aS]];exact SeqAt.EqAt.bool_tuple gx py (by omega)
 | n,.bl gx,.lst gy,A,x,y,u,v,hd,hu,hx,hy,rx,ry=>by
  rw[aO] at hx;subst hx;cases rx;rw[aO] at hy;obtain⟨ay,xsy,rfl,qy,ly⟩:=hy;cases ry;obtain⟨usy,vy,py,_⟩:=I.list qy;rw[show aS (.bl gx) (.lst gy)=false from by simp [aS]];exact SeqAt.EqAt.bool_list gx py.isList (by omega)
 | n,.int gx,.non,A,x,y,u,v,hd,hu,hx,hy,rx,ry=>by
  rw[aO] at hx;subst hx;obtain⟨tx,rfl⟩:=rx;rw[aO] at hy;subst hy;cases ry;rw[show aS (.int gx) (.non)=false from by simp [aS]];exact SeqAt.EqAt.int_none gx tx
 | n,.int gx,.bl gy,A,x,y,u,v,hd,hu,hx,hy,rx,ry=>by
  rw[aO] at hx;subst hx;obtain⟨tx,rfl⟩:=rx;rw[aO] at hy;subst hy;cases ry;rw[aS];exact SeqAt.EqAt.int_bool gx tx gy
 | n,.int gx,.int gy,A,x,y,u,v,hd,hu,hx,hy,rx,ry=>by
  rw[aO] at hx;subst hx;obtain⟨tx,rfl⟩:=rx;rw[aO] at hy;subst hy;obtain⟨ty,rfl⟩:=ry;rw[aS];exact SeqAt.EqAt.int_int gx tx gy ty
 | n,.int gx,.str gy,A,x,y,u,v,hd,hu,hx,hy,rx,ry=>by
  rw[aO] at hx;subst hx;obtain⟨tx,rfl⟩:=rx;rw[aO] at hy;subst hy;obtain⟨ty,rfl⟩:=ry;rw[show aS (.int gx) (.str gy)=false from by simp [aS]];exact SeqAt.EqAt.int_str gx tx gy ty
 | n,.int gx,.tup gy,A,x,y,u,v,hd,hu,hx,hy,rx,ry=>by
  rw[aO] at hx;subst hx;obtain⟨tx,rfl⟩:=rx;rw[aO] at hy;obtain⟨ay,xsy,rfl,qy,ly⟩:=hy;cases ry;obtain⟨usy,vy,py,_⟩:=I.tuple qy;rw[show aS (.int gx) (.tup gy)=false from by simp [aS]];exact SeqAt.EqAt.int_tuple gx tx py (by omega)
 | n,.int gx,.lst gy,A,x,y,u,v,hd,hu,hx,hy,rx,ry=>by
  rw[aO] at hx;subst hx;obtain⟨tx,rfl⟩:=rx;rw[aO] at hy;obtain⟨ay,xsy,rfl,qy,ly⟩:=hy;cases ry;obtain⟨usy,vy,py,_⟩:=I.list qy;rw[show aS (.int gx) (.lst gy)=false from by simp [aS]];exact SeqAt.EqAt.int_list gx tx py.isList (by omega)
 | n,.str gx,.non,A,x,y,u,v,hd,hu,hx,hy,rx,ry=>by
  rw[aO] at hx;subst hx;obtain⟨tx,rfl⟩:=rx;rw[aO] at hy;subst hy;cases ry;rw[show aS (.str gx) (.non)=false from by simp [aS]];exact SeqAt.EqAt.str_none gx tx
 | n,.str gx,.bl gy,A,x,y,u,v,hd,hu,hx,hy,rx,ry=>by
  rw[aO] at hx;subst hx;obtain⟨tx,rfl⟩:=rx;rw[aO] at hy;subst hy;cases ry;rw[show aS (.str gx) (.bl gy)=false from by simp [aS]];exact SeqAt.EqAt.str_bool gx tx gy
 | n,.str gx,.int gy,A,x,y,u,v,hd,hu,hx,hy,rx,ry=>by
  rw[aO] at hx;subst hx;obtain⟨tx,rfl⟩:=rx;rw[aO] at hy;subst hy;obtain⟨ty,rfl⟩:=ry;rw[show aS (.str gx) (.int gy)=false from by simp [aS]];exact SeqAt.EqAt.str_int gx tx gy ty
 | n,.str gx,.str gy,A,x,y,u,v,hd,hu,hx,hy,rx,ry=>by
  rw[aO] at hx;subst hx;obtain⟨tx,rfl⟩:=rx;rw[aO] at hy;subst hy;obtain⟨ty,rfl⟩:=ry;rw[aS];exact SeqAt.EqAt.str_str gx tx gy ty
 | n,.str gx,.tup gy,A,x,y,u,v,hd,hu,hx,hy,rx,ry=>by
  rw[aO] at hx;subst hx;obtain⟨tx,rfl⟩:=rx;rw[aO] at hy;obtain⟨ay,xsy,rfl,qy,ly⟩:=hy;cases ry;obtain⟨usy,vy,py,_⟩:=I.tuple qy;rw[show aS (.str gx) (.tup gy)=false from by simp [aS]];exact SeqAt.EqAt.str_tuple gx tx py (by omega)
 | n,.str gx,.lst gy,A,x,y,u,v,hd,hu,hx,hy,rx,ry=>by
  rw[aO] at hx;subst hx;obtain⟨tx,rfl⟩:=rx;rw[aO] at hy;obtain⟨ay,xsy,rfl,qy,ly⟩:=hy;cases ry;obtain⟨usy,vy,py,_⟩:=I.list qy;rw[show aS (.str gx) (.lst gy)=false from by simp [aS]];exact SeqAt.EqAt.str_list gx tx py.isList (by omega)
 | n,.tup gx,.non,A,x,y,u,v,hd,hu,hx,hy,rx,ry=>by
  rw[aO] at hx;obtain⟨ax,xsx,rfl,qx,lx⟩:=hx;cases rx;obtain⟨usx,vx,px,_⟩:=I.tuple qx;rw[aO] at hy;subst hy;cases ry;rw[show aS (.tup gx) (.non)=false from by simp [aS]];exact SeqAt.EqAt.tuple_none px (by omega)
 | n,.tup gx,.bl gy,A,x,y,u,v,hd,hu,hx,hy,rx,ry=>by
  rw[aO] at hx;obtain⟨ax,xsx,rfl,qx,lx⟩:=hx;cases rx;obtain⟨usx,vx,px,_⟩:=I.tuple qx;rw[aO] at hy;subst hy;cases ry;rw[show aS (.tup gx) (.bl gy)=false from by simp [aS]];exact SeqAt.EqAt.tuple_bool gy px (by omega)
 | n,.tup gx,.int gy,A,x,y,u,v,hd,hu,hx,hy,rx,ry=>by
  rw[aO] at hx;obtain⟨ax,xsx,rfl,qx,lx⟩:=hx;cases rx;obtain⟨usx,vx,px,_⟩:=I.tuple qx;rw[aO] at hy;subst hy;obtain⟨ty,rfl⟩:=ry;rw[show aS (.tup gx) (.int gy)=false from by simp [aS]];exact SeqAt.EqAt.tuple_int gy ty px (by omega)
 | n,.tup gx,.str gy,A,x,y,u,v,hd,hu,hx,hy,rx,ry=>by
  rw[aO] at hx;obtain⟨ax,xsx,rfl,qx,lx⟩:=hx;cases rx;obtain⟨usx,vx,px,_⟩:=I.tuple qx;rw[aO] at hy;subst hy;obtain⟨ty,rfl⟩:=ry;rw[show aS (.tup gx) (.str gy)=false from by simp [aS]];exact SeqAt.EqAt.tuple_str gy ty px (by omega)
 | 0,.tup gx,.tup gy,A,x,y,u,v,hd,_,_,_,_,_=>by rw[gN] at hd;omega
 | n+1,.tup gx,.tup gy,A,x,y,u,v,hd,hu,hx,hy,rx,ry=>by
  rw[aO] at hx;obtain⟨ax,xsx,rfl,qx,lx⟩:=hx;cases rx;obtain⟨usx,vx,px,_⟩:=I.tuple qx;rw[aO] at hy;obtain⟨ay,xsy,rfl,qy,ly⟩:=hy;cases ry;obtain⟨usy,vy,py,_⟩:=I.tuple qy
  by_cases hab:ax=ay
  ·subst hab;have e:=uH I (.tup gx) (.tup gy) (.ref ax) (.ref ax) _ (by rw[aO];exact⟨_,_,rfl,qx,lx⟩) (by rw[aO];exact⟨_,_,rfl,qy,ly⟩) rfl rfl;rw[e,iE];exact SeqAt.EqAt.same _
  have e1:=vx.length;have e2:=vy.length;have e3:=lx.length;have e4:=ly.length;rw[show aS (.tup gx) (.tup gy)=d0 gx gy from by rw[aS],<- kP gx gy];have ex:gx.length=usx.toArray.size:=by rw[<- e3,e1,aah]
  have ey:gy.length=usy.toArray.size:=by rw[<- e4,e2,aah]
  rw[ex,ey];refine SeqAt.EqAt.of_refs hab ?_;exact SeqAt.RcAt.tuples px py (by omega) (λ j h1 h2=>iR (n:=0) (λ g h x y u v hm ix iy tx ty=>nW I n g h A.in1 x y u v (by have:=dO hm;rw[gN] at hd;omega) (by show A.units+1+n < cLine;omega) ix iy tx ty) lx ly vx vy j h1 h2)
 | n,.tup gx,.lst gy,A,x,y,u,v,hd,hu,hx,hy,rx,ry=>by
  rw[aO] at hx;obtain⟨ax,xsx,rfl,qx,lx⟩:=hx;cases rx;obtain⟨usx,vx,px,_⟩:=I.tuple qx;rw[aO] at hy;obtain⟨ay,xsy,rfl,qy,ly⟩:=hy;cases ry;obtain⟨usy,vy,py,_⟩:=I.list qy;rw[show aS (.tup gx) (.lst gy)=false from by simp [aS]];exact SeqAt.EqAt.tuple_list px py.isList (by omega)
 | n,.lst gx,.non,A,x,y,u,v,hd,hu,hx,hy,rx,ry=>by
  rw[aO] at hx;obtain⟨ax,xsx,rfl,qx,lx⟩:=hx;cases rx;obtain⟨usx,vx,px,_⟩:=I.list qx;rw[aO] at hy;subst hy;cases ry;rw[show aS (.lst gx) (.non)=false from by simp [aS]];exact SeqAt.EqAt.list_none px.isList (by omega)
 | n,.lst gx,.bl gy,A,x,y,u,v,hd,hu,hx,hy,rx,ry=>by
  rw[aO] at hx;obtain⟨ax,xsx,rfl,qx,lx⟩:=hx;cases rx;obtain⟨usx,vx,px,_⟩:=I.list qx;rw[aO] at hy;subst hy;cases ry;rw[show aS (.lst gx) (.bl gy)=false from by simp [aS]];exact SeqAt.EqAt.list_bool gy px.isList (by omega)
 | n,.lst gx,.int gy,A,x,y,u,v,hd,hu,hx,hy,rx,ry=>by
  rw[aO] at hx;obtain⟨ax,xsx,rfl,qx,lx⟩:=hx;cases rx;obtain⟨usx,vx,px,_⟩:=I.list qx;rw[aO] at hy;subst hy;obtain⟨ty,rfl⟩:=ry;rw[show aS (.lst gx) (.int gy)=false from by simp [aS]];exact SeqAt.EqAt.list_int gy ty px.isList (by omega)
 | n,.lst gx,.str gy,A,x,y,u,v,hd,hu,hx,hy,rx,ry=>by
  rw[aO] at hx;obtain⟨ax,xsx,rfl,qx,lx⟩:=hx;cases rx;obtain⟨usx,vx,px,_⟩:=I.list qx;rw[aO] at hy;subst hy;obtain⟨ty,rfl⟩:=ry;rw[show aS (.lst gx) (.str gy)=false from by simp [aS]];exact SeqAt.EqAt.list_str gy ty px.isList (by omega)
 | n,.lst gx,.tup gy,A,x,y,u,v,hd,hu,hx,hy,rx,ry=>by
  rw[aO] at hx;obtain⟨ax,xsx,rfl,qx,lx⟩:=hx;cases rx;obtain⟨usx,vx,px,_⟩:=I.list qx;rw[aO] at hy;obtain⟨ay,xsy,rfl,qy,ly⟩:=hy;cases ry;obtain⟨usy,vy,py,_⟩:=I.tuple qy;rw[show aS (.lst gx) (.tup gy)=false from by simp [aS]];exact SeqAt.EqAt.list_tuple px.isList py (by omega)
 | 0,.lst gx,.lst gy,A,x,y,u,v,hd,_,_,_,_,_=>by rw[gN] at hd;omega
 | n+1,.lst gx,.lst gy,A,x,y,u,v,hd,hu,hx,hy,rx,ry=>by
  rw[aO] at hx;obtain⟨ax,xsx,rfl,qx,lx⟩:=hx;cases rx;obtain⟨usx,vx,px,_⟩:=I.list qx;rw[aO] at hy;obtain⟨ay,xsy,rfl,qy,ly⟩:=hy;cases ry;obtain⟨usy,vy,py,_⟩:=I.list qy
  by_cases hab:ax=ay
  ·subst hab;have e:=uH I (.lst gx) (.lst gy) (.ref ax) (.ref ax) _ (by rw[aO];exact⟨_,_,rfl,qx,lx⟩) (by rw[aO];exact⟨_,_,rfl,qy,ly⟩) rfl rfl;rw[e,iE];exact SeqAt.EqAt.same _
  have e1:=vx.length;have e2:=vy.length;have e3:=lx.length;have e4:=ly.length;rw[show aS (.lst gx) (.lst gy)=d0 gx gy from by rw[aS]];have ex:gx.length=usx.toArray.size:=by rw[<- e3,e1,aah]
  have ey:gy.length=usy.toArray.size:=by rw[<- e4,e2,aah]
  by_cases hl:gx.length=gy.length
  ·rw[<- mD gx gy hl,ex];refine SeqAt.EqAt.of_refs hab ?_;exact SeqAt.RcAt.lists px.isList py.isList (by omega) (by omega) (λ j h1 h2=>iR (n:=0) (λ g h x y u v hm ix iy tx ty=>nW I n g h A.in1 x y u v (by have:=dO hm;rw[gN] at hd;omega) (by show A.units+1+n < cLine;omega) ix iy tx ty) lx ly vx vy j h1 h2)
  ·rw[kK gx gy hl];refine SeqAt.EqAt.of_refs hab ?_;exact SeqAt.RcAt.lists_lengths px.isList py.isList (by rw[<- ex,<- ey];simpa using hl) (by omega)
theorem rcG (I:Inv X pins σ H s) {A:Around} (hu:A.units+40 < cLine):∀ (g h:G) (x y:V) (u v:Value),gN g<=30->aO X.K H g x->aO X.K H h y->bA x u->bA y v->SeqAt.RcAt A s u v (aS g h)
 | .non,.non,x,y,u,v,hd,hx,hy,rx,ry=>by
  rw[aO] at hx;subst hx;cases rx;rw[aO] at hy;subst hy;cases ry;rw[aS];exact SeqAt.RcAt.none_none
 | .non,.bl gy,x,y,u,v,hd,hx,hy,rx,ry=>by
  rw[aO] at hx;subst hx;cases rx;rw[aO] at hy;subst hy;cases ry;rw[show aS (.non) (.bl gy)=false from by simp [aS]];exact SeqAt.RcAt.none_bool gy
 | .non,.int gy,x,y,u,v,hd,hx,hy,rx,ry=>by
  rw[aO] at hx;subst hx;cases rx;rw[aO] at hy;subst hy;obtain⟨ty,rfl⟩:=ry;rw[show aS (.non) (.int gy)=false from by simp [aS]];exact SeqAt.RcAt.none_int gy ty
 | .non,.str gy,x,y,u,v,hd,hx,hy,rx,ry=>by
  rw[aO] at hx;subst hx;cases rx;rw[aO] at hy;subst hy;obtain⟨ty,rfl⟩:=ry;rw[show aS (.non) (.str gy)=false from by simp [aS]];exact SeqAt.RcAt.none_str gy ty
 | .non,.tup gy,x,y,u,v,hd,hx,hy,rx,ry=>by
  rw[aO] at hx;subst hx;cases rx;rw[aO] at hy;obtain⟨ay,xsy,rfl,qy,ly⟩:=hy;cases ry;obtain⟨usy,vy,py,_⟩:=I.tuple qy;rw[show aS (.non) (.tup gy)=false from by simp [aS]];exact SeqAt.RcAt.none_tuple py (by omega)
 | .non,.lst gy,x,y,u,v,hd,hx,hy,rx,ry=>by
  rw[aO] at hx;subst hx;cases rx;rw[aO] at hy;obtain⟨ay,xsy,rfl,qy,ly⟩:=hy;cases ry;obtain⟨usy,vy,py,_⟩:=I.list qy;rw[show aS (.non) (.lst gy)=false from by simp [aS]];exact SeqAt.RcAt.none_list py.isList (by omega)
 | .bl gx,.non,x,y,u,v,hd,hx,hy,rx,ry=>by
  rw[aO] at hx;subst hx;cases rx;rw[aO] at hy;subst hy;cases ry;rw[show aS (.bl gx) (.non)=false from by simp [aS]];exact SeqAt.RcAt.bool_none gx
 | .bl gx,.bl gy,x,y,u,v,hd,hx,hy,rx,ry=>by
  rw[aO] at hx;subst hx;cases rx;rw[aO] at hy;subst hy;cases ry;rw[aS];exact SeqAt.RcAt.bool_bool gx gy
 | .bl gx,.int gy,x,y,u,v,hd,hx,hy,rx,ry=>by
  rw[aO] at hx;subst hx;cases rx;rw[aO] at hy;subst hy;obtain⟨ty,rfl⟩:=ry;rw[aS];exact SeqAt.RcAt.bool_int gx gy ty
 | .bl gx,.str gy,x,y,u,v,hd,hx,hy,rx,ry=>by
  rw[aO] at hx;subst hx;cases rx;rw[aO] at hy;subst hy;obtain⟨ty,rfl⟩:=ry;rw[show aS (.bl gx) (.str gy)=false from by simp [aS]];exact SeqAt.RcAt.bool_str gx gy ty
 | .bl gx,.tup gy,x,y,u,v,hd,hx,hy,rx,ry=>by
  rw[aO] at hx;subst hx;cases rx;rw[aO] at hy;obtain⟨ay,xsy,rfl,qy,ly⟩:=hy;cases ry;obtain⟨usy,vy,py,_⟩:=I.tuple qy;rw[show aS (.bl gx) (.tup gy)=false from by simp [aS]];exact SeqAt.RcAt.bool_tuple gx py (by omega)
 | .bl gx,.lst gy,x,y,u,v,hd,hx,hy,rx,ry=>by
  rw[aO] at hx;subst hx;cases rx;rw[aO] at hy;obtain⟨ay,xsy,rfl,qy,ly⟩:=hy;cases ry;obtain⟨usy,vy,py,_⟩:=I.list qy;rw[show aS (.bl gx) (.lst gy)=false from by simp [aS]];exact SeqAt.RcAt.bool_list gx py.isList (by omega)
 | .int gx,.non,x,y,u,v,hd,hx,hy,rx,ry=>by
  rw[aO] at hx;subst hx;obtain⟨tx,rfl⟩:=rx;rw[aO] at hy;subst hy;cases ry;rw[show aS (.int gx) (.non)=false from by simp [aS]];exact SeqAt.RcAt.int_none gx tx
 | .int gx,.bl gy,x,y,u,v,hd,hx,hy,rx,ry=>by
  rw[aO] at hx;subst hx;obtain⟨tx,rfl⟩:=rx;rw[aO] at hy;subst hy;cases ry;rw[aS];exact SeqAt.RcAt.int_bool gx tx gy
 | .int gx,.int gy,x,y,u,v,hd,hx,hy,rx,ry=>by
  rw[aO] at hx;subst hx;obtain⟨tx,rfl⟩:=rx;rw[aO] at hy;subst hy;obtain⟨ty,rfl⟩:=ry;rw[aS];exact SeqAt.RcAt.int_int gx tx gy ty
 | .int gx,.str gy,x,y,u,v,hd,hx,hy,rx,ry=>by
  rw[aO] at hx;subst hx;obtain⟨tx,rfl⟩:=rx;rw[aO] at hy;subst hy;obtain⟨ty,rfl⟩:=ry;rw[show aS (.int gx) (.str gy)=false from by simp [aS]];exact SeqAt.RcAt.int_str gx tx gy ty
 | .int gx,.tup gy,x,y,u,v,hd,hx,hy,rx,ry=>by
  rw[aO] at hx;subst hx;obtain⟨tx,rfl⟩:=rx;rw[aO] at hy;obtain⟨ay,xsy,rfl,qy,ly⟩:=hy;cases ry;obtain⟨usy,vy,py,_⟩:=I.tuple qy;rw[show aS (.int gx) (.tup gy)=false from by simp [aS]];exact SeqAt.RcAt.int_tuple gx tx py (by omega)
 | .int gx,.lst gy,x,y,u,v,hd,hx,hy,rx,ry=>by
  rw[aO] at hx;subst hx;obtain⟨tx,rfl⟩:=rx;rw[aO] at hy;obtain⟨ay,xsy,rfl,qy,ly⟩:=hy;cases ry;obtain⟨usy,vy,py,_⟩:=I.list qy;rw[show aS (.int gx) (.lst gy)=false from by simp [aS]];exact SeqAt.RcAt.int_list gx tx py.isList (by omega)
 | .str gx,.non,x,y,u,v,hd,hx,hy,rx,ry=>by
  rw[aO] at hx;subst hx;obtain⟨tx,rfl⟩:=rx;rw[aO] at hy;subst hy;cases ry;rw[show aS (.str gx) (.non)=false from by simp [aS]];exact SeqAt.RcAt.str_none gx tx
 | .str gx,.bl gy,x,y,u,v,hd,hx,hy,rx,ry=>by
  rw[aO] at hx;subst hx;obtain⟨tx,rfl⟩:=rx;rw[aO] at hy;subst hy;cases ry;rw[show aS (.str gx) (.bl gy)=false from by simp [aS]];exact SeqAt.RcAt.str_bool gx tx gy
 | .str gx,.int gy,x,y,u,v,hd,hx,hy,rx,ry=>by
  rw[aO] at hx;subst hx;obtain⟨tx,rfl⟩:=rx;rw[aO] at hy;subst hy;obtain⟨ty,rfl⟩:=ry;rw[show aS (.str gx) (.int gy)=false from by simp [aS]];exact SeqAt.RcAt.str_int gx tx gy ty
 | .str gx,.str gy,x,y,u,v,hd,hx,hy,rx,ry=>by
  rw[aO] at hx;subst hx;obtain⟨tx,rfl⟩:=rx;rw[aO] at hy;subst hy;obtain⟨ty,rfl⟩:=ry;rw[aS];exact SeqAt.RcAt.str_str gx tx gy ty
 | .str gx,.tup gy,x,y,u,v,hd,hx,hy,rx,ry=>by
  rw[aO] at hx;subst hx;obtain⟨tx,rfl⟩:=rx;rw[aO] at hy;obtain⟨ay,xsy,rfl,qy,ly⟩:=hy;cases ry;obtain⟨usy,vy,py,_⟩:=I.tuple qy;rw[show aS (.str gx) (.tup gy)=false from by simp [aS]];exact SeqAt.RcAt.str_tuple gx tx py (by omega)
 | .str gx,.lst gy,x,y,u,v,hd,hx,hy,rx,ry=>by
  rw[aO] at hx;subst hx;obtain⟨tx,rfl⟩:=rx;rw[aO] at hy;obtain⟨ay,xsy,rfl,qy,ly⟩:=hy;cases ry;obtain⟨usy,vy,py,_⟩:=I.list qy;rw[show aS (.str gx) (.lst gy)=false from by simp [aS]];exact SeqAt.RcAt.str_list gx tx py.isList (by omega)
 | .tup gx,.non,x,y,u,v,hd,hx,hy,rx,ry=>by
  rw[aO] at hx;obtain⟨ax,xsx,rfl,qx,lx⟩:=hx;cases rx;obtain⟨usx,vx,px,_⟩:=I.tuple qx;rw[aO] at hy;subst hy;cases ry;rw[show aS (.tup gx) (.non)=false from by simp [aS]];exact SeqAt.RcAt.tuple_none px (by omega)
 | .tup gx,.bl gy,x,y,u,v,hd,hx,hy,rx,ry=>by
  rw[aO] at hx;obtain⟨ax,xsx,rfl,qx,lx⟩:=hx;cases rx;obtain⟨usx,vx,px,_⟩:=I.tuple qx;rw[aO] at hy;subst hy;cases ry;rw[show aS (.tup gx) (.bl gy)=false from by simp [aS]];exact SeqAt.RcAt.tuple_bool gy px (by omega)
 | .tup gx,.int gy,x,y,u,v,hd,hx,hy,rx,ry=>by
  rw[aO] at hx;obtain⟨ax,xsx,rfl,qx,lx⟩:=hx;cases rx;obtain⟨usx,vx,px,_⟩:=I.tuple qx;rw[aO] at hy;subst hy;obtain⟨ty,rfl⟩:=ry;rw[show aS (.tup gx) (.int gy)=false from by simp [aS]];exact SeqAt.RcAt.tuple_int gy ty px (by omega)
 | .tup gx,.str gy,x,y,u,v,hd,hx,hy,rx,ry=>by
  rw[aO] at hx;obtain⟨ax,xsx,rfl,qx,lx⟩:=hx;cases rx;obtain⟨usx,vx,px,_⟩:=I.tuple qx;rw[aO] at hy;subst hy;obtain⟨ty,rfl⟩:=ry;rw[show aS (.tup gx) (.str gy)=false from by simp [aS]];exact SeqAt.RcAt.tuple_str gy ty px (by omega)
 | .tup gx,.tup gy,x,y,u,v,hd,hx,hy,rx,ry=>by
  rw[aO] at hx;obtain⟨ax,xsx,rfl,qx,lx⟩:=hx;cases rx;obtain⟨usx,vx,px,_⟩:=I.tuple qx;rw[aO] at hy;obtain⟨ay,xsy,rfl,qy,ly⟩:=hy;cases ry;obtain⟨usy,vy,py,_⟩:=I.tuple qy;have e1:=vx.length;have e2:=vy.length;have e3:=lx.length;have e4:=ly.length;rw[show aS (.tup gx) (.tup gy)=d0 gx gy from by rw[aS],<- kP gx gy];have ex:gx.length=usx.toArray.size:=by rw[<- e3,e1,aah]
  have ey:gy.length=usy.toArray.size:=by rw[<- e4,e2,aah]
  rw[ex,ey];exact SeqAt.RcAt.tuples px py (by omega) (λ j h1 h2=>iR (n:=0) (λ g h x y u v hm ix iy tx ty=>nW I 30 g h A.in1 x y u v (by have:=dO hm;rw[gN] at hd;omega) (by show A.units+1+30 < cLine;omega) ix iy tx ty) lx ly vx vy j h1 h2)
 | .tup gx,.lst gy,x,y,u,v,hd,hx,hy,rx,ry=>by
  rw[aO] at hx;obtain⟨ax,xsx,rfl,qx,lx⟩:=hx;cases rx;obtain⟨usx,vx,px,_⟩:=I.tuple qx;rw[aO] at hy;obtain⟨ay,xsy,rfl,qy,ly⟩:=hy;cases ry;obtain⟨usy,vy,py,_⟩:=I.list qy;rw[show aS (.tup gx) (.lst gy)=false from by simp [aS]];exact SeqAt.RcAt.tuple_list px py.isList (by omega)
 | .lst gx,.non,x,y,u,v,hd,hx,hy,rx,ry=>by
  rw[aO] at hx;obtain⟨ax,xsx,rfl,qx,lx⟩:=hx;cases rx;obtain⟨usx,vx,px,_⟩:=I.list qx;rw[aO] at hy;subst hy;cases ry;rw[show aS (.lst gx) (.non)=false from by simp [aS]];exact SeqAt.RcAt.list_none px.isList (by omega)
 | .lst gx,.bl gy,x,y,u,v,hd,hx,hy,rx,ry=>by
  rw[aO] at hx;obtain⟨ax,xsx,rfl,qx,lx⟩:=hx;cases rx;obtain⟨usx,vx,px,_⟩:=I.list qx;rw[aO] at hy;subst hy;cases ry;rw[show aS (.lst gx) (.bl gy)=false from by simp [aS]];exact SeqAt.RcAt.list_bool gy px.isList (by omega)
 | .lst gx,.int gy,x,y,u,v,hd,hx,hy,rx,ry=>by
  rw[aO] at hx;obtain⟨ax,xsx,rfl,qx,lx⟩:=hx;cases rx;obtain⟨usx,vx,px,_⟩:=I.list qx;rw[aO] at hy;subst hy;obtain⟨ty,rfl⟩:=ry;rw[show aS (.lst gx) (.int gy)=false from by simp [aS]];exact SeqAt.RcAt.list_int gy ty px.isList (by omega)
 | .lst gx,.str gy,x,y,u,v,hd,hx,hy,rx,ry=>by
  rw[aO] at hx;obtain⟨ax,xsx,rfl,qx,lx⟩:=hx;cases rx;obtain⟨usx,vx,px,_⟩:=I.list qx;rw[aO] at hy;subst hy;obtain⟨ty,rfl⟩:=ry;rw[show aS (.lst gx) (.str gy)=false from by simp [aS]];exact SeqAt.RcAt.list_str gy ty px.isList (by omega)
 | .lst gx,.tup gy,x,y,u,v,hd,hx,hy,rx,ry=>by
  rw[aO] at hx;obtain⟨ax,xsx,rfl,qx,lx⟩:=hx;cases rx;obtain⟨usx,vx,px,_⟩:=I.list qx;rw[aO] at hy;obtain⟨ay,xsy,rfl,qy,ly⟩:=hy;cases ry;obtain⟨usy,vy,py,_⟩:=I.tuple qy;rw[show aS (.lst gx) (.tup gy)=false from by simp [aS]];exact SeqAt.RcAt.list_tuple px.isList py (by omega)
 | .lst gx,.lst gy,x,y,u,v,hd,hx,hy,rx,ry=>by
  rw[aO] at hx;obtain⟨ax,xsx,rfl,qx,lx⟩:=hx;cases rx;obtain⟨usx,vx,px,_⟩:=I.list qx;rw[aO] at hy;obtain⟨ay,xsy,rfl,qy,ly⟩:=hy;cases ry;obtain⟨usy,vy,py,_⟩:=I.list qy;have e1:=vx.length;have e2:=vy.length;have e3:=lx.length;have e4:=ly.length;rw[show aS (.lst gx) (.lst gy)=d0 gx gy from by rw[aS]];have ex:gx.length=usx.toArray.size:=by rw[<- e3,e1,aah]
  have ey:gy.length=usy.toArray.size:=by rw[<- e4,e2,aah]
  by_cases hl:gx.length=gy.length
  ·rw[<- mD gx gy hl,ex];exact SeqAt.RcAt.lists px.isList py.isList (by omega) (by omega) (λ j h1 h2=>iR (n:=0) (λ g h x y u v hm ix iy tx ty=>nW I 30 g h A.in1 x y u v (by have:=dO hm;rw[gN] at hd;omega) (by show A.units+1+30 < cLine;omega) ix iy tx ty) lx ly vx vy j h1 h2)
  ·rw[kK gx gy hl];exact SeqAt.RcAt.lists_lengths px.isList py.isList (by rw[<- ex,<- ey];simpa using hl) (by omega)
theorem rneG (I:Inv X pins σ H s) {A:Around} (hu:A.units+40 < cLine):∀ (g h:G) (x y:V) (u v:Value),gN g<=30->aO X.K H g x->aO X.K H h y->bA x u->bA y v->SeqAt.RcNeAt A s u v (!aS g h)
 | .non,.non,x,y,u,v,hd,hx,hy,rx,ry=>by
  rw[aO] at hx;subst hx;cases rx;rw[aO] at hy;subst hy;cases ry;rw[aS];exact SeqAt.RcNeAt.none_none
 | .non,.bl gy,x,y,u,v,hd,hx,hy,rx,ry=>by
  rw[aO] at hx;subst hx;cases rx;rw[aO] at hy;subst hy;cases ry;rw[show aS (.non) (.bl gy)=false from by simp [aS]];exact SeqAt.RcNeAt.none_bool gy
 | .non,.int gy,x,y,u,v,hd,hx,hy,rx,ry=>by
  rw[aO] at hx;subst hx;cases rx;rw[aO] at hy;subst hy;obtain⟨ty,rfl⟩:=ry;rw[show aS (.non) (.int gy)=false from by simp [aS]];exact SeqAt.RcNeAt.none_int gy ty
 | .non,.str gy,x,y,u,v,hd,hx,hy,rx,ry=>by
  rw[aO] at hx;subst hx;cases rx;rw[aO] at hy;subst hy;obtain⟨ty,rfl⟩:=ry;rw[show aS (.non) (.str gy)=false from by simp [aS]];exact SeqAt.RcNeAt.none_str gy ty
 | .non,.tup gy,x,y,u,v,hd,hx,hy,rx,ry=>by
  rw[aO] at hx;subst hx;cases rx;rw[aO] at hy;obtain⟨ay,xsy,rfl,qy,ly⟩:=hy;cases ry;obtain⟨usy,vy,py,_⟩:=I.tuple qy;rw[show aS (.non) (.tup gy)=false from by simp [aS]];exact SeqAt.RcNeAt.none_tuple py (by omega)
 | .non,.lst gy,x,y,u,v,hd,hx,hy,rx,ry=>by
  rw[aO] at hx;subst hx;cases rx;rw[aO] at hy;obtain⟨ay,xsy,rfl,qy,ly⟩:=hy;cases ry;obtain⟨usy,vy,py,_⟩:=I.list qy;rw[show aS (.non) (.lst gy)=false from by simp [aS]];exact SeqAt.RcNeAt.none_list py.isList (by omega)
 | .bl gx,.non,x,y,u,v,hd,hx,hy,rx,ry=>by
  rw[aO] at hx;subst hx;cases rx;rw[aO] at hy;subst hy;cases ry;rw[show aS (.bl gx) (.non)=false from by simp [aS]];exact SeqAt.RcNeAt.bool_none gx
 | .bl gx,.bl gy,x,y,u,v,hd,hx,hy,rx,ry=>by
  rw[aO] at hx;subst hx;cases rx;rw[aO] at hy;subst hy;cases ry;rw[aS];exact SeqAt.RcNeAt.bool_bool gx gy
 | .bl gx,.int gy,x,y,u,v,hd,hx,hy,rx,ry=>by
  rw[aO] at hx;subst hx;cases rx;rw[aO] at hy;subst hy;obtain⟨ty,rfl⟩:=ry;rw[aS];exact SeqAt.RcNeAt.bool_int gx gy ty
 | .bl gx,.str gy,x,y,u,v,hd,hx,hy,rx,ry=>by
  rw[aO] at hx;subst hx;cases rx;rw[aO] at hy;subst hy;obtain⟨ty,rfl⟩:=ry;rw[show aS (.bl gx) (.str gy)=false from by simp [aS]];exact SeqAt.RcNeAt.bool_str gx gy ty
 | .bl gx,.tup gy,x,y,u,v,hd,hx,hy,rx,ry=>by
  rw[aO] at hx;subst hx;cases rx;rw[aO] at hy;obtain⟨ay,xsy,rfl,qy,ly⟩:=hy;cases ry;obtain⟨usy,vy,py,_⟩:=I.tuple qy;rw[show aS (.bl gx) (.tup gy)=false from by simp [aS]];exact SeqAt.RcNeAt.bool_tuple gx py (by omega)
 | .bl gx,.lst gy,x,y,u,v,hd,hx,hy,rx,ry=>by
  rw[aO] at hx;subst hx;cases rx;rw[aO] at hy;obtain⟨ay,xsy,rfl,qy,ly⟩:=hy;cases ry;obtain⟨usy,vy,py,_⟩:=I.list qy;rw[show aS (.bl gx) (.lst gy)=false from by simp [aS]];exact SeqAt.RcNeAt.bool_list gx py.isList (by omega)
 | .int gx,.non,x,y,u,v,hd,hx,hy,rx,ry=>by
  rw[aO] at hx;subst hx;obtain⟨tx,rfl⟩:=rx;rw[aO] at hy;subst hy;cases ry;rw[show aS (.int gx) (.non)=false from by simp [aS]];exact SeqAt.RcNeAt.int_none gx tx
 | .int gx,.bl gy,x,y,u,v,hd,hx,hy,rx,ry=>by
  rw[aO] at hx;subst hx;obtain⟨tx,rfl⟩:=rx;rw[aO] at hy;subst hy;cases ry;rw[aS];exact SeqAt.RcNeAt.int_bool gx tx gy
 | .int gx,.int gy,x,y,u,v,hd,hx,hy,rx,ry=>by
  rw[aO] at hx;subst hx;obtain⟨tx,rfl⟩:=rx;rw[aO] at hy;subst hy;obtain⟨ty,rfl⟩:=ry;rw[aS];exact SeqAt.RcNeAt.int_int gx tx gy ty
 | .int gx,.str gy,x,y,u,v,hd,hx,hy,rx,ry=>by
  rw[aO] at hx;subst hx;obtain⟨tx,rfl⟩:=rx;rw[aO] at hy;subst hy;obtain⟨ty,rfl⟩:=ry;rw[show aS (.int gx) (.str gy)=false from by simp [aS]];exact SeqAt.RcNeAt.int_str gx tx gy ty
 | .int gx,.tup gy,x,y,u,v,hd,hx,hy,rx,ry=>by
  rw[aO] at hx;subst hx;obtain⟨tx,rfl⟩:=rx;rw[aO] at hy;obtain⟨ay,xsy,rfl,qy,ly⟩:=hy;cases ry;obtain⟨usy,vy,py,_⟩:=I.tuple qy;rw[show aS (.int gx) (.tup gy)=false from by simp [aS]];exact SeqAt.RcNeAt.int_tuple gx tx py (by omega)
 | .int gx,.lst gy,x,y,u,v,hd,hx,hy,rx,ry=>by
  rw[aO] at hx;subst hx;obtain⟨tx,rfl⟩:=rx;rw[aO] at hy;obtain⟨ay,xsy,rfl,qy,ly⟩:=hy;cases ry;obtain⟨usy,vy,py,_⟩:=I.list qy;rw[show aS (.int gx) (.lst gy)=false from by simp [aS]];exact SeqAt.RcNeAt.int_list gx tx py.isList (by omega)
 | .str gx,.non,x,y,u,v,hd,hx,hy,rx,ry=>by
  rw[aO] at hx;subst hx;obtain⟨tx,rfl⟩:=rx;rw[aO] at hy;subst hy;cases ry;rw[show aS (.str gx) (.non)=false from by simp [aS]];exact SeqAt.RcNeAt.str_none gx tx
 | .str gx,.bl gy,x,y,u,v,hd,hx,hy,rx,ry=>by
  rw[aO] at hx;subst hx;obtain⟨tx,rfl⟩:=rx;rw[aO] at hy;subst hy;cases ry;rw[show aS (.str gx) (.bl gy)=false from by simp [aS]];exact SeqAt.RcNeAt.str_bool gx tx gy
 | .str gx,.int gy,x,y,u,v,hd,hx,hy,rx,ry=>by
  rw[aO] at hx;subst hx;obtain⟨tx,rfl⟩:=rx;rw[aO] at hy;subst hy;obtain⟨ty,rfl⟩:=ry;rw[show aS (.str gx) (.int gy)=false from by simp [aS]];exact SeqAt.RcNeAt.str_int gx tx gy ty
 | .str gx,.str gy,x,y,u,v,hd,hx,hy,rx,ry=>by
  rw[aO] at hx;subst hx;obtain⟨tx,rfl⟩:=rx;rw[aO] at hy;subst hy;obtain⟨ty,rfl⟩:=ry;rw[aS];exact SeqAt.RcNeAt.str_str gx tx gy ty
 | .str gx,.tup gy,x,y,u,v,hd,hx,hy,rx,ry=>by
  rw[aO] at hx;subst hx;obtain⟨tx,rfl⟩:=rx;rw[aO] at hy;obtain⟨ay,xsy,rfl,qy,ly⟩:=hy;cases ry;obtain⟨usy,vy,py,_⟩:=I.tuple qy;rw[show aS (.str gx) (.tup gy)=false from by simp [aS]];exact SeqAt.RcNeAt.str_tuple gx tx py (by omega)
 | .str gx,.lst gy,x,y,u,v,hd,hx,hy,rx,ry=>by
  rw[aO] at hx;subst hx;obtain⟨tx,rfl⟩:=rx;rw[aO] at hy;obtain⟨ay,xsy,rfl,qy,ly⟩:=hy;cases ry;obtain⟨usy,vy,py,_⟩:=I.list qy;rw[show aS (.str gx) (.lst gy)=false from by simp [aS]];exact SeqAt.RcNeAt.str_list gx tx py.isList (by omega)
 | .tup gx,.non,x,y,u,v,hd,hx,hy,rx,ry=>by
  rw[aO] at hx;obtain⟨ax,xsx,rfl,qx,lx⟩:=hx;cases rx;obtain⟨usx,vx,px,_⟩:=I.tuple qx;rw[aO] at hy;subst hy;cases ry;rw[show aS (.tup gx) (.non)=false from by simp [aS]];exact SeqAt.RcNeAt.tuple_none px (by omega)
 | .tup gx,.bl gy,x,y,u,v,hd,hx,hy,rx,ry=>by
  rw[aO] at hx;obtain⟨ax,xsx,rfl,qx,lx⟩:=hx;cases rx;obtain⟨usx,vx,px,_⟩:=I.tuple qx;rw[aO] at hy;subst hy;cases ry;rw[show aS (.tup gx) (.bl gy)=false from by simp [aS]];exact SeqAt.RcNeAt.tuple_bool gy px (by omega)
 | .tup gx,.int gy,x,y,u,v,hd,hx,hy,rx,ry=>by
  rw[aO] at hx;obtain⟨ax,xsx,rfl,qx,lx⟩:=hx;cases rx;obtain⟨usx,vx,px,_⟩:=I.tuple qx;rw[aO] at hy;subst hy;obtain⟨ty,rfl⟩:=ry;rw[show aS (.tup gx) (.int gy)=false from by simp [aS]];exact SeqAt.RcNeAt.tuple_int gy ty px (by omega)
 | .tup gx,.str gy,x,y,u,v,hd,hx,hy,rx,ry=>by
  rw[aO] at hx;obtain⟨ax,xsx,rfl,qx,lx⟩:=hx;cases rx;obtain⟨usx,vx,px,_⟩:=I.tuple qx;rw[aO] at hy;subst hy;obtain⟨ty,rfl⟩:=ry;rw[show aS (.tup gx) (.str gy)=false from by simp [aS]];exact SeqAt.RcNeAt.tuple_str gy ty px (by omega)
 | .tup gx,.tup gy,x,y,u,v,hd,hx,hy,rx,ry=>by
  rw[aO] at hx;obtain⟨ax,xsx,rfl,qx,lx⟩:=hx;cases rx;obtain⟨usx,vx,px,_⟩:=I.tuple qx;rw[aO] at hy;obtain⟨ay,xsy,rfl,qy,ly⟩:=hy;cases ry;obtain⟨usy,vy,py,_⟩:=I.tuple qy;have e1:=vx.length;have e2:=vy.length;have e3:=lx.length;have e4:=ly.length;rw[show aS (.tup gx) (.tup gy)=d0 gx gy from by rw[aS],<- kP gx gy];have ex:gx.length=usx.toArray.size:=by rw[<- e3,e1,aah]
  have ey:gy.length=usy.toArray.size:=by rw[<- e4,e2,aah]
  rw[ex,ey];exact SeqAt.RcNeAt.tuples px py (by omega) (λ j h1 h2=>iR (n:=0) (λ g h x y u v hm ix iy tx ty=>nW I 30 g h A.in1 x y u v (by have:=dO hm;rw[gN] at hd;omega) (by show A.units+1+30 < cLine;omega) ix iy tx ty) lx ly vx vy j h1 h2)
 | .tup gx,.lst gy,x,y,u,v,hd,hx,hy,rx,ry=>by
  rw[aO] at hx;obtain⟨ax,xsx,rfl,qx,lx⟩:=hx;cases rx;obtain⟨usx,vx,px,_⟩:=I.tuple qx;rw[aO] at hy;obtain⟨ay,xsy,rfl,qy,ly⟩:=hy;cases ry;obtain⟨usy,vy,py,_⟩:=I.list qy;rw[show aS (.tup gx) (.lst gy)=false from by simp [aS]];exact SeqAt.RcNeAt.tuple_list px py.isList (by omega)
 | .lst gx,.non,x,y,u,v,hd,hx,hy,rx,ry=>by
  rw[aO] at hx;obtain⟨ax,xsx,rfl,qx,lx⟩:=hx;cases rx;obtain⟨usx,vx,px,_⟩:=I.list qx;rw[aO] at hy;subst hy;cases ry;rw[show aS (.lst gx) (.non)=false from by simp [aS]];exact SeqAt.RcNeAt.list_none px.isList (by omega)
 | .lst gx,.bl gy,x,y,u,v,hd,hx,hy,rx,ry=>by
  rw[aO] at hx;obtain⟨ax,xsx,rfl,qx,lx⟩:=hx;cases rx;obtain⟨usx,vx,px,_⟩:=I.list qx;rw[aO] at hy;subst hy;cases ry;rw[show aS (.lst gx) (.bl gy)=false from by simp [aS]];exact SeqAt.RcNeAt.list_bool gy px.isList (by omega)
 | .lst gx,.int gy,x,y,u,v,hd,hx,hy,rx,ry=>by
  rw[aO] at hx;obtain⟨ax,xsx,rfl,qx,lx⟩:=hx;cases rx;obtain⟨usx,vx,px,_⟩:=I.list qx;rw[aO] at hy;subst hy;obtain⟨ty,rfl⟩:=ry;rw[show aS (.lst gx) (.int gy)=false from by simp [aS]];exact SeqAt.RcNeAt.list_int gy ty px.isList (by omega)
 | .lst gx,.str gy,x,y,u,v,hd,hx,hy,rx,ry=>by
  rw[aO] at hx;obtain⟨ax,xsx,rfl,qx,lx⟩:=hx;cases rx;obtain⟨usx,vx,px,_⟩:=I.list qx;rw[aO] at hy;subst hy;obtain⟨ty,rfl⟩:=ry;rw[show aS (.lst gx) (.str gy)=false from by simp [aS]];exact SeqAt.RcNeAt.list_str gy ty px.isList (by omega)
 | .lst gx,.tup gy,x,y,u,v,hd,hx,hy,rx,ry=>by
  rw[aO] at hx;obtain⟨ax,xsx,rfl,qx,lx⟩:=hx;cases rx;obtain⟨usx,vx,px,_⟩:=I.list qx;rw[aO] at hy;obtain⟨ay,xsy,rfl,qy,ly⟩:=hy;cases ry;obtain⟨usy,vy,py,_⟩:=I.tuple qy;rw[show aS (.lst gx) (.tup gy)=false from by simp [aS]];exact SeqAt.RcNeAt.list_tuple px.isList py (by omega)
 | .lst gx,.lst gy,x,y,u,v,hd,hx,hy,rx,ry=>by
  rw[aO] at hx;obtain⟨ax,xsx,rfl,qx,lx⟩:=hx;cases rx;obtain⟨usx,vx,px,_⟩:=I.list qx;rw[aO] at hy;obtain⟨ay,xsy,rfl,qy,ly⟩:=hy;cases ry;obtain⟨usy,vy,py,_⟩:=I.list qy;have e1:=vx.length;have e2:=vy.length;have e3:=lx.length;have e4:=ly.length;rw[show aS (.lst gx) (.lst gy)=d0 gx gy from by rw[aS]];have ex:gx.length=usx.toArray.size:=by rw[<- e3,e1,aah]
  have ey:gy.length=usy.toArray.size:=by rw[<- e4,e2,aah]
  by_cases hl:gx.length=gy.length
  ·rw[<- mD gx gy hl,ex];exact SeqAt.RcNeAt.lists px.isList py.isList (by omega) (by omega) (λ j h1 h2=>iR (n:=0) (λ g h x y u v hm ix iy tx ty=>nW I 30 g h A.in1 x y u v (by have:=dO hm;rw[gN] at hd;omega) (by show A.units+1+30 < cLine;omega) ix iy tx ty) lx ly vx vy j h1 h2)
  ·rw[kK gx gy hl];exact SeqAt.RcNeAt.lists_lengths px.isList py.isList (by rw[<- ex,<- ey];simpa using hl) (by omega)
def G5 (K:aab):R2:=λ x y H Q=>∃ g h,gN g<=30/\aO K H g x/\aO K H h y/\Q (.bl (aS g h)) H
def FW (K:aab):R2:=λ x y H Q=>∃ g h,gN g<=30/\aO K H g x/\aO K H h y/\Q (.bl (!aS g h)) H
theorem EA (hu:X.A.units+64 < cLine):gA X (compareOp .Eq) (G5 X.K):=by
 intro pins s σ H x y v u Q I rx ry h;obtain⟨g,h,hd,ix,iy,q⟩:=h;exact rcG I (by omega) g h x y v u hd ix iy rx ry X.prog X.w X.xe _ ⟨.bl _,H,I,rfl,q⟩
theorem E9 (hu:X.A.units+64 < cLine):gA X (compareOp .NotEq) (FW X.K):=by
 intro pins s σ H x y v u Q I rx ry h;obtain⟨g,h,hd,ix,iy,q⟩:=h;exact rneG I (by omega) g h x y v u hd ix iy rx ry X.prog X.w X.xe _ ⟨.bl _,H,I,rfl,q⟩
theorem BM {K:aab} (hK:X.K=K) (hu:X.A.units+64 < cLine):gA X (compareOp .Eq) (G5 K):=by subst hK;exact EA hu
theorem BL {K:aab} (hK:X.K=K) (hu:X.A.units+64 < cLine):gA X (compareOp .NotEq) (FW K):=by subst hK;exact E9 hu
def FF (h:G) (gs:List G):Bool:=gs.any λ g=>aS g h
open Classical in
theorem zQ (I:Inv X pins σ H s) {A:Around} (hu:A.units+40 < cLine) {h:G}{gs:List G}{x:V}{xs:List V}{u:Value}{us:List Value} (hd:eI gs<=30) (ix:aO X.K H h x) (l:cM X.K H gs xs) (rx:bA x u) (r:b9 xs us) :
  ∃ e:Value->Bool,(∀ y∈us,SeqAt.EqAt A s y u (e y))/\us.any e=FF h gs:=by
 have e1:=r.length;have e2:=l.length;refine⟨λ y=>decide (∃ (i:Nat) (g:G),us[i]? = some y/\gs[i]? = some g/\aS g h=true),?_,?_⟩
 ·intro y hy;obtain⟨i,hi,rfl⟩:=List.mem_iff_getElem.1 hy;have hig:i < gs.length:=by omega
  obtain⟨z,gz,iz⟩:=l.get (i:=i) (g:=gs[i]) (by simp [hig]);obtain⟨w,gw,tw⟩:=r.get gz;have ew:us[i]=w:=by
   have:us[i]? = some us[i]:=by simp
   rw[this] at gw;exact abx gw
  have key:decide (∃ (i':Nat) (g:G),us[i']? = some us[i]/\gs[i']? = some g/\aS g h=true)=aS gs[i] h:=by
   rw[Bool.eq_iff_iff,decide_eq_true_iff];constructor
   ·rintro⟨i',g,h1,h2,h3⟩;obtain⟨z',gz',iz'⟩:=l.get h2;obtain⟨w',gw',tw'⟩:=r.get gz';rw[h1,ew] at gw';cases gw';have:=uH I _ _ _ _ _ iz iz' tw tw';rw[this];exact h3
   ·intro h3;exact⟨i,gs[i],by simp,by simp [hig],h3⟩
  show SeqAt.EqAt A s us[i] u (decide _);rw[key,ew];exact nW I 30 _ _ A z x w u (by have:=dO (acf hig);omega) (by omega) iz ix tw rx
 ·rw[Bool.eq_iff_iff,List.any_eq_true];unfold FF;rw[List.any_eq_true];constructor
  ·rintro⟨y,hy,hq⟩;obtain⟨i,g,h1,h2,h3⟩:=abw hq;exact⟨g,abc h2,h3⟩
  ·rintro⟨g,hg,hq⟩;obtain⟨i,hi,rfl⟩:=List.mem_iff_getElem.1 hg;have hiu:i < us.length:=by omega
   exact⟨us[i],acf hiu,abm ⟨i,gs[i],by simp,by simp,hq⟩⟩
def G4 (K:aab) (neg:Bool):R2:=λ x y H Q=>∃ h p gs xs,y=.ref p/\(bF K H p xs\/bB K H p xs)/\eI gs<=30/\aO K H h x/\cM K H gs xs/\Q (.bl (if neg then !FF h gs else FF h gs)) H
theorem BK (hu:X.A.units+64 < cLine):gA X (compareOp .NotIn) (G4 X.K true):=by
 intro pins s σ H x y v u Q I rx ry hh;obtain⟨h,p,gs,xs,rfl,hq,hd,ix,l,q⟩:=hh;cases ry;have hin:X.A.in1.units=X.A.units+1:=rfl;rcases hq with hq | hq
 ·obtain⟨its,r,pl,hz⟩:=I.list hq;obtain⟨e,he,ea⟩:=zQ I (A:=X.A.in1) (by omega) hd ix l rx r;refine SeqAt.notIn_listAt e pl.isList (λ w hw=>he w (by simpa using hw)) ⟨.bl _,H,I,rfl,?_⟩;rw[show its.toArray.any e=its.any e by simp,ea];exact q
 ·obtain⟨its,r,pl,hz⟩:=I.tuple hq;obtain⟨e,he,ea⟩:=zQ I (A:=X.A.in1) (by omega) hd ix l rx r;refine SeqAt.notIn_tupleAt e pl (λ w hw=>he w (by simpa using hw)) ⟨.bl _,H,I,rfl,?_⟩;rw[show its.toArray.any e=its.any e by simp,ea];exact q
theorem yQ {K:aab} (hK:X.K=K) (hu:X.A.units+64 < cLine):gA X (compareOp .NotIn) (G4 K true):=by subst hK;exact BK hu
end
section
variable {H:Hp}
theorem cM.nil:cM K H [] []:=by rw[cM]
theorem cM.cons {g:G}{gs:List G}{x:V}{xs:List V} (h1:aO K H g x) (h2:cM K H gs xs):cM K H (g::gs) (x::xs):=by rw[cM];exact⟨x,xs,rfl,h1,h2⟩
theorem aO.i (i:Int):aO K H (.int i) (.int i):=by rw[aO]
theorem aO.n:aO K H .non .non:=by rw[aO]
theorem aO.t {a:Addr}{gs:List G}{xs:List V} (q:bB K H a xs) (l:cM K H gs xs):aO K H (.tup gs) (.ref a):=by rw[aO];exact⟨a,xs,rfl,q,l⟩
theorem aO.l {a:Addr}{gs:List G}{xs:List V} (q:bF K H a xs) (l:cM K H gs xs):aO K H (.lst gs) (.ref a):=by rw[aO];exact⟨a,xs,rfl,q,l⟩
theorem cM.ints:∀ ns:List Int,cM K H (ns.map G.int) (ns.map V.int)
 | []=>.nil
 | n::ns=>.cons (.i n) (cM.ints ns)
theorem nY:∀ ns:List Int,eI (ns.map G.int)=0
 | []=>by rw[ack,eI]
 | n::ns=>by rw[aap,eI,nY ns];simp [gN]
theorem p8:∀ ns ms:List Int,d0 (ns.map G.int) (ms.map G.int)=decide (ns=ms)
 | [],[]=>by simp [d0]
 | [],_::_=>by simp [d0]
 | _::_,[]=>by simp [d0]
 | n::ns,m::ms=>by
  rw[aap,aap,d0,aS,p8 ns ms,Bool.eq_iff_iff];simp
end
section
variable {X:Cx}
theorem mH:∀ {xs:List V}{us:List Value},xs.length=us.length->(∀ (i:Nat) x u,xs[i]? = some x->us[i]? = some u->bA x u)->b9 xs us
 | [],[],_,_=>.nil
 | [],_::_,h,_=>by simp at h
 | _::_,[],h,_=>by simp at h
 | x::xs,u::us,hl,h=>.cons (h 0 x u rfl rfl) (mH (by simpa using hl) λ i y v h1 h2=>h (i+1) y v (by simpa using h1) (by simpa using h2))
theorem sQ {a c:Int}{n:Nat}{acc:Array Value} (h:ItemsOf (λ i v=>∃ t,v=.int (a+i * c) t) acc n):b9 ((List.range n).map λ (i:Nat)=>V.int (a+i * c)) acc.toList:=by
 obtain⟨h1,h2⟩:=h;refine mH (by simp [h1]) λ i x u e1 e2=>?_;rw[aag] at e1;obtain⟨k,hk,rfl⟩:=aaq.mp e1;have hi:=(aaf.mp hk).1;have:k=i:=by
  have:=(aaf.mp hk).2;simpa using this.symm
 subst this;exact h2 k u (by simpa using e2)
def FP (ta:TE):TE:=λ σ H Q=>ta σ H λ x H1=>∃ n:Nat,x=.int (n:Int)/\n<=1000000/\∀ l,H1 l=none->Q (.ref l) (upd H1 l (.lst ((List.range n).map λ (i:Nat)=>V.int (i:Int))))
theorem pS {a:Expr}{ta:TE}{p p2 pos pos2:Pos} (hc:X.calm=true) (hg:Gl X "list") (hm:X.mg "list" = none) (hg2:Gl X "range") (hm2:X.mg "range" = none) (ha:PE X a ta) (hs:starEach [a] X.env=[(false,eval a X.env)]:=by with_unfolding_all rfl)
  (hs2:starEach [Expr.Call (.Name "range" p2) [a] [] pos2] X.env=[(false,eval (Expr.Call (.Name "range" p2) [a] [] pos2) X.env)]:=by with_unfolding_all rfl):PE X (.Call (.Name "list" p) [.Call (.Name "range" p2) [a] [] pos2] [] pos) (FP ta):=by
 intro pins s σ H Q I h;refine wpAny_Call_Name_kw (gI I hg hm kM ?_ (by decide) (by decide));refine PyProof.Rows.callWith_type1 ?_ hs2 rfl;rw[hs2];show wpAny _ _ (spliced ((false,eval (Expr.Call (.Name "range" p2) [a] [] pos2) X.env)::backTo pos [])) _ _ s;have h':cU ta gZ σ H (λ xs H1=>∃ n:Nat,xs=[.int (n:Int)]/\n<=1000000/\∀ l,H1 l=none->Q (.ref l) (upd H1 l (.lst ((List.range n).map λ (i:Nat)=>V.int (i:Int))))):=by
  show ta σ H λ x H1=>∃ n:Nat,[x]=[V.int (n:Int)]/\_;have e:(λ (x:V) (H1:Hp)=>∃ n:Nat,[x]=[V.int (n:Int)]/\n<=1000000/\∀ l,H1 l=none->Q (.ref l) (upd H1 l (.lst ((List.range n).map λ (i:Nat)=>V.int (i:Int))))) =
    (λ (x:V) (H1:Hp)=>∃ n:Nat,x=V.int (n:Int)/\n<=1000000/\∀ l,H1 l=none->Q (.ref l) (upd H1 l (.lst ((List.range n).map λ (i:Nat)=>V.int (i:Int))))):=by
   funext x H1;simp
  rw[e];exact h
 refine Calls.spliced_cons (wpAny_Call_Name_kw (gI I hg2 hm2 boot_range (PyProof.Rows.callWith_type1 (cI (aA ha aC hs pos2 pins s σ H _ I h') λ us s1 ⟨vs,H1,I1,r1,q1⟩=>?_) hs rfl)));obtain⟨n,rfl,hn,q⟩:=q1;obtain⟨u,rfl,t,rfl⟩:=mI r1;refine call_range_1 (Calls.spliced_nil ?_);have hsz:Builtin.Range.rangeSize 0 (n:Int) 1=n:=by rw[rangeSize_one];split <;> omega
 refine call_list_range (n:=n) (I1.ok.hd hc) (IsRange.new ..) (small_one (by omega) (by omega) (by omega) (by omega)) hsz (by omega) λ h2 tk acc c' hk hS hacc=>?_;have hv:=sQ hacc;simp only [Int.zero_add,Int.mul_one] at hv;have e1:(s1.heap.push { cls:=.type "range",data:=.fields #[.int 0 s1.toks,.int (n:Int) t,.int 1 (s1.toks+1)] }).objs.size=s1.heap.objs.size+1:=abh ..;refine⟨.ref (s1.heap.objs.size+1),_,I1.laid (t':=tk) (a:=s1.heap.objs.size+1) (λ b o e=>hk b o (aac _ e)) (Nat.le_succ _) (show cJ X.prog X.w _ h2 _ (.lst ((List.range n).map λ (i:Nat)=>V.int (i:Int))) from ⟨?_,acc.toList,c',hv,?_⟩),?_,q _ (I1.hok.fresh (Nat.le_succ _))⟩
 ·rw[aad,acg,sizeLine_eq];omega
 ·rw[e1] at hS;simpa using hS
 ·show Value.ref _=_;rw[e1]
end
end L2
namespace Tw
open PySem L2
def gQ (net:Net) (t:Nat):List Nat:=((fU net t).tk net).tip
def uI (l:List Nat):L2.D:=.tup (l.map λ (i:Nat)=>L2.D.int (i:Int))
def bX (net:Net) (n k:Nat):List Nat:=(List.range n).filter λ t=>decide (k∈gQ net t)
theorem lI (net:Net) (n k:Nat):bX net (n+1) k=bX net n k++(if k∈gQ net n then [n] else []):=by
 unfold bX;rw[acz,List.filter_append]
 by_cases h:k∈gQ net n
 ·simp [h]
 ·simp [h]
theorem sV (net:Net) (n k:Nat):(bX net n k).length<=n:=by
 unfold bX;exact acj (act _ _) (by simp)
theorem eV {ap:Type} (f:Nat->ap) (n:Nat):(List.range (n+1)).map f=(List.range n).map f++[f n]:=by rw[acz,aal];rfl
def rN (l:List Nat):List V:=l.map λ (i:Nat)=>V.int (i:Int)
theorem lZ {n:Nat} (h:n<=10000000):n < sizeLine:=by rw[sizeLine_eq];omega
def t8 (K:aab):Sp:=λ vs H Q _=>∃ (x:V) (net:Net) (fo:Option Nat) (n:Nat),vs=[x,.int (n:Int),bJ fo]/\Is K H (fB net) x/\NetOk net/\NetOk (aN net fo)/\n<=100000/\
 ∀ l p1 p2 sts tvs H',aF H H'->H' l=some (.lst [.ref p1,.ref p2])->H' p1=some (.lst sts)->IsL K H' ((List.range (n+1)).map λ t=>DP (fU (aN net fo) t)) sts->H' p2=some (.lst tvs)->
  IsL K H' ((List.range n).map λ t=>uI (gQ (aN net fo) t)) tvs->H l=none->H p1=none->H p2=none->Q (.ref l) H'
theorem jW:FnScope ["net","ticks","fast","states","tips","k","state","tipped","ground"] ["net","ticks","fast"] (aP (bM 36)):={}
theorem pZ {f f1 f2:Addr}{fd fd1 fd2:FuncData} (F:Fun K "_law_walk" "_law_walk" (bM 36) f fd) (T:Txt mg) (G__law_first:Callee P w K mg base "_law_first" ["net"] 1 (iK K) f1 fd1)
  (G__law_tick:Callee P w K mg base "_law_tick" ["net","state","poured","fast"] 2 (pH K) f2 fd2):FnOk P w K mg base gX 3 f fd ["net","ticks","fast"] (t8 K):=by
 refine F.ok jW (λ vs H Q E h=>?_) (λ cdv A outer s H vs Q E hr h=>?_)
 ·obtain⟨x,net,fo,n,rfl,_⟩:=h;rfl
 ·obtain⟨x,net,fo,n,rfl,hx,nok,nok',hn,k⟩:=h;have sc:=jW;refine⟨_,(aD (pL 3 sc.nd (bD (aA (dB G__law_first hr (aA (pv 0) aC)) aC)))
   (aD (pL 4 sc.nd (bD aC))
   (aD (dD PassesOwn.never rfl (bT rfl T.b_range (aA (pv 1) aC)) (gL 5 sc.nd) (aD (bY (dB G__law_tick hr (aA (pv 0) (aA (px K (pv 3) (G6 DG aG)) (aA (aT (nB (K:=K) rfl) (bG (aA aG aC)) (oT K T.b_len (px K (pv 0) aG))) (aA (pv 2) aC))))) (uU (K:=K) (n:=3) rfl rfl (aE (gL 6 sc.nd) (aE (gL 7 sc.nd) (aE (gL 8 sc.nd) aW)))))
   (aD (cG (d8 (K:=K) rfl aav abd abe bU (pv 3) (aA (pv 6) aC)))
   (aK (cG (d8 (K:=K) rfl aav abd abe bU (pv 4) (aA (pv 7) aC)))))))
   (aK (bE (bD (aA (pv 3) (aA (pv 4) aC)))))))),?_⟩
  have n1:=nok.lo;have n2:=nok.hi;refine⟨_,rfl,x,net,rfl,hx,nok,λ st H1 s1 hst=>⟨(show 1<=sizeLine by decide),λ sl hsl=>?_⟩⟩;have s2:=aF.new (o:=HO.lst [st]) hsl;have e2:upd H1 sl (.lst [st]) sl=some (.lst [st]):=aB;generalize upd H1 sl (.lst [st])=H2 at s2 e2;refine⟨abn _,λ tl htl=>?_⟩;have s3:=aF.new (o:=HO.lst []) htl;have e3:upd H2 tl (.lst []) tl=some (.lst []):=aB;have nst:sl≠tl:=aJ e2 htl;have e3s:=s3 _ _ e2;have s13:aF H1 _:=s2.trans s3;generalize upd H2 tl (.lst [])=H3 at s3 e3 e3s s13;have fs:H sl=none:=s1.free hsl;have ft:H tl=none:=(s1.trans s2).free htl;refine⟨_,rfl,_,rfl,by omega,by omega,?_⟩;refine dA (lo:=0) (n:=n) (λ i Z H'=>aF H H'/\(∃ sts mv,H' sl=some (.lst (sts++[mv]))/\IsL K H' ((List.range i).map λ t=>DP (fU (aN net fo) t)) sts/\Is K H' (DP (fU (aN net fo) i)) mv)/\
   (∃ tvs,H' tl=some (.lst tvs)/\IsL K H' ((List.range i).map λ t=>uI (gQ (aN net fo) t)) tvs)/\
   ∃ v5 v6 v7 v8,Z=[some x,some (.int (n:Int)),some (bJ fo),some (.ref sl),some (.ref tl),v5,v6,v7,v8]) ?_ ?_ ?_
  ·refine⟨s1.trans s13,⟨[],st,e3s,.nil,?_⟩,⟨[],e3,.nil⟩,_,_,_,_,rfl⟩;rw[show fU (aN net fo) 0=xY (aN net fo) from rfl,t0];exact Is.mono s13.ts _ _ hst
  ·rintro i Z H4 hi ⟨s4,⟨sts,mv,hsl4,ls,im⟩,⟨tvs,htl4,lt⟩,v5,v6,v7,v8,rfl⟩;have lsl:sts.length=i:=by rw[ls.length];simp
   have ltl:tvs.length=i:=by rw[lt.length];simp
   obtain⟨a,b,c,xs,ys,ex,q,q1,l1,q2,l2⟩:=dL (Is.mono s4.ts _ _ hx);have exl:xs.length=net.vs.length:=by rw[l1.length,aad]
   have sok:=sZ (xX nok' i);refine⟨_,rfl,_,rfl,1,rfl,.inl ⟨sl,_,-1,_,rfl,rfl,bF.of hsl4,AD _ _,(show 1<=sizeLine by decide),λ o ho=>?_⟩⟩;have so:=aF.new (o:=HO.tup [.int 0]) ho;refine⟨_,rfl,.inr (.inl ⟨a,_,0,_,ex,rfl,so.tup q,rfl,b,xs,rfl,.inr (so.tup q1),o,_,[.int 0],rfl,rfl,bB.of aB,by omega,by omega,by simp,by decide,λ z H6 sm6 qz=>?_⟩)⟩;have s56:=so.trans sm6;have en:((xs.length:Nat):Int).toNat=net.vs.length:=by rw[exl];simp
   rw[en,y8] at qz;refine⟨_,rfl,x,mv,z,net,_,_,cT net.vs.length,_,fo,rfl,Is.mono (s4.trans s56).ts _ _ hx,Is.mono s56.ts _ _ im,.inl qz,nok,nok',sok,lX _,λ l p1 p2 H7 sm7 hl7 i1 i2=>?_⟩;refine⟨l,_,rfl,bF.of hl7,rfl,_,_,rfl,_,_,rfl,_,_,rfl,rfl,?_⟩;have s47:aF H4 H7:=s56.trans sm7;have hsl7:=s47 _ _ hsl4;have htl7:=s47 _ _ htl4;have ls7:=L2.IsL.mono s47.ts _ _ ls;have im7:=Is.mono s47.ts _ _ im;have lt7:=L2.IsL.mono s47.ts _ _ lt;have s07:aF H H7:=s4.trans s47;rw[show dQ (aN net fo) (fU (aN net fo) i).held (fU (aN net fo) i).coming (cT net.vs.length) (fU (aN net fo) i).doors=(fU (aN net fo) i).tk (aN net fo) from by unfold Sta.tk;rw[qZ]] at i1 i2;refine⟨_,rfl,.inl ⟨rfl,_,bF.of hsl7⟩,_,rfl,sl,_,_,rfl,rfl,hsl7,lZ (by simp;omega),?_⟩;have mu7:oM (H7 sl):=by rw[hsl7];exact trivial
   have ts8:bC K H7 (upd H7 sl (.lst (sts++[mv]++[p1]))):=dJ.ts dJ.upd mu7;have htl8:upd H7 sl (.lst (sts++[mv]++[p1])) tl=some (.lst tvs):=by rw[aH (Ne.symm nst)];exact htl7
   have hsl8:upd H7 sl (.lst (sts++[mv]++[p1])) sl=some (.lst (sts++[mv]++[p1])):=aB;have s08:aF H (upd H7 sl (.lst (sts++[mv]++[p1]))):=s07.put fs;generalize upd H7 sl (.lst (sts++[mv]++[p1]))=H8 at ts8 htl8 hsl8 s08;refine⟨_,rfl,.inl ⟨rfl,_,bF.of htl8⟩,_,rfl,tl,_,_,rfl,rfl,htl8,lZ (by omega),?_⟩;have mu8:oM (H8 tl):=by rw[htl8];exact trivial
   have ts9:bC K H8 (upd H8 tl (.lst (tvs++[p2]))):=dJ.ts dJ.upd mu8;have ts79:=ts8.trans ts9;refine⟨s08.put ft,⟨sts++[mv],p1,by rw[aH nst];exact hsl8,?_,Is.mono ts79 _ _ i1⟩,⟨tvs++[p2],aB,?_⟩,_,_,_,_,rfl⟩
   ·rw[eV];exact L2.IsL.snoc (Is.mono ts79 _ _ im7) (L2.IsL.mono ts79 _ _ ls7)
   ·rw[eV];exact L2.IsL.snoc (Is.mono ts79 _ _ i2) (L2.IsL.mono ts79 _ _ lt7)
  ·rintro Z H4 ⟨s4,⟨sts,mv,hsl4,ls,im⟩,⟨tvs,htl4,lt⟩,v5,v6,v7,v8,rfl⟩;refine⟨_,rfl,_,rfl,(show 2<=sizeLine by decide),λ l hl=>?_⟩;have s5:=aF.new (o:=HO.lst [.ref sl,.ref tl]) hl;refine k l sl tl (sts++[mv]) tvs _ (s4.trans s5) aB (s5 _ _ hsl4) ?_ (s5 _ _ htl4) (L2.IsL.mono s5.ts _ _ lt) (s4.free hl) fs ft;rw[eV];exact L2.IsL.snoc (Is.mono s5.ts _ _ im) (L2.IsL.mono s5.ts _ _ ls)
def pG (K:aab):Sp:=λ vs H Q _=>∃ (x:V) (net:Net) (fo:Option Nat) (n:Nat),vs=[x,.int (n:Int),bJ fo]/\Is K H (fB net) x/\NetOk net/\NetOk (aN net fo)/\n<=100000/\
 ∀ l (ts:List Addr) H',aF H H'->H l=none->H' l=some (.lst (ts.map V.ref))->ts.length=net.vs.length->(∀ (j:Nat) t,ts[j]? = some t->H t=none/\H' t=some (.lst (rN (bX (aN net fo) n j))))->Q (.ref l) H'
theorem xU {H:Hp}{net:Net}{n t:Nat}{tvs:List V} (lt:IsL K H ((List.range n).map λ t=>uI (gQ net t)) tvs) (ht:t < n):∃ a,tvs[t]? = some (.ref a)/\bB K H a (rN (gQ net t)):=by
 obtain⟨v,hv,iv⟩:=lt.get (i:=t) (d:=uI (gQ net t)) (by rw[aag,List.getElem?_range ht];rfl);obtain⟨a,rfl,q⟩:=DI iv;exact⟨a,hv,q⟩
theorem jX:FnScope ["net","ticks","fast","states","tips"] ["net","ticks","fast"] (aP (bM 37)):={}
theorem q0 {f f1:Addr}{fd fd1:FuncData} (F:Fun K "_law_tips" "_law_tips" (bM 37) f fd) (T:Txt mg) (G__law_walk:Callee P w K mg base "_law_walk" ["net","ticks","fast"] 3 (t8 K) f1 fd1):FnOk P w K mg base gX 4 f fd ["net","ticks","fast"] (pG K):=by
 refine F.ok jX (λ vs H Q E h=>?_) (λ cdv A outer s H vs Q E hr h=>?_)
 ·obtain⟨x,net,fo,n,rfl,_⟩:=h;rfl
 ·obtain⟨x,net,fo,n,rfl,hx,nok,nok',hn,k⟩:=h;have sc:=jX;refine⟨_,(aD (bY (dB G__law_walk hr (aA (pv 0) (aA (pv 1) (aA (pv 2) aC)))) (uU (K:=K) (n:=2) rfl rfl (aE (gL 3 sc.nd) (aE (fH (i:=4) sc.nd rfl (Or.inr rfl)) aW))))
   (aK (bE (E6 (λ _ _ h=>h) rfl (LcOk2.mk (N':=["k","ticks","tips"]) (fr:=[none,some 1,some 4]) rfl ⟨rfl,rfl,trivial⟩ rfl rfl rfl rfl rfl ⟨⟨_,rfl,rfl,rfl,rfl⟩,⟨_,rfl,rfl,rfl,rfl⟩,trivial⟩) (bT rfl T.b_range (aA (oT K T.b_len (px K (pv 0) aG)) aC)) (λ _ _ _=>(fH (i:=0) (show (["k","ticks","tips"]:List Str).Nodup by decide +kernel) rfl (Or.inr rfl) (Or.inl rfl))) (λ _ _ _=>cH) (λ _ _ _=>(eW (λ _ _ h=>h) rfl (LcOk.mk (N':=["tick","k","tips"]) (fr:=[none,some 0,some 2]) rfl ⟨rfl,rfl,trivial⟩ rfl rfl rfl rfl rfl ⟨⟨_,rfl,rfl,rfl,rfl⟩,⟨_,rfl,rfl,rfl,rfl⟩,trivial⟩) (bT rfl T.b_range (aA (pv 1) aC)) (λ _ _ _=>(gC 0 ["tick","k","tips"])) (λ _ _ _=>iL (bQ (yS (K:=K) rfl) (pv 1) (px K (pv 2) (pv 0)) (by rfl))) (λ _ _ _=>(pv 0)))))))),?_⟩
  have n2:=nok.hi;refine⟨_,rfl,_,rfl,_,rfl,x,net,fo,n,rfl,hx,nok,nok',hn,λ l p1 p2 sts tvs H1 s1 hl h1 ls h2 lt fl f1' f2'=>?_⟩;refine⟨l,_,rfl,bF.of hl,rfl,_,_,rfl,_,_,rfl,rfl,?_⟩;obtain⟨a,b,c,xs,ys,ex,q,q1,l1,q2,l2⟩:=dL (Is.mono s1.ts _ _ hx);have exl:xs.length=net.vs.length:=by rw[l1.length,aad]
  refine⟨_,rfl,.inr (.inl ⟨a,_,0,_,ex,rfl,q,rfl,b,xs,rfl,.inr q1,_,rfl,by omega,by omega,?_⟩)⟩;rw[show ((xs.length:Nat):Int).toNat=net.vs.length from by rw[exl];simp];refine g6 (n:=net.vs.length) (λ D i r Z H'=>H1 D=none/\aF H1 H'/\H' D=some (.lst r)/\(∃ ts:List Addr,r=ts.map V.ref/\ts.length=i/\∀ (j:Nat) t,ts[j]? = some t->H1 t=none/\t≠D/\H' t=some (.lst (rN (bX (aN net fo) n j))))/\∃ v,Z=[v,some (.int (n:Int)),some (.ref p2)])
   (λ D hD=>⟨hD,aF.new hD,aB,⟨[],rfl,rfl,λ j t h=>by simp at h⟩,none,rfl⟩) ?_ ?_
  rotate_left
  ·rintro D i r Z H4 hi ⟨hD,sm4,hDl,⟨ts,rfl,htl,hts⟩,v,rfl⟩;refine dU ?_;refine⟨_,rfl,_,rfl,by omega,by omega,?_⟩;rw[show ((n:Int)).toNat=n from by simp];refine g6 (n:=n) (λ D' j r' Z H'=>H4 D'=none/\aF H4 H'/\H' D'=some (.lst r')/\r'=rN (bX (aN net fo) j i)/\∃ u,Z=[u,some (.int (i:Int)),some (.ref p2)])
    (λ D' hD'=>⟨hD',aF.new hD',aB,rfl,none,rfl⟩) ?_ ?_
   rotate_left
   ·rintro D' j r' Z H5 hj ⟨hD',sm5,hD'l,rfl,u,rfl⟩;have s15:=sm4.trans sm5;obtain⟨ta,hta,qta⟩:=xU (L2.IsL.mono s15.ts _ _ lt) hj;refine⟨_,rfl,_,rfl,_,rfl,.inl ⟨p2,_,_,_,rfl,rfl,bF.of (s15 _ _ h2),bW hta,ta,_,rfl,.inr qta,rfl,A5 _,_,rfl,?_⟩⟩;rw[if_neg aai,show D3 (.int (i:Int)) (rN (gQ (aN net fo) j))=_ from vE i _];have hs:=lI (aN net fo) j i;have hlen:=sV (aN net fo) j i;refine gM (λ ht=>?_) (λ hf=>?_)
    ·rw[if_pos (abw ht)] at hs;refine⟨_,rfl,hD'l,lZ (by unfold rN;rw[aad];omega),hD',sm5.put hD',aB,?_,_,rfl⟩;rw[hs];unfold rN;rw[aal];rfl
    ·rw[if_neg (λ e=>hf (abm e)),acn] at hs;exact⟨hD',sm5,hD'l,by rw[hs],_,rfl⟩
   rintro D' r' Z H5 ⟨hD',sm5,hD'l,rfl,_⟩;have nDD:D'≠D:=λ z=>by rw[z,hDl] at hD';cases hD'
   refine⟨sm5 _ _ hDl,aM (by rw[aad];omega),hD,(sm4.trans sm5).put hD,aB,⟨ts++[D'],by rw[aal];rfl,by simp [htl],λ j t hj=>?_⟩,_,rfl⟩;rcases Nat.lt_or_ge j ts.length with hlt | hge
   ·rw[abk hlt] at hj;obtain⟨g1,g2,g3⟩:=hts j t hj;exact⟨g1,g2,by rw[aH g2];exact sm5 _ _ g3⟩
   ·have hjl:=(aaf.mp hj).1;rw[aao,abv] at hjl;have:j=ts.length:=by omega
    subst this;rw[abp (aaj _),Nat.sub_self] at hj;cases hj;rw[htl];exact⟨sm4.free hD',nDD,by rw[aH nDD];exact hD'l⟩
  rintro D r Z H4 ⟨hD,sm4,hDl,⟨ts,rfl,htl,hts⟩,_⟩;exact k D ts _ (s1.trans sm4) (s1.free hD) hDl htl λ j t hj=>⟨s1.free (hts j t hj).1,(hts j t hj).2.2⟩
theorem nP {H:Hp}:∀ {ds:List L2.D}{xs:List V} (i:Nat),L2.IsL K H ds xs->L2.IsL K H (ds.take i) (xs.take i)
 | _,_,0,_=>by rw[List.take_zero,List.take_zero];exact .nil
 | [],_,i+1,h=>by have:=h.un0;subst this;exact .nil
 | d::ds,_,i+1,h=>by
  obtain⟨x,r,rfl,h1,h⟩:=h.un;exact .cons h1 (nP i h)
theorem nQ {H:Hp}:∀ {ds:List L2.D}{xs:List V} (i:Nat),L2.IsL K H ds xs->L2.IsL K H (ds.drop i) (xs.drop i)
 | _,_,0,h=>h
 | [],_,i+1,h=>by have:=h.un0;subst this;exact .nil
 | d::ds,_,i+1,h=>by
  obtain⟨x,r,rfl,h1,h⟩:=h.un;exact nQ i h
def t7 (K:aab):Sp:=λ vs H Q _=>∃ (x y:V) (net:Net) (v:Vs) (j:Nat),vs=[x,.int (j:Int),y]/\Is K H (fB net) x/\net.vs.length<=100/\j < net.vs.length/\Is K H (r8 v) y/\
 ∀ p H',aF H H'->Is K H' (fB ⟨net.vs.take j++[v]++net.vs.drop (j+1),net.sps⟩) p->Q p H'
theorem hG:FnScope ["net","number","vessel","vessels","spouts"] ["net","number","vessel"] (aP (bM 19)):={}
theorem nC {f:Addr}{fd:FuncData} (F:Fun K "with_vessel" "with_vessel" (bM 19) f fd) (T:Txt mg):FnOk P w K mg base gX 1 f fd ["net","number","vessel"] (t7 K):=by
 refine F.ok hG (λ vs H Q E h=>?_) (λ cdv A outer s H vs Q E hr h=>?_)
 ·obtain⟨x,y,net,v,j,rfl,_⟩:=h;rfl
 ·obtain⟨x,y,net,v,j,rfl,hx,n2,hj,iv,k⟩:=h;have sc:=hG;refine⟨_,(aD (bY (pv 0) (aX (K:=K) (n:=2) rfl rfl (aE (gL 3 sc.nd) (aE (gL 4 sc.nd) aW))))
   (aK (bE (bG (aA (aT (oU (K:=K) rfl) (aT (oU (K:=K) rfl) (rJ (uN (K:=K) rfl) (pv 3) uT (uS (pv 1))) (bG (aA (pv 2) aC))) (rJ (uN (K:=K) rfl) (pv 3) (uS (aT cC (pv 1) aG)) uT)) (aA (pv 4) aC)))))),?_⟩
  obtain⟨a,b,c,xs,ys,rfl,q,q1,l1,q2,l2⟩:=dL hx;have exl:xs.length=net.vs.length:=by rw[l1.length,aad]
  refine⟨_,rfl,a,_,rfl,q,rfl,_,_,rfl,_,_,rfl,rfl,?_⟩;have hjl:j < xs.length:=by omega
  have hc1:sH xs none (some (j:Int))=xs.take j:=by
   unfold sH;rw[HT.sIx_none,HT.sIx_nat,List.drop_zero,Nat.sub_zero,Nat.min_eq_left (by omega)]
  have hc2:sH xs (some ((j:Int)+1)) none=xs.drop (j+1):=by
   unfold sH;rw[HT.sIx_none,show ((j:Int)+1)=((j+1:Nat):Int) by omega,HT.sIx_nat,Nat.min_eq_left (by omega)];exact abl (by rw[List.length_drop];omega)
  refine⟨_,rfl,_,rfl,_,rfl,b,xs,rfl,q1,?_,λ p1 hp1=>?_⟩
  ·rintro⟨_,z⟩;rw[HT.sIx_nat,Nat.min_eq_left (by omega)] at z;omega
  rw[hc1];have s2:=aF.new (o:=HO.tup (xs.take j)) hp1;have t2:bB K (upd H p1 (.tup (xs.take j))) p1 (xs.take j):=bB.of aB;generalize upd H p1 (.tup (xs.take j))=H2 at s2 t2;refine⟨_,rfl,(show 1<=sizeLine by decide),λ p2 hp2=>?_⟩;have s3:=aF.new (o:=HO.tup [y]) hp2;have t3:bB K (upd H2 p2 (.tup [y])) p2 [y]:=bB.of aB;generalize upd H2 p2 (.tup [y])=H3 at s3 t3;refine⟨p1,p2,_,_,rfl,rfl,s3.tup t2,t3,acl (aM (by rw[aaw,abv];omega)),λ p3 H4 s4 t4=>?_⟩;have s04:=(s2.trans s3).trans s4;refine⟨_,rfl,_,rfl,_,_,rfl,rfl,_,rfl,b,xs,rfl,s04.tup q1,?_,λ p4 hp4=>?_⟩
  ·rintro⟨z,_⟩;rw[show ((j:Int)+1)=((j+1:Nat):Int) by omega,HT.sIx_nat] at z;omega
  rw[hc2];have s5:=aF.new (o:=HO.tup (xs.drop (j+1))) hp4;have t5:bB K (upd H4 p4 (.tup (xs.drop (j+1)))) p4 (xs.drop (j+1)):=bB.of aB;generalize upd H4 p4 (.tup (xs.drop (j+1)))=H5 at s5 t5;refine⟨p3,p4,_,_,rfl,rfl,s5.tup t4,t5,acl (aM (by rw[aao,aaw,List.length_drop,abv];omega)),λ p5 H6 s6 t6=>?_⟩;refine⟨_,rfl,(show 2<=sizeLine by decide),λ p hp=>?_⟩;have s7:=aF.new (o:=HO.tup [.ref p5,.ref c]) hp;have s07:=((s04.trans s5).trans s6).trans s7;refine k _ _ s07 (Is.tupOf (ds:=[.tup ((net.vs.take j++[v]++net.vs.drop (j+1)).map r8),.tup (net.sps.map CM)]) (bB.of aB) (.cons (Is.tupOf (s7.tup t6) ?_) (.cons (Is.tupOf (s07.tup q2) (L2.IsL.mono s07.ts _ _ l2)) .nil)));rw[aal,aal,List.map_take,List.map_drop];exact IsL.append (IsL.append (L2.IsL.mono s07.ts _ _ (nP j l1)) (.cons (Is.mono s07.ts _ _ iv) .nil)) (L2.IsL.mono s07.ts _ _ (nQ (j+1) l1))
def jD (K:aab):Sp:=λ vs H Q _=>∃ (x:V) (net:Net) (j:Nat),vs=[x,.int (j:Int)]/\Is K H (fB net) x/\NetOk net/\j < net.vs.length/\∀ p H',aF H H'->Is K H' (fB (aN net (some j))) p->Q p H'
theorem jU:FnScope ["net","vessel","size","brim","outs","holds","spill","acts"] ["net","vessel"] (aP (bM 22)):={}
theorem pW {f f1:Addr}{fd fd1:FuncData} (F:Fun K "stuck_net" "stuck_net" (bM 22) f fd) (T:Txt mg) (G_with_vessel:Callee P w K mg base "with_vessel" ["net","number","vessel"] 1 (t7 K) f1 fd1) :
  FnOk P w K mg base gX 2 f fd ["net","vessel"] (jD K):=by
 refine F.ok jU (λ vs H Q E h=>?_) (λ cdv A outer s H vs Q E hr h=>?_)
 ·obtain⟨x,net,j,rfl,_⟩:=h;rfl
 ·obtain⟨x,net,j,rfl,hx,nok,hj,k⟩:=h;have sc:=jU;refine⟨_,(aD (bY (px K (px K (pv 0) aG) (pv 1)) (aX (K:=K) (n:=6) rfl rfl (aE (gL 2 sc.nd) (aE (gL 3 sc.nd) (aE (gL 4 sc.nd) (aE (gL 5 sc.nd) (aE (gL 6 sc.nd) (aE (gL 7 sc.nd) aW))))))))
   (aK (bE (dB G_with_vessel hr (aA (pv 0) (aA (pv 1) (aA (bG (aA (aT cC (pv 3) aG) (aA (pv 3) (aA (pv 4) (aA (pv 5) (aA (pv 6) (aA (pv 7) aC))))))) aC))))))),?_⟩
  have n2:=nok.hi;obtain⟨a,b,c,xs,ys,rfl,q,q1,l1,q2,l2⟩:=dL hx;have hv:net.vs[j]? = some net.vs[j]:=by simp [hj]
  generalize net.vs[j]=v at hv;obtain⟨xv,hxv,ixv⟩:=l1.get (i:=j) (d:=r8 v) (by rw[aag,hv];rfl);obtain⟨va,o,cc,rfl,qv,ho,hc⟩:=r6 ixv;refine⟨_,rfl,.inr (.inl ⟨a,_,0,_,rfl,rfl,q,rfl,_,rfl,.inr (.inl ⟨b,xs,(j:Int),_,rfl,rfl,q1,bW hxv,va,_,rfl,qv,rfl,_,_,rfl,_,_,rfl,_,_,rfl,_,_,rfl,_,_,rfl,_,_,rfl,rfl,?_⟩)⟩)⟩;refine⟨_,rfl,_,rfl,_,rfl,_,_,rfl,rfl,_,rfl,_,rfl,_,rfl,_,rfl,_,rfl,(show 6<=sizeLine by decide),λ e he=>?_⟩;have s1:=aF.new (o:=HO.tup [.int (v.brim+1),.int v.brim,o,.bl v.holds,j5 v.spill,cc]) he;have iv:Is K (upd H e (.tup [.int (v.brim+1),.int v.brim,o,.bl v.holds,j5 v.spill,cc])) (r8 { v with size:=v.brim+1 }) (.ref e):=
   Is.tupOf (ds:=[.int (v.brim+1),.int v.brim,.tup (v.outs.map outD),.bl v.holds,AO v.spill,.tup (v.acts.map uB)]) (bB.of aB)
    (.cons (Is.i _) (.cons (Is.i _) (.cons (Is.mono s1.ts _ _ ho) (.cons (Is.b _) (.cons (Is.tgOf _) (.cons (Is.mono s1.ts _ _ hc) .nil))))))
  refine⟨.ref a,.ref e,net,{ v with size:=v.brim+1 },j,rfl,Is.mono s1.ts _ _ hx,by omega,hj,iv,λ p H' sm ip=>k p H' (s1.trans sm) ?_⟩;rw[<- wC net.vs j v hv] at ip;exact ip
theorem IsL.app {H:Hp}:∀ {ds es:List L2.D}{xs ys:List V},L2.IsL K H ds xs->L2.IsL K H es ys->L2.IsL K H (ds++es) (xs++ys)
 | [],_,_,_,h1,h2=>by have:=h1.un0;subst this;exact h2
 | d::ds,_,_,_,h1,h2=>by
  obtain⟨x,r,rfl,h,h1⟩:=h1.un;exact .cons h (IsL.app h1 h2)
theorem B1 {n:Nat} (h:n<=10000000):n < sizeLine:=by rw[sizeLine_eq];omega
def gB (K:aab):Sp:=λ vs H Q _=>∃ (x:V) (net:Net),vs=[x]/\Is K H (fB net) x/\NetOk net/\∀ p H',aF H H'->Is K H' (qE (eX net)) (.ref p)->Q (.ref p) H'
theorem gR:FnScope ["net"] ["net"] (aP (bM 11)):={}
theorem lU {f f1 f2:Addr}{fd fd1 fd2:FuncData} (F:Fun K "first_moment" "first_moment" (bM 11) f fd) (T:Txt mg)
  (G_first_state:Callee P w K mg base "first_state" ["net"] 1 (iK K) f1 fd1) (G_pouring:Callee P w K mg base "pouring" ["net","amount"] 1 (iJ K) f2 fd2):FnOk P w K mg base gX 2 f fd ["net"] (gB K):=by
 refine F.ok gR (λ vs H Q E h=>?_) (λ cdv A outer s H vs Q E hr h=>?_)
 ·obtain⟨x,net,rfl,_⟩:=h;rfl
 ·obtain⟨x,net,rfl,hx,nok,k⟩:=h;have sc:=gR;refine⟨_,(aK (bE (bG (aA aG (aA (dB G_first_state hr (aA (pv 0) aC)) (aA (dB G_pouring hr (aA (pv 0) (aA aG aC))) (aA aG (aA aG aC)))))))),?_⟩;refine⟨_,rfl,x,net,rfl,hx,nok,λ st H4 sm4 hst=>⟨_,rfl,x,net,0,rfl,Is.mono sm4.ts _ _ hx,nok,λ z H5 sm5 qz=>⟨(show 5<=sizeLine by decide),λ p hp=>?_⟩⟩⟩;rw[mE nok.lo] at qz;have sp:aF H5 (upd H5 p (.tup [.int 0,st,.ref z,.int 0,.int 0])):=aF.new hp;exact k p _ ((sm4.trans sm5).trans sp) (zB (m:=eX net) (bB.of aB) (Is.mono sp.ts _ _ (Is.mono sm5.ts _ _ hst)) (sp.tup qz))
def lY (K:aab):Sp:=λ vs H Q _=>∃ (x y:V) (net:Net) (m:Mom) (n:Nat),vs=[x,y,.int (n:Int)]/\Is K H (fB net) x/\Is K H (qE m) y/\NetOk net/\MomOk net m/\n<=100000/\
 ∀ p p1 p2 tvs H',aF H H'->bB K H' p [p1,.ref p2]->Is K H' (qE (dP net m n)) p1->bB K H' p2 tvs->IsL K H' ((kS net m n).map oD) tvs->Q (.ref p) H'
theorem hV:FnScope ["net","moment","many","tipped","step","tick","numbers"] ["net","moment","many"] (aP (bM 12)):={}
theorem nF {f f1:Addr}{fd fd1:FuncData} (F:Fun K "moment_gone" "moment_gone" (bM 12) f fd) (T:Txt mg) (G_moment_behind:Callee P w K mg base "moment_behind" ["net","moment"] 5 (mW K) f1 fd1) :
  FnOk P w K mg base gX 6 f fd ["net","moment","many"] (lY K):=by
 refine F.ok hV (λ vs H Q E h=>?_) (λ cdv A outer s H vs Q E hr h=>?_)
 ·obtain⟨x,y,net,m,n,rfl,_⟩:=h;rfl
 ·obtain⟨x,y,net,m,n,rfl,hx,hy,nok,mok,hn,k⟩:=h;have sc:=hV;refine⟨_,(aD (pL 3 sc.nd (bD aC))
   (aD (dD PassesOwn.never rfl (bT rfl T.b_range (aA (pv 2) aC)) (gL 4 sc.nd) (aD (dY (i:=5) sc.nd rfl (Or.inr rfl) (px K (pv 1) aG))
   (aD (bY (dB G_moment_behind hr (aA (pv 0) (aA (pv 1) aC))) (aX (K:=K) (n:=2) rfl rfl (aE (gL 1 sc.nd) (aE (gL 6 sc.nd) aW))))
   (aK (cG (d8 (K:=K) rfl aav PySem.F.slot_list_extend PySem.F.type_list_extend wP (pv 3) (aA (eW (λ _ _ h=>h) rfl (LcOk.mk (N':=["number","tick"]) (fr:=[none,some 5]) rfl ⟨rfl,trivial⟩ rfl rfl rfl rfl rfl ⟨⟨_,rfl,rfl,rfl,rfl⟩,trivial⟩) (dS (K:=K) rfl (pv 6)) (λ _ _ _=>(gC 0 ["number","tick"])) (λ _ _ _=>cH) (λ _ _ _=>(bG (aA (pv 1) (aA (pv 0) aC))))) aC)))))))
   (aK (bE (bG (aA (pv 1) (aA (aU (bL (K:=K) rfl) rfl T.b_tuple bR (aA (pv 3) aC)) aC))))))),?_⟩
  refine⟨abn _,λ tl htl=>?_⟩;have s0:aF H (upd H tl (.lst [])):=aF.new htl;have g0:upd H tl (.lst []) tl=some (.lst []):=aB;generalize upd H tl (.lst [])=H0 at s0 g0;dsimp only [iZ];refine EQ (λ Z H'=>aF H H'/\(∃ tvs,H' tl=some (.lst tvs)/\IsL K H' ((kS net m n).map oD) tvs)/\∃ mi,Is K H' (qE (dP net m n)) mi/\
   ∃ v4 v5 v6,Z=[some x,some mi,some (.int (n:Int)),some (.ref tl),v4,v5,v6]) (λ D' hD=>?_) ?_
  rotate_left
  ·rintro Z H1 ⟨s1,⟨tvs,ht1,lt1⟩,mi,cm1,v4,v5,v6,rfl⟩;refine⟨_,rfl,_,rfl,tl,_,rfl,.inl ⟨bF.of ht1,λ p2 hp2=>⟨(show 2<=sizeLine by decide),λ p hp=>?_⟩⟩⟩;have m2:aF H1 (upd H1 p2 (.tup tvs)):=aF.new hp2;have m3:aF (upd H1 p2 (.tup tvs)) (upd (upd H1 p2 (.tup tvs)) p (.tup [mi,.ref p2])):=aF.new hp;exact k p mi p2 tvs _ ((s1.trans m2).trans m3) (bB.of aB) (Is.mono (m2.trans m3).ts _ _ cm1) (m3.tup (bB.of aB)) (L2.IsL.mono (m2.trans m3).ts _ _ lt1)
  refine⟨_,rfl,_,rfl,by omega,by omega,?_⟩;refine dA (lo:=0) (n:=n) (λ i Z H'=>aF H H'/\(∃ tvs,H' tl=some (.lst tvs)/\IsL K H' ((kS net m i).map oD) tvs)/\∃ mi,Is K H' (qE (dP net m i)) mi/\
   ∃ v4 v5 v6,Z=[some x,some mi,some (.int (n:Int)),some (.ref tl),v4,v5,v6]) ?_ ?_ ?_
  ·exact⟨s0,⟨[],g0,.nil⟩,y,Is.mono s0.ts _ _ hy,_,_,_,rfl⟩
  ·rintro i Z H1 hi ⟨s1,⟨tvs,ht1,lt1⟩,mi,cm1,v4,v5,v6,rfl⟩;obtain⟨ma,po,st,rfl,q,hs,hp⟩:=yZ cm1;refine⟨_,rfl,.inr (.inl ⟨ma,_,0,_,rfl,rfl,q,rfl,?_⟩)⟩;refine⟨_,rfl,_,rfl,x,.ref ma,net,dP net m i,rfl,Is.mono s1.ts _ _ hx,cm1,nok,uY mok i,λ p p1 p2 H2 sm2 qp i1 q2=>?_⟩;refine⟨p,_,rfl,qp,rfl,_,_,rfl,_,_,rfl,rfl,?_⟩;have ht2:=sm2 _ _ ht1;have ltk:=xS net (dP net m i);have hn12:=nok.hi;refine⟨_,rfl,.inl ⟨rfl,_,bF.of ht2⟩,?_⟩;refine⟨_,rfl,p2,rfl,⟨_,q2⟩,i9 (K:=K) (a:=p2) (xs:=((dP net m i).tk net).tip.map λ (k:Nat)=>V.int (k:Int))
    (λ D j rr Z H'=>H2 D=none/\aF H2 H'/\H' D=some (.lst rr)/\IsL K H' (((((dP net m i).tk net).tip.take j).map λ k=>((dP net m i).tick,k)).map oD) rr/\∃ u,Z=[u,some (.int (dP net m i).tick)])
    (λ D j rr Z H' p=>p.2.1.tup q2) (λ D hD=>⟨hD,aF.new hD,aB,.nil,none,rfl⟩) ?_ ?_⟩
   rotate_left
   ·rintro D j x' rr Z H3 hx ⟨hD,sm3,hDl,lr,u,rfl⟩;rw[aag] at hx;obtain⟨kk,hk,rfl⟩:=aaq.mp hx;have hjl:=(aaf.mp hk).1;have hrl:rr.length<=12:=by rw[lr.length];simp;omega
    refine dU ?_;refine⟨_,rfl,_,rfl,(show 2<=sizeLine by decide),λ e he=>?_⟩;have me:=aF.new (o:=HO.tup [.int (dP net m i).tick,.int (kk:Int)]) he;have nDe:D≠e:=aJ hDl he;have muD:oM (upd H3 e (.tup [.int (dP net m i).tick,.int (kk:Int)]) D):=by rw[me _ _ hDl];exact trivial
    refine⟨me _ _ hDl,aM (by omega),hD,(sm3.trans me).put hD,aB,?_,_,rfl⟩;rw[aR hk,aal,aal];exact L2.IsL.snoc (Is.tupOf (ds:=[.int (dP net m i).tick,.int (kk:Int)]) (dJ.ts (K:=K) dJ.upd muD _ _ (bB.of aB)) (.cons (Is.i _) (.cons (Is.i _) .nil))) (L2.IsL.mono (me.ts.trans (dJ.ts dJ.upd muD)) _ _ lr)
   ·rintro D rr Z H3 ⟨hD,sm3,hDl,lr,_⟩;rw[aad,aax] at lr;have ht3:=sm3 _ _ ht2;have l1:tvs.length<=12 * i:=by rw[lt1.length,aad];exact jP nok i
    have l2:rr.length<=12:=by rw[lr.length];simp;omega
    refine⟨tl,D,_,_,rfl,rfl,ht3,hDl,acl (B1 (by omega)),?_⟩;have mu3:oM (H3 tl):=by rw[ht3];exact trivial
    have ts3:bC K H3 (upd H3 tl (.lst (tvs++rr))):=dJ.ts dJ.upd mu3;have s13:=sm2.trans sm3;refine⟨(s1.trans s13).put htl,⟨_,aB,?_⟩,p1,Is.mono ts3 _ _ (Is.mono sm3.ts _ _ i1),_,_,_,rfl⟩;show IsL K _ ((kS net m i++kQ net (dP net m i)).map oD) _;rw[aal];exact IsL.app (L2.IsL.mono (s13.ts.trans ts3) _ _ lt1) (L2.IsL.mono ts3 _ _ lr)
  ·exact λ Z H' p=>hD _ _ p
def jC (l:List (Int×Nat)) (i:Nat):List Int:=(l.filter λ p=>decide (p.2=i)).map (·.1)
theorem wB (l:List (Int×Nat)) (p:Int×Nat) (i:Nat):jC (l++[p]) i=jC l i++(if p.2=i then [p.1] else []):=by
 unfold jC;rw[List.filter_append,aal]
 by_cases h:p.2=i
 ·simp [h]
 ·simp [h]
theorem xT (l:List (Int×Nat)) (i:Nat):(jC l i).length<=l.length:=by
 unfold jC;rw[aad];exact act _ _
theorem mO:∀ (i:Nat) (vs:List Vs) (hs:List Int) (k:Nat),k∈aV i vs hs->i<=k
 | i,[],_,k,h=>by simp [aV] at h
 | i,_::_,[],k,h=>by simp [aV] at h
 | i,v::vs,b::hs,k,h=>by
  unfold aV at h
  split at h
  ·rcases aay.1 h with rfl | h
   ·exact aaj _
   ·have:=mO (i+1) vs hs k h;omega
  ·have:=mO (i+1) vs hs k h;omega
theorem gY:∀ (i:Nat) (vs:List Vs) (hs:List Int),(aV i vs hs).Nodup
 | i,[],_=>by simp [aV]
 | i,_::_,[]=>by simp [aV]
 | i,v::vs,b::hs=>by
  unfold aV
  split
  ·rw[acs];exact⟨λ h=>by have:=mO (i+1) vs hs i h;omega,gY (i+1) vs hs⟩
  ·exact gY (i+1) vs hs
theorem qK {l:List Nat} (k:Nat) (h:l.Nodup):l.filter (λ x=>decide (x=k))=if k∈l then [k] else []:=by
 induction l with
 | nil=>simp
 | cons a l ih=>
  rw[acs] at h;rw[List.filter_cons]
  by_cases e:a=k
  ·subst e;rw[if_pos (by simp),ih h.2,if_neg h.1,if_pos (by simp)]
  ·rw[if_neg (by simpa using e),ih h.2];have:(k∈a::l)↔k∈l:=by simp [Ne.symm e]
   by_cases q:k∈l
   ·rw[if_pos q,if_pos (this.2 q)]
   ·rw[if_neg q,if_neg (λ z=>q (this.1 z))]
theorem AV (l:List Nat) (t:Int) (k:Nat) (h:l.Nodup):jC (l.map λ i=>(t,i)) k=if k∈l then [t] else []:=by
 unfold jC;rw[List.filter_map,acb];have e:((λ (p:Int×Nat)=>decide (p.2=k)) ∘ λ i=>(t,i))=λ x=>decide (x=k):=rfl;rw[e,qK k h]
 split <;> rfl
theorem rA (a b:List (Int×Nat)) (k:Nat):jC (a++b) k=jC a k++jC b k:=by unfold jC;rw[List.filter_append,aal]
theorem qD (net:Net):∀ t,(dP net (eX net) t).tick=(t:Int)/\(dP net (eX net) t).held=(fU net t).held/\(dP net (eX net) t).coming=(fU net t).coming/\(dP net (eX net) t).doors=(fU net t).doors/\(dP net (eX net) t).poured=cT net.vs.length
 | 0=>⟨rfl,rfl,rfl,rfl,rfl⟩
 | t+1=>by
  obtain⟨h1,h2,h3,h4,h5⟩:=qD net t;have e:(dP net (eX net) t).tk net=(fU net t).tk net:=by unfold Mom.tk Sta.tk;rw[h2,h3,h4,h5]
  refine⟨?_,?_,?_,?_,rfl⟩
  ·show (dP net (eX net) t).tick+1=_;rw[h1];omega
  ·show ((dP net (eX net) t).tk net).held=_;rw[e];rfl
  ·show ((dP net (eX net) t).tk net).coming=_;rw[e];rfl
  ·show ((dP net (eX net) t).tk net).doors=_;rw[e];rfl
theorem BR (net:Net) (t:Nat):((dP net (eX net) t).tk net).tip=gQ net t:=by
 obtain⟨h1,h2,h3,h4,h5⟩:=qD net t;unfold Mom.tk gQ Sta.tk;rw[h2,h3,h4,h5]
theorem rB (net:Net) (t:Nat):(gQ net t).Nodup:=gY _ _ _
def dM (l:List Nat):List Int:=l.map λ (i:Nat)=>(i:Int)
theorem kR (net:Net) (k:Nat):∀ n,jC (kS net (eX net) n) k=dM (bX net n k)
 | 0=>rfl
 | n+1=>by
  show jC (kS net (eX net) n++kQ net (dP net (eX net) n)) k=_;rw[rA,kR net k n,lI];unfold kQ;rw[BR,(qD net n).1,AV _ _ _ (rB net n)];unfold dM;rw[aal]
  split <;> rfl
def gO (net:Net) (n j:Nat) (seen:List Int) (cs:List (Option Nat)):List (Option Nat):=cs.filter λ fo=>decide (dM (bX (aN net fo) n j)=seen)
def aI (net:Net):List (Option Nat):=none::(List.range net.vs.length).map some
theorem sJ (net:Net) (n j:Nat) (seen:List Int) (cs:List (Option Nat)) (c:Option Nat):gO net n j seen (cs++[c])=gO net n j seen cs++(if dM (bX (aN net c) n j)=seen then [c] else []):=by
 unfold gO;rw[List.filter_append]
 by_cases h:dM (bX (aN net c) n j)=seen
 ·simp [h]
 ·simp [h]
theorem u6 (net:Net) (n j:Nat) (seen:List Int) (cs:List (Option Nat)):(gO net n j seen cs).length<=cs.length:=act _ _
def jT (K:aab):Sp:=λ vs H Q _=>∃ (j:Nat) (ts:List (Int×Nat)) (z:Addr) (tvs:List V),vs=[.int (j:Int),.ref z]/\bB K H z tvs/\IsL K H (ts.map oD) tvs/\ts.length<=2000000/\
 ∀ l H',aF H H'->H l=none->H' l=some (.lst ((jC ts j).map V.int))->Q (.ref l) H'
theorem AW {H:Hp}{t:Int×Nat}{v:V} (h:Is K H (oD t) v):∃ a,v=.ref a/\bB K H a [.int t.1,.int (t.2:Int)]:=by
 obtain⟨e,zs,rfl,qe,le⟩:=(show Is K H (.tup [.int t.1,.int (t.2:Int)]) v from h).un;obtain⟨x1,r1,rfl,h1,le⟩:=le.un;obtain⟨x2,r2,rfl,h2,le⟩:=le.un;have:=le.un0;subst this;have:=h1.ui;subst this;have:=h2.ui;subst this;exact⟨e,rfl,qe⟩
theorem n5:FnScope ["vessel","tipped"] ["vessel","tipped"] (aP (bM 27)):={}
theorem tM {f:Addr}{fd:FuncData} (F:Fun K "tips_of" "tips_of" (bM 27) f fd) (T:Txt mg):FnOk P w K mg base gX 1 f fd ["vessel","tipped"] (jT K):=by
 refine F.ok n5 (λ vs H Q E h=>?_) (λ cdv A outer s H vs Q E hr h=>?_)
 ·obtain⟨j,ts,z,tvs,rfl,_⟩:=h;rfl
 ·obtain⟨j,ts,z,tvs,rfl,qz,lt,hts,k⟩:=h;have sc:=n5;refine⟨_,(aK (bE (eW (λ _ _ h=>h) rfl (LcOk.mk (N':=["tick","number","vessel"]) (fr:=[none,none,some 0]) rfl ⟨rfl,trivial⟩ rfl rfl rfl rfl rfl ⟨⟨_,rfl,rfl,rfl,rfl⟩,trivial⟩) (dS (K:=K) rfl (pv 1)) (λ _ _ _=>(aX (K:=K) (n:=2) rfl rfl (aE (gC 0 ["tick","number","vessel"]) (aE (gC 1 ["tick","number","vessel"]) aW)))) (λ _ _ _=>iL (bQ lP (pv 1) (pv 2) (cD _))) (λ _ _ _=>(pv 0))))),?_⟩;have el:tvs.length=ts.length:=by rw[lt.length,aad]
  refine⟨_,rfl,z,rfl,⟨_,qz⟩,i9 (K:=K) (a:=z) (xs:=tvs) (λ D i r Z H'=>H D=none/\aF H H'/\H' D=some (.lst r)/\r=(jC (ts.take i) j).map V.int/\∃ u1 u2,Z=[u1,u2,some (.int (j:Int))])
   (λ D i r Z H' p=>p.2.1.tup qz) (λ D hD=>⟨hD,aF.new hD,aB,rfl,none,none,rfl⟩) ?_ ?_⟩
  rotate_left
  ·rintro D i x r Z H1 hx ⟨hD,sm,hDl,rfl,u1,u2,rfl⟩;obtain⟨d,hd,ix⟩:=L2.IsL.get' lt hx;rw[aag] at hd;obtain⟨t,ht,rfl⟩:=aaq.mp hd;obtain⟨a,rfl,qa⟩:=AW ix;refine⟨a,_,rfl,sm.tup qa,rfl,_,_,rfl,_,_,rfl,rfl,?_⟩;have hsn:=wB (ts.take i) t j;rw[<- aR ht] at hsn;have hil:=(aaf.mp ht).1;have hln:=xT (ts.take i) j;rw[aaw] at hln;refine⟨_,rfl,_,rfl,rfl,_,rfl,?_⟩;refine gM (λ hT=>?_) (λ hF=>?_)
   ·have e:t.2=j:=by have:=abw hT;injection this with this;omega
    rw[if_pos e] at hsn;refine⟨_,rfl,hDl,lZ (by rw[aad];omega),hD,sm.put hD,aB,?_,_,_,rfl⟩;rw[hsn,aal];rfl
   ·have e:¬ t.2=j:=λ e=>hF (abm (by rw[e]));rw[if_neg e,acn] at hsn;exact⟨hD,sm,hDl,by rw[hsn],_,_,rfl⟩
  ·rintro D r Z H1 ⟨hD,sm,hDl,rfl,_⟩;rw[el,aax] at hDl;exact k D _ sm hD hDl
def iI (K:aab):Sp:=λ vs H Q _=>∃ (x:V) (net:Net) (fo:Option Nat) (n:Nat),vs=[x,bJ fo,.int (n:Int)]/\Is K H (fB net) x/\NetOk net/\NetFull net/\(∀ j,fo=some j->j < net.vs.length)/\n<=100000/\
 ∀ p2 tvs H',aF H H'->bB K H' p2 tvs->IsL K H' ((kS (aN net fo) (eX (aN net fo)) n).map oD) tvs->Q (.ref p2) H'
theorem fG:FnScope ["net","case","ticks","going","moment","tipped"] ["net","case","ticks"] (aP (bM 26)):={}
theorem kE {f f1 f2 f3:Addr}{fd fd1 fd2 fd3:FuncData} (F:Fun K "tipped_in_case" "tipped_in_case" (bM 26) f fd) (T:Txt mg) (G_stuck_net:Callee P w K mg base "stuck_net" ["net","vessel"] 2 (jD K) f1 fd1)
  (G_moment_gone:Callee P w K mg base "moment_gone" ["net","moment","many"] 6 (lY K) f2 fd2) (G_first_moment:Callee P w K mg base "first_moment" ["net"] 2 (gB K) f3 fd3) :
  FnOk P w K mg base gX 7 f fd ["net","case","ticks"] (iI K):=by
 refine F.ok fG (λ vs H Q E h=>?_) (λ cdv A outer s H vs Q E hr h=>?_)
 ·obtain⟨x,net,fo,n,rfl,_⟩:=h;rfl
 ·obtain⟨x,net,fo,n,rfl,hx,nok,nfu,hfo,hn,k⟩:=h;have sc:=fG;refine⟨_,(aD (pL 3 sc.nd (yM (bQ yR (pv 1) fM (cD _)) (pv 0) (dB G_stuck_net hr (aA (pv 0) (aA (pv 1) aC)))))
   (aD (bY (dB G_moment_gone hr (aA (pv 3) (aA (dB G_first_moment hr (aA (pv 3) aC)) (aA (pv 2) aC)))) (aX (K:=K) (n:=2) rfl rfl (aE (gL 4 sc.nd) (aE (gL 5 sc.nd) aW))))
   (aK (bE (pv 5))))),?_⟩
  have nok':=jR nok nfu fo;have rest:∀ g H1,aF H H1->Is K H1 (fB (aN net fo)) g->iZ (h7 (lJ (lY K) [] E0 (cU (cN 3) (cU (lJ (gB K) [] E0 (cU (cN 3) gZ)) (cU (cN 2) gZ)))) (EO K 2 (A2 (cX 4) (A2 (cX 5) GL)))) (AX (cN 5)) { nx:=λ _ H'=>Q .non H',rt:=Q } [some x,some (bJ fo),some (.int (n:Int)),some g,none,none] H1:=by
   intro g H1 s1 hg;refine⟨_,rfl,_,rfl,g,_,rfl,hg,nok',λ m H2 s2 im=>⟨_,rfl,g,.ref m,_,_,n,rfl,Is.mono s2.ts _ _ hg,im,nok',BS _,hn,λ p p1 p2 tvs H3 s3 qp _ qt lt=>?_⟩⟩;refine⟨p,_,rfl,qp,rfl,_,_,rfl,_,_,rfl,rfl,?_⟩;exact⟨_,rfl,k p2 tvs _ ((s1.trans s2).trans s3) qt lt⟩
  refine⟨_,rfl,rfl,_,rfl,?_⟩;cases fo with
  | none=>
   refine lC ?_;exact⟨_,rfl,rest x H (aF.refl H) (by rw[rD];exact hx)⟩
  | some j=>
   refine j4 ?_;exact⟨_,rfl,_,rfl,x,net,j,rfl,hx,nok,hfo j rfl,λ p H1 s1 ip=>rest p H1 s1 ip⟩
def mY (K:aab) (cV:Addr):Sp:=λ vs H Q E=>∃ (x:V) (net:Net) (v:Int) (n:Nat) (sl:Addr) (seen:List Int),vs=[x,.int v,.int (n:Int),.ref sl]/\Is K H (fB net) x/\NetOk net/\NetFull net/\n<=100000/\H sl=some (.lst (seen.map V.int))/\
 ((∃ j:Nat,v=(j:Int)/\j < net.vs.length/\∀ l H',aF H H'->H l=none->H' l=some (.lst ((gO net n j seen (aI net)).map bJ))->Q (.ref l) H')\/(¬ (0<=v/\v < net.vs.length)/\E (.ref cV) none H))
theorem rF:FnScope ["net","watched","ticks","seen","told"] ["net","watched","ticks","seen"] (aP (bM 24)):={}
theorem wN {f f1 f2 f3:Addr}{fd fd1 fd2 fd3:FuncData} (F:Fun K "cases" "cases" (bM 24) f fd) (T:Txt mg) (G_need_vessel:CalleeR P w K mg base "need_vessel" ["net","number"] 2 (pK K c_NoVessel) f1 fd1)
  (G_tips_of:Callee P w K mg base "tips_of" ["vessel","tipped"] 1 (jT K) f2 fd2) (G_tipped_in_case:Callee P w K mg base "tipped_in_case" ["net","case","ticks"] 7 (iI K) f3 fd3) :
  FnOk P w K mg base (AR P w) 8 f fd ["net","watched","ticks","seen"] (mY K c_NoVessel):=by
 refine F.okR rF (λ vs H Q E h=>?_) (λ cdv A outer s H vs Q E hr h L=>?_)
 ·obtain⟨x,net,v,n,sl,seen,rfl,_⟩:=h;rfl
 ·obtain⟨x,net,v,n,sl,seen,rfl,hx,nok,nfu,hn,hsl,k⟩:=h;have sc:=rF;refine⟨_,(aD (cG (pT G_need_vessel.ok (hr.mono (by decide)) rfl G_need_vessel.mg G_need_vessel.kp G_need_vessel.bd .nil (BH L) (aA (pv 0) (aA (pv 1) aC))))
   (aD (pL 4 sc.nd (aT pV (bD (aA fM aC)) (pS rfl rfl T.b_list rfl T.b_range (oT K T.b_len (px K (pv 0) aG)))))
   (aK (BB λ pn=>(bE (eW (λ _ _ h=>h) rfl (LcOk.mk (N':=["case","seen","watched","net","ticks"]) (fr:=[none,some 3,some 1,some 0,some 2]) rfl ⟨rfl,rfl,rfl,rfl,trivial⟩ rfl rfl rfl rfl rfl ⟨⟨_,rfl,rfl,rfl,rfl⟩,⟨_,rfl,rfl,rfl,rfl⟩,⟨_,rfl,rfl,rfl,rfl⟩,⟨_,rfl,rfl,rfl,rfl⟩,trivial⟩) (dH (K:=K) rfl (pv 4)) (λ _ _ _=>(gC 0 ["case","seen","watched","net","ticks"])) (λ _ _ _=>iL (bQ (BM (K:=K) rfl hr.units) (dB G_tips_of hr (aA (pv 2) (aA (dB G_tipped_in_case hr (aA (pv 3) (aA (pv 0) (aA (pv 4) aC)))) aC))) (pv 1) (cD _))) (λ _ _ _=>(pv 0)))))))),?_⟩
  have n2:=nok.hi;refine⟨_,rfl,_,rfl,x,net,v,rfl,hx,?_⟩;rcases k with ⟨j,rfl,hj,k⟩ | ⟨hv,k⟩;rotate_left
  ·exact .inr ⟨hv,k⟩
  refine .inl ⟨by omega,by omega,?_⟩;obtain⟨a,b,c,xs,ys,ex,q,q1,l1,q2,l2⟩:=dL hx;have exl:xs.length=net.vs.length:=by rw[l1.length,aad]
  refine⟨(show 1<=sizeLine by decide),λ e he=>?_⟩;have s1:=aF.new (o:=HO.lst [.non]) he;refine⟨_,rfl,.inr (.inl ⟨a,_,0,_,ex,rfl,s1.tup q,rfl,b,xs,rfl,.inr (s1.tup q1),net.vs.length,by rw[exl],by omega,λ l hl=>?_⟩)⟩;have s2:=aF.new (o:=HO.lst ((List.range net.vs.length).map λ (i:Nat)=>V.int (i:Int))) hl;have e1:upd (upd H e (.lst [.non])) l (.lst ((List.range net.vs.length).map λ (i:Nat)=>V.int (i:Int))) e=some (.lst [.non]):=s2 _ _ aB;refine⟨e,l,_,_,rfl,rfl,e1,aB,acl (aM (by simp;omega)),λ t ht=>?_⟩;have s3:=aF.new (o:=HO.lst ([V.non]++(List.range net.vs.length).map λ (i:Nat)=>V.int (i:Int))) ht;have et:([V.non]++(List.range net.vs.length).map λ (i:Nat)=>V.int (i:Int))=(aI net).map bJ:=by
   unfold aI;rw[aap,acb];rfl
  rw[et] at s3 ⊢;have ht2:upd (upd (upd H e (.lst [.non])) l (.lst ((List.range net.vs.length).map λ (i:Nat)=>V.int (i:Int)))) t (.lst ((aI net).map bJ)) t=some (.lst ((aI net).map bJ)):=aB;have s03:=(s1.trans s2).trans s3;generalize upd (upd (upd H e (.lst [.non])) l (.lst ((List.range net.vs.length).map λ (i:Nat)=>V.int (i:Int)))) t (.lst ((aI net).map bJ))=H3 at s03 ht2;have hlen:(aI net).length<=13:=by unfold aI;simp;omega
  refine⟨_,rfl,t,rfl,⟨_,bF.of ht2⟩,gJ (K:=K) (a:=t) (xs:=(aI net).map bJ) (λ D i r Z H'=>H3 D=none/\aF H3 H'/\H' D=some (.lst r)/\r=(gO net n j seen ((aI net).take i)).map bJ/\∃ u,Z=[u,some (.ref sl),some (.int (j:Int)),some x,some (.int (n:Int))])
   (λ D i r Z H' p=>bF.of (p.2.1 _ _ ht2)) (λ D hD=>⟨hD,aF.new hD,aB,rfl,none,rfl⟩) ?_ ?_⟩
  rotate_left
  ·rintro D i y r Z H4 hy ⟨hD,sm,hDl,rfl,u,rfl⟩;rw[aag] at hy;obtain⟨fo,hfo,rfl⟩:=aaq.mp hy;have hfo':∀ j,fo=some j->j < net.vs.length:=by
    intro j' e';subst e';have:=abc hfo;unfold aI at this;rcases aay.1 this with h | h
    ·cases h
    ·obtain⟨z,hz,ez⟩:=abo.1 h;injection ez with ez;subst ez;exact abz.1 hz
   have s4:aF H H4:=s03.trans sm;dsimp only [cX];refine⟨_,rfl,_,rfl,_,rfl,_,rfl,x,net,fo,n,rfl,Is.mono s4.ts _ _ hx,nok,nfu,hfo',hn,λ p2 tvs H5 s5 qt lt=>?_⟩;have htn:=jP (m:=eX (aN net fo)) (jR nok nfu fo) n;refine⟨j,_,p2,tvs,rfl,qt,lt,by omega,λ l2 H6 s6 fl hl6=>?_⟩;rw[kR] at hl6;have s46:=s5.trans s6;have hsl6:H6 sl=some (.lst (seen.map V.int)):=s46 _ _ (s4 _ _ hsl);refine⟨_,rfl,.lst ((dM (bX (aN net fo) n j)).map G.int),.lst (seen.map G.int),by rw[gN,nY];decide,aO.l (bF.of hl6) (cM.ints _),aO.l (bF.of hsl6) (cM.ints _),_,rfl,?_⟩;rw[aS,p8];have hsn:=sJ net n j seen ((aI net).take i) fo;rw[<- aR hfo] at hsn;have hcl:=u6 net n j seen ((aI net).take i);rw[aaw] at hcl;have hDl6:=s46 _ _ hDl;refine gM (λ hT=>?_) (λ hF=>?_)
   ·rw[if_pos (abw hT)] at hsn;refine⟨_,rfl,hDl6,aM (by rw[aad];omega),hD,(sm.trans s46).put hD,aB,?_,_,rfl⟩;rw[hsn,aal];rfl
   ·rw[if_neg (λ e=>hF (abm e)),acn] at hsn;exact⟨hD,sm.trans s46,hDl6,by rw[hsn],_,rfl⟩
  ·rintro D r Z H4 ⟨hD,sm,hDl,rfl,_⟩;rw[aad,aax] at hDl;exact k D _ (s03.trans sm) (s03.free hD) hDl
end Tw
namespace TwS
open PySem
def Up (xs:Array Nat):Prop:=∀ i j a b:Nat,i < j->xs[i]? = some a->xs[j]? = some b->a < b
theorem o0 (xs:Array Nat) (h:Up xs) (j:Nat):∀ (fuel lo hi:Nat),hi<=xs.size->lo<=hi->hi - lo<=fuel->(∀ i a,i < lo->xs[i]? = some a->a < j)->(∀ i a,hi<=i->xs[i]? = some a->j<=a)->
  (∀ i a,i < SetTable.below.go xs j fuel lo hi->xs[i]? = some a->a < j)/\(∀ i a,SetTable.below.go xs j fuel lo hi<=i->xs[i]? = some a->j<=a)/\SetTable.below.go xs j fuel lo hi<=xs.size
 | 0,lo,hi,h1,h2,h3,l,r=>by
  have:lo=hi:=by omega
  subst this;show (∀ i a,i < lo->_)/\(∀ i a,lo<=i->_)/\lo<=_;exact⟨l,r,h1⟩
 | fuel+1,lo,hi,h1,h2,h3,l,r=>by
  have e0:SetTable.below.go xs j (fuel+1) lo hi=if lo < hi then (if xs.getD ((lo+hi) / 2) j < j then SetTable.below.go xs j fuel ((lo+hi) / 2+1) hi else SetTable.below.go xs j fuel lo ((lo+hi) / 2)) else lo:=rfl
  rw[e0]
  by_cases hlt:lo < hi
  ·rw[if_pos hlt];have hm:(lo+hi) / 2 < xs.size:=by omega
   have hg:xs[(lo+hi) / 2]? = some (xs.getD ((lo+hi) / 2) j):=by
    rw[aan hm,Array.getD_eq_getD_getElem?,aan hm];rfl
   by_cases hc:xs.getD ((lo+hi) / 2) j < j
   ·rw[if_pos hc];refine o0 xs h j fuel ((lo+hi) / 2+1) hi h1 (by omega) (by omega) (λ i a hi' e=>?_) r;rcases Nat.lt_or_ge i ((lo+hi) / 2) with z | z
    ·exact Nat.lt_trans (h _ _ _ _ z e hg) hc
    ·have:i=(lo+hi) / 2:=by omega
     subst this;rw[hg] at e;cases e;exact hc
   ·rw[if_neg hc];refine o0 xs h j fuel lo ((lo+hi) / 2) (by omega) (by omega) (by omega) l (λ i a hi' e=>?_);rcases Nat.lt_or_ge ((lo+hi) / 2) i with z | z
    ·exact acj (Nat.le_of_not_lt hc) (acl (h _ _ _ _ z hg e))
    ·have:i=(lo+hi) / 2:=by omega
     subst this;rw[hg] at e;cases e;exact Nat.le_of_not_lt hc
  ·rw[if_neg hlt];have:lo=hi:=by omega
   subst this;exact⟨l,r,h1⟩
theorem o4 {xs:Array Nat} (h:Up xs) (j:Nat):(∀ i a,i < SetTable.below xs j->xs[i]? = some a->a < j)/\(∀ i a,SetTable.below xs j<=i->xs[i]? = some a->j<=a)/\SetTable.below xs j<=xs.size:=
 o0 xs h j xs.size 0 xs.size (aaj _) (abn _) (by omega) (λ i a hi _=>absurd hi (acr _)) (λ i a hi e=>by
  have:=(Array.getElem?_eq_some_iff.mp e).1;omega)
theorem DE:Up #[]:=λ i j a b _ e _=>by simp at e
theorem pE {xs:Array Nat}:Up xs↔xs.toList.Pairwise (· < ·):=by
 rw[List.pairwise_iff_getElem];constructor
 ·intro h i j hi hj hij;exact h i j _ _ hij (by rw[<- abt];exact aby hi) (by rw[<- abt];exact aby hj)
 ·intro h i j a b hij e1 e2;rw[<- abt] at e1 e2;obtain⟨p1,rfl⟩:=aaf.mp e1;obtain⟨p2,rfl⟩:=aaf.mp e2;exact h i j p1 p2 hij
theorem DD {xs:Array Nat} (h:Up xs) {j:Nat} (hn:xs[SetTable.below xs j]?≠some j):Up (SetTable.insertAt xs (SetTable.below xs j) j):=by
 obtain⟨h1,h2,h3⟩:=o4 h j;rw[pE,SetTable.toList_insertAt,List.pairwise_append,List.pairwise_cons];have hl:=pE.1 h;refine⟨hl.take,⟨λ a ha=>?_,hl.drop⟩,λ a ha b hb=>?_⟩
 ·obtain⟨i,hi⟩:=abu.1 ha;rw[List.getElem?_drop,abt] at hi;have le:=h2 _ _ (Nat.le_add_right _ _) hi;rcases Nat.lt_or_ge j a with z | z
  ·exact z
  ·have ej:j=a:=by omega
   subst ej;rcases Nat.eq_zero_or_pos i with e0 | e0
   ·subst e0;exact absurd hi hn
   ·have hlt:SetTable.below xs j < xs.size:=by
     have:=(Array.getElem?_eq_some_iff.mp hi).1;omega
    have e2:xs[SetTable.below xs j]? = some xs[SetTable.below xs j]:=aan hlt;have l2:=h2 _ _ (aaj _) e2;have l3:=h _ _ _ _ (show SetTable.below xs j < SetTable.below xs j+i by omega) e2 hi;omega
 ·obtain⟨i,hi⟩:=abu.1 ha;rw[List.getElem?_take] at hi
  split at hi
  ·rename_i hlt
   rw[abt] at hi;have l1:=h1 _ _ hlt hi;rcases aay.1 hb with z | z
   ·subst z;exact l1
   ·obtain⟨i2,hi2⟩:=abu.1 z;rw[List.getElem?_drop,abt] at hi2;have:=h2 _ _ (Nat.le_add_right _ _) hi2;omega
  ·cases hi
structure Tidy (b:Bool) (t:SetTable):Prop where
 led:t.led=b
 up:Up t.place
 dm:t.dummies = #[]
theorem sW (b:Bool):Tidy b (.fresh 0 0 b):=⟨rfl,DE,rfl⟩
theorem rY (j:Nat):SetTable.has #[] j=false:=by
 unfold SetTable.has;simp
abbrev Pr:=SetTable.Probe
def AH (m:Nat) (p:Pr):Pr:=
 if p.more > 0 then { p with j:=p.j+1,more:=p.more - 1 } else
 { p with j:=(SetTable.leap m p.i p.perturb).1,more:=SetTable.runEnd m (SetTable.leap m p.i p.perturb).1 - (SetTable.leap m p.i p.perturb).1,i:=(SetTable.leap m p.i p.perturb).1,perturb:=(SetTable.leap m p.i p.perturb).2 }
theorem AG (t:SetTable) (p:Pr):t.advance p=AH t.mask p:=rfl
def bV (m:Nat):Nat->Pr->Pr
 | 0,p=>p
 | n+1,p=>bV m n (AH m p)
theorem cZ (m:Nat):∀ (a b:Nat) (p:Pr),bV m (a+b) p=bV m b (bV m a p)
 | 0,b,p=>by rw[Nat.zero_add];rfl
 | a+1,b,p=>by rw[Nat.succ_add];exact cZ m a b _
theorem jK (m:Nat):∀ (n:Nat) (p:Pr),(bV m n p).dummy=p.dummy
 | 0,p=>rfl
 | n+1,p=>by
  show (bV m n (AH m p)).dummy=_;rw[jK m n];unfold AH
  split <;> rfl
def rs (m i q:Nat):Pr:={ j:=i,more:=SetTable.runEnd m i - i,i,perturb:=q,dummy:=none }
theorem iB (m i q:Nat):∀ k,k<=SetTable.runEnd m i - i->bV m k (rs m i q)={ j:=i+k,more:=SetTable.runEnd m i - i - k,i,perturb:=q,dummy:=none }
 | 0,_=>rfl
 | k+1,h=>by
  rw[cZ m k 1,iB m i q k (by omega)];show AH m _=_;unfold AH;rw[if_pos (by show SetTable.runEnd m i - i - k > 0;omega)];simp only [Nat.add_assoc,Nat.sub_sub]
theorem B7 (m i:Nat):SetTable.runEnd m i - i<=9:=by unfold SetTable.runEnd;split <;> omega
theorem pO {m i k:Nat} (hi:i<=m) (hk:k<=SetTable.runEnd m i - i):i+k<=m:=by unfold SetTable.runEnd at hk;split at hk <;> omega
def lp (m:Nat) (x:Nat×Nat):Nat×Nat:=SetTable.leap m x.1 x.2
theorem kC (m i q:Nat):bV m (SetTable.runEnd m i - i+1) (rs m i q)=rs m (lp m (i,q)).1 (lp m (i,q)).2:=by
 rw[cZ m _ 1,iB m i q _ (aaj _)];show AH m _=_;unfold AH;rw[if_neg (by show ¬ SetTable.runEnd m i - i - (SetTable.runEnd m i - i) > 0;omega)];rfl
def rR (m:Nat):Nat->Nat×Nat->Nat×Nat
 | 0,x=>x
 | n+1,x=>rR m n (lp m x)
theorem vA (m:Nat):∀ (a b:Nat) (x:Nat×Nat),rR m (a+b) x=rR m b (rR m a x)
 | 0,b,p=>by rw[Nat.zero_add];rfl
 | a+1,b,p=>by rw[Nat.succ_add];exact vA m a b _
theorem zC (m:Nat) (x:Nat×Nat):(lp m x).1<=m:=Nat.le_of_lt_succ (Nat.mod_lt _ (Nat.succ_pos m))
theorem zD (m:Nat):∀ (n:Nat) (x:Nat×Nat),x.1<=m->(rR m n x).1<=m
 | 0,_,h=>h
 | n+1,x,_=>zD m n _ (zC m x)
theorem D1 (m:Nat):∀ (L i q:Nat),∃ n,n<=10 * L/\bV m n (rs m i q)=rs m (rR m L (i,q)).1 (rR m L (i,q)).2
 | 0,i,q=>⟨0,aaj _,rfl⟩
 | L+1,i,q=>by
  obtain⟨n,hn,e⟩:=D1 m L (lp m (i,q)).1 (lp m (i,q)).2;refine⟨SetTable.runEnd m i - i+1+n,by have:=B7 m i;omega,?_⟩;rw[cZ,kC,e];rfl
theorem rQ (m:Nat):∀ (n:Nat) (x:Nat×Nat),(rR m n x).2=x.2 / 32 ^ n
 | 0,x=>by show x.2=x.2 / 1;rw[Nat.div_one]
 | n+1,x=>by
  show (rR m n (lp m x)).2=_;rw[rQ m n];show x.2 / 32 / 32 ^ n=_;rw[Nat.div_div_eq_div_mul,Nat.pow_succ,Nat.mul_comm 32]
def GQ (m:Nat):Nat->Nat->Nat
 | 0,i=>i
 | n+1,i=>GQ m n ((i * 5+1) % (m+1))
theorem uZ (m:Nat):∀ (n i:Nat),rR m n (i,0)=(GQ m n i,0)
 | 0,i=>rfl
 | n+1,i=>by
  show rR m n (lp m (i,0))=_;have:lp m (i,0)=((i * 5+1) % (m+1),0):=by unfold lp SetTable.leap;simp
  rw[this,uZ m n];rfl
def Mk (m:Nat):Prop:=m=7\/m=31
theorem all7:∀ i,i < 8->∀ j,j < 8->∃ r,r < 8/\GQ 7 r i=j:=by decide +kernel
theorem GR:∀ i,i < 32->∀ j,j < 32->∃ r,r < 32/\GQ 31 r i=j:=by decide +kernel
theorem met {m:Nat} (hm:Mk m) {i q j:Nat} (hi:i<=m) (hq:q < 2 ^ 64) (hj:j<=m):∃ L,L < m+15/\(rR m L (i,q)).1=j:=by
 have h0:(rR m 13 (i,q)).2=0:=by
  rw[rQ];exact Nat.div_eq_of_lt (aas hq (by decide))
 have h1:=zD m 13 (i,q) hi;have hr:∃ r,r < m+1/\GQ m r (rR m 13 (i,q)).1=j:=by
  rcases hm with rfl | rfl
  ·exact all7 _ (by omega) _ (by omega)
  ·exact GR _ (by omega) _ (by omega)
 obtain⟨r,hr,e⟩:=hr;refine⟨13+r,by omega,?_⟩;rw[vA];have e2:rR m 13 (i,q)=((rR m 13 (i,q)).1,0):=by rw[<- h0]
 rw[e2,uZ];exact e
theorem vR (h:Int):SetTable.bits h < 2 ^ 64:=by unfold SetTable.bits;omega
def lS (m:Nat) (h:Int):Pr:=rs m (SetTable.bits h % (m+1)) (SetTable.bits h)
theorem B0 {m:Nat} (hm:Mk m) (h:Int) {j:Nat} (hj:j<=m):∃ n,n < 10 * (m+15)/\(bV m n (lS m h)).j=j:=by
 obtain⟨L,hL,e⟩:=met hm (i:=SetTable.bits h % (m+1)) (Nat.le_of_lt_succ (Nat.mod_lt _ (Nat.succ_pos m))) (vR h) hj;obtain⟨n,hn,en⟩:=D1 m L (SetTable.bits h % (m+1)) (SetTable.bits h);exact⟨n,by omega,by unfold lS;rw[en];exact e⟩
theorem CG {m:Nat}{i q n:Nat} (hi:i<=m):(bV m n (rs m i q)).j<=m:=by
 induction n using Nat.strongRecOn generalizing i q with
 | ind n ih=>
  rcases Nat.lt_or_ge (SetTable.runEnd m i - i) n with z | z
  ·obtain⟨d,rfl⟩:∃ d,n=(SetTable.runEnd m i - i+1)+d:=⟨n - (SetTable.runEnd m i - i+1),by omega⟩;rw[cZ,kC];exact ih d (by omega) (zC m _)
  ·rw[iB m i q n z];exact pO hi z
theorem DQ {m:Nat} (h:Int) (n:Nat):(bV m n (lS m h)).j<=m:=CG (Nat.le_of_lt_succ (Nat.mod_lt _ (Nat.succ_pos m)))
theorem least {p:Nat->Prop}:∀ n,p n->∃ N,N<=n/\p N/\∀ k,k < N->¬ p k:=by
 intro n
 induction n using Nat.strongRecOn with
 | ind n ih=>
  intro hp
  by_cases h:∃ k,k < n/\p k
  ·obtain⟨k,hk,pk⟩:=h;obtain⟨N,hN,r⟩:=ih k hk pk;exact⟨N,by omega,r⟩
  ·exact⟨n,aaj _,hp,λ k hk pk=>h ⟨k,hk,pk⟩⟩
theorem yW {m:Nat}{pl:List Nat} (hl:pl.length<=m):∃ j,j<=m/\j∉pl:=by
 by_cases h:∃ j,j<=m/\j∉pl
 ·exact h
 ·exfalso;have hs:List.range (m+1) ⊆ pl:=λ j hj=>by
   have:=abz.1 hj
   by_cases z:j∈pl
   ·exact z
   ·exact absurd ⟨j,by omega,z⟩ h
  have:=(List.nodup_range (n:=m+1)).length_le_of_subset hs;rw[acg] at this;omega
def At (m:Nat) (pl:List Nat) (q:Nat) (h:Int):Prop:=∃ n,(bV m n (lS m h)).j=q/\∀ k,k < n->(bV m k (lS m h)).j∈pl
theorem At.mono {m:Nat}{pl pl':List Nat}{q:Nat}{h:Int} (x:At m pl q h) (s:∀ j∈pl,j∈pl'):At m pl' q h:=by
 obtain⟨n,e,f⟩:=x;exact⟨n,e,λ k hk=>s _ (f k hk)⟩
theorem tZ {m:Nat} (hm:Mk m) (h:Int) {pl:List Nat} (hl:pl.length<=m):∃ N,N < 10 * (m+15)/\(bV m N (lS m h)).j∉pl/\∀ k,k < N->(bV m k (lS m h)).j∈pl:=by
 obtain⟨j,hj,hn⟩:=yW hl;obtain⟨n,hn1,e⟩:=B0 hm h hj;obtain⟨N,h1,h2,h3⟩:=least (p:=λ n=>(bV m n (lS m h)).j∉pl) n (by rw[e];exact hn);refine⟨N,by omega,h2,λ k hk=>?_⟩
 by_cases z:(bV m k (lS m h)).j∈pl
 ·exact z
 ·exact absurd z (h3 k hk)
structure Good (b:Bool) (t:SetTable) (hs:List Int):Prop where
 td:Tidy b t
 mm:Mk t.mask
 len:t.place.size=hs.length
 le:∀ q∈t.place.toList,q<=t.mask
 at_:∀ x∈t.place.toList.zip hs,At t.mask t.place.toList x.1 x.2
theorem tV (b:Bool):Good b (.fresh 0 0 b) []:=⟨sW b,.inl rfl,rfl,λ q hq=>by simp [SetTable.fresh] at hq,λ x hx=>by simp [SetTable.fresh] at hx⟩
theorem wE {t:SetTable}{j i:Nat} (h:t.slot j=.live i):t.place[i]? = some j:=by
 unfold SetTable.slot at h;dsimp only at h
 split at h
 ·rename_i z
  injection h with h;subst h;exact (beq_iff_eq).1 z
 ·split at h <;> cases h
theorem uM {b:Bool}{t:SetTable} (h:Tidy b t) (j:Nat):(t.slot j=.empty/\j∉t.place.toList)\/∃ i,t.slot j=.live i/\t.place[i]? = some j:=by
 by_cases z:t.place[SetTable.below t.place j]? = some j
 ·refine .inr ⟨SetTable.below t.place j,?_,z⟩;unfold SetTable.slot;dsimp only;rw[if_pos (beq_iff_eq.2 z)]
 ·refine .inl ⟨?_,λ hm=>z ?_⟩
  ·unfold SetTable.slot;dsimp only;rw[if_neg (λ y=>z (beq_iff_eq.1 y)),h.dm,rY];rfl
  ·obtain⟨i,hi⟩:=abu.1 hm;rw[abt] at hi;obtain⟨h1,h2,h3⟩:=o4 h.up j;have hb:SetTable.below t.place j<=i:=by
    rcases Nat.lt_or_ge i (SetTable.below t.place j) with y | y
    ·have:=h1 i j y hi;omega
    ·exact y
   have hlt:SetTable.below t.place j < t.place.size:=by have:=(Array.getElem?_eq_some_iff.mp hi).1;omega
   have e2:t.place[SetTable.below t.place j]? = some t.place[SetTable.below t.place j]:=aan hlt;have l2:=h2 _ _ (aaj _) e2;rcases Nat.lt_or_ge (SetTable.below t.place j) i with y | y
   ·have:=h.up _ _ _ _ y e2 hi;omega
   ·have:SetTable.below t.place j=i:=by omega
    rw[this];exact hi
theorem tG {b:Bool}{t:SetTable} (h:Tidy b t) {j:Nat} (hj:j∉t.place.toList):t.slot j=.empty:=by
 rcases uM h j with ⟨e,_⟩ | ⟨i,_,e⟩
 ·exact e
 ·exact absurd (abu.2 ⟨i,by rw[abt];exact e⟩) hj
theorem qH {b:Bool}{t:SetTable} (h:Tidy b t) (ha:Nat->Int) (hh:Int):∀ (N fuel:Nat) (p:Pr),p.dummy=none->(bV t.mask N p).j∉t.place.toList->(∀ k,k < N->(bV t.mask k p).j∈t.place.toList)->N < fuel->
  (SetTable.probe.go t ha hh fuel p=some (.empty (bV t.mask N p).j none)/\∀ k,k < N->∀ i,t.place[i]? = some (bV t.mask k p).j->ha i≠hh)\/
  ∃ k i,k < N/\t.slot (bV t.mask k p).j=.live i/\ha i=hh/\SetTable.probe.go t ha hh fuel p=some (.candidate (bV t.mask k p).j i (bV t.mask (k+1) p))/\∀ k',k' < k->∀ i,t.place[i]? = some (bV t.mask k' p).j->ha i≠hh
 | 0,fuel+1,p,hd,he,_,_=>by
  refine .inl ⟨?_,λ k hk=>absurd hk (acr _)⟩;unfold SetTable.probe.go;rw[tG h (show p.j∉_ from he)];dsimp only;rw[hd];rfl
 | N+1,fuel+1,p,hd,he,hf,hN=>by
  have h0:=hf 0 (Nat.succ_pos _);rcases uM h p.j with ⟨_,z⟩ | ⟨i,e,pi⟩
  ·exact absurd h0 z
  have uniq:∀ i',t.place[i']? = some p.j->i'=i:=λ i' e'=>by
   rcases Nat.lt_trichotomy i' i with y | y | y
   ·have:=h.up _ _ _ _ y e' pi;omega
   ·exact y
   ·have:=h.up _ _ _ _ y pi e';omega
  by_cases c:ha i=hh
  ·refine .inr ⟨0,i,Nat.succ_pos _,e,c,?_,λ k' hk=>absurd hk (acr _)⟩;unfold SetTable.probe.go;rw[e];dsimp only;rw[if_pos (beq_iff_eq.2 c),AG];rfl
  ·have hd':(AH t.mask p).dummy=none:=by rw[<- hd];exact jK t.mask 1 p
   have eq:SetTable.probe.go t ha hh (fuel+1) p=SetTable.probe.go t ha hh fuel (AH t.mask p):=by
    conv=>lhs;unfold SetTable.probe.go
    rw[e];dsimp only;rw[if_neg (λ z=>c (beq_iff_eq.1 z)),AG]
   rw[eq];rcases qH h ha hh N fuel (AH t.mask p) hd' he (λ k hk=>hf (k+1) (by omega)) (by omega) with ⟨g,f⟩ | ⟨k,i',hk,g1,g2,g3,f⟩
   ·refine .inl ⟨g,λ k hk i' e'=>?_⟩;cases k with
    | zero=>rw[uniq i' e'];exact c
    | succ k=>exact f k (by omega) i' e'
   ·refine .inr ⟨k+1,i',by omega,g1,g2,g3,λ k' hk' i' e'=>?_⟩;cases k' with
    | zero=>rw[uniq i' e'];exact c
    | succ k'=>exact f k' (by omega) i' e'
theorem AS {ap dw:Type} (a:List ap) (b:List dw) (p:Nat) (x:ap) (y:dw) (hl:a.length=b.length) (hp:p<=a.length):∀ z∈(a.take p++x::a.drop p).zip (b.take p++y::b.drop p),z=(x,y)\/z∈a.zip b:=by
 intro z hz;rw[List.zip_append (by rw[aaw,aaw,hl]),List.zip_cons_cons] at hz;have e:a.zip b=(a.take p).zip (b.take p)++(a.drop p).zip (b.drop p):=by
  rw[<- List.zip_append (by rw[aaw,aaw,hl]),List.take_append_drop,List.take_append_drop]
 rw[e];rcases aci.1 hz with h | h
 ·exact .inr (aco _ h)
 ·rcases aay.1 h with h | h
  ·exact .inl h
  ·exact .inr (aat _ h)
theorem zV {b:Bool}{t:SetTable}{hs:List Int} (g:Good b t hs) {h:Int}{N:Nat} (h1:(bV t.mask N (lS t.mask h)).j∉t.place.toList) (h2:∀ k,k < N->(bV t.mask k (lS t.mask h)).j∈t.place.toList) :
  Good b (t.put (bV t.mask N (lS t.mask h)).j).1 (hs.take (t.put (bV t.mask N (lS t.mask h)).j).2++h::hs.drop (t.put (bV t.mask N (lS t.mask h)).j).2):=by
 have hj:=DQ (m:=t.mask) h N;have eN:(bV t.mask N (lS t.mask h)).j=(bV t.mask N (lS t.mask h)).j:=rfl;generalize hJ:(bV t.mask N (lS t.mask h)).j=j at h1 hj ⊢;have hb:=o4 g.td.up j;have hn:t.place[SetTable.below t.place j]?≠some j:=λ z=>h1 (abu.2 ⟨_,by rw[abt];exact z⟩);have epl:(SetTable.insertAt t.place (SetTable.below t.place j) j).toList=t.place.toList.take (SetTable.below t.place j)++j::t.place.toList.drop (SetTable.below t.place j):=SetTable.toList_insertAt _ _ _;have sub:∀ q∈t.place.toList,q∈(SetTable.insertAt t.place (SetTable.below t.place j) j).toList:=λ q hq=>by
  rw[epl];rw[<- List.take_append_drop (SetTable.below t.place j) t.place.toList] at hq;rcases aci.1 hq with z | z
  ·exact aco _ z
  ·exact aat _ (aau _ z)
 have back:∀ q∈(SetTable.insertAt t.place (SetTable.below t.place j) j).toList,q=j\/q∈t.place.toList:=λ q hq=>by
  rw[epl] at hq;rcases aci.1 hq with z | z
  ·exact .inr (List.mem_of_mem_take z)
  ·rcases aay.1 z with z | z
   ·exact .inl z
   ·exact .inr (List.mem_of_mem_drop z)
 refine⟨⟨g.td.led,DD g.td.up hn,?_⟩,g.mm,?_,λ q hq=>?_,λ x hx=>?_⟩
 ·show (if SetTable.has t.dummies _ then _ else t.dummies) = #[];rw[g.td.dm,rY];rfl
 ·show (SetTable.insertAt t.place (SetTable.below t.place j) j).size=_;rw[<- aar,epl,aao,aba,aao,aba,aaw,aaw,List.length_drop,List.length_drop,aar,g.len];rfl
 ·rcases back q hq with rfl | z
  ·exact hj
  ·exact g.le q z
 ·have hx':x∈(t.place.toList.take (SetTable.below t.place j)++j::t.place.toList.drop (SetTable.below t.place j)).zip (hs.take (SetTable.below t.place j)++h::hs.drop (SetTable.below t.place j)):=by rw[<- epl];exact hx
  rcases AS _ _ _ _ _ (by rw[aar];exact g.len) (by rw[aar];exact hb.2.2) x hx' with rfl | z
  ·exact⟨N,hJ,λ k hk=>sub _ (h2 k hk)⟩
  ·exact (g.at_ x z).mono sub
theorem CB {m:Nat}{ow:Array (Option Nat)} (hz:ow.size=m+1):∀ (L fuel i q:Nat),i<=m->L < fuel->ow[(rR m L (i,q)).1]? = some none->
  ∃ j n,SetTable.layClean.free m ow fuel i q=some j/\(bV m n (rs m i q)).j=j/\ow[j]? = some none/\∀ k,k < n->∃ v,ow[(bV m k (rs m i q)).j]? = some (some v):=by
 intro L
 induction L with
 | zero=>
  intro fuel i q hi hL he;obtain⟨fuel,rfl⟩:∃ f,fuel=f+1:=⟨fuel - 1,by omega⟩;unfold SetTable.layClean.free;cases hf:(List.range (SetTable.runEnd m i+1 - i)).find? λ k=>(ow.getD (i+k) (some 0)).isNone with
  | none=>
   exfalso;have:=List.find?_eq_none.1 hf 0 (abz.2 (by unfold SetTable.runEnd;split <;> omega));apply this;show (ow.getD i (some 0)).isNone=true;rw[Array.getD_eq_getD_getElem?,show ow[i]? = some none from he];rfl
  | some k=>
   dsimp only;have hk:=List.find?_some hf;have hm:=List.mem_of_find?_eq_some hf;have hk2:k<=SetTable.runEnd m i - i:=by have:=abz.1 hm;omega
   have hb:=pO hi hk2;refine⟨i+k,k,rfl,by rw[iB m i q k hk2],?_,λ k' hk'=>?_⟩
   ·rw[Array.getD_eq_getD_getElem?,aan (by omega)] at hk;rw[aan (by omega)];exact congrArg some (Option.isNone_iff_eq_none.1 hk)
   ·rw[iB m i q k' (by omega)];have hn:=(List.find?_range_eq_some.1 hf).2.2 k' hk';dsimp only at hn ⊢;rw[Array.getD_eq_getD_getElem?,aan (by omega)] at hn;rw[aan (by omega)];generalize ow[i+k']=z at hn ⊢;cases z with
    | none=>simp at hn
    | some v=>exact⟨v,rfl⟩
 | succ L ih=>
  intro fuel i q hi hL he;obtain⟨fuel,rfl⟩:∃ f,fuel=f+1:=⟨fuel - 1,by omega⟩;unfold SetTable.layClean.free;cases hf:(List.range (SetTable.runEnd m i+1 - i)).find? λ k=>(ow.getD (i+k) (some 0)).isNone with
  | none=>
   dsimp only;obtain⟨j,n,e1,e2,e3,e4⟩:=ih fuel (lp m (i,q)).1 (lp m (i,q)).2 (zC m _) (by omega) he;refine⟨j,SetTable.runEnd m i - i+1+n,e1,by rw[cZ,kC,e2],e3,λ k hk=>?_⟩;rcases Nat.lt_or_ge (SetTable.runEnd m i - i) k with z | z
   ·obtain⟨d,rfl⟩:∃ d,k=(SetTable.runEnd m i - i+1)+d:=⟨k - (SetTable.runEnd m i - i+1),by omega⟩;rw[cZ,kC];exact e4 d (by omega)
   ·rw[iB m i q k z];have hb:=pO hi z;have hre:i<=SetTable.runEnd m i:=by unfold SetTable.runEnd;split <;> omega
    have hn:=List.find?_eq_none.1 hf k (abz.2 (by omega));dsimp only at hn ⊢;rw[Array.getD_eq_getD_getElem?,aan (by omega)] at hn;rw[aan (by omega)];generalize ow[i+k]=z at hn ⊢;cases z with
    | none=>simp at hn
    | some v=>exact⟨v,rfl⟩
  | some k=>
   dsimp only;have hk:=List.find?_some hf;have hm:=List.mem_of_find?_eq_some hf;have hk2:k<=SetTable.runEnd m i - i:=by have:=abz.1 hm;omega
   have hb:=pO hi hk2;refine⟨i+k,k,rfl,by rw[iB m i q k hk2],?_,λ k' hk'=>?_⟩
   ·rw[Array.getD_eq_getD_getElem?,aan (by omega)] at hk;rw[aan (by omega)];exact congrArg some (Option.isNone_iff_eq_none.1 hk)
   ·rw[iB m i q k' (by omega)];have hn:=(List.find?_range_eq_some.1 hf).2.2 k' hk';dsimp only at hn ⊢;rw[Array.getD_eq_getD_getElem?,aan (by omega)] at hn;rw[aan (by omega)];generalize ow[i+k']=z at hn ⊢;cases z with
    | none=>simp at hn
    | some v=>exact⟨v,rfl⟩
structure Lay (m:Nat) (ow:Array (Option Nat)) (dn:List Int):Prop where
 sz:ow.size=m+1
 at_:∀ (j i:Nat),ow[j]? = some (some i)->∃ h,dn[i]? = some h/\∃ n,(bV m n (lS m h)).j=j/\∀ k,k < n->∃ v,ow[(bV m k (lS m h)).j]? = some (some v)
 all:∀ i,i < dn.length->∃ j:Nat,ow[j]? = some (some i)
 one:∀ (j j' i:Nat),ow[j]? = some (some i)->ow[j']? = some (some i)->j=j'
theorem GF (m:Nat):Lay m (Array.replicate (m+1) none) []:=by
 refine⟨by simp,λ j i h=>?_,λ i hi=>absurd hi (acr _),λ j j' i h=>?_⟩
 all_goals
  rw[Array.getElem?_replicate] at h
  split at h <;> cases h
theorem zE {m:Nat}{ow:Array (Option Nat)}{dn:List Int} (l:Lay m ow dn) (hl:dn.length<=m):∃ j,j<=m/\ow[j]? = some none:=by
 by_cases h:∃ j,j<=m/\ow[j]? = some none
 ·exact h
 ·exfalso;have full:∀ j,j<=m->∃ i,ow[j]? = some (some i):=λ j hj=>by
   have e:ow[j]? = some ow[j]!:=by rw[aan (by have:=l.sz;omega)];simp [l.sz,Nat.lt_succ_of_le hj]
   cases z:ow[j]! with
   | none=>exact absurd ⟨j,hj,by rw[e,z]⟩ h
   | some i=>exact⟨i,by rw[e,z]⟩
  have nd:((List.range (m+1)).map λ j=>((ow.getD j none).getD 0)).Nodup:=by
   unfold List.Nodup;rw[List.pairwise_map];refine (List.pairwise_lt_range (n:=m+1)).imp_of_mem λ {a b} ha hb hab e=>?_;obtain⟨i,hi⟩:=full a (by have:=abz.1 ha;omega);obtain⟨i',hi'⟩:=full b (by have:=abz.1 hb;omega);rw[Array.getD_eq_getD_getElem?,hi,Array.getD_eq_getD_getElem?,hi'] at e;have e':i=i':=e;subst e';have:=l.one a b i hi hi';omega
  have:=nd.length_le_of_subset (l₂:=List.range dn.length) λ x hx=>by
   obtain⟨j,hj,rfl⟩:=abo.1 hx;obtain⟨i,hi⟩:=full j (by have:=abz.1 hj;omega);obtain⟨h',hh,_⟩:=l.at_ j i hi;rw[Array.getD_eq_getD_getElem?,hi];exact abz.2 (aaf.1 hh).1
  rw[aad,acg,acg] at this;omega
theorem BW {m:Nat}{ow:Array (Option Nat)}{dn:List Int} (l:Lay m ow dn) {h:Int}{j n:Nat} (e:(bV m n (lS m h)).j=j) (f:ow[j]? = some none) (t:∀ k,k < n->∃ v,ow[(bV m k (lS m h)).j]? = some (some v)) :
  Lay m (ow.setIfInBounds j (some dn.length)) (dn++[h]):=by
 have hj:j < ow.size:=(Array.getElem?_eq_some_iff.1 f).1;have keep:∀ {x v:Nat},ow[x]? = some (some v)->(ow.setIfInBounds j (some dn.length))[x]? = some (some v):=λ {x v} hx=>by
  rw[Array.getElem?_setIfInBounds,if_neg (λ z=>by rw[z,hx] at f;cases f)];exact hx
 have old:∀ {x i:Nat},(ow.setIfInBounds j (some dn.length))[x]? = some (some i)->(x=j/\i=dn.length)\/ow[x]? = some (some i):=λ {x i} hx=>by
  rw[Array.getElem?_setIfInBounds] at hx
  split at hx
  ·rename_i z
   injection hx with hx;injection hx with hx;exact .inl ⟨z.symm,hx.symm⟩
  ·exact .inr hx
 have lt:∀ {x i:Nat},ow[x]? = some (some i)->i < dn.length:=λ {x i} hx=>by
  obtain⟨h',hh,_⟩:=l.at_ x i hx;exact (aaf.1 hh).1
 refine⟨by simp [l.sz],λ x i hx=>?_,λ i hi=>?_,λ x x' i hx hx'=>?_⟩
 ·rcases old hx with ⟨rfl,rfl⟩ | z
  ·refine⟨h,by simp,n,e,λ k hk=>?_⟩;obtain⟨v,hv⟩:=t k hk;exact⟨v,keep hv⟩
  ·obtain⟨h',hh,n',e',t'⟩:=l.at_ x i z;refine⟨h',by rw[abk (lt z)];exact hh,n',e',λ k hk=>?_⟩;obtain⟨v,hv⟩:=t' k hk;exact⟨v,keep hv⟩
 ·rw[aao,abv] at hi;rcases Nat.lt_or_ge i dn.length with z | z
  ·obtain⟨x,hx⟩:=l.all i z;exact⟨x,keep hx⟩
  ·have:i=dn.length:=by omega
   subst this;exact⟨j,by rw[Array.getElem?_setIfInBounds,if_pos rfl,if_pos hj]⟩
 ·rcases old hx with ⟨rfl,rfl⟩ | z
  ·rcases old hx' with ⟨rfl,_⟩ | z'
   ·rfl
   ·have:=lt z';omega
  ·rcases old hx' with ⟨rfl,rfl⟩ | z'
   ·have:=lt z;omega
   ·exact l.one x x' i z z'
theorem rT {m:Nat} (hm:Mk m):∀ (hs:List Int) (dn:List Int) (ow:Array (Option Nat)),Lay m ow dn->dn.length+hs.length<=m+1->
  ∃ ow',hs.foldl (init:=some (ow,dn.length)) (λ acc h=>do
   let (owner,k) <- acc;let j <- SetTable.layClean.free m owner (SetTable.turns m) (SetTable.bits h % (m+1)) (SetTable.bits h)
   pure (owner.setIfInBounds j (some k),k+1))=some (ow',dn.length+hs.length)/\Lay m ow' (dn++hs)
 | [],dn,ow,l,_=>⟨ow,rfl,by rw[acn];exact l⟩
 | h::hs,dn,ow,l,hl=>by
  rw[aba] at hl;obtain⟨j0,hj0,f0⟩:=zE l (by omega);obtain⟨L,hL,eL⟩:=met hm (i:=SetTable.bits h % (m+1)) (Nat.le_of_lt_succ (Nat.mod_lt _ (Nat.succ_pos m))) (vR h) hj0;obtain⟨j,n,e1,e2,e3,e4⟩:=CB l.sz L (SetTable.turns m) (SetTable.bits h % (m+1)) (SetTable.bits h) (Nat.le_of_lt_succ (Nat.mod_lt _ (Nat.succ_pos m))) hL (by rw[eL];exact f0);have l':=BW l (h:=h) e2 e3 e4;obtain⟨ow',e5,l5⟩:=rT hm hs (dn++[h]) _ l' (by rw[aao,abv];omega);refine⟨ow',?_,by rw[acm] at l5;exact l5⟩;rw[aao,abv] at e5;rw[acy];show List.foldl _ (Option.bind (some (ow,dn.length)) _) hs=_;rw[Option.bind_some];dsimp only;rw[e1];refine e5.trans ?_;rw[aba,Nat.add_assoc,Nat.add_comm 1]
theorem BX {m:Nat} (hm:Mk m) {hs:Array Int} (hl:hs.size<=m+1):∃ ow,SetTable.layClean m hs=some ow/\Lay m ow hs.toList:=by
 obtain⟨ow,e,l⟩:=rT hm hs.toList [] _ (GF m) (by rw[List.length_nil,aar];omega);refine⟨ow,?_,by rw[List.nil_append] at l;exact l⟩;unfold SetTable.layClean;rw[<- Array.foldl_toList];exact (congrArg (Option.map (·.1)) e).trans rfl
theorem rZ {b:Bool}{t:SetTable} (td:Tidy b t) {ap:Type} (es:Array (Int×ap)) {wanted:Nat} (hm:Mk (SetTable.sizeAbove wanted - 1)) (hl:es.size<=SetTable.sizeAbove wanted - 1) :
  ∃ t' ord,t.relaid (es.map (·.1)) wanted=some (t',ord)/\(ord.filterMap (es[·]?)).toList.Perm es.toList/\Good b t' ((ord.filterMap (es[·]?)).toList.map (·.1))/\t'.mask=SetTable.sizeAbove wanted - 1:=by
 generalize hM:SetTable.sizeAbove wanted - 1=m at hm hl ⊢;obtain⟨ow,e,l⟩:=BX hm (hs:=es.map (·.1)) (by rw[Array.size_map];omega);have hlen:(es.map (·.1)).toList.length=es.size:=by simp
 generalize hlv:((List.range (m+1)).filterMap λ j=>(ow.getD j none).map (j,·))=live;have memL:∀ x:Nat×Nat,x∈live↔ow[x.1]? = some (some x.2):=λ x=>by
  rw[<- hlv,List.mem_filterMap];constructor
  ·rintro⟨j,hj,ej⟩;obtain⟨i,hi,rfl⟩:=aaq.1 ej;rw[Array.getD_eq_getD_getElem?] at hi;dsimp only;cases z:ow[j]? with
   | none=>rw[z] at hi;cases hi
   | some y=>rw[z] at hi;exact congrArg some hi
  ·intro h;have:=(Array.getElem?_eq_some_iff.1 h).1;refine⟨x.1,abz.2 (by have:=l.sz;omega),?_⟩;rw[Array.getD_eq_getD_getElem?,h];rfl
 have upL:(live.map (·.1)).Pairwise (· < ·):=by
  rw[<- hlv,List.pairwise_map,List.pairwise_filterMap];refine List.pairwise_lt_range.imp λ {a c} hac x hx y hy=>?_;obtain⟨x',_,rfl⟩:=aaq.mp hx;obtain⟨y',_,rfl⟩:=aaq.mp hy;exact hac
 have ndO:(live.map (·.2)).Nodup:=by
  unfold List.Nodup;rw[List.pairwise_map];refine (List.pairwise_map.1 upL).imp_of_mem λ {x y} hx hy hxy e=>?_;have h1:=(memL x).1 hx;have h2:=(memL y).1 hy;rw[<- e] at h2;have:=l.one _ _ _ h1 h2;omega
 have pmO:(live.map (·.2)).Perm (List.range es.size):=by
  rw[List.perm_ext_iff_of_nodup ndO List.nodup_range];intro i;rw[abo,abz];constructor
  ·rintro⟨x,hx,rfl⟩;obtain⟨h,hh,_⟩:=l.at_ _ _ ((memL x).1 hx);have:=(aaf.1 hh).1;omega
  ·intro hi;obtain⟨j,hj⟩:=l.all i (by omega);exact⟨(j,i),(memL _).2 hj,rfl⟩
 have pmE:((live.map (·.2)).filterMap (es[·]?)).Perm es.toList:=by
  have:=pmO.filterMap (es[·]?);rw[filterMap_getElem?_range] at this;exact this
 have eo:((live.map (·.2)).toArray.filterMap (es[·]?)).toList=(live.map (·.2)).filterMap (es[·]?):=by simp
 refine⟨{ mask:=m,place:=(live.map (·.1)).toArray,dummies:=#[],finger:=t.finger,led:=t.led,moves:=t.movedTo m,plain:=t.plain },(live.map (·.2)).toArray,?_,by rw[eo];exact pmE,?_,?_⟩
 ·unfold SetTable.relaid SetTable.laid;rw[hM,e,<- hlv];rfl
 ·rw[eo];have all:∀ x∈live,∃ ev,es[x.2]? = some ev:=λ x hx=>by
   obtain⟨h,hh,_⟩:=l.at_ _ _ ((memL x).1 hx);have:=(aaf.1 hh).1;exact⟨_,aan (by omega)⟩
  have zz:∀ (lv:List (Nat×Nat)),(∀ x∈lv,∃ ev,es[x.2]? = some ev)->((lv.map (·.2)).filterMap (es[·]?)).length=lv.length/\∀ z∈(lv.map (·.1)).zip (((lv.map (·.2)).filterMap (es[·]?)).map (·.1)),∃ x∈lv,z.1=x.1/\∃ ev,es[x.2]? = some ev/\ev.1=z.2:=by
   intro lv
   induction lv with
   | nil=>intro _;exact⟨rfl,λ z hz=>by simp at hz⟩
   | cons x lv ih=>
    intro ha;obtain⟨ev,he⟩:=ha x (by simp);obtain⟨i1,i2⟩:=ih λ y hy=>ha y (aau _ hy);rw[aap,List.filterMap_cons_some he,aap,aap];refine⟨by rw[aba,aba,i1],λ z hz=>?_⟩;rw[List.zip_cons_cons] at hz;rcases aay.1 hz with rfl | hz
    ·exact⟨x,by simp,rfl,ev,he,rfl⟩
    ·obtain⟨y,hy,r⟩:=i2 z hz;exact⟨y,aau _ hy,r⟩
  obtain⟨z1,z2⟩:=zz live all;refine⟨⟨td.led,pE.2 upL,rfl⟩,hm,?_,λ q hq=>?_,λ z hz=>?_⟩
  ·show (live.map (·.1)).toArray.size=_;rw[aah,aad,aad,z1]
  ·obtain⟨x,hx,rfl⟩:=abo.1 (show q∈live.map (·.1) from hq);have:=(Array.getElem?_eq_some_iff.1 ((memL x).1 hx)).1;have:=l.sz;show x.1<=m;omega
  ·obtain⟨x,hx,e1,ev,he,e2⟩:=z2 z hz;obtain⟨h,hh,n,en,tn⟩:=l.at_ _ _ ((memL x).1 hx);have eh:h=ev.1:=by
    have:(es.map (·.1)).toList[x.2]? = some ev.1:=by rw[abt,Array.getElem?_map,he];rfl
    rw[this] at hh;injection hh with hh;exact hh.symm
   subst eh;rw[e1,<- e2];refine⟨n,en,λ k hk=>?_⟩;obtain⟨v,hv⟩:=tn k hk;exact abo.2 ⟨(_,v),(memL _).2 hv,rfl⟩
 ·rfl
end TwS
namespace TwS
open PySem PySem.Spec PyProof.Rows
abbrev hT (prog:Program) (w:World) (k:List Int):Int:=tupleKeyHash (intKind prog w) k
def Ent (prog:Program) (w:World) (T:List Int->Addr->Prop) (k:List Int) (e:Int×Value):Prop:=∃ p,e=(hT prog w k,.ref p)/\T k p
structure EntL (prog:Program) (w:World) (T:List Int->Addr->Prop) (es:List (Int×Value)) (L:List (List Int)):Prop where
 len:es.length=L.length
 of:∀ e∈es,∃ k∈L,Ent prog w T k e
 has:∀ k∈L,∃ e∈es,Ent prog w T k e
theorem EntL.mono {prog:Program}{w:World}{T T':List Int->Addr->Prop}{es:List (Int×Value)}{L:List (List Int)} (x:EntL prog w T es L) (m:∀ k p,T k p->T' k p):EntL prog w T' es L:=
 ⟨x.len,λ e he=>let ⟨k,hk,p,e1,t⟩:=x.of e he;⟨k,hk,p,e1,m k p t⟩,λ k hk=>let ⟨e,he,p,e1,t⟩:=x.has k hk;⟨e,he,p,e1,m k p t⟩⟩
theorem EntL.more {prog:Program}{w:World}{T:List Int->Addr->Prop}{es es':List (Int×Value)}{L:List (List Int)}{k:List Int}{p:Addr} (x:EntL prog w T es L) (t:T k p) (pm:es'.Perm ((hT prog w k,.ref p)::es)):EntL prog w T es' (L++[k]):=by
 refine⟨by rw[pm.length_eq,aba,x.len,aao,abv],λ e he=>?_,λ k' hk=>?_⟩
 ·rcases aay.1 (pm.mem_iff.1 he) with rfl | h
  ·exact⟨k,by simp,p,rfl,t⟩
  ·obtain⟨k',hk,r⟩:=x.of e h;exact⟨k',aco _ hk,r⟩
 ·rcases aci.1 hk with h | h
  ·obtain⟨e,he,r⟩:=x.has k' h;exact⟨e,pm.mem_iff.2 (aau _ he),r⟩
  ·rw[acd] at h;subst h;exact⟨_,pm.mem_iff.2 abi,p,rfl,t⟩
section
variable {prog:Program}{b:Bool}{A:Around}{E:Value->Shared->Prop}{s:Shared}{a:Addr}{L:List (List Int)}
theorem oZ {ks:List Int}{vs:List Value} (h:ItemsAre (intKind prog w) ks vs):∀ v∈vs,∃ i t,v=.int i t:=by
 induction h with
 | nil=>intro v hv;cases hv
 | cons h1 _ ih=>
  intro v hv;rcases aay.1 hv with rfl | hv
  ·obtain⟨t,z⟩:=Value.isInt_shape h1;exact⟨_,t,z⟩
  ·exact ih v hv
theorem nJ {k:List Int}{p:Addr}{Q:Bool->Shared->Prop} (hk:IsTupleKey (intKind prog w) s.heap k p) (h:Q false s):wpAny (model prog w) A (ofAClassStatement 8 (.ref p)) Q E s:=by
 have hTy:=hk.typeIs;obtain⟨o,items,n,ho,_,hd,hi⟩:=hk;unfold ofAClassStatement;refine aaa (wpAny_typeOf hTy ?_);dsimp only;rw[if_pos (by decide)];refine aaa (aae ?_);simp only [Bool.not_true,Bool.false_eq_true,if_false];refine aaa (wpAny_seqItems ho hd ?_);dsimp only;refine aaa ?_;rw[<- Array.forIn_toList];refine wpAny_forIn_list _ (λ rest r s'=>r.1=none/\s'=s/\∀ v∈rest,∃ i t,v=.int i t) _ ?_ ?_ _ _ ⟨rfl,rfl,oZ hi⟩
 ·rintro v rest r s' ⟨hr,rfl,hall⟩;obtain⟨i,t,rfl⟩:=hall v abi;refine aaa ?_;unfold ofAClassStatement;refine aae ?_;simp only [Bool.false_eq_true,if_false];exact aae ⟨rfl,rfl,λ u hu'=>hall u (aau _ hu')⟩
 ·rintro⟨r1,r2⟩ s' ⟨hr,rfl,_⟩;simp only at hr;subst hr;exact aae h
theorem DF {k:List Int}{p:Addr} (hk:IsTupleKey (intKind prog w) s.heap k p):∀ (l:List Value),(∀ v∈l,∃ k' p',v=.ref p'/\IsTupleKey (intKind prog w) s.heap k' p')->∀ {Q:Bool->Shared->Prop},Q false s->wpAny (model prog w) A (searchCouldBeSeen (.ref p) l) Q E s:=by
 intro l hl Q h;unfold searchCouldBeSeen;refine aaa ?_;refine wpAny_forIn_list _ (λ rest r s'=>r.1=none/\s'=s/\∀ v∈rest,∃ k' p',v=.ref p'/\IsTupleKey (intKind prog w) s.heap k' p') _ ?_ ?_ _ _ ⟨rfl,rfl,hl⟩
 ·rintro v rest r s' ⟨hr,rfl,hall⟩;obtain⟨k',p',rfl,hp⟩:=hall _ abi;dsimp only
  split
  ·exact aae ⟨rfl,rfl,λ u hu'=>hall u (aau _ hu')⟩
  ·refine aaa (wpAny_eqIsQuiet_tuple hk ?_);simp only [Bool.not_true,Bool.false_eq_true,if_false];refine aaa (wpAny_eqIsQuiet_tuple hp ?_);simp only [Bool.not_true,Bool.false_eq_true,if_false];refine aaa (nJ hk ?_);simp only [Bool.false_eq_true,if_false];refine aaa (nJ hp ?_);simp only [Bool.false_eq_true,if_false];exact aae ⟨rfl,rfl,λ u hu'=>hall u (aau _ hu')⟩
 ·rintro⟨r1,r2⟩ s' ⟨hr,rfl,_⟩;simp only at hr;subst hr;exact aae h
theorem iP {t:SetTable}{hs:List Int} (g:Good b t hs) (h:hs.length<=t.mask):t.fits hs.length=true:=by
 unfold SetTable.fits SetTable.fill;rw[g.td.dm,g.len];simp [h]
theorem wG {o:Obj}{es:Array (Int×Value)}{ep:Nat}{t:SetTable}{k:List Int}{p:Addr} (hu:A.units < cLine) (g:s.heap.get? a=some o) (d:o.data=.set es ep t) (G:Good b t (es.toList.map (·.1))) (fl:es.size<=t.mask)
  (x:EntL prog w (λ k p=>IsTupleKey (intKind prog w) s.heap k p) es.toList L) (hk:IsTupleKey (intKind prog w) s.heap k p) {Q:SetFound->Shared->Prop} :
  ∀ (M N:Nat),N<=M->∀ (fuel:Nat) (stand:Option Pr) (pr:Pr),stand.getD (t.probeStart (hT prog w k))=pr->pr.dummy=none->(bV t.mask N pr).j∉t.place.toList->(∀ k',k' < N->(bV t.mask k' pr).j∈t.place.toList)->N < fuel->N < 10 * SetTable.turns t.mask->
   ((∃ k' i:Nat,∃ e,k' < N/\t.place[i]? = some (bV t.mask k' pr).j/\es[i]? = some e/\Ent prog w (λ k p=>IsTupleKey (intKind prog w) s.heap k p) k e)->Q (.there none) s)->
   ((∀ (k' i:Nat) e,k' < N->t.place[i]? = some (bV t.mask k' pr).j->es[i]? = some e->¬ Ent prog w (λ k p=>IsTupleKey (intKind prog w) s.heap k p) k e)->Q (.free (bV t.mask N pr).j false) s)->
   wpAny (model prog w) A (setSearchFrom a (.ref p) (hT prog w k) true fuel stand) Q E s:=by
 have ft:t.fits es.size=true:=by
  have:=iP G (by rw[aad,aar];exact fl);rw[aad,aar] at this;exact this
 have hsl:t.place.size=es.size:=by rw[G.len,aad,aar]
 have gw:t.gaveWay=false:=by
  unfold SetTable.gaveWay;rcases G.mm with e | e <;> rw[e] <;> rfl
 intro M
 induction M with
 | zero=>
  intro N hN fuel stand pr hp hd he hf hN1 hN2 q1 q2;obtain rfl:N=0:=by omega
  obtain⟨fuel,rfl⟩:∃ f,fuel=f+1:=⟨fuel - 1,by omega⟩;unfold setSearchFrom;refine aaa (wpAny_setState_of g d ft ?_);dsimp only;rw[gw,if_neg aai];have hpr:=qH G.td (λ i=>(es[i]?.map (·.1)).getD 0) (hT prog w k) 0 (10 * SetTable.turns t.mask) pr hd he hf hN2;rcases hpr with ⟨e1,_⟩ | ⟨k',_,hk',_⟩
  ·have e2:t.probe (λ i=>(es[i]?.map (·.1)).getD 0) (hT prog w k) (stand.getD (t.probeStart (hT prog w k)))=some (.empty (bV t.mask 0 pr).j none):=by rw[hp];exact e1
   split
   ·rename_i met hm
    have:some met=some _:=hm.symm.trans e2;injection this with this;subst this;dsimp only;exact aae (q2 λ k' i e hk=>absurd hk (acr _))
   ·rename_i hm
    exact absurd e2 (hm _)
  ·exact absurd hk' (acr _)
 | succ M ih=>
  intro N hN fuel stand pr hp hd he hf hN1 hN2 q1 q2;obtain⟨fuel,rfl⟩:∃ f,fuel=f+1:=⟨fuel - 1,by omega⟩;unfold setSearchFrom;refine aaa (wpAny_setState_of g d ft ?_);dsimp only;rw[gw,if_neg aai];have hpr:=qH G.td (λ i=>(es[i]?.map (·.1)).getD 0) (hT prog w k) N (10 * SetTable.turns t.mask) pr hd he hf hN2;have hash_at:∀ (i:Nat) e,es[i]? = some e->((es[i]?.map (·.1)).getD 0:Int)=e.1:=λ i e h=>by rw[h];rfl
  rcases hpr with ⟨e1,no⟩ | ⟨k1,i,hk1,sl,hh,e1,no⟩
  ·have e2:t.probe (λ i=>(es[i]?.map (·.1)).getD 0) (hT prog w k) (stand.getD (t.probeStart (hT prog w k)))=some (.empty (bV t.mask N pr).j none):=by rw[hp];exact e1
   split
   ·rename_i met hm
    have:some met=some _:=hm.symm.trans e2;injection this with this;subst this;dsimp only;refine aae (q2 λ k' i e hk' hi hes hent=>no k' hk' i hi ?_);obtain⟨p',rfl,_⟩:=hent;exact hash_at i _ hes
   ·rename_i hm
    exact absurd e2 (hm _)
  ·have e2:t.probe (λ i=>(es[i]?.map (·.1)).getD 0) (hT prog w k) (stand.getD (t.probeStart (hT prog w k)))=some (.candidate (bV t.mask k1 pr).j i (bV t.mask (k1+1) pr)):=by rw[hp];exact e1
   split
   rotate_left
   ·rename_i hm
    exact absurd e2 (hm _)
   rename_i met hm
   have:some met=some _:=hm.symm.trans e2;injection this with this;subst this;dsimp only;have pi:=wE sl;have hi:i < es.size:=by rw[<- hsl];exact (Array.getElem?_eq_some_iff.1 pi).1
   have hes:es[i]? = some es[i]:=aan hi;obtain⟨k2,hk2,p2,ee,hp2⟩:=x.of es[i] (by rw[<- Array.getElem_toList];exact acf _);generalize es[i]=ev at hes ee;subst ee
   by_cases cl:(!t.led)=true
   rotate_left;rw[if_neg cl];rotate_left;rw[if_pos cl];refine aaa (DF hk _ (λ v hv=>?_) ?_)
   ·obtain⟨e,he,rfl⟩:=abo.1 hv;have he':e∈es.toList:=by
     rw[Array.toList_filter] at he;exact (acv.1 he).1
    obtain⟨k3,_,p3,rfl,t3⟩:=x.of e he';exact⟨k3,p3,rfl,t3⟩
   rw[if_neg aai]
   all_goals (
    rw[hes];dsimp only;refine aaa (abr (wpAny_eqBool_tuple hu hp2 hk ?_));refine aaa (wpAny_setState_of g d ft ?_);dsimp only
    by_cases c:k2=k
    ·subst c;rw[if_pos (by rw[abm rfl];rfl)];exact aae (q1 ⟨k1,i,_,hk1,pi,hes,p2,rfl,hp2⟩)
    ·rw[abq c,if_neg (by decide)];have sm:t.sameMemory t.moves t.mask=some true:=by unfold SetTable.sameMemory;rw[if_pos (beq_self_eq_true _)]
     rw[sm];dsimp only;rw[if_pos rfl,sl];dsimp only;rw[hes];dsimp only;refine aaa (wpAny_isSame_ref_self (aaa (aae ?_)));rw[if_pos rfl];dsimp only;rw[if_neg aai];refine ih (N - (k1+1)) (by omega) fuel (some (bV t.mask (k1+1) pr)) (bV t.mask (k1+1) pr) rfl (by rw[jK];exact hd) ?_ (λ k' hk'=>?_) (by omega) (by omega) (λ ⟨k',i',e',h1,h2,h3,h4⟩=>q1 ⟨k1+1+k',i',e',by omega,?_,h3,h4⟩) λ h=>?_
     ·rw[<- cZ,show k1+1+(N - (k1+1))=N by omega];exact he
     ·rw[<- cZ];exact hf _ (by omega)
     ·rw[<- cZ] at h2;exact h2
     ·rw[<- cZ,show k1+1+(N - (k1+1))=N by omega];refine q2 λ k' i' e' h1 h2 h3 h4=>?_;rcases Nat.lt_trichotomy k' k1 with z | z | z
      ·obtain⟨p',rfl,_⟩:=h4;exact no k' z i' h2 (hash_at i' _ h3)
      ·subst z;have:i'=i:=by
        rcases Nat.lt_trichotomy i' i with y | y | y
        ·have:=G.td.up _ _ _ _ y h2 pi;omega
        ·exact y
        ·have:=G.td.up _ _ _ _ y pi h2;omega
       subst this;rw[hes] at h3;injection h3 with h3;subst h3;obtain⟨p',e',hp'⟩:=h4;have e3:p2=p':=by injection e' with _ e';injection e'
       subst e3;exact c (hp2.inj hp')
      ·refine h (k' - (k1+1)) i' e' (by omega) ?_ h3 h4;rw[<- cZ,show k1+1+(k' - (k1+1))=k' by omega];exact h2)
theorem sK {k:List Int}{p:Addr}{Q:Bool->Shared->Prop} (hk:IsTupleKey (intKind prog w) s.heap k p) (h:Q true s):wpAny (model prog w) A (hashByValue 8 (.ref p)) Q E s:=by
 have hTy:=hk.typeIs;obtain⟨o,items,n,ho,_,hd,hi⟩:=hk;unfold hashByValue;refine aaa (wpAny_specialOf hTy F.slot_tuple_hash.lookup ?_);dsimp only;refine aaa (wpAny_seqItems ho hd ?_);dsimp only [Option.getD];refine aaa ?_;rw[<- Array.forIn_toList];refine wpAny_forIn_list _ (λ rest r s'=>r.1=none/\s'=s/\∀ v∈rest,∃ i t,v=.int i t) _ ?_ ?_ _ _ ⟨rfl,rfl,oZ hi⟩
 ·rintro v rest r s' ⟨hr,rfl,hall⟩;obtain⟨i,t,rfl⟩:=hall v abi;refine aaa ?_;unfold hashByValue;refine aae ?_;simp only [Bool.not_true,Bool.false_eq_true,if_false];exact aae ⟨rfl,rfl,λ u hu'=>hall u (aau _ hu')⟩
 ·rintro⟨r1,r2⟩ s' ⟨hr,rfl,_⟩;simp only at hr;subst hr;exact aae h
structure SetX (b:Bool) (h:Heap) (a:Addr) (es:List (Int×Value)):Prop where
 ex:∃ o ep t,h.get? a=some o/\o.ExactSet/\o.data=.set es.toArray ep t/\Good b t (es.map (·.1))/\es.length * 5 < t.mask * 3
theorem SetX.at {h h':Heap}{es:List (Int×Value)} (x:SetX b h a es) (e:∀ o,h.get? a=some o->h'.get? a=some o):SetX b h' a es:=by
 obtain⟨o,ep,t,g,r⟩:=x.ex;exact⟨⟨o,ep,t,e o g,r⟩⟩
theorem GS {es:List (Int×Value)}{k:List Int}{p:Addr}{R:Bool->Shared->Prop} (hu:A.units < cLine) (S:SetX b s.heap a es) (x:EntL prog w (λ k p=>IsTupleKey (intKind prog w) s.heap k p) es L) (hk:IsTupleKey (intKind prog w) s.heap k p) (room:L.length<=12)
  (r1:k∈L->R false s) (r2:k∉L->∀ h' es',Heap.SameBut a s.heap h'->SetX b h' a es'->es'.Perm ((hT prog w k,.ref p)::es)->R true { s with heap:=h' }) :
  wpAny (model prog w) A (setAddHashed a (.ref p) (hT prog w k)) R E s:=by
 obtain⟨o,ep,t,g,ex,d,G,nf⟩:=S.ex;have ln:=x.len;have fl:es.toArray.size<=t.mask:=by
  rw[aah];rcases G.mm with e | e <;> rw[e] at nf ⊢ <;> omega
 have G':Good b t (es.toArray.toList.map (·.1)):=G;have ft:t.fits es.toArray.size=true:=by
  have:=iP G (by rw[aad,<- aah];exact fl);rw[aad] at this;rw[aah];exact this
 have hpl:t.place.toList.length<=t.mask:=by rw[aar,G.len,aad,<- aah];exact fl
 obtain⟨N,hN,f1,f2⟩:=tZ G.mm (hT prog w k) hpl;unfold setAddHashed setAddHashedIn;refine abr (aaa (wpAny_setState_of g d ft ?_));dsimp only;have ns:byScan (.ref p) es.toArray=false:=rfl;rw[ns,if_neg aai];have fN:N < 100000:=by rcases G.mm with e | e <;> rw[e] at hN <;> omega
 refine aaa (wG hu g d G' fl x hk N N (aaj _) 100000 none (t.probeStart (hT prog w k)) rfl rfl f1 f2 fN hN (λ ⟨k',i,e,_,_,hes,hent⟩=>?_) λ hno=>?_)
 ·
  refine aae (r1 ?_);have he:e∈es:=by
   have:=abu.2 ⟨i,by rw[List.getElem?_toArray] at hes;exact hes⟩;exact this
  obtain⟨k2,hk2,p2,e2,t2⟩:=x.of e he;obtain⟨p3,e3,t3⟩:=hent;rw[e2] at e3;have:p2=p3:=by injection e3 with _ e3;injection e3
  subst this;rw[<- t2.inj t3];exact hk2
 ·
  have hnew:k∉L:=λ hm=>by
   obtain⟨e,he,hent⟩:=x.has k hm;obtain⟨i,hi⟩:=abu.1 he;have hil:=(aaf.1 hi).1;have hpi:i < t.place.size:=by rw[G.len,aad];exact hil
   have hz:(t.place[i],e.1)∈t.place.toList.zip (es.map (·.1)):=by
    refine abu.2 ⟨i,?_⟩;rw[List.getElem?_zip_eq_some];exact⟨by rw[abt];exact aan hpi,by rw[aag,hi];rfl⟩
   obtain⟨n,en,an⟩:=G.at_ _ hz;have e1:e.1=hT prog w k:=by obtain⟨p',rfl,_⟩:=hent;rfl
   dsimp only at en an;rw[e1] at en an;have hlt:n < N:=by
    rcases Nat.lt_trichotomy n N with z | z | z
    ·exact z
    ·subst z;exact absurd (by rw[en,<- Array.getElem_toList];exact acf _) f1
    ·exact absurd (an N z) f1
   exact hno n i e hlt (by rw[show (bV t.mask n (t.probeStart (hT prog w k))).j=t.place[i] from en];exact aan hpi) (by rw[List.getElem?_toArray];exact hi) hent
  have R2:=r2 hnew;dsimp only;refine aaa (wpAny_setState_of g d ft ?_);dsimp only;have G1:=zV G (h:=hT prog w k) f1 f2;have hf1:(bV t.mask N (lS t.mask (hT prog w k))).j∉t.place.toList:=f1;have hm1:(t.put (bV t.mask N (lS t.mask (hT prog w k))).j).1.mask=t.mask:=rfl;rw[show t.probeStart (hT prog w k)=lS t.mask (hT prog w k) from rfl];generalize t.put (bV t.mask N (lS t.mask (hT prog w k))).j=Y at G1 hm1 ⊢;obtain⟨t1,p1⟩:=Y;dsimp only at G1 hm1 ⊢;have ei:(SetTable.insertAt es.toArray p1 (hT prog w k,Value.ref p)).toList=es.take p1++(hT prog w k,Value.ref p)::es.drop p1:=by rw[SetTable.toList_insertAt]
  have pm:(SetTable.insertAt es.toArray p1 (hT prog w k,Value.ref p)).toList.Perm ((hT prog w k,Value.ref p)::es):=by
   refine (SetTable.insertAt_perm _ _ _).trans ?_;rw[Array.toList_push];exact List.perm_append_singleton _ _
  have hs1:(es.map (·.1)).take p1++hT prog w k::(es.map (·.1)).drop p1=(SetTable.insertAt es.toArray p1 (hT prog w k,Value.ref p)).toList.map (·.1):=by
   rw[ei,aal,aap,List.map_take,List.map_drop]
  rw[hs1] at G1;generalize SetTable.insertAt es.toArray p1 (hT prog w k,Value.ref p)=es1 at G1 pm ⊢;have ln1:es1.size=es.length+1:=by rw[<- aar,pm.length_eq,aba]
  have fin:∀ t2:SetTable,Good b t2 (es1.toList.map (·.1))->t2.mask=t.mask->wpAny (model prog w) A (do
    storeSet a es1 t2
    if (!false && t2.tooFull)=true then do
      setRelay a (SetTable.grown (es.toArray.size+1))
      pure true
     else pure true) R E s:=by
   intro t2 G2 hm2;have hz1:es1.size<=sizeLine:=by rw[ln1,sizeLine_eq];omega
   refine aaa (wpAny_storeSet_of g d ?_ hz1);have sb:=Heap.SameBut.update s.heap a (Obj.putSet es1 t2);have u:(s.heap.update a (Obj.putSet es1 t2)).get? a=some { o with data:=.set es1 (ep+1) t2 }:=by
    have:=acq (Obj.putSet es1 t2) g (by rw[putSet_of es1 t2 d];rfl);rw[putSet_of es1 t2 d] at this;exact this
   have tf:t2.tooFull=decide ((es.length+1) * 5 ≥ t.mask * 3):=by
    unfold SetTable.tooFull SetTable.fill;rw[G2.td.dm,G2.len,aad,aar,ln1,hm2];rfl
   rw[tf]
   by_cases c:(es.length+1) * 5 ≥ t.mask * 3
   ·rw[abm c,if_pos (by decide)];have hm7:t.mask=7/\es.length=4:=by
     rcases G.mm with e | e
     ·rw[e] at c nf;exact⟨e,by omega⟩
     ·rw[e] at c;omega
    have eg:SetTable.grown (es.toArray.size+1)=20:=by rw[aah,hm7.2];rfl
    rw[eg];have e32:SetTable.sizeAbove 20=32:=by decide +kernel
    have ft2:t2.fits es1.size=true:=by
     have:=iP G2 (by rw[aad,aar,ln1,hm2,hm7.1,hm7.2];decide);rw[aad,aar] at this;exact this
    unfold setRelay;refine aaa (aaa (wpAny_setState_of (s:={ s with heap:=s.heap.update a (Obj.putSet es1 t2) }) u rfl ft2 ?_));dsimp only;rw[if_neg (by rw[e32,sizeLine_eq];decide)];obtain⟨t3,ord,er,pm3,G3,hm3⟩:=rZ G2.td es1 (wanted:=20) (by rw[e32];exact .inr rfl) (by rw[e32,ln1,hm7.2];decide);rw[er];have hz3:(ord.filterMap (es1[·]?)).size=es1.size:=by rw[<- aar,pm3.length_eq,aar]
    refine aaa (wpAny_of_eq (a:=(ord.filterMap (es1[·]?),t3)) ?_ ?_)
    ·show (ite _ _ _:Sem (Array (Int×Value)×SetTable))=_;rw[if_neg (by rw[hz3];simp)]
    dsimp only;refine wpAny_storeSet_of (s:={ s with heap:=s.heap.update a (Obj.putSet es1 t2) }) u rfl ?_ (by rw[hz3];exact hz1);refine aae (R2 _ (ord.filterMap (es1[·]?)).toList (sb.trans (Heap.SameBut.update _ a _)) ⟨⟨{ o with data:=.set (ord.filterMap (es1[·]?)) (ep+1+1) t3 },ep+1+1,t3,?_,ex,by rw[Array.toArray_toList],G3,?_⟩⟩ (pm3.trans pm))
    ·have:=acq (Obj.putSet (ord.filterMap (es1[·]?)) t3) u (by rw[putSet_of _ t3 rfl];rfl);rw[putSet_of _ t3 rfl] at this;exact this
    ·rw[aar,hz3,ln1,hm3,e32,hm7.2];decide
   ·rw[abq c,if_neg (by decide)];exact aae (R2 _ es1.toList sb ⟨⟨_,ep+1,t2,u,ex,by rw[Array.toArray_toList],G2,by rw[aar,ln1,hm2];omega⟩⟩ pm)
  split
  ·refine aaa (sK hk ?_);rw[if_pos rfl];exact fin t1 G1 hm1
  ·refine aaa (aae ?_);rw[if_pos rfl];exact fin t1 G1 hm1
end
section
variable {prog:Program}{b:Bool}{A:Around}{E:Value->Shared->Prop}{s:Shared}{a:Addr}{L:List Int}
end
section
variable {prog:Program}{b:Bool}{A:Around}{R:Result->Shared->Prop}{I:Addr}{fp wr:List Addr}{G:Array GenState->Array GenState->Prop}{n:Nat}{P:Nat->Value->Prop}{St:Nat->Shared->Prop}
end
section
variable {prog:Program}{A:Around}{E:Value->Shared->Prop}{s:Shared}
abbrev dG (w:World):Obj:={ cls:=.type "set",dict:=none,data:=.set #[] 0 (.fresh 0 0 (!w.params.followText "set-order")) }
theorem BQ (v:Value) {Q:Value->Shared->Prop} (k:Q (.ref s.heap.objs.size) { s with heap:=s.heap.push (dG w) }) :
  codeAny (model prog w) A (.call (.builtin "set.__new__") ⟨[.type "set",v],[]⟩) (wants Q E) s:=by
 refine codeAny_of_tree ?_;show wpAny _ A.in1 (checkBuiltinCall "set.__new__" ⟨[.type "set",v],[]⟩ >>= λ _=>again (.builtin "set.__new__" ⟨[.type "set",v],[]⟩)) _ _ s;refine aaa (wpAny_of_eq (F.newCall_set_1 v) (aae ⟨plainId_quiet F.plain_set_new _,codeAny_builtin F.entry_set_new ?_⟩));rw[Around.under_plainId F.plain_set_new _];unfold Builtin.«set.__new__» Builtin.Frozenset.newClass;have su:=sub_set_self;obtain⟨hp,g,d,tk,os⟩:=s;dsimp only
 wp_walk
 refine wpAny_askSetting (aae ?_);dsimp only;simp only [newObj];exact aaa (wpAny_alloc (aae (aae k)))
end
def iG {ap:Type} [DecidableEq ap] (L:List ap) (k:ap):List ap:=if k∈L then L else L++[k]
def lR {ap:Type} [DecidableEq ap] (ks:List ap) (i:Nat):List ap:=(ks.take i).foldl iG []
theorem iF {ap:Type} [DecidableEq ap] {ks:List ap}{i:Nat}{k:ap} (h:ks[i]? = some k):lR ks (i+1)=iG (lR ks i) k:=by
 unfold lR;rw[List.take_succ,h];simp
theorem AI {ap:Type} [DecidableEq ap] (L:List ap) (k:ap):(iG L k).length<=L.length+1:=by
 unfold iG
 split
 ·omega
 ·simp
theorem qM {ap:Type} [DecidableEq ap] (ks:List ap) (i:Nat):(lR ks i).length<=i:=by
 have:∀ (l L:List ap),(l.foldl iG L).length<=L.length+l.length:=by
  intro l
  induction l with
  | nil=>intro L;simp
  | cons a l ih=>
   intro L;have:=ih (iG L a);have:=AI L a;rw[acy,aba];omega
 have h:=this (ks.take i) [];rw[aaw] at h;unfold lR;have:([]:List ap).length=0:=rfl;omega
theorem sU {prog:Program}{w:World}{h h':Heap}{k:List Int}{p:Addr} (e:∀ c o,h.get? c=some o->h'.get? c=some o) (x:IsTupleKey (intKind prog w) h k p):IsTupleKey (intKind prog w) h' k p:=by
 obtain⟨o,items,n,ho,r⟩:=x;exact⟨o,items,n,e _ _ ho,r⟩
section
variable {prog:Program}{b:Bool}{A:Around}{E:Value->Shared->Prop}{s:Shared}{S:Addr}{L:List (List Int)}
theorem B4 {h0:Heap}{es:List (Int×Value)}{k:List Int}{p:Addr}{R:Bool->Shared->Prop} (hu:A.units < cLine) (X:SetX b s.heap S es) (x:EntL prog w (λ k p=>IsTupleKey (intKind prog w) h0 k p) es L) (kp:∀ c o,h0.get? c=some o->s.heap.get? c=some o) (hk:IsTupleKey (intKind prog w) h0 k p) (room:L.length<=12)
  (r:∀ bb h' es' tk,Heap.SameBut S s.heap h'->SetX b h' S es'->EntL prog w (λ k p=>IsTupleKey (intKind prog w) h0 k p) es' (iG L k)->s.toks<=tk->R bb { s with heap:=h',toks:=tk }) :
  wpAny (model prog w) A (setAdd S (.ref p)) R E s:=by
 unfold setAdd;refine abr (aaa (wpAny_pyHash_tuple (knd:=intKind prog w) hu (sU kp hk) ?_));refine GS (s:={ s with toks:=s.toks+(k.length+1) }) hu X (x.mono λ k p=>sU kp) (sU kp hk) room (λ hm=>?_) λ hn h' es' sb X' pm=>?_
 ·refine r false s.heap es _ (Heap.SameBut.refl _ _) X ?_ (Nat.le_add_right _ _);unfold iG;rw[if_pos hm];exact x
 ·refine r true h' es' _ sb X' ?_ (Nat.le_add_right _ _);unfold iG;rw[if_neg hn];exact x.more hk pm
end
section
variable {prog:Program}{b:Bool}{A:Around}{R:Result->Shared->Prop}{I:Addr}{fp wr:List Addr}{G:Array GenState->Array GenState->Prop}{n:Nat}{P:Nat->Value->Prop}{St:Nat->Shared->Prop}
theorem wF (hu:A.in1.units < cLine) (Wk:WalksS prog w A.in1 I fp wr G n P St) (S:Addr) (off:S∉fp) (h0:Heap) (hw:∀ c o,h0.get? c=some o->c∉S::wr) (ks:List (List Int)) (vals:∀ i v,P i v->∃ p k,v=Value.ref p/\ks[i]? = some k/\IsTupleKey (intKind prog w) h0 k p) (small:n<=13) :
  ∀ (m i:Nat) (s:Shared),n - i=m->i<=n->St i s->(∀ c o,h0.get? c=some o->s.heap.get? c=some o)->(∃ es,SetX b s.heap S es/\EntL prog w (λ k p=>IsTupleKey (intKind prog w) h0 k p) es (lR ks i))->
   (∀ s',Moved (S::wr) G s s'->(∃ es,SetX b s'.heap S es/\es.length=(lR ks n).length)->R (.ok (.ret .none)) s')->
   codeAny (model prog w) A (.builtin "set.update.loop" ⟨[.ref S,.ref I],[]⟩) R s:=by
 have offw:S∉wr:=λ z=>off (Wk.sub _ z);have more:∀ c∈wr,c∈S::wr:=λ c hc=>aau _ hc;intro m
 induction m with
 | zero=>
  intro i s hm hi st kp hS k;obtain rfl:i=n:=by omega
  refine codeAny_builtin F.entry_set_update_loop ?_;rw[Around.under_plainId F.plain_set_update_loop _];show wpAny _ A.in1 (pyNext (.ref I) >>= _) _ _ s;refine aaa (Wk.done s _ _ st λ s1 mv=>?_);obtain⟨es,X,x⟩:=hS;exact aae (k s1 (mv.mono more) ⟨es,X.at λ o e=>mv.heap S o offw e,x.len⟩)
 | succ m ih=>
  intro i s hm hi st kp hS k;have lt:i < n:=by omega
  refine codeAny_builtin F.entry_set_update_loop ?_;rw[Around.under_plainId F.plain_set_update_loop _];show wpAny _ A.in1 (pyNext (.ref I) >>= _) _ _ s;refine aaa (Wk.item i s _ _ lt st λ v s1 hv st1 mv=>?_);obtain⟨p,kk,rfl,hk,tk⟩:=vals i v hv;obtain⟨es,X,x⟩:=hS;have X1:SetX b s1.heap S es:=X.at λ o e=>mv.heap S o offw e;have kp1:∀ c o,h0.get? c=some o->s1.heap.get? c=some o:=λ c o e=>mv.heap c o (λ z=>hw c o e (more c z)) (kp c o e);show wpAny _ A.in1 (holding [Value.ref p] (setAdd S (.ref p)) >>= _) _ _ s1;refine aaa (abr (B4 hu X1 x kp1 tk (by have:=qM ks i;omega) λ bb h2 es2 tk2 sb X2 x2 le2=>?_));rw[<- iF hk] at x2;refine aae ⟨plainId_quiet F.plain_set_update_loop _,ih (i+1) _ (by omega) lt (Wk.frame _ s1 _ _ st1 le2 λ c hc o e=>?_) (λ c o e=>?_) ⟨es2,X2,x2⟩ λ s3 mv3 hS3=>?_⟩
  ·rw[sb.2 c λ z:c=S=>off (z ▸ hc)];exact e
  ·show h2.get? c=some o;rw[sb.2 c λ z:c=S=>hw c o e (by rw[z];exact abi)];exact kp1 c o e
  ·refine k s3 (Moved.trans Wk.gtrans ((mv.mono more).then_heap le2 λ c o hc e=>?_) mv3) hS3;rw[sb.2 c λ z:c=S=>hc (by rw[z];exact abi)];exact e
end
section
variable {prog:Program}{A:Around}{E:Value->Shared->Prop}{s:Shared}
theorem nU {h:Heap}{a:Addr} (g:h.get? a=some (dG w)):SetX (!w.params.followText "set-order") h a []:=⟨⟨_,0,_,g,⟨rfl,rfl,rfl⟩,rfl,tV _,(show 0 < 7 * 3 by decide)⟩⟩
theorem p6 {T:List Int->Addr->Prop}:EntL prog w T [] []:=⟨rfl,λ e he=>(nomatch he),λ k hk=>(nomatch hk)⟩
theorem xD {l:Addr}{items:Array Value}{ks:List (List Int)}{Q:Value->Shared->Prop} (hu:A.units+8 < cLine) (hh:A.handled=none) (hl:s.heap.IsList l items) (hi:∀ (i:Nat) v,items[i]? = some v->∃ p k,v=Value.ref p/\ks[i]? = some k/\IsTupleKey (intKind prog w) s.heap k p) (small:items.size<=13)
  (k:∀ (h':Heap) (tk:Nat),(∃ es,SetX (!w.params.followText "set-order") h' s.heap.objs.size es/\es.length=(lR ks items.size).length)->(∀ c o,c < s.heap.objs.size->s.heap.get? c=some o->h'.get? c=some o)->
   Q (.ref s.heap.objs.size) { s with heap:=h',toks:=tk }) :
  wpAny (model prog w) A (call (.type "set") [.ref l]) Q E s:=by
 obtain⟨c0,tl0,mro0⟩:=F.called_set.mro;have made0:=F.called_set.made;have sub0:=F.called_set.sub;refine wpAny_call (codeAny_of_tree ?_);show wpAny _ _ (callAny (.type "set") _) _ _ _;refine aae ⟨Code.quiet_builtin _ (by decide +kernel),codeAny_builtin F.entry_type_call ?_⟩;rw[Around.under_plain (weight_type_call_type "set" [.ref l] []) rfl];have nt:=F.called_set.notType;have cc:=F.called_set.canCreate;have tc:=F.typeCall_set_1 (.ref l)
 repeat (any_goals (first | assumption | wp_step))
 refine codeAny_mono (BQ (.ref l) (E:=E) (Q:=λ v s1=>v=.ref s.heap.objs.size/\s1={ s with heap:=s.heap.push (dG w) }) ⟨rfl,rfl⟩) λ r s1 hr=>?_;cases r with
 | error e=>exact hr
 | ok fl=>
  cases fl with
  | ret obj=>
   obtain⟨rfl,rfl⟩:=hr;have gS:(s.heap.push (dG w)).get? s.heap.objs.size=some (dG w):=aak _ rfl;have ty:Shared.TypeIs { s with heap:=s.heap.push (dG w) } (.ref s.heap.objs.size) "set" := ⟨_,gS,rfl⟩;have il:=F.called_set.init.lookup;have ib:=F.called_set.init.bind (.ref s.heap.objs.size)
   repeat (any_goals (first | assumption | wp_step))
   refine codeAny_mono (codeAny_call_builtin (R:=wants (λ r s2=>r=.none/\∃ h' tk,s2={ s with heap:=h',toks:=tk }/\(∃ es,SetX (!w.params.followText "set-order") h' s.heap.objs.size es/\es.length=(lR ks items.size).length)/\
     (∀ c o,c < s.heap.objs.size->s.heap.get? c=some o->h'.get? c=some o)) E) F.called_set.init.plain F.entry_set_init (check_set_init_1 ty ?_)) λ r2 s2 hr2=>?_
   ·obtain⟨ol,hol,cl,nl,dl⟩:=hl;obtain⟨ocls,odict,odata,oslots⟩:=ol;simp only at cl dl;subst cl dl;have hol1:(s.heap.push (dG w)).get? l=some { cls:=.type "list",dict:=odict,data:=.seq items nl,slots:=oslots }:=aac _ hol;have s1:=F.sub_list_set;have s2:=F.sub_list_frozenset;have ne:(Value.type "list" == Value.type "dict")=false:=by decide
    have hl1:(s.heap.push (dG w)).IsList l items:=⟨_,hol1,rfl,nl,rfl⟩;unfold Builtin.«set.__init__» noKeywords Builtin.Frozenset.updateFrom;generalize hPI:pyIter=PI
    wp_walk
    subst hPI;refine wpAny_pyIter_list hl1 (aaa (wpAny_runValue ?_));have ll:l < s.heap.objs.size:=aam hol;have h3:A.in1.in1.in1.handled=none:=by simp [hh]
    have zz:(s.heap.push (dG w)).objs.size=s.heap.objs.size+1:=abh _ _;have neI:l≠(s.heap.push (dG w)).objs.size:=by rw[zz];exact abb (Nat.lt_succ_of_lt ll)
    have offS:s.heap.objs.size∉[(s.heap.push (dG w)).objs.size,l]:=by
     rw[zz];simp only [aay,acd,List.not_mem_nil,or_false,not_or];exact⟨abb (Nat.lt_succ_self _),Nat.ne_of_gt ll⟩
    refine wF (by show A.units+1+1+1 < cLine;omega) ((Walks.list h3 _ l neI items).toS) s.heap.objs.size offS s.heap (λ c o e=>?_) ks (λ i v hv=>hi i v hv) small (items.size - 0) 0 _ (by omega) (abn _)
     ⟨⟨_,aak _ rfl,rfl,rfl⟩,hl1.push _⟩ (λ c o e=>aac _ (aac _ e)) ⟨[],nU (aac _ gS),p6⟩ ?_
    ·have:=aam e;rw[zz];simp only [aay,acd,List.not_mem_nil,or_false,not_or];exact⟨abb this,abb (Nat.lt_succ_of_lt this)⟩
    intro s4 mv hS4;obtain⟨h4,g4,d4,tk4,os4⟩:=s4;obtain rfl:g4=s.gens:=mv.gens;obtain rfl:d4=s.drawn:=mv.drawn;obtain rfl:os4=s.os:=mv.os;show wpAny _ _ _ _ _ _;refine aae ?_;show wpAny _ _ (ret Value.none) _ _ _;refine aae ⟨rfl,h4,tk4,rfl,hS4,λ c o hc e=>?_⟩;exact mv.heap c o (by
     simp only [aay,acd,List.not_mem_nil,or_false,not_or];exact⟨abb hc,by rw[zz];exact abb (Nat.lt_succ_of_lt hc)⟩) (aac _ (aac _ e))
   ·cases r2 with
    | error e=>exact hr2
    | ok fl2=>
     cases fl2 with
     | ret r=>
      obtain⟨rfl,h',tk,rfl,hS2,hk2⟩:=hr2
      repeat (any_goals (first | assumption | wp_step))
      exact k _ _ hS2 hk2
     | _=>exact hr2.elim
  | _=>exact hr.elim
end
end TwS
namespace L2
open PySem PySem.Spec PyProof.Rows TwS Tw
def dW (w:World) (a:Addr) (es:List (Int×Value)):HO:=.ext λ h=>SetX (!w.params.followText "set-order") h a es
def uP (w:World) (a:Addr) (n:Nat):HO:=.ext λ h=>∃ es,SetX (!w.params.followText "set-order") h a es/\es.length=n
theorem uO {P:Program}{w:World}{H:Hp}{h:Heap}{a:Addr}{es:List (Int×Value)} (x:SetX (!w.params.followText "set-order") h a es):cJ P w H h a (dW w a es):=by
 obtain⟨o,_,_,g,_⟩:=x.ex;exact⟨x,⟨o,g⟩,λ h1 h2 y e=>y.at e⟩
theorem B3 {P:Program}{w:World}{H:Hp}{h:Heap}{a:Addr}{n:Nat} (x:∃ es,SetX (!w.params.followText "set-order") h a es/\es.length=n):cJ P w H h a (uP w a n):=by
 obtain⟨es,y,e⟩:=id x;obtain⟨o,_,_,g,_⟩:=y.ex;exact⟨x,⟨o,g⟩,λ h1 h2 ⟨es,y,e'⟩ e=>⟨es,y.at e,e'⟩⟩
def uF (P:Program) (w:World) (K:aab) (H:Hp) (D:Addr) (L:List (List Int)):Prop:=∃ es,H D=some (dW w D es)/\EntL P w (λ k p=>bB K H p (k.map V.int)) es L
theorem uF.same {P:Program}{w:World}{K:aab}{H H':Hp}{D:Addr}{L:List (List Int)} (x:uF P w K H D L) (s:aF H H'):uF P w K H' D L:=by
 obtain⟨es,e,l⟩:=x;exact⟨es,s _ _ e,l.mono λ k p h=>s.tup h⟩
def uE (P:Program) (w:World) (K:aab) (D:Addr) (y:V) (H:Hp) (N:Hp->Prop):Prop:=
 ∃ p k L,y=.ref p/\bB K H p (List.map V.int k)/\uF P w K H D L/\L.length<=12/\∀ H',(∀ c,c≠D->H' c=H c)->uF P w K H' D (iG L k)->N H'
theorem nN {P:Program}{w:World}:∀ {vs:List Value}{ns:List Int},IntsAre vs ns->ItemsAre (intKind P w) ns vs
 | _,_,.nil=>.nil
 | _,_,.cons n t h=>.cons (intKind_is _ _ _ _) (nN h)
theorem GG {X:Cx}{pins:List (Addr×Obj)}{σ:St}{H:Hp}{s:Shared}{k:List Int}{p:Addr} (I:Inv X pins σ H s) (h:bB X.K H p (k.map V.int)):IsTupleKey (intKind X.prog X.w) s.heap k p:=by
 obtain⟨its,rv,⟨o,g,c,n,d⟩,_⟩:=I.tuple h;exact⟨o,its.toArray,n,g,c,d,nN (jF rv)⟩
theorem B2 {X:Cx}{pins:List (Addr×Obj)}{σ:St}{H:Hp}{s:Shared}{D:Addr}{y:V}{u:Value}{N:Hp->Prop}{E:Value->Shared->Prop} (hu:X.A.units+64 < cLine) (I:Inv X pins σ H s) (r:bA y u) (q:uE X.prog X.w X.K D y H N) :
  wpAny (model X.prog X.w) X.A (call (.builtin "set.add") [.ref D,u]) (λ _ s'=>∃ H',Inv X pins σ H' s'/\N H') E s:=by
 obtain⟨p,k,L,rfl,hp,⟨es,eD,x⟩,room,n⟩:=q;cases r;obtain⟨sx,⟨o,g⟩,_⟩:SetX (!X.w.params.followText "set-order") s.heap D es/\_:=I.hok D _ eD;have ty:s.TypeIs (.ref D) "set" := by
  obtain⟨o',_,_,g',ex,_⟩:=sx.ex;exact⟨o',g',ex.1⟩
 refine wpAny_call_entry F.slot_set_add ty F.entry_set_add ?_ (F.args_set_add_2 _ _);unfold Builtin.«set.add» Builtin.Frozenset.oneOther;simp only [List.isEmpty_nil,bind_assoc];unfold Builtin.Frozenset.addrOf setAdd;refine aaa (aae ?_)
 try dsimp only
 refine aaa (aae ?_)
 try dsimp only
 refine aaa ?_;refine abr ?_;have hu1:X.A.in1.units < cLine:=by show X.A.units+1 < cLine;omega
 have kt:∀ (k':List Int) p',bB X.K H p' (k'.map V.int)->IsTupleKey (intKind X.prog X.w) s.heap k' p':=λ k' p' h'=>GG I h';refine aaa (wpAny_pyHash_tuple (knd:=intKind X.prog X.w) hu1 (kt _ _ hp) ?_);refine GS (s:={ s with toks:=s.toks+(k.length+1) }) hu1 sx (x.mono kt) (kt _ _ hp) room (λ hm=>?_) λ hn h' es' sb sx' pm=>?_
 ·show wpAny _ _ (ret Value.none) _ _ _;refine aae ⟨_,rfl,H,I.kept (t':=s.toks+(k.length+1)) λ _ _ e=>e,n H (λ _ _=>rfl) ⟨es,eD,?_⟩⟩;unfold iG;rw[if_pos hm];exact x
 ·show wpAny _ _ (ret Value.none) _ _ _;have mu:oM (H D):=by rw[eD];exact True.intro
  have he:∃ q,h'.get? D=some q:=let ⟨o',_,_,g',_⟩:=sx'.ex;⟨o',g'⟩;have ts:bC X.K H (upd H D (dW X.w D es')):=dJ.ts (t:=D) (λ b o hb e=>by rw[aH hb];exact e) mu;refine aae ⟨_,rfl,upd H D (dW X.w D es'),(show Inv X pins σ _ { s with heap:=h',toks:=s.toks+(k.length+1) } from qN (s:=s) I mu sb he (uO sx')),n _ (λ c hc=>aH hc) ⟨es',aB,?_⟩⟩;unfold iG;rw[if_neg hn];exact (x.more (T:=λ k p=>bB X.K H p (k.map V.int)) hp pm).mono λ k' p' h'=>ts _ _ h'
def tH (P:Program) (w:World) (K:aab) (J:It) (g:TG) (tc:TT) (te:TE) (fr:List (Option Nat)) (σ:St) (H1:Hp) (Q:Addr->Hp->Prop):Prop:=
 ∀ D,H1 D=none->∃ W:Nat->Nat->St->Hp->Prop,(∃ m,W 0 m (oI fr σ) (upd H1 D (dW w D [])))/\
  ∀ i m Z H',W i m Z H'->(J.stop i H'/\Q D H')\/
   (J.go i H'/\∃ N:St->Hp->Prop,(∀ bx H'',N bx H''->∃ m',m' < m/\W (i+1) m' bx H'')/\
    ∀ x H2,J.yld i H' x H2->g x Z H2 λ am H3=>tc am H3 λ b H4=>
    if b=true then te am H4 λ y H5=>uE P w K D y H5 (N am)
    else N am H4)
def tSC (P:Program) (w:World) (K:aab) (wi:TI) (fr:List (Option Nat)) (g:TG) (tc:TT) (te:TE):TE:=λ σ H Q=>wi σ H λ J H1=>tH P w K J g tc te fr σ H1 λ D H'=>Q (.ref D) H'
theorem xZ {P:Program}{w:World}{K:aab}{H:Hp}{D:Addr}:uF P w K (upd H D (dW w D [])) D []:=⟨[],aB,p6⟩
theorem B6 {P:Program}{w:World}{K:aab}{a:Addr}{xs:List V}{g:TG}{tc:TT}{te:TE}{fr:List (Option Nat)}{σ:St}{H1:Hp}{Q:Addr->Hp->Prop} (Pv:Addr->Nat->St->Hp->Prop) (hl:∀ D i Z H',Pv D i Z H'->bF K H' a xs)
  (h0:∀ D,H1 D=none->Pv D 0 (oI fr σ) (upd H1 D (dW w D []))) (hd:∀ D Z H',Pv D xs.length Z H'->Q D H')
  (hs:∀ D i x Z H',xs[i]? = some x->Pv D i Z H'->g x Z H' λ am H3=>tc am H3 λ b H4=>if b=true then te am H4 λ y H5=>uE P w K D y H5 (Pv D (i+1) am) else Pv D (i+1) am H4):tH P w K (FD K a) g tc te fr σ H1 Q:=by
 intro D hD;refine⟨λ i m σ H=>m=xs.length - i/\i<=xs.length/\Pv D i σ H,⟨_,rfl,abn _,h0 D hD⟩,?_⟩;rintro i m Z H' ⟨rfl,hi,p⟩
 by_cases hlt:i < xs.length
 ·refine .inr ⟨⟨xs,xs[i],hl D i Z H' p,by simp [hlt]⟩,Pv D (i+1),λ bx H'' p'=>⟨xs.length - (i+1),by omega,rfl,hlt,p'⟩,λ x H2 y=>?_⟩;obtain⟨e,y⟩:=y;subst e;exact hs D i x Z _ (y xs (hl D _ Z _ p)) p
 ·have e:i=xs.length:=by omega
  subst e;exact .inl ⟨⟨xs,hl D _ Z H' p,aaj _⟩,hd D Z H' p⟩
section
variable {prog:Program}{A:Around}{R:Result->Shared->Prop}{s:Shared}
theorem xW {elt target iter ifs scope pos it acc env}
  (h0:codeAny (model prog w) A (.compLoop (.SetComp elt [⟨target,iter,ifs,0⟩] scope pos) 0 it acc env) R s)
  (h:wpAny (model prog w) A (pyIter it) (λ it' s'=>codeAny (model prog w) A (.compLoop (.SetComp elt [⟨target,iter,ifs,0⟩] scope pos) 0 it' acc env) R s') (notedBy (model prog w) A env λ x s'=>R (.error x) s') s) :
  codeAny (model prog w) A (.compStart (.SetComp elt [⟨target,iter,ifs,0⟩] scope pos) 0 it acc env) R s:=by
 refine codeAny_of_tree ?_;show wpAny _ A ((compStart (.SetComp elt [⟨target,iter,ifs,0⟩] scope pos) 0 it acc env).onRaise _) _ _ s;refine wpAny_notedAt ?_;unfold compStart;show wpAny _ A (ask >>= _) _ _ s;refine aaa (wpAny_askSetting (wpAny_ite ?_));split
 ·first | exact aae ⟨rfl,h0⟩ | exact aaa (aae (aae ⟨rfl,h0⟩))
 ·first | exact aaa (wpAny_standAt (aaa (abg h (λ a b c=>aae ⟨rfl,c⟩) λ _ _ x=>x))) | exact aaa (acu (aaa (wpAny_standAt (aaa (abg h (λ a b c=>aae ⟨rfl,c⟩) λ _ _ x=>x)))))
theorem yY {E:Value->Shared->Prop}{Q:Value->Shared->Prop} (h:Q (.ref s.heap.objs.size) { s with heap:=s.heap.push (dG w) }):wpAny (model prog w) A (newSet (.type "set")) Q E s:=by
 unfold newSet setsByText;refine aaa (aaa (wpAny_askSetting (aae ?_)));dsimp only;simp only [newObj];exact aaa (wpAny_alloc (aae h))
theorem oJ {elt target iter:Expr}{ifs:List Expr}{scope:Scope}{pos:Pos}{it acc:Value}{env:Env} (I:Nat->Shared->Prop)
  (turn:∀ n s,I n s->wpAny (model prog w) A (pyNext it) (λ r ah=>match r with
   | none=>R (.ok .next) ah
   | some v=>wpAny (model prog w) A (letOwnedTupleGo target it v) (λ _ cn=>wpAny (model prog w) A (assign target env v) (λ _ ci=>
     wpAny (model prog w) A (forIn ifs true λ c r=>if r=true then do let ok <- isTrue c env (eval c env);pure (ForInStep.yield ok) else pure (ForInStep.yield r)) (λ ok bn=>
      if ok=true then wpAny (model prog w) A (eval elt env) (λ x bz=>
       wpAny (model prog w) A (call (.builtin "set.add") [acc,x]) (λ _ cv=>∃ m,m < n/\I m cv) (notedBy (model prog w) A env λ e s'=>R (.error e) s') bz) (notedBy (model prog w) A env λ e s'=>R (.error e) s') bn
      else ∃ m,m < n/\I m bn) (notedBy (model prog w) A env λ e s'=>R (.error e) s') ci) (notedBy (model prog w) A env λ e s'=>R (.error e) s') cn) (notedBy (model prog w) A env λ e s'=>R (.error e) s') ah)
    (notedBy (model prog w) A env λ e s'=>R (.error e) s') s)
  (n:Nat) (h:I n s) :
  codeAny (model prog w) A (.compLoop (.SetComp elt [⟨target,iter,ifs,0⟩] scope pos) 0 it acc env) R s:=by
 refine codeAny_loop rfl I (λ n s hI=>?_) n h;show wpAny _ A ((compTurn (.SetComp elt [⟨target,iter,ifs,0⟩] scope pos) 0 it acc env).onRaise (λ x=>do noteFrame x env;theTreesLotGoes x)) _ _ s;refine wpAny_noted ?_;unfold compTurn;dsimp only;refine aaa (wpAny_standAt (aaa (abg (turn n s hI) (λ r ah ak=>?_) λ _ _ h'=>h')));cases r with
 | none=>exact aae ak
 | some v=>
  refine aaa (abg ak (λ _ cn cz=>?_) λ _ _ h'=>h');refine aaa (abg cz (λ _ ci ao=>aaa (abg ao (λ ok bn ai=>?_) λ _ _ h'=>h')) λ _ _ h'=>h');cases ok with
  | false=>exact aae ⟨rfl,ai⟩
  | true=>
   exact aaa (aaa (abg ai (λ x bz aq=>aaa (wpAny_standAt (aaa (abg aq (λ _ cv bo=>aae (aae ⟨rfl,bo⟩)) λ _ _ h'=>h')))) λ _ _ h'=>h'))
end
section
variable {X:Cx}
theorem y6 {elt tg iter:Expr}{ifs:List Expr}{scope:Scope}{pos:Pos}{N':List Str}{fr:List (Option Nat)}{cl:List (Str×Addr)}{g:TG}{tc:TT}{te:TE}
  {pins:List (Addr×Obj)}{σ:St}{H:Hp}{s:Shared}{J:It}{fp:List Addr}{it:Addr}{tn:Nat->Heap->Prop}{Q:Addr->Hp->Prop}{RR:Value->Addr->Result->Shared->Prop}{E:Value->Shared->Prop}
  (hu:X.A.units+64 < cLine) (hx:∀ e s,¬ X.xe e s) (hc:X.calm=true) (S:LcOk X scope cl N' fr)
  (hg:∀ fp s H,PG (iT X N' scope cl fp s H) tg g) (ht:∀ fp s H,AM (iT X N' scope cl fp s H) ifs tc) (he:∀ fp s H,PE (iT X N' scope cl fp s H) elt te)
  (I:Inv X pins σ H s) (T:Turn X.prog X.w X.K tg J fp it tn) (st:tn 0 s.heap) (hf:∀ b∈fp,eP X pins H b) (h:tH X.prog X.w X.K J g tc te fr σ H Q)
  (hRR:∀ D C H' s' m',Inv X pins σ H' s'->Q D H'->s'.heap.Ns C m'->eP X pins H' C->RR (.ref D) C (.ok .next) s') :
  wpAny (model X.prog X.w) X.A (newSet (.type "set")) (λ acc bn=>wpAny (model X.prog X.w) X.A (newFunctionEnv scope X.env.globals cl [] X.env.qual none .none (some X.env)) (λ cenv bz=>
   codeAny (model X.prog X.w) X.A (.compStart (.SetComp elt [⟨tg,iter,ifs,0⟩] scope pos) 0 (.ref it) acc { cenv with scope:=relabel scope X.env }) (RR acc cenv.locals) bz) E bn) E s:=by
 have hcell:=S.nocell;rw[aca] at hcell;refine yY (wpAny_newFunctionEnv (λ x hx'=>by simpa using hcell x hx') (by intro y hy;simp at hy) (λ ak bp cb=>?_) S.kind);dsimp only at bp cb ⊢;have fresh:H s.heap.objs.size=none:=I.hok.fresh (aaj _);have I3:Inv X pins σ (upd H s.heap.objs.size (dW X.w s.heap.objs.size [])) { s with heap:=s.heap.push (dG X.w),toks:=s.toks }:=
  I.laid (a:=s.heap.objs.size) (o:=dW X.w s.heap.objs.size []) (t':=s.toks) (λ _ _ q=>aac _ q) (aaj _) (uO (nU (aak _ rfl)))
 have hf3:∀ b∈fp,eP X pins (upd H s.heap.objs.size (dW X.w s.heap.objs.size [])) b:=λ b hb=>by
  obtain⟨o,ho,_⟩:=T.obj _ _ st b hb;exact⟨by rw[aH (abb (aam ho))];exact (hf b hb).1,(hf b hb).2⟩
 generalize hs3:({ s with heap:=s.heap.push (dG X.w),toks:=s.toks }:Shared)=s3 at I3;have e3:s3.heap=s.heap.push (dG X.w):=by rw[<- hs3]
 have e3s:({ s with heap:=s.heap.push (dG X.w) }:Shared)=s3:=hs3;have hsz3:s3.heap.objs.size=s.heap.objs.size+1:=by rw[e3,abh]
 have hfo:∀ b∈fp,b < s3.heap.objs.size:=λ b hb=>by
  obtain⟨o,ho,_⟩:=T.obj _ _ st b hb;rw[hsz3];exact Nat.lt_succ_of_lt (aam ho)
 rw[<- e3] at bp cb ⊢;have old3:∀ b o,s3.heap.get? b=some o->ak.get? b=some o:=λ b o e=>cb.extBut b o (abb (aam e)) (aac _ e);have old:∀ b o,s.heap.get? b=some o->s3.heap.get? b=some o:=λ b o e=>by rw[e3];exact aac _ e
 have I4:=S.invC (tk:=s3.toks) I3 hf3 hfo old3 bp;obtain⟨W,⟨m0,w0⟩,turn⟩:=h s.heap.objs.size fresh;have stat:∀ {H':Hp},(∀ b∈fp,H' b=none)->∀ b∈fp,eP (iT X N' scope cl fp s3 (upd H s.heap.objs.size (dW X.w s.heap.objs.size []))) [] H' b:=λ hn b hb=>by
  refine⟨hn b hb,abb (hfo b hb),?_,.inl hb,λ x c e=>(hf b hb).2.2.2.2.1 x c (S.cls.get x c e),λ p hp=>absurd (show p∈([]:List (Addr×Obj)) from hp) (by simp)⟩;intro hz;obtain⟨_,f1,f2,_⟩:=hf b hb;rcases aay.mp (I.stkSub b hz) with e | e
  ·exact f1 e
  ·exact f2 e
 have loop:∀ s4:Shared,s4={ s3 with heap:=ak,toks:=s3.toks }->
   codeAny (model X.prog X.w) X.A (.compLoop (.SetComp elt [⟨tg,iter,ifs,0⟩] scope pos) 0 (.ref it) (.ref s.heap.objs.size) (compEnvC scope cl s3.heap.objs.size X.env)) (RR (.ref s.heap.objs.size) s3.heap.objs.size) s4:=by
  intro s4 hs4;refine oJ (λ n s'=>∃ i Z H',Inv (iT X N' scope cl fp s3 (upd H s.heap.objs.size (dW X.w s.heap.objs.size []))) [] Z H' s'/\tn i s'.heap/\(∀ b∈fp,H' b=none)/\W i n Z H') ?_ m0
   ⟨0,oI fr σ,_,by rw[hs4];exact I4,by rw[hs4];exact T.keep _ _ _ st λ b _ o e=>old3 b o (old b o e),λ b hb=>(hf3 b hb).1,w0⟩
  rintro n s5 ⟨i,ce,H5,I5,st5,fr5,w5⟩;rcases turn i n ce H5 w5 with ⟨stop,qn⟩ | ⟨go,N,hN,step⟩
  ·refine cI (T.done (iT X N' scope cl fp s3 (upd H s.heap.objs.size (dW X.w s.heap.objs.size []))) rfl rfl rfl hc i [] s5 ce H5 _ I5 (stat fr5) st5 stop) λ r s6 ⟨hr,I6⟩=>?_;subst hr;obtain⟨m',hm',_⟩:=I6.loc;exact hRR _ _ H5 s6 m' (I3.outC I6 hf3) qn hm' (I3.fpOk (aaj _) I6.free)
  ·refine cI (T.item (iT X N' scope cl fp s3 (upd H s.heap.objs.size (dW X.w s.heap.objs.size []))) rfl rfl rfl hc i [] s5 ce H5 _ I5 (stat fr5) st5 go) λ r s6 ⟨u,hr,h6⟩=>?_;subst hr;refine cI h6 λ _ s7 ⟨x,H7,I7,r7,y7,st7,fr7⟩=>?_;have I7':=I7.pinned (stat fr7) (T.obj _ _ st7);refine abg (hg fp s3 _ _ s7 ce H7 x u _ I7' r7 (step x H7 y7)) (λ _ s8 ⟨bj,H8,I8,q8⟩=>?_) λ e s' z=>(hx e s' z).elim;refine abg (ht fp s3 _ _ s8 bj H8 _ I8 q8) (λ ok s9 ⟨H9,I9,q9⟩=>?_) λ e s' z=>(hx e s' z).elim;have again:∀ {s10:Shared}{H10:Hp},Inv (iT X N' scope cl fp s3 (upd H s.heap.objs.size (dW X.w s.heap.objs.size []))) ([]++jE fp s7.heap) bj H10 s10->N bj H10->
     ∃ m,m < n/\∃ i Z H',Inv (iT X N' scope cl fp s3 (upd H s.heap.objs.size (dW X.w s.heap.objs.size []))) [] Z H' s10/\tn i s10.heap/\(∀ b∈fp,H' b=none)/\W i m Z H':=λ {s10 H10} I10 n10=>by
    obtain⟨m',hm,w10⟩:=hN bj H10 n10;refine⟨m',hm,i+1,bj,H10,I10.unpinned,T.keep _ _ _ st7 λ b hb o e=>(I10.pin (b,o) (aat _ (aat _ (d9 hb e)))).1,λ b hb=>?_,w10⟩;obtain⟨o,e,d⟩:=T.obj _ _ st7 b hb;exact (I10.pin (b,o) (aat _ (aat _ (d9 hb e)))).2.1
   cases ok with
   | false=>
    rw[if_neg aai] at q9 ⊢;exact again I9 q9
   | true=>
    rw[if_pos rfl] at q9 ⊢;refine abg (he fp s3 _ _ s9 bj H9 _ I9 q9) (λ y s10 ⟨yv,H10,I10,r10,q10⟩=>?_) λ e s' z=>(hx e s' z).elim;exact cI (B2 (X:=iT X N' scope cl fp s3 (upd H s.heap.objs.size (dW X.w s.heap.objs.size []))) hu I10 r10 q10) λ _ s11 ⟨H11,I11,n11⟩=>again I11 n11
 exact xW (loop _ (by rw[<- e3s];rfl)) (T.self X.A 0 _ _ _ (T.keep _ _ _ st λ b _ o e=>old3 b o (old b o e)) (loop _ (by rw[<- e3s];rfl)))
theorem G7 {elt tg iter:Expr}{ifs:List Expr}{scope:Scope}{pos:Pos}{N':List Str}{fr:List (Option Nat)}{cl:List (Str×Addr)}{wi:TI}{g:TG}{tc:TT}{te:TE}
  (hu:X.A.units+64 < cLine) (hx:∀ e s,¬ X.xe e s) (hc:X.calm=true) (S:LcOk X scope cl N' fr) (hi:PI X tg iter wi)
  (hg:∀ fp s H,PG (iT X N' scope cl fp s H) tg g) (ht:∀ fp s H,AM (iT X N' scope cl fp s H) ifs tc) (he:∀ fp s H,PE (iT X N' scope cl fp s H) elt te)
  (hs:∀ x,foldedSetIterable iter X.env x=pure x:=by intro _;with_unfolding_all rfl):PE X (.SetComp elt [⟨tg,iter,ifs,0⟩] scope pos) (tSC X.prog X.w X.K wi fr g tc te):=by
 intro pins s σ H Q I h;have hloc:=S.locs;rw[aca] at hloc;show wpAny _ X.A (comprehension (.SetComp elt [⟨tg,iter,ifs,0⟩] scope pos) scope X.env _ (newSet (.type "set")) false (eval iter X.env)) _ _ s;refine wpAny_comprehension_free (use:=none) rfl hs S.clos S.kind (λ x hx' hl=>by have:=hloc x hx';rw[hl] at this;simpa using this) (cI (hi pins s σ H _ I h) λ v s1 h1=>cI h1 λ itv s2 h2=>?_);obtain⟨it,fp,tn,J,H2,e,I2,T,st2,f2,rest⟩:=h2;subst e;refine y6 (RR:=λ acc C=>compPost (model X.prog X.w) X.A X.xe none (EP X pins σ Q) acc C) hu hx hc S hg ht he I2 T st2 f2 rest ?_;intro D C H' s' m' I' q hn f;exact⟨m',hn,λ h' hsb=>⟨.ref D,H',I'.letgo f hsb,rfl,q⟩⟩
def CO (w:World) (K:aab):List V->Hp->VK->Prop:=λ xs H Q=>∃ (p:Addr) (ps:List Addr) (ks:List (List Int)),xs=[.ref p]/\bF K H p (ps.map V.ref)/\ps.length=ks.length/\ps.length<=13/\(∀ (i:Nat) q k,ps[i]? = some q->ks[i]? = some k->bB K H q (k.map V.int))/\∀ a,H a=none->Q (.ref a) (upd H a (uP w a (lR ks ks.length).length))
theorem vZ {ps:List Addr}:∀ {us:List Value},b9 (ps.map V.ref) us->us=ps.map Value.ref:=by
 induction ps with
 | nil=>intro us r;rw[ack] at r;cases r;rfl
 | cons p ps ih=>
  intro us r;rw[aap] at r;cases r with
  | cons h t=>cases h;rw[ih t];rfl
theorem u8 (hu:X.A.units+64 < cLine) (hc:X.calm=true):dI X (.type "set") (CO X.w X.K):=by
 intro pins s σ H xs us Q I r h;obtain⟨p,ps,ks,rfl,hq,hl,hn,ht,q⟩:=h;obtain⟨u,rfl,ru⟩:=r.one;cases ru;obtain⟨its,rv,p1,hz⟩:=I.list hq;have e:=vZ rv;subst e;refine xD (ks:=ks) (by omega) (I.ok.hd hc) p1.isList (λ i v hv=>?_) (by rw[aah,aad];exact hn) λ h' tk hS hk=>?_
 ·rw[List.getElem?_toArray,aag] at hv;obtain⟨q,hq',rfl⟩:=aaq.mp hv;have hi:=(aaf.mp hq').1;obtain⟨k,hk⟩:∃ k,ks[i]? = some k:=⟨_,aby (by omega)⟩;exact⟨q,k,rfl,hk,GG I (ht i q k hq' hk)⟩
 ·rw[show (ps.map Value.ref).toArray.size=ks.length by rw[aah,aad,hl]] at hS;exact⟨.ref s.heap.objs.size,_,I.laid (λ b u e=>hk b u (aam e) e) (aaj _) (B3 hS),rfl,q _ I.fresh⟩
def CT (w:World):List V->Hp->VK->Prop:=λ xs H Q=>∃ a n,xs=[.ref a]/\(H a=some (uP w a n)\/∃ es,H a=some (dW w a es)/\es.length=n)/\Q (.int (n:Int)) H
theorem xG:dI X (.builtin "len") (CT X.w):=by
 intro pins s σ H xs us Q I r h;obtain⟨a,n,rfl,ha,q⟩:=h;obtain⟨u,rfl,ru⟩:=r.one;cases ru;have hx:∃ es,SetX (!X.w.params.followText "set-order") s.heap a es/\es.length=n:=by
  rcases ha with ha | ⟨es,ha,e⟩
  ·exact (show _/\_ from I.hok a _ ha).1
  ·exact⟨es,(show _/\_ from I.hok a _ ha).1,e⟩
 obtain⟨es,x,en⟩:=hx;obtain⟨o,ep,t,g,ex,d,G,nf⟩:=x.ex;have hm:es.length<=t.mask:=by rcases G.mm with e | e <;> rw[e] at nf ⊢ <;> omega
 have ft:t.fits es.toArray.size=true:=by
  have:=iP G (by rw[aad];exact hm);rw[aad] at this;rw[aah];exact this
 refine call_len_set g ex d ft (by rw[aah];rcases G.mm with e | e <;> rw[e] at hm <;> omega) ?_;refine⟨.int (n:Int),H,I.kept (t':=s.toks+1+1) λ _ _ e=>e,⟨s.toks+1,by rw[aah,en]⟩,q⟩
theorem u7 {w:World}{K:aab} (hw:X.w=w) (hK:X.K=K) (hu:X.A.units+64 < cLine) (hc:X.calm=true):dI X (.type "set") (CO w K):=by
 subst hw hK;exact u8 hu hc
theorem nZ {w:World} (hw:X.w=w):dI X (.builtin "len") (CT w):=by subst hw;exact xG
theorem u9:bootBuiltins "set" = some (.type "set"):=by decide +kernel
theorem E5 {P:Program}{w:World}{K:aab}{elt tg iter:Expr}{ifs:List Expr}{scope:Scope}{pos:Pos}{N':List Str}{fr:List (Option Nat)}{cl:List (Str×Addr)}{wi:TI}{g:TG}{tc:TT}{te:TE} (hP:X.prog=P) (hw:X.w=w) (hK:X.K=K)
  (hu:X.A.units+64 < cLine) (hx:∀ e s,¬ X.xe e s) (hc:X.calm=true) (S:LcOk X scope cl N' fr) (hi:PI X tg iter wi)
  (hg:∀ fp s H,PG (iT X N' scope cl fp s H) tg g) (ht:∀ fp s H,AM (iT X N' scope cl fp s H) ifs tc) (he:∀ fp s H,PE (iT X N' scope cl fp s H) elt te)
  (hs:∀ x,foldedSetIterable iter X.env x=pure x:=by intro _;with_unfolding_all rfl):PE X (.SetComp elt [⟨tg,iter,ifs,0⟩] scope pos) (tSC P w K wi fr g tc te):=by
 subst hP hw hK;exact G7 hu hx hc S hi hg ht he hs
end
end L2
namespace L2
open PySem PySem.Spec PyProof.Rows TwZ
section
variable {X:Cx}
end
section
variable {X:Cx}{tg:Expr}
end
section
variable {prog:Program}{A:Around}{R:Result->Shared->Prop}{s:Shared}
end
section
variable {X:Cx}{pins:List (Addr×Obj)}{σ:St}{H:Hp}{s:Shared}{a:Addr}{v:V}{u r:Value}{A:Around}{E:Value->Shared->Prop}{kvs:List (eB×V)}{k:eB}
end
section
variable {X:Cx}
end
section
variable {prog:Program}{KK:Type}[DecidableEq KK]{knd:HeapKind prog w KK}{A:Around}{E:Value->Shared->Prop}{s:Shared}
end
section
variable {X:Cx}{pins:List (Addr×Obj)}{σ:St}{H:Hp}{s:Shared}{a:Addr}{S:D}{kvs:List (D×V)}
end
section
variable {X:Cx}{pins:List (Addr×Obj)}{σ:St}{H:Hp}{s:Shared}{a:Addr}{v:V}{u r:Value}{A:Around}{E:Value->Shared->Prop}{kvs:List (D×V)}{k S:D}
end
section
variable {X:Cx}
def CS (K:aab):List V->Hp->VK->Prop:=λ xs H Q=>∃ (p:Addr) (ns:List Int),xs=[.ref p]/\bF K H p (ns.map V.int)/\0 < ns.length/\∀ M,M∈ns->(∀ a∈ns,a<=M)->Q (.int M) H
theorem xF (hc:X.calm=true):dI X (.builtin "max") (CS X.K):=by
 intro pins s σ H xs us Q I r h;obtain⟨p,ns,rfl,hq,h0,q⟩:=h;obtain⟨u,rfl,ru⟩:=r.one;cases ru;obtain⟨its,rv,pl,hz⟩:=I.list hq;have hi:=jF rv;have hl:=pl.isList;obtain⟨ys,e⟩:=hi.allInts.items;have hns:ns=ys.toList.map (·.1):=by rw[<- hi.numsOf,<- nums_intItems,<- e]
 have hsz:0 < ys.size:=by
  have h3:=h0;rw[hns,aad,aar] at h3;exact h3
 rw[e] at hl;refine max_intList (I.ok.hd hc) hl hsz λ v h' tk hv hk=>?_;obtain⟨t,rfl⟩:=intItems_at hv;obtain⟨h1,h2⟩:=argBest_gt (numAt ys) (ys.size - 1);refine⟨.int _,H,I.kept hk,⟨t,rfl⟩,q _ ?_ λ a ha=>?_⟩
 ·rw[hns,numAt_eq];exact getD_mem (by rw[aad,aar];omega)
 ·rw[hns] at ha;obtain⟨j,hj,rfl⟩:=mem_getD ha;rw[aad,aar] at hj;rw[<- numAt_eq];exact h2 j (by omega)
theorem gP {K:aab} (hK:X.K=K) (hc:X.calm=true):dI X (.builtin "max") (CS K):=by subst hK;exact xF hc
end
section
variable {g:TG}{tc:TT}{te:TE}{fr:List (Option Nat)}{σ:St}{H1:Hp}{Q:Addr->Hp->Prop}
end
section
variable {prog:Program}{A:Around}{E:Value->Shared->Prop}{s:Shared}
end
section
variable {X:Cx}
end
end L2
namespace Tw
open PySem L2 TwS
def jQ (net:Net) (n j:Nat):List (List Int):=(aI net).map λ fo=>dM (bX (aN net fo) n j)
def FJ (net:Net) (n j:Nat):Nat:=(lR (jQ net n j) (aI net).length).length
def iY (net:Net) (n:Nat):List Nat:=(List.range net.vs.length).map (FJ net n)
def xN (l:List Nat) (i m:Nat):Prop:=l[i]? = some m/\(∀ y∈l,y<=m)/\∀ j,j < i->l[j]?≠some m
theorem xN.one {l:List Nat}{i m i' m':Nat} (a:xN l i m) (b:xN l i' m'):i=i'/\m=m':=by
 have h1:=b.2.1 m (abc a.1);have h2:=a.2.1 m' (abc b.1);have e:m=m':=by omega
 subst e;rcases Nat.lt_trichotomy i i' with z | z | z
 ·exact absurd a.1 (b.2.2 i z)
 ·exact⟨z,rfl⟩
 ·exact absurd b.1 (a.2.2 i' z)
def nvW (m:Nat):V:=.int (m:Int)
def uD (K:aab) (H:Hp) (net:Net) (n i:Nat) (ps:List Addr):Prop:=ps.length=i/\∀ (i:Nat) p fo,ps[i]? = some p->(aI net)[i]? = some fo->∃ tvs,bB K H p tvs/\IsL K H ((kS (aN net fo) (eX (aN net fo)) n).map oD) tvs
theorem uD.mono {K:aab}{H H':Hp}{net:Net}{n i:Nat}{ps:List Addr} (t:uD K H net n i ps) (s:bC K H H'):uD K H' net n i ps:=
 ⟨t.1,λ i p fo h1 h2=>let ⟨tvs,q,l⟩:=t.2 i p fo h1 h2;⟨tvs,s _ _ q,IsL.mono s _ _ l⟩⟩
theorem uD.snoc {K:aab}{H:Hp}{net:Net}{n i:Nat}{ps:List Addr}{p:Addr}{fo:Option Nat}{tvs:List V} (t:uD K H net n i ps) (hfo:(aI net)[i]? = some fo) (q:bB K H p tvs) (l:IsL K H ((kS (aN net fo) (eX (aN net fo)) n).map oD) tvs):uD K H net n (i+1) (ps++[p]):=by
 refine⟨by rw[aao,t.1];rfl,λ j p' fo' h1 h2=>?_⟩;rcases Nat.lt_or_ge j i with z | z
 ·rw[abk (by rw[t.1];exact z)] at h1;exact t.2 j p' fo' h1 h2
 ·have hj:=(aaf.mp h1).1;rw[aao,t.1,abv] at hj;obtain rfl:j=i:=by omega
  rw[abp (by rw[t.1];exact aaj _),t.1,Nat.sub_self] at h1;cases h1;rw[hfo] at h2;cases h2;exact⟨tvs,q,l⟩
theorem CD {net:Net}{i:Nat}{fo:Option Nat} (hfo:(aI net)[i]? = some fo):∀ j,fo=some j->j < net.vs.length:=by
 intro j' e';subst e';have:=abc hfo;unfold aI at this;rcases aay.1 this with h | h
 ·cases h
 ·obtain⟨z,hz,ez⟩:=abo.1 h;injection ez with ez;subst ez;exact abz.1 hz
def tF (K:aab):Sp:=λ vs H Q _=>∃ (x:V) (net:Net) (n:Nat),vs=[x,.int (n:Int)]/\Is K H (fB net) x/\NetOk net/\NetFull net/\n<=100000/\
 ∀ p i m H',aF H H'->xN (iY net n) i m->bB K H' p [.int (i:Int),.int (m:Int)]->Q (.ref p) H'
theorem j7:FnScope ["net","ticks","numbers","all_tipped","unlike"] ["net","ticks"] (aP (bM 25)):={}
theorem oE {f f2 f3:Addr}{fd fd2 fd3:FuncData} (F:Fun K "best_watch" "best_watch" (bM 25) f fd) (T:Txt mg)
  (G_tips_of:Callee P w K mg base "tips_of" ["vessel","tipped"] 1 (jT K) f2 fd2) (G_tipped_in_case:Callee P w K mg base "tipped_in_case" ["net","case","ticks"] 7 (iI K) f3 fd3) :
  FnOk P w K mg base gX 8 f fd ["net","ticks"] (tF K):=by
 refine F.ok j7 (λ vs H Q E h=>?_) (λ cdv A outer s H vs Q E hr h=>?_)
 ·obtain⟨x,net,n,rfl,_⟩:=h;rfl
 ·obtain⟨x,net,n,rfl,hx,nok,nfu,hn,k⟩:=h;have sc:=j7;refine⟨_,(aD (pL 2 sc.nd (pS rfl rfl T.b_list rfl T.b_range (oT K T.b_len (px K (pv 0) aG))))
   (aD (dY (i:=3) sc.nd rfl (Or.inr rfl) (eW (λ _ _ h=>h) rfl (LcOk.mk (N':=["case","net","ticks"]) (fr:=[none,some 0,some 1]) rfl ⟨rfl,rfl,trivial⟩ rfl rfl rfl rfl rfl ⟨⟨_,rfl,rfl,rfl,rfl⟩,⟨_,rfl,rfl,rfl,rfl⟩,trivial⟩) (dH (K:=K) rfl (aT pV (bD (aA fM aC)) (pv 2))) (λ _ _ _=>(gC 0 ["case","net","ticks"])) (λ _ _ _=>cH) (λ _ _ _=>(dB G_tipped_in_case hr (aA (pv 1) (aA (pv 0) (aA (pv 2) aC)))))))
   (aD (n9 (i:=4) sc.nd rfl rfl (λ _ _ h=>h) rfl (LcOk2.mk (N':=["number","all_tipped"]) (fr:=[none,some 3]) rfl ⟨rfl,trivial⟩ rfl rfl rfl rfl rfl ⟨⟨_,rfl,rfl,rfl,rfl⟩,trivial⟩) (dH (K:=K) rfl (pv 2)) (λ _ _ _=>(fH (i:=0) (show (["number","all_tipped"]:List Str).Nodup by decide +kernel) rfl (Or.inr rfl) (Or.inl rfl))) (λ _ _ _=>cH) (λ _ _ _=>(bH (nZ (w:=w) rfl) rfl T.b_len PySem.boot_len (aA (E5 (P:=P) (w:=w) (K:=K) rfl rfl rfl hr.units (λ _ _ h=>h) rfl (LcOk.mk (N':=["tipped","number"]) (fr:=[none,some 0]) rfl ⟨rfl,trivial⟩ rfl rfl rfl rfl rfl ⟨⟨_,rfl,rfl,rfl,rfl⟩,trivial⟩) (dH (K:=K) rfl (pv 1)) (λ _ _ _=>(gC 0 ["tipped","number"])) (λ _ _ _=>cH) (λ _ _ _=>(aU (bL (K:=K) rfl) rfl T.b_tuple bR (aA (dB G_tips_of hr (aA (pv 1) (aA (pv 0) aC))) aC)))) aC))))
   (aK (bE (bG (aA (d8 (K:=K) rfl aav PySem.F.slot_list_index PySem.F.type_list_index nK (pv 4) (aA (bH (gP (K:=K) rfl rfl) rfl T.b_max PyProof.Rows.boot_max (aA (pv 4) aC)) aC)) (aA (bH (gP (K:=K) rfl rfl) rfl T.b_max PyProof.Rows.boot_max (aA (pv 4) aC)) aC)))))))),?_⟩
  have n2:=nok.hi;obtain⟨a,b,c,xs,ys,ex,q,q1,l1,q2,l2⟩:=dL hx;have exl:xs.length=net.vs.length:=by rw[l1.length,aad]
  have hlen:(aI net).length<=13:=by unfold aI;simp;omega
  refine⟨_,rfl,.inr (.inl ⟨a,_,0,_,ex,rfl,q,rfl,b,xs,rfl,.inr q1,net.vs.length,by rw[exl],by omega,λ l hl=>?_⟩)⟩;have s1:=aF.new (o:=HO.lst ((List.range net.vs.length).map λ (i:Nat)=>V.int (i:Int))) hl;have hl1:upd H l (.lst ((List.range net.vs.length).map λ (i:Nat)=>V.int (i:Int))) l=some (.lst ((List.range net.vs.length).map λ (i:Nat)=>V.int (i:Int))):=aB;generalize upd H l (.lst ((List.range net.vs.length).map λ (i:Nat)=>V.int (i:Int)))=H1 at s1 hl1;refine⟨(show 1<=sizeLine by decide),λ e he=>?_⟩;have s2:=aF.new (o:=HO.lst [.non]) he;refine⟨_,rfl,e,l,_,_,rfl,rfl,aB,s2 _ _ hl1,acl (aM (by simp;omega)),λ t ht=>?_⟩;have s3:=aF.new (o:=HO.lst ([V.non]++(List.range net.vs.length).map λ (i:Nat)=>V.int (i:Int))) ht;have et:([V.non]++(List.range net.vs.length).map λ (i:Nat)=>V.int (i:Int))=(aI net).map bJ:=by
   unfold aI;rw[aap,acb];rfl
  rw[et] at s3 ⊢;have ht2:upd (upd H1 e (.lst [.non])) t (.lst ((aI net).map bJ)) t=some (.lst ((aI net).map bJ)):=aB;have s03:=(s1.trans s2).trans s3;have hl3:=s3 _ _ (s2 _ _ hl1);generalize upd (upd H1 e (.lst [.non])) t (.lst ((aI net).map bJ))=H3 at s03 ht2 hl3;refine⟨t,rfl,⟨_,bF.of ht2⟩,gJ (K:=K) (a:=t) (xs:=(aI net).map bJ) (λ D i r Z H'=>H3 D=none/\aF H3 H'/\H' D=some (.lst r)/\(∃ ps:List Addr,r=ps.map V.ref/\uD K H' net n i ps)/\∃ u,Z=[u,some x,some (.int (n:Int))])
   (λ D i r Z H' p=>bF.of (p.2.1 _ _ ht2)) (λ D hD=>⟨hD,aF.new hD,aB,⟨[],rfl,rfl,λ i p fo h _=>by simp at h⟩,none,rfl⟩) ?_ ?_⟩
  rotate_left
  ·rintro D i y r Z H4 hy ⟨hD,sm,hDl,⟨ps,rfl,ta⟩,u,rfl⟩;rw[aag] at hy;obtain⟨fo,hfo,rfl⟩:=aaq.mp hy;have hfo':=CD hfo;have hil:=(aaf.mp hfo).1;dsimp only [cX];refine⟨_,rfl,_,rfl,_,rfl,x,net,fo,n,rfl,Is.mono (s03.trans sm).ts _ _ hx,nok,nfu,hfo',hn,λ p2 tvs H5 s5 qt lt=>?_⟩;refine⟨s5 _ _ hDl,aM (by rw[aad,ta.1];omega),hD,(sm.trans s5).put hD,aB,⟨ps++[p2],by simp,?_⟩,_,rfl⟩;have bt:bC K H5 (upd H5 D (.lst (ps.map V.ref++[.ref p2]))):=dJ.ts (t:=D) (λ b o hb h=>by rw[aH hb];exact h) (by rw[s5 _ _ hDl];exact True.intro);exact (ta.mono (s5.ts.trans bt)).snoc hfo (bt _ _ qt) (IsL.mono bt _ _ lt)
  rintro at_ r Z H4 ⟨hD4,s4,hat,⟨ps,rfl,ta⟩,_⟩;rw[aad] at ta;have hl4:=s4 _ _ hl3;have s04:=s03.trans s4;refine⟨_,rfl,l,rfl,⟨_,bF.of hl4⟩,gJ (K:=K) (a:=l) (xs:=(List.range net.vs.length).map λ (i:Nat)=>V.int (i:Int)) (λ D i r Z H'=>H4 D=none/\aF H4 H'/\H' D=some (.lst r)/\r=((List.range i).map (FJ net n)).map nvW/\∃ u,Z=[u,some (.ref at_)])
   (λ D i r Z H' p=>bF.of (p.2.1 _ _ hl4)) (λ D hD=>⟨hD,aF.new hD,aB,rfl,none,rfl⟩) ?_ ?_⟩
  rotate_left
  ·rintro D j y r Z H5 hy ⟨hD,sm,hDl,rfl,u,rfl⟩;rw[aag] at hy;obtain⟨j',hj',rfl⟩:=aaq.mp hy;have hjl:=(aaf.mp hj').1;rw[acg] at hjl;obtain rfl:j=j':=by rw[List.getElem?_range hjl] at hj';injection hj' with hj'
   have ta5:=ta.mono sm.ts;have hat5:=sm _ _ hat;dsimp only [cX];refine⟨_,rfl,at_,rfl,⟨_,bF.of hat5⟩,B6 (P:=P) (w:=w) (K:=K) (a:=at_) (xs:=ps.map V.ref) (λ S i Z H'=>H5 S=none/\aF H5 H'/\uF P w K H' S (lR (jQ net n j) i)/\∃ u,Z=[u,some (.int (j:Int))])
    (λ S i Z H' p=>bF.of (p.2.1 _ _ hat5)) (λ S hS=>⟨hS,aF.new hS,xZ,none,rfl⟩) ?_ ?_⟩
   rotate_left
   ·rintro S i y Z H6 hy ⟨hS,sm6,sh,u,rfl⟩;rw[aag] at hy;obtain⟨p,hp,rfl⟩:=aaq.mp hy;have hil:=(aaf.mp hp).1;rw[ta5.1] at hil;obtain⟨fo,hfo⟩:∃ fo,(aI net)[i]? = some fo:=⟨_,aby hil⟩;obtain⟨tvs,qt,lt⟩:=(ta5.mono sm6.ts).2 i p fo hp hfo;have htn:=jP (m:=eX (aN net fo)) (jR nok nfu fo) n;dsimp only [cX];refine⟨_,rfl,_,rfl,j,_,p,tvs,rfl,qt,lt,?_,λ tl H7 s7 ftl htl=>?_⟩
    ·omega
    rw[kR] at htl;refine⟨tl,_,rfl,.inl ⟨bF.of htl,λ e he=>?_⟩⟩;have s8:=aF.new (o:=HO.tup ((dM (bX (aN net fo) n j)).map V.int)) he;have hk:(jQ net n j)[i]? = some (dM (bX (aN net fo) n j)):=by unfold jQ;rw[aag,hfo];rfl
    have hdl:=qM (jQ net n j) i;refine⟨e,_,_,rfl,bB.of aB,sh.same (s7.trans s8),by omega,λ H9 h9 sh9=>?_⟩;rw[<- iF hk] at sh9;refine⟨hS,λ b o hb=>?_,sh9,_,rfl⟩;have hbS:b≠S:=λ z=>by rw[z,hS] at hb;cases hb
    rw[h9 b hbS];exact (s7.trans s8) _ _ (sm6 _ _ hb)
   rintro S Z H6 ⟨hS,sm6,⟨es,eS,el⟩,_⟩;refine⟨S,_,rfl,.inr ⟨es,eS,el.len⟩,?_⟩;refine⟨sm6 _ _ hDl,aM (by rw[aad,aad,acg];omega),hD,(sm.trans sm6).put hD,aB,?_,_,rfl⟩;rw[acz,aal,aal,aad,ta.1];rfl
  rintro ul r Z H5 ⟨hD5,s5,hul,rfl,_⟩;rw[aad,acg] at hul;have hul2:H5 ul=some (.lst ((iY net n).map nvW)):=hul;have hul3:H5 ul=some (.lst (((iY net n).map λ (m:Nat)=>(m:Int)).map V.int)):=by rw[hul2,acb];rfl
  have hpos:0 < ((iY net n).map λ (m:Nat)=>(m:Int)).length:=by rw[aad];unfold iY;rw[aad,acg];exact nok.lo
  have hfl:((((iY net n).map λ (m:Nat)=>(m:Int)).map V.int)).all eY=true:=by
   rw[aca];intro z hz;obtain⟨y,_,rfl⟩:=abo.1 hz;rfl
  dsimp only [cX,AX,FN,cU,tBM,CL,cN,gZ];refine⟨_,rfl,.inl ⟨rfl,_,bF.of hul3⟩,_,rfl,ul,_,rfl,bF.of hul3,hpos,λ M hM hmax=>?_⟩;obtain⟨m,hm,rfl⟩:=abo.1 hM;obtain⟨i0,hi0⟩:=abu.1 hm;obtain⟨i,hi1,hi2,hi3⟩:=least (p:=λ i=>(iY net n)[i]? = some m) i0 hi0;have best:xN (iY net n) i m:=⟨hi2,λ y hy=>by have:=hmax _ (abo.2 ⟨y,hy,rfl⟩);omega,hi3⟩;have hil:=(aaf.mp hi2).1;refine⟨ul,_,.int (m:Int),i,rfl,rfl,hul3,rfl,hfl,by rw[aad,aad];exact hil,λ z hz=>?_,λ i' z hi' hz=>?_,?_⟩
  ·rw[aag,aag,hi2] at hz;injection hz with hz;subst hz;show ((m:Int) == (m:Int))=true;exact beq_self_eq_true _
  ·rw[aag,aag] at hz;cases e:(iY net n)[i']? with
   | none=>rw[e] at hz;cases hz
   | some m'=>
    rw[e] at hz;injection hz with hz;subst hz;show ((m':Int) == (m:Int))=false;rw[beq_eq_false_iff_ne];intro z;have:m'=m:=by omega
    rw[this] at e;exact hi3 i' hi' e
  refine⟨_,rfl,ul,_,rfl,bF.of hul3,hpos,λ M' hM' hmax'=>?_⟩;have eM:M'=(m:Int):=by have:=hmax _ hM';have:=hmax' _ hM;omega
  subst eM;exact⟨(show 2<=sizeLine by decide),λ p hp=>k p i m _ ((s04.trans s5).trans (aF.new hp)) best (bB.of aB)⟩
def jL (H:Hp) (net:Net) (n:Nat) (cs:List (Option Nat)) (rts:List Addr) (d:Addr):Prop:=rts.length=cs.length/\∀ (i:Nat) (r:Addr) (fo:Option Nat),rts[i]? = some r->cs[i]? = some fo->
 r≠d/\∃ ts:List Addr,H r=some (.lst (ts.map V.ref))/\ts.length=net.vs.length/\∀ (j:Nat) (t:Addr),ts[j]? = some t->t≠d/\H t=some (.lst ((dM (bX (aN net fo) n j)).map V.int))
section
variable {H H':Hp}{net:Net}{n:Nat}{cs:List (Option Nat)}{rts:List Addr}{d:Addr}
theorem jL.off (h:jL H net n cs rts d) (b:dJ d H H'):jL H' net n cs rts d:=by
 refine⟨h.1,λ i r fo hr hf=>?_⟩;obtain⟨nr,ts,e,l,k⟩:=h.2 i r fo hr hf;exact⟨nr,ts,b _ _ nr e,l,λ j t' ht=>⟨(k j t' ht).1,b _ _ (k j t' ht).1 (k j t' ht).2⟩⟩
theorem jL.snoc {fo:Option Nat}{r:Addr}{ts:List Addr} (h:jL H net n cs rts d) (nr:r≠d) (e:H r=some (.lst (ts.map V.ref))) (l:ts.length=net.vs.length)
  (k:∀ (j:Nat) (t:Addr),ts[j]? = some t->t≠d/\H t=some (.lst ((dM (bX (aN net fo) n j)).map V.int))):jL H net n (cs++[fo]) (rts++[r]) d:=by
 refine⟨by simp [h.1],λ i r' fo' hr hf=>?_⟩;rcases Nat.lt_or_ge i rts.length with hi | hi
 ·rw[abk hi] at hr;rw[abk (by rw[<- h.1];exact hi)] at hf;exact h.2 i r' fo' hr hf
 ·rw[abp hi] at hr;rw[abp (by rw[<- h.1];exact hi)] at hf;have hi2:i - rts.length=0:=by
   rcases Nat.eq_zero_or_pos (i - rts.length) with z | z
   ·exact z
   ·rw[List.getElem?_eq_none (by simp;omega)] at hr;cases hr
  rw[hi2] at hr;rw[<- h.1,hi2] at hf;cases hr;cases hf;exact⟨nr,ts,e,l,k⟩
end
def gF:Option Nat->G
 | none=>.non
 | some j=>.int (j:Int)
theorem iO {K:aab}{H:Hp}:∀ l:List (Option Nat),cM K H (l.map gF) (l.map bJ)
 | []=>cM.nil
 | none::l=>cM.cons aO.n (iO l)
 | some j::l=>cM.cons (aO.i _) (iO l)
theorem jI:∀ l:List (Option Nat),eI (l.map gF)=0
 | []=>rfl
 | none::l=>by rw[aap,eI,jI l];rfl
 | some j::l=>by rw[aap,eI,jI l];rfl
section
variable {t sl:Addr}{σ:St}{H0:Hp}{a:TE}
theorem EN (ha:Gn t sl σ H0 (cA 0 8) a):Gn t sl σ H0 (cA 0 3) (fT (rI CI λ i j=>.int (i / j)) a (tC (.int 3))):=
 (tX (by decide) (by decide) ha).imp λ v ⟨i,e,a,b⟩=>⟨i / 3,e,by omega,by omega⟩
end
theorem vN {ap:Type} [DecidableEq ap] (ks:List ap) (k:ap):∀ i,k∈lR ks i↔k∈ks.take i:=by
 have key:∀ (l L:List ap),k∈l.foldl iG L↔k∈L\/k∈l:=by
  intro l
  induction l with
  | nil=>intro L;simp
  | cons a l ih=>
   intro L;rw[acy,ih,aay];unfold iG
   split
   ·rename_i h
    constructor
    ·rintro (z | z)
     ·exact .inl z
     ·exact .inr (.inr z)
    ·rintro (z | z | z)
     ·exact .inl z
     ·subst z;exact .inl h
     ·exact .inr z
   ·rw[aci,acd,or_assoc]
 intro i;unfold lR;rw[key];simp
theorem sE {ap dw γ:Type} [DecidableEq dw] [DecidableEq γ] {l:List ap}{f:ap->dw}{g:ap->γ} (h:∀ x∈l,∀ y∈l,f x=f y↔g x=g y):∀ i,(lR (l.map f) i).length=(lR (l.map g) i).length
 | 0=>rfl
 | i+1=>by
  have ih:=sE h i;cases e:l[i]? with
  | none=>
   have hl:l.length<=i:=List.getElem?_eq_none_iff.1 e;unfold lR at ih ⊢;rw[abl (by rw[aad];omega),abl (by rw[aad];omega)];rw[abl (by rw[aad];omega),abl (by rw[aad];omega)] at ih;exact ih
  | some x=>
   have hx:=abc e;rw[iF (k:=f x) (by rw[aag,e];rfl),iF (k:=g x) (by rw[aag,e];rfl)];have m:f x∈lR (l.map f) i↔g x∈lR (l.map g) i:=by
    rw[vN,vN,<- List.map_take,<- List.map_take,abo,abo];constructor
    ·rintro⟨y,hy,e'⟩;exact⟨y,hy,(h y (List.mem_of_mem_take hy) x hx).1 e'⟩
    ·rintro⟨y,hy,e'⟩;exact⟨y,hy,(h y (List.mem_of_mem_take hy) x hx).2 e'⟩
   unfold iG
   by_cases z:f x∈lR (l.map f) i
   ·rw[if_pos z,if_pos (m.1 z)];exact ih
   ·rw[if_neg z,if_neg (λ y=>z (m.2 y)),aao,aao,ih];rfl
def qU (net:Net) (n j:Nat) (fo:Option Nat):List (Option Nat):=gO net n j (dM (bX (aN net fo) n j)) (aI net)
theorem vS {net:Net}{n j:Nat}{fo:Option Nat} (h:fo∈aI net):fo∈qU net n j fo:=by
 unfold qU gO;rw[acv];exact⟨h,abm rfl⟩
theorem AF {net:Net}{n j:Nat}:∀ x∈aI net,∀ y∈aI net,dM (bX (aN net x) n j)=dM (bX (aN net y) n j)↔qU net n j x=qU net n j y:=by
 intro x hx y hy;constructor
 ·intro e;unfold qU;rw[e]
 ·intro e;have:=vS (n:=n) (j:=j) hx;rw[e] at this;unfold qU gO at this;exact abw (acv.1 this).2
theorem lF:∀ a b:List (Option Nat),d0 (a.map gF) (b.map gF)=decide (a=b)
 | [],[]=>by simp [d0]
 | [],_::_=>by simp [d0]
 | _::_,[]=>by simp [d0]
 | none::a,none::b=>by rw[aap,aap,d0,gF,aS,lF a b,Bool.eq_iff_iff];simp
 | some i::a,none::b=>by
  rw[aap,aap,d0,gF,gF,aS] <;> simp
 | none::a,some i::b=>by
  rw[aap,aap,d0,gF,gF,aS] <;> simp
 | some i::a,some j::b=>by rw[aap,aap,d0,gF,gF,aS,lF a b,Bool.eq_iff_iff];simp;intro _;exact Int.ofNat_inj
theorem zP (c:List (Option Nat)) (L:List (List (Option Nat))):FF (.lst (c.map gF)) (L.map λ c=>G.lst (c.map gF))=decide (c∈L):=by
 unfold FF;rw[Bool.eq_iff_iff,List.any_eq_true,decide_eq_true_eq];constructor
 ·rintro⟨g,hg,e⟩;obtain⟨c',hc,rfl⟩:=abo.1 hg;rw[aS,lF] at e;rw[<- abw e];exact hc
 ·intro h;exact⟨_,abo.2 ⟨c,h,rfl⟩,iE _⟩
theorem rX (fo:Option Nat):∀ l:List (Option Nat),fo∈l->D3 (bJ fo) (l.map bJ)=true
 | [],h=>(nomatch h)
 | x::l,h=>by
  rw[aap];show (sD _ _ || D3 _ _)=true;rcases aay.1 h with rfl | h
  ·cases fo with
   | none=>rfl
   | some j=>rw[show sD (bJ (some j)) (bJ (some j))=true from beq_self_eq_true (j:Int)];rfl
  ·rw[rX fo l h,Bool.or_true]
theorem wY (l:List (Option Nat)):(l.map bJ).all eY=true:=by
 rw[aca];intro z hz;obtain⟨fo,_,rfl⟩:=abo.1 hz;cases fo <;> rfl
theorem nX:∀ L:List (List (Option Nat)),eI (L.map λ c=>G.lst (c.map gF))<=1
 | []=>by rw[ack,eI];decide
 | c::L=>by
  have:=nX L;rw[aap,eI,gN,jI];omega
theorem EV {l:List Nat}{M:Int} (hM:M∈l.map λ (m:Nat)=>(m:Int)) (hmax:∀ a∈l.map λ (m:Nat)=>(m:Int),a<=M):∃ i m:Nat,M=(m:Int)/\xN l i m/\i < ((l.map λ (m:Nat)=>(m:Int)).map V.int).length/\
  (∀ z,((l.map λ (m:Nat)=>(m:Int)).map V.int)[i]? = some z->sD z (.int M)=true)/\∀ (i':Nat) z,i' < i->((l.map λ (m:Nat)=>(m:Int)).map V.int)[i']? = some z->sD z (.int M)=false:=by
 obtain⟨m,hm,rfl⟩:=abo.1 hM;obtain⟨i0,hi0⟩:=abu.1 hm;obtain⟨i,hi1,hi2,hi3⟩:=least (p:=λ i=>l[i]? = some m) i0 hi0;have hil:=(aaf.mp hi2).1;refine⟨i,m,rfl,⟨hi2,λ y hy=>by have:=hmax _ (abo.2 ⟨y,hy,rfl⟩);omega,hi3⟩,by rw[aad,aad];exact hil,λ z hz=>?_,λ i' z hi' hz=>?_⟩
 ·rw[aag,aag,hi2] at hz;injection hz with hz;subst hz;show ((m:Int) == (m:Int))=true;exact beq_self_eq_true _
 ·rw[aag,aag] at hz;cases e:l[i']? with
  | none=>rw[e] at hz;cases hz
  | some m'=>
   rw[e] at hz;injection hz with hz;subst hz;show ((m':Int) == (m:Int))=false;rw[beq_eq_false_iff_ne];intro z;have:m'=m:=by omega
   rw[this] at e;exact hi3 i' hi' e
def fP (H:Hp) (d:Addr) (tas:List Addr) (L:List (List (Option Nat))):Prop:=tas.length=L.length/\∀ (i:Nat) a c,tas[i]? = some a->L[i]? = some c->a≠d/\H a=some (.lst (c.map bJ))
theorem fP.off {H H':Hp}{d:Addr}{tas:List Addr}{L:List (List (Option Nat))} (t:fP H d tas L) (b:dJ d H H'):fP H' d tas L:=
 ⟨t.1,λ i a c h1 h2=>let ⟨n,e⟩:=t.2 i a c h1 h2;⟨n,b _ _ n e⟩⟩
theorem fP.snoc {H:Hp}{d a:Addr}{tas:List Addr}{L:List (List (Option Nat))}{c:List (Option Nat)} (t:fP H d tas L) (n:a≠d) (e:H a=some (.lst (c.map bJ))):fP H d (tas++[a]) (L++[c]):=by
 refine⟨by rw[aao,aao,t.1];rfl,λ i a' c' h1 h2=>?_⟩;rcases Nat.lt_or_ge i tas.length with z | z
 ·rw[abk z] at h1;rw[abk (by rw[<- t.1];exact z)] at h2;exact t.2 i a' c' h1 h2
 ·have hj:=(aaf.mp h1).1;rw[aao,abv] at hj;obtain rfl:i=tas.length:=by omega
  rw[abp (aaj _),Nat.sub_self] at h1;rw[t.1,abp (aaj _),Nat.sub_self] at h2;cases h1;cases h2;exact⟨n,e⟩
theorem fP.gl {K:aab}{H:Hp}{d:Addr}:∀ {tas:List Addr}{L:List (List (Option Nat))},fP H d tas L->cM K H (L.map λ c=>G.lst (c.map gF)) (tas.map V.ref)
 | [],[],_=>cM.nil
 | [],_::_,t=>by have:=t.1;simp at this
 | _::_,[],t=>by have:=t.1;simp at this
 | a::tas,c::L,t=>cM.cons (aO.l (bF.of (t.2 0 a c rfl rfl).2) (iO c)) (fP.gl (tas:=tas) (L:=L) ⟨by have:=t.1;simpa using this,λ i a' c' h1 h2=>t.2 (i+1) a' c' h1 h2⟩)
theorem y4:FnScope ["script","tape","net","ticks","some","rows","counts","number","found","told","k","agree"] ["script"] (aP (bM 38)):={}
theorem EB {f f1 f2 f3 f4 f5:Addr}{fd fd1 fd2 fd3 fd4 fd5:FuncData} (F:Fun K "law" "law" (bM 38) f fd) (T:Txt mg)
  (G__law_draw:Callee P w K mg base "_law_draw" ["tape","many"] 1 fL f1 fd1) (GB__law_draw:Callee P w K mg base "_law_draw" ["tape","many"] 1 pM f1 fd1)
  (G__law_net:Callee P w K mg base "_law_net" ["tape","most","small"] 4 (tE K) f2 fd2)
  (G__law_tips:Callee P w K mg base "_law_tips" ["net","ticks","fast"] 4 (pG K) f3 fd3)
  (G_best_watch:Callee P w K mg base "best_watch" ["net","ticks"] 8 (tF K) f4 fd4)
  (G_cases:CalleeR P w K mg base "cases" ["net","watched","ticks","seen"] 8 (mY K c_NoVessel) f5 fd5):FnOk P w K mg base gX 10 f fd ["script"] (uL K):=by
 refine F.ok y4 (λ vs H Q E h=>?_) (λ cdv A outer s H vs Q E hr h=>?_)
 ·obtain⟨a,ns,rfl,_⟩:=h;rfl
 ·obtain⟨a,ns,rfl,hS,hlen,k⟩:=h;have sc:=y4;refine⟨_,(aD (pL 1 sc.nd (bD (aA (aU (iU (K:=K) rfl) rfl T.b_list kM (aA (pv 0) aC)) (aA aG (aA aG aC)))))
   (aD (dY (i:=2) sc.nd rfl (Or.inr rfl) (dB G__law_net hr (aA (pv 1) (aA (px K (bD (aA aG (aA aG aC))) (dB G__law_draw hr (aA (pv 1) (aA aG aC)))) (aA (iM rL (dB G__law_draw hr (aA (pv 1) (aA aG aC))) aG (cD _)) aC)))))
   (aD (dY (i:=3) sc.nd rfl (Or.inr rfl) (aT cC aG (px K (bD (aA (dB G__law_draw hr (aA (pv 1) (aA aG aC))) (aA (dB G__law_draw hr (aA (pv 1) (aA aG aC))) (aA (dB G__law_draw hr (aA (pv 1) (aA aG aC))) aC)))) (aT fI (dB G__law_draw hr (aA (pv 1) (aA aG aC))) aG))))
   (aD (pL 4 sc.nd (aT pV (bD (aA fM aC)) (pS rfl rfl T.b_list rfl T.b_range (oT K T.b_len (px K (pv 2) aG)))))
   (aD (fX (i:=5) sc.nd rfl rfl (λ _ _ h=>h) rfl (LcOk.mk (N':=["fast","net","ticks"]) (fr:=[none,some 2,some 3]) rfl ⟨rfl,rfl,trivial⟩ rfl rfl rfl rfl rfl ⟨⟨_,rfl,rfl,rfl,rfl⟩,⟨_,rfl,rfl,rfl,rfl⟩,trivial⟩) (dH (K:=K) rfl (pv 4)) (λ _ _ _=>(gC 0 ["fast","net","ticks"])) (λ _ _ _=>cH) (λ _ _ _=>(dB G__law_tips hr (aA (pv 1) (aA (pv 2) (aA (pv 0) aC))))))
   (aD (pL 6 sc.nd (bD aC))
   (aD (dD PassesOwn.never rfl (bT rfl T.b_range (aA (oT K T.b_len (px K (pv 2) aG)) aC)) (fH (i:=7) sc.nd rfl (Or.inr rfl)) (aK (cG (d8 (K:=K) rfl aav abd abe bU (pv 6) (aA (bH (nZ (w:=w) rfl) rfl T.b_len PySem.boot_len (aA (aU (u7 (w:=w) (K:=K) rfl rfl hr.units rfl) rfl T.b_set u9 (aA (eW (λ _ _ h=>h) rfl (LcOk.mk (N':=["row","number"]) (fr:=[none,some 7]) rfl ⟨rfl,trivial⟩ rfl rfl rfl rfl rfl ⟨⟨_,rfl,rfl,rfl,rfl⟩,trivial⟩) (dH (K:=K) rfl (pv 5)) (λ _ _ _=>(gC 0 ["row","number"])) (λ _ _ _=>cH) (λ _ _ _=>(aU (bL (K:=K) rfl) rfl T.b_tuple bR (aA (px K (pv 0) (pv 1)) aC)))) aC)) aC)) aC)))))
   (aD (pL 8 sc.nd (dB G_best_watch hr (aA (pv 2) (aA (pv 3) aC))))
   (aD (dR (PW.pt (CW (tI (i5 (bH (iV (K:=K) rfl) rfl T.b_isinstance kN (aA (pv 8) (aA (m7 (v:=.ty "tuple") rfl T.b_tuple bR rfl) aC))))) (yF (bQ (BL (K:=K) rfl hr.units) (pv 8) (bG (aA (d8 (K:=K) rfl aav PySem.F.slot_list_index PySem.F.type_list_index nK (pv 6) (aA (bH (gP (K:=K) rfl rfl) rfl T.b_max PyProof.Rows.boot_max (aA (pv 6) aC)) aC)) (aA (bH (gP (K:=K) rfl rfl) rfl T.b_max PyProof.Rows.boot_max (aA (pv 6) aC)) aC))) (cD _))))) (aK (bE j9)) cB)
   (aD (dR (bQ (yS (K:=K) rfl) j9 (eW (λ _ _ h=>h) rfl (LcOk.mk (N':=["one"]) (fr:=[none]) rfl trivial rfl rfl rfl rfl rfl trivial) (dS (K:=K) rfl (pv 8)) (λ _ _ _=>(gC 0 ["one"])) (λ _ _ _=>cH) (λ _ _ _=>(bH (iV (K:=K) rfl) rfl T.b_isinstance kN (aA (pv 0) (aA (m7 (v:=.ty "bool") rfl T.b_bool vQ rfl) aC))))) (by rfl)) (aK (bE j9)) cB)
   (aD (pL 9 sc.nd (bD aC))
   (aD (dR (bQ rL (pv 3) aG (cD _)) (aK (bE j9)) cB)
   (aD (dD PassesOwn.never rfl (bT rfl T.b_range (aA (oT K T.b_len (pv 4)) aC)) (gL 10 sc.nd) (aD (pL 11 sc.nd (pT G_cases.ok (hr.mono (by decide)) rfl G_cases.mg G_cases.kp G_cases.bd .nil E7 (aA (pv 2) (aA (px K (pv 8) aG) (aA (pv 3) (aA (aU (iU (K:=K) rfl) rfl T.b_list kM (aA (px K (px K (pv 5) (pv 10)) (px K (pv 8) aG)) aC)) aC))))))
   (aD (dR (bQ (BJ (K:=K) rfl) (px K (pv 4) (pv 10)) (pv 11) (by rfl)) (aK (bE j9)) cB)
   (aK (dR (bQ (yQ (K:=K) rfl hr.units) (pv 11) (pv 9) (by rfl)) (aK (cG (d8 (K:=K) rfl aav abd abe bU (pv 9) (aA (pv 11) aC)))) cB)))))
   (aK (bE (iM lP (oT K T.b_len (pv 9)) (px K (pv 8) aG) (cD _))))))))))))))))),?_⟩
  refine⟨_,rfl,a,_,rfl,.inl hS,λ sl hsl=>⟨(show 3<=sizeLine by decide),λ t ht=>?_⟩⟩;have nst:sl≠t:=aJ (show upd H sl (.lst (ns.map V.int)) sl=_ from aB) ht;have tp0:eJ (upd (upd H sl (.lst (ns.map V.int))) t (.lst [.ref sl,.int 0,.int 0])) t sl:=⟨ns,0,0,aB,by rw[aH nst];exact aB,by omega⟩;generalize upd (upd H sl (.lst (ns.map V.int))) t (.lst [.ref sl,.int 0,.int 0])=H0 at tp0;refine⟨_,rfl,?_⟩;refine eG (t:=t) (sl:=sl) (H0:=H0) (P:=cA 3 13) (kJ ⟨4,rfl,by decide,by decide⟩) (kJ ⟨12,rfl,by decide,by decide⟩) (aZ rfl (by decide) (by decide)) _ _ ⟨dJ.refl _,tp0⟩ ?_;rintro v H1 e1 _ ⟨most,rfl,m0,m1⟩;refine zZ (t:=t) (sl:=sl) (H0:=H1) (aZ rfl (by decide) (by decide)) _ _ ⟨dJ.refl _,e1.tp⟩ ?_;rintro v H2 e2 _ ⟨small,rfl⟩;refine⟨t,sl,most,small,rfl,by omega,by omega,e2.tp,λ net p H3 e3 nok nfu hml hp=>?_⟩;have tp3:=e3.tp;have n1:=nok.lo;have n2:=nok.hi;refine nS (t:=t) (sl:=sl) (H0:=H3) (kJ (P:=cA 1 2) ⟨1,rfl,by decide,by decide⟩) (nR (P:=cA 0 500) (g8 (aZ rfl (by decide) (by decide)) (by decide) (by decide)) (g8 (aZ rfl (by decide) (by decide)) (by decide) (by decide))
   (g8 (aZ rfl (by decide) (by decide)) (by decide) (by decide)) (EN (aZ rfl (by decide) (by decide)))) _ _ ⟨dJ.refl _,tp3⟩ ?_
  rintro v H4 e4 _ ⟨ni,rfl,ni0,ni1⟩;obtain⟨n,rfl⟩:∃ n:Nat,ni=(n:Int):=⟨ni.toNat,by omega⟩;have tp4:=e4.tp;have hp4:=Is.mono (e4.ts (K:=K) tp3) _ _ hp;obtain⟨na,nb,nc,xs,ys,rfl,q,q1,l1,q2,l2⟩:=dL hp4;have exl:xs.length=net.vs.length:=by rw[l1.length,aad]
  refine⟨(show 1<=sizeLine by decide),λ e he=>?_⟩;have s1:=aF.new (o:=HO.lst [.non]) he;refine⟨_,rfl,.inr (.inl ⟨na,_,0,_,rfl,rfl,s1.tup q,rfl,nb,xs,rfl,.inr (s1.tup q1),net.vs.length,by rw[exl],by omega,λ l hl=>?_⟩)⟩;have s2:=aF.new (o:=HO.lst ((List.range net.vs.length).map λ (i:Nat)=>V.int (i:Int))) hl;refine⟨e,l,_,_,rfl,rfl,s2 _ _ aB,aB,acl (aM (by simp;omega)),λ tt htt=>?_⟩;have s3:=aF.new (o:=HO.lst ([V.non]++(List.range net.vs.length).map λ (i:Nat)=>V.int (i:Int))) htt;have et:([V.non]++(List.range net.vs.length).map λ (i:Nat)=>V.int (i:Int))=(aI net).map bJ:=by
   unfold aI;rw[aap,acb];rfl
  rw[et] at s3 ⊢;have ht2:upd (upd (upd H4 e (.lst [.non])) l (.lst ((List.range net.vs.length).map λ (i:Nat)=>V.int (i:Int)))) tt (.lst ((aI net).map bJ)) tt=some (.lst ((aI net).map bJ)):=aB;have s03:=(s1.trans s2).trans s3;generalize upd (upd (upd H4 e (.lst [.non])) l (.lst ((List.range net.vs.length).map λ (i:Nat)=>V.int (i:Int)))) tt (.lst ((aI net).map bJ))=H5 at s03 ht2;have hcl:(aI net).length=net.vs.length+1:=by unfold aI;simp
  have hcm:∀ {i:Nat}{fo:Option Nat},(aI net)[i]? = some fo->∀ j,fo=some j->j < net.vs.length:=λ {i fo} hfo j' e'=>by
   subst e';have:=abc hfo;unfold aI at this;rcases aay.1 this with h | h
   ·cases h
   ·obtain⟨z,hz,ez⟩:=abo.1 h;injection ez with ez;subst ez;exact abz.1 hz
  have hp5:=Is.mono s03.ts _ _ hp4;refine⟨_,rfl,tt,rfl,⟨_,bF.of ht2⟩,gJ (K:=K) (a:=tt) (xs:=(aI net).map bJ) (λ D i r Z H'=>H5 D=none/\aF H5 H'/\H' D=some (.lst r)/\(∃ rts:List Addr,r=rts.map V.ref/\jL H' net n ((aI net).take i) rts D)/\∃ u,Z=[u,some (.ref na),some (.int (n:Int))])
   (λ D i r Z H' p=>bF.of (p.2.1 _ _ ht2)) (λ D hD=>⟨hD,aF.new hD,aB,⟨[],rfl,rfl,λ i r fo hr _=>by simp at hr⟩,none,rfl⟩) ?_ ?_⟩
  rotate_left
  ·rintro D i y r Z H6 hy ⟨hD,sm,hDl,⟨rts,rfl,RA⟩,u,rfl⟩;rw[aag] at hy;obtain⟨fo,hfo,rfl⟩:=aaq.mp hy;have hil:=(aaf.mp hfo).1;dsimp only [cX];refine⟨_,rfl,_,rfl,_,rfl,.ref na,net,fo,n,rfl,Is.mono sm.ts _ _ hp5,nok,jR nok nfu fo,by omega,λ l6 ts H7 s7 fl hl7 htl hts=>?_⟩;have hrl:rts.length=i:=by rw[RA.1,aaw];omega
   have off7:dJ D H6 (upd H7 D (.lst (rts.map V.ref++[.ref l6]))):=λ b o hb hbo=>by rw[aH hb];exact s7 b o hbo
   have nlD:l6≠D:=λ z=>by rw[z,hDl] at fl;cases fl
   refine⟨s7 _ _ hDl,aM (by rw[aad];omega),hD,(sm.trans s7).put hD,aB,⟨rts++[l6],by simp,?_⟩,_,rfl⟩;rw[aR hfo];refine (RA.off off7).snoc nlD (by rw[aH nlD];exact hl7) htl λ j t' ht'=>?_;obtain⟨ft,e7⟩:=hts j t' ht';have ntD:t'≠D:=λ z=>by rw[z,hDl] at ft;cases ft
   refine⟨ntD,?_⟩;rw[aH ntD,e7];unfold rN dM;rw[acb];rfl
  rintro ro r Z H6 ⟨hD,s6,hDl,⟨rts,rfl,RA⟩,_⟩;rw[aad,aax] at RA;have s46:=s03.trans s6;have hp6:=Is.mono s46.ts _ _ hp4;have q6:=s46.tup q;have q16:=s46.tup q1;have ht6:=s6 _ _ ht2;have tkl:∀ j,(jQ net n j).length=(aI net).length:=λ j=>by unfold jQ;rw[aad]
  refine⟨abn _,λ ct hct=>?_⟩;refine⟨_,rfl,.inr (.inl ⟨na,_,0,_,rfl,rfl,(aF.new hct).tup q6,rfl,nb,xs,rfl,.inr ((aF.new hct).tup q16),_,rfl,by omega,by omega,?_⟩)⟩;rw[show (((xs.length:Nat):Int)).toNat=net.vs.length from by rw[exl];simp];refine dA (lo:=0) (n:=net.vs.length) (λ m Z H'=>aF H6 H'/\H' ct=some (.lst (((List.range m).map (FJ net n)).map nvW))/\∃ v7 v8 v9 v10 v11,Z=[some (.ref a),some (.ref t),some (.ref na),some (.int (n:Int)),some (.ref tt),some (.ref ro),some (.ref ct),v7,v8,v9,v10,v11])
   ⟨aF.new hct,aB,_,_,_,_,_,rfl⟩ ?_ ?_
  ·rintro j Z H7 hj ⟨s7,hct7,v7,v8,v9,v10,v11,rfl⟩;have RA7:=RA.off (s7.but (t:=ro));have hro7:=s7 _ _ hDl;dsimp only [cX];refine⟨_,rfl,.inl ⟨rfl,_,bF.of hct7⟩,_,rfl,ro,rfl,⟨_,bF.of hro7⟩,gJ (K:=K) (a:=ro) (xs:=rts.map V.ref) (λ D i r Z H'=>H7 D=none/\aF H7 H'/\H' D=some (.lst r)/\(∃ qs:List Addr,r=qs.map V.ref/\qs.length=i/\∀ (i':Nat) q k,qs[i']? = some q->(jQ net n j)[i']? = some k->bB K H' q (k.map V.int))/\∃ u,Z=[u,some (.int (j:Int))])
    (λ D i r Z H' p=>bF.of (p.2.1 _ _ hro7)) (λ D hD=>⟨hD,aF.new hD,aB,⟨[],rfl,rfl,λ i' q k h _=>by simp at h⟩,none,by simp [oI]⟩) ?_ ?_⟩
   rotate_left
   ·rintro D i y r Z H8 hy ⟨hD,sm,hDl8,⟨qs,rfl,hql,hqs⟩,u,rfl⟩;rw[aag] at hy;obtain⟨rt,hrt,rfl⟩:=aaq.mp hy;have hil:=(aaf.mp hrt).1;rw[RA7.1] at hil;obtain⟨fo,hfo⟩:∃ fo,(aI net)[i]? = some fo:=⟨_,aby hil⟩;obtain⟨_,ts,hr8,hts,hk8⟩:=(RA7.off (sm.but (t:=ro))).2 i rt fo hrt hfo;have htj:ts[j]? = some ts[j]:=aby (by omega);obtain⟨_,hs8⟩:=hk8 j _ htj;dsimp only [cX];refine⟨_,rfl,_,rfl,.inl ⟨rt,_,(j:Int),.ref ts[j],rfl,rfl,bF.of hr8,bW (by rw[aag,htj];rfl),ts[j],_,rfl,.inl ⟨bF.of hs8,λ e he=>?_⟩⟩⟩;have s9:=aF.new (o:=HO.tup ((dM (bX (aN net fo) n j)).map V.int)) he;have hk:(jQ net n j)[i]? = some (dM (bX (aN net fo) n j)):=by unfold jQ;rw[aag,hfo];rfl
    refine⟨s9 _ _ hDl8,aM (by rw[aad,hql];omega),hD,(sm.trans s9).put hD,aB,⟨qs++[e],by simp,by rw[aao,hql];rfl,λ i' q' k' h1 h2=>?_⟩,_,rfl⟩;have bt:bC K (upd H8 e (.tup ((dM (bX (aN net fo) n j)).map V.int))) (upd (upd H8 e (.tup ((dM (bX (aN net fo) n j)).map V.int))) D (.lst (qs.map V.ref++[.ref e]))):=dJ.ts (t:=D) (λ b o hb h=>by rw[aH hb];exact h) (by rw[s9 _ _ hDl8];exact True.intro);rcases Nat.lt_or_ge i' i with z | z
    ·rw[abk (by rw[hql];exact z)] at h1;exact bt _ _ (s9.tup (hqs i' q' k' h1 h2))
    ·have hj':=(aaf.mp h1).1;rw[aao,hql,abv] at hj';obtain rfl:i'=i:=by omega
     rw[abp (by rw[hql];exact aaj _),hql,Nat.sub_self] at h1;cases h1;rw[hk] at h2;cases h2;exact bt _ _ (bB.of aB)
   rintro D r Z H8 ⟨hD,sm,hDl8,⟨qs,rfl,hql,hqs⟩,_⟩;rw[aad,RA7.1] at hql;refine⟨D,qs,jQ net n j,rfl,bF.of hDl8,by rw[hql,tkl],by omega,hqs,λ st hst=>?_⟩;refine⟨st,_,rfl,.inl aB,?_⟩;have s9:=sm.trans (aF.new (o:=uP w st (lR (jQ net n j) (jQ net n j).length).length) hst);refine⟨ct,_,_,rfl,rfl,s9 _ _ hct7,aM (by rw[aad,aad,acg];omega),?_⟩;refine⟨(s7.trans s9).put hct,?_,_,_,_,_,_,rfl⟩;rw[aB,acz,aal,aal,tkl];rfl
  rintro Z H7 ⟨s7,hct7,v7,v8,v9,v10,v11,rfl⟩;have hp7:=Is.mono s7.ts _ _ hp6;have RA7:=RA.off (s7.but (t:=ro));have hro7:=s7 _ _ hDl;have ht7:=s7 _ _ ht6;have hct7':H7 ct=some (.lst (((iY net n).map λ (m:Nat)=>(m:Int)).map V.int)):=by rw[hct7];unfold iY;rw[acb,acb,acb];rfl
  refine⟨_,rfl,_,rfl,.ref na,net,n,rfl,hp7,nok,nfu,by omega,λ fa bi bm H8 s8 best qf=>?_⟩;have hct8:=s8 _ _ hct7';have hpos:0 < ((iY net n).map λ (m:Nat)=>(m:Int)).length:=by rw[aad];unfold iY;rw[aad,acg];exact nok.lo
  have hfl:((((iY net n).map λ (m:Nat)=>(m:Int)).map V.int)).all eY=true:=by
   rw[aca];intro z hz;obtain⟨y,_,rfl⟩:=abo.1 hz;rfl
  have hbi:bi < net.vs.length:=by
   have:=(aaf.mp best.1).1;unfold iY at this;rw[aad,acg] at this;exact this
  have hbm:bm=FJ net n bi:=by
   have:=best.1;unfold iY at this;rw[aag,List.getElem?_range hbi] at this;injection this with this;exact this.symm
  refine⟨_,rfl,_,"tuple",_,true,rfl,.inr ⟨fa,_,rfl,qf,rfl⟩,EC K,_,rfl,j4 ?_⟩;refine⟨_,rfl,_,rfl,.inl ⟨rfl,_,bF.of hct8⟩,_,rfl,ct,_,rfl,bF.of hct8,hpos,λ M hM hmax=>?_⟩;obtain⟨i,m,rfl,best',hi1,hi2,hi3⟩:=EV hM hmax;obtain⟨rfl,rfl⟩:=best.one best';refine⟨ct,_,_,bi,rfl,rfl,hct8,rfl,hfl,hi1,hi2,hi3,?_⟩;refine⟨_,rfl,ct,_,rfl,bF.of hct8,hpos,λ M' hM' hmax'=>?_⟩;have eM:M'=(bm:Int):=by have:=hmax _ hM';have:=hmax' _ hM;omega
  subst eM;refine⟨(show 2<=sizeLine by decide),λ fb hfb=>?_⟩;have s9:=aF.new (o:=HO.tup [.int (bi:Int),.int (bm:Int)]) hfb;refine⟨.tup [.int (bi:Int),.int (bm:Int)],.tup [.int (bi:Int),.int (bm:Int)],by simp [gN,eI],aO.t (s9.tup qf) (.cons (aO.i _) (.cons (aO.i _) .nil)),aO.t (bB.of aB) (.cons (aO.i _) (.cons (aO.i _) .nil)),_,rfl,?_⟩;rw[iE];refine j4 ?_;generalize upd H8 fb (.tup [.int (bi:Int),.int (bm:Int)])=H9 at s9;have qf9:=s9.tup qf;have s69:=(s7.trans s8).trans s9;refine⟨_,rfl,fa,rfl,⟨_,qf9⟩,i9 (K:=K) (a:=fa) (xs:=[.int (bi:Int),.int (bm:Int)]) (λ D i r Z H'=>H9 D=none/\aF H9 H'/\H' D=some (.lst r)/\r=List.replicate i (.bl false)/\∃ u,Z=[u])
   (λ D i r Z H' p=>p.2.1.tup qf9) (λ D hD=>⟨hD,aF.new hD,aB,rfl,none,rfl⟩) ?_ ?_⟩
  rotate_left
  ·rintro D i x r Z H15 hx ⟨hDn,sm,hDl15,rfl,u,rfl⟩;have hil:=(aaf.mp hx).1;have hxi:∃ z:Int,x=.int z:=by
    have hm:=abc hx;rcases aay.1 hm with rfl | hm
    ·exact⟨_,rfl⟩
    ·have:=acd.1 hm;exact⟨_,this⟩
   obtain⟨z,rfl⟩:=hxi;refine dU ?_;exact⟨_,rfl,_,"bool",_,false,rfl,.inl (.int _),zG K,hDl15,aM (by rw[List.length_replicate];simp at hil;omega),hDn,sm.put hDn,aB,by rw[List.replicate_succ'],_,rfl⟩
  rintro D r Z H10 ⟨hDn,sm,hDl15,rfl,_⟩;refine⟨D,_,rfl,.inl (bF.of hDl15),rfl,rfl,_,rfl,?_⟩;rw[if_neg (by decide),show D3 (.bl true) (List.replicate ([V.int (bi:Int),V.int (bm:Int)].length) (.bl false))=false from rfl];refine j4 ?_;have s610:=s69.trans sm;have qf10:=sm.tup qf9;refine⟨abn _,λ tl htl=>?_⟩;refine⟨_,rfl,_,_,rfl,rfl,_,rfl,?_⟩;refine gM (λ hT=>?_) (λ hF=>?_)
  ·exact k _
  refine⟨_,rfl,tt,_,rfl,.inl (bF.of ((s610.trans (aF.new htl)) _ _ ht6)),_,rfl,by rw[aad];omega,by rw[aad];omega,?_⟩;rw[show ((((aI net).map bJ).length:Nat):Int).toNat=(aI net).length from by simp];refine dA (lo:=0) (n:=(aI net).length) (λ m Z H'=>aF H10 H'/\(∃ tas:List Addr,H' tl=some (.lst (tas.map V.ref))/\fP H' tl tas (lR ((aI net).map (qU net n bi)) m))/\∃ v7 v10 v11,Z=[some (.ref a),some (.ref t),some (.ref na),some (.int (n:Int)),some (.ref tt),some (.ref ro),some (.ref ct),v7,some (.ref fa),some (.ref tl),v10,v11])
   ⟨aF.new htl,⟨[],aB,rfl,λ i a c h _=>by simp at h⟩,_,_,_,rfl⟩ ?_ ?_
  ·rintro m Z H11 hm ⟨s11,⟨tas,htl11,told⟩,v7,v10,v11,rfl⟩;have s611:=s610.trans s11;have RA11:=RA.off (s611.but (t:=ro));obtain⟨fo,hfo⟩:∃ fo,(aI net)[m]? = some fo:=⟨_,aby hm⟩;have hmr:m < rts.length:=by rw[RA11.1];exact hm
   have hrm:rts[m]? = some rts[m]:=aby hmr;obtain⟨_,ts,hr11,hts,hk11⟩:=RA11.2 m _ fo hrm hfo;have htj:ts[bi]? = some ts[bi]:=aby (by omega);obtain⟨_,hs11⟩:=hk11 bi _ htj;have qf11:=s11.tup qf10;have hd:=qM ((aI net).map (qU net n bi)) m;rw[show (0:Int)+(m:Int)=(m:Int) from Int.zero_add _];dsimp only [cX];refine⟨_,rfl,_,rfl,.inr (.inl ⟨fa,_,0,_,rfl,rfl,qf11,rfl,_,rfl,_,rfl,_,rfl,.inl ⟨ro,_,(m:Int),.ref rts[m],rfl,rfl,bF.of (s611 _ _ hDl),bW (by rw[aag,hrm];rfl),?_⟩⟩)⟩;refine⟨_,rfl,.inr (.inl ⟨fa,_,0,_,rfl,rfl,qf11,rfl,.inl ⟨rts[m],_,(bi:Int),.ref ts[bi],rfl,rfl,bF.of hr11,bW (by rw[aag,htj];rfl),ts[bi],_,rfl,.inl (bF.of hs11),λ ls hls=>?_⟩⟩)⟩;have s12:=aF.new (o:=HO.lst ((dM (bX (aN net fo) n bi)).map V.int)) hls;refine⟨.ref na,net,(bi:Int),n,ls,_,rfl,Is.mono (s611.trans s12).ts _ _ hp6,nok,nfu,by omega,aB,.inl ⟨bi,rfl,hbi,λ ag H13 s13 fag hag=>?_⟩⟩;have s1113:=s12.trans s13;have hag':H13 ag=some (.lst ((qU net n bi fo).map bJ)):=hag;have htl13:=s1113 _ _ htl11;have nag:ag≠tl:=λ z=>by
    rw[z] at fag;rw[s12 _ _ htl11] at fag;cases fag
   have told13:=told.off (s1113.but (t:=tl));have hk:((aI net).map (qU net n bi))[m]? = some (qU net n bi fo):=by rw[aag,hfo];rfl
   have hsn:=iF hk;refine⟨_,rfl,_,rfl,.inl ⟨tt,_,(m:Int),bJ fo,rfl,rfl,bF.of ((s611.trans s1113) _ _ ht6),bW (by rw[aag,hfo];rfl),_,rfl,ag,_,rfl,.inl (bF.of hag'),by cases fo <;> rfl,wY _,_,rfl,?_⟩⟩;rw[if_pos rfl,rX fo _ (vS (abc hfo))];refine j4 ?_;refine⟨_,rfl,_,rfl,.lst ((qU net n bi fo).map gF),tl,_,_,rfl,.inl (bF.of htl13),by have:=nX (lR ((aI net).map (qU net n bi)) m);omega,aO.l (bF.of hag') (iO _),told13.gl,_,rfl,?_⟩;rw[if_pos rfl,zP];refine gM (λ hT=>?_) (λ hF'=>?_)
   ·have hn:¬ qU net n bi fo∈lR ((aI net).map (qU net n bi)) m:=λ z=>by rw[abm z] at hT;cases hT
    refine⟨_,rfl,.inl ⟨rfl,_,bF.of htl13⟩,_,rfl,tl,_,_,rfl,rfl,htl13,aM (by rw[aad,told13.1];omega),?_⟩;refine⟨(s11.trans s1113).put htl,⟨tas++[ag],by rw[aB,aal];rfl,?_⟩,_,_,_,rfl⟩;rw[hsn];unfold iG;rw[if_neg hn];exact (told13.off (λ b o hb h=>by rw[aH hb];exact h)).snoc nag (by rw[aH nag];exact hag')
   ·have hy:qU net n bi fo∈lR ((aI net).map (qU net n bi)) m:=by
     by_cases z:qU net n bi fo∈lR ((aI net).map (qU net n bi)) m
     ·exact z
     ·exact absurd (by rw[abq z];rfl) hF'
    refine⟨s11.trans s1113,⟨tas,htl13,?_⟩,_,_,_,rfl⟩;rw[hsn];unfold iG;rw[if_pos hy];exact told13
  rintro Z H11 ⟨s11,⟨tas,htl11,told⟩,v7,v10,v11,rfl⟩;have el:(tas.map V.ref).length=bm:=by
   rw[aad,told.1,hbm];unfold FJ jQ;exact (sE (AF (net:=net) (n:=n) (j:=bi)) _).symm
  refine⟨_,rfl,tl,_,rfl,.inl (bF.of htl11),_,rfl,.inr (.inl ⟨fa,_,1,_,rfl,rfl,s11.tup qf10,rfl,?_⟩)⟩;dsimp only;rw[el];exact⟨rfl,by rw[abm rfl];exact k _⟩
theorem qS {ap:Type}{p:List ap->Prop} (h:∀ a0,p [a0]):∀ us:List ap,us.length=1->p us
 | [a0],_=>h a0
theorem fK {ap:Type}{p:List ap->Prop} (h:∀ a0 a1,p [a0,a1]):∀ us:List ap,us.length=2->p us
 | [a0,a1],_=>h a0 a1
theorem cS {ap:Type}{p:List ap->Prop} (h:∀ a0 a1 a2,p [a0,a1,a2]):∀ us:List ap,us.length=3->p us
 | [a0,a1,a2],_=>h a0 a1 a2
theorem vP {ap:Type}{p:List ap->Prop} (h:∀ a0 a1 a2 a3,p [a0,a1,a2,a3]):∀ us:List ap,us.length=4->p us
 | [a0,a1,a2,a3],_=>h a0 a1 a2 a3
theorem CF {ap:Type}{p:List ap->Prop} (h:∀ a0 a1 a2 a3 a4,p [a0,a1,a2,a3,a4]):∀ us:List ap,us.length=5->p us
 | [a0,a1,a2,a3,a4],_=>h a0 a1 a2 a3 a4
abbrev Na (K:aab) (x:Str) (f:Addr):Prop:=PySem.W.nsIn K mainGlobals x=some (some (.ref f))
abbrev Nn (K:aab) (x:Str):Prop:=PySem.W.nsIn K mainGlobals x=some none
abbrev Kp (K:aab) (f:Addr):Prop:=PySem.W.keepIn K (.ref f)=true
abbrev Cd (K:aab) (c:Value) (q:Str):Prop:=PySem.W.codeIn K c q=true
abbrev Lk (K:aab) (f:Addr) (m q:Str) (s:Stmt) (oc:Value) (od:Option Addr) (kV dc pm:Value) (an:Option Addr) (cd ct:Value) (sl:Array (Option Value)):Prop:=K.lookup f=some ⟨oc,od,.func (PySem.W.fnOf m q (iS s) (fJ s) (aP s) .none kV dc pm an cd ct),sl⟩
theorem all_mk {l:PySem.W.OpenLaw}{w:World}{K:aab}{h:Heap}{mg:Str->Option Value}{fa f0 f1 f2 f3 f4 f5 f6 f7 f8 f9 f10 f11 f12 f13 f14 f15 f16 f17 f18 f19 f20 f21 f22 f23 f24 f25 f26 f27 f28 f29 c_TipError c_NoVessel:Addr} (X:K.In h) (G:h.Ns mainGlobals mg) (hfa:mg "law" = some (.ref fa))
  {od0 an0 od1 an1 od2 an2 od3 an3 od4 an4 od5 an5 od6 an6 od7 an7 od8 an8 od9 an9 od10 an10 od11 an11 od12 an12 od13 an13 od14 an14 od15 an15 od16 an16 od17 an17 od18 an18 od19 an19 od20 an20 od21 an21 od22 an22 od23 an23 od24 an24 od25 an25 od26 an26 od27 an27 od28 an28 od29 an29:Option Addr}{sl0 sl1 sl2 sl3 sl4 sl5 sl6 sl7 sl8 sl9 sl10 sl11 sl12 sl13 sl14 sl15 sl16 sl17 sl18 sl19 sl20 sl21 sl22 sl23 sl24 sl25 sl26 sl27 sl28 sl29:Array (Option Value)}{oc0 kV0 dc0 pm0 ct0 cd0 oc1 kV1 dc1 pm1 ct1 cd1 oc2 kV2 dc2 pm2 ct2 cd2 oc3 kV3 dc3 pm3 ct3 cd3 oc4 kV4 dc4 pm4 ct4 cd4 oc5 kV5 dc5 pm5 ct5 cd5 oc6 kV6 dc6 pm6 ct6 cd6 oc7 kV7 dc7 pm7 ct7 cd7 oc8 kV8 dc8 pm8 ct8 cd8 oc9 kV9 dc9 pm9 ct9 cd9 oc10 kV10 dc10 pm10 ct10 cd10 oc11 kV11 dc11 pm11 ct11 cd11 oc12 kV12 dc12 pm12 ct12 cd12 oc13 kV13 dc13 pm13 ct13 cd13 oc14 kV14 dc14 pm14 ct14 cd14 oc15 kV15 dc15 pm15 ct15 cd15 oc16 kV16 dc16 pm16 ct16 cd16 oc17 kV17 dc17 pm17 ct17 cd17 oc18 kV18 dc18 pm18 ct18 cd18 oc19 kV19 dc19 pm19 ct19 cd19 oc20 kV20 dc20 pm20 ct20 cd20 oc21 kV21 dc21 pm21 ct21 cd21 oc22 kV22 dc22 pm22 ct22 cd22 oc23 kV23 dc23 pm23 ct23 cd23 oc24 kV24 dc24 pm24 ct24 cd24 oc25 kV25 dc25 pm25 ct25 cd25 oc26 kV26 dc26 pm26 ct26 cd26 oc27 kV27 dc27 pm27 ct27 cd27 oc28 kV28 dc28 pm28 ct28 cd28 oc29 kV29 dc29 pm29 ct29 cd29:Value}
  (a0:Na K "_law_draw" f0)
  (l0:Lk K f0 "_law_draw" "_law_draw" (bM 29) oc0 od0 kV0 dc0 pm0 an0 cd0 ct0 sl0)
  (c0:Cd K cd0 "_law_draw")
  (k0:Kp K f0)
  (a1:Na K "_law_outs" f1)
  (l1:Lk K f1 "_law_outs" "_law_outs" (bM 30) oc1 od1 kV1 dc1 pm1 an1 cd1 ct1 sl1)
  (c1:Cd K cd1 "_law_outs")
  (k1:Kp K f1)
  (a2:Na K "_law_vessel" f2)
  (l2:Lk K f2 "_law_vessel" "_law_vessel" (bM 31) oc2 od2 kV2 dc2 pm2 an2 cd2 ct2 sl2)
  (c2:Cd K cd2 "_law_vessel")
  (k2:Kp K f2)
  (a3:Na K "_law_net" f3)
  (l3:Lk K f3 "_law_net" "_law_net" (bM 32) oc3 od3 kV3 dc3 pm3 an3 cd3 ct3 sl3)
  (c3:Cd K cd3 "_law_net")
  (k3:Kp K f3)
  (a4:Na K "_law_first" f4)
  (l4:Lk K f4 "_law_first" "_law_first" (bM 33) oc4 od4 kV4 dc4 pm4 an4 cd4 ct4 sl4)
  (c4:Cd K cd4 "_law_first")
  (k4:Kp K f4)
  (a5:Na K "_law_filled" f5)
  (l5:Lk K f5 "_law_filled" "_law_filled" (bM 34) oc5 od5 kV5 dc5 pm5 an5 cd5 ct5 sl5)
  (c5:Cd K cd5 "_law_filled")
  (k5:Kp K f5)
  (a6:Na K "_law_tick" f6)
  (l6:Lk K f6 "_law_tick" "_law_tick" (bM 35) oc6 od6 kV6 dc6 pm6 an6 cd6 ct6 sl6)
  (c6:Cd K cd6 "_law_tick")
  (k6:Kp K f6)
  (a7:Na K "_law_walk" f7)
  (l7:Lk K f7 "_law_walk" "_law_walk" (bM 36) oc7 od7 kV7 dc7 pm7 an7 cd7 ct7 sl7)
  (c7:Cd K cd7 "_law_walk")
  (k7:Kp K f7)
  (a8:Na K "_law_tips" f8)
  (l8:Lk K f8 "_law_tips" "_law_tips" (bM 37) oc8 od8 kV8 dc8 pm8 an8 cd8 ct8 sl8)
  (c8:Cd K cd8 "_law_tips")
  (k8:Kp K f8)
  (a9:Na K "tips_of" f9)
  (l9:Lk K f9 "tips_of" "tips_of" (bM 27) oc9 od9 kV9 dc9 pm9 an9 cd9 ct9 sl9)
  (c9:Cd K cd9 "tips_of")
  (k9:Kp K f9)
  (a10:Na K "with_vessel" f10)
  (l10:Lk K f10 "with_vessel" "with_vessel" (bM 19) oc10 od10 kV10 dc10 pm10 an10 cd10 ct10 sl10)
  (c10:Cd K cd10 "with_vessel")
  (k10:Kp K f10)
  (a11:Na K "stuck_net" f11)
  (l11:Lk K f11 "stuck_net" "stuck_net" (bM 22) oc11 od11 kV11 dc11 pm11 an11 cd11 ct11 sl11)
  (c11:Cd K cd11 "stuck_net")
  (k11:Kp K f11)
  (a12:Na K "filled" f12)
  (l12:Lk K f12 "filled" "filled" (bM 5) oc12 od12 kV12 dc12 pm12 an12 cd12 ct12 sl12)
  (c12:Cd K cd12 "filled")
  (k12:Kp K f12)
  (a13:Na K "send" f13)
  (l13:Lk K f13 "send" "send" (bM 8) oc13 od13 kV13 dc13 pm13 an13 cd13 ct13 sl13)
  (c13:Cd K cd13 "send")
  (k13:Kp K f13)
  (a14:Na K "share_out" f14)
  (l14:Lk K f14 "share_out" "share_out" (bM 7) oc14 od14 kV14 dc14 pm14 an14 cd14 ct14 sl14)
  (c14:Cd K cd14 "share_out")
  (k14:Kp K f14)
  (a15:Na K "settle" f15)
  (l15:Lk K f15 "settle" "settle" (bM 6) oc15 od15 kV15 dc15 pm15 an15 cd15 ct15 sl15)
  (c15:Cd K cd15 "settle")
  (k15:Kp K f15)
  (a16:Na K "doors_behind" f16)
  (l16:Lk K f16 "doors_behind" "doors_behind" (bM 9) oc16 od16 kV16 dc16 pm16 an16 cd16 ct16 sl16)
  (c16:Cd K cd16 "doors_behind")
  (k16:Kp K f16)
  (a17:Na K "tick_behind" f17)
  (l17:Lk K f17 "tick_behind" "tick_behind" (bM 3) oc17 od17 kV17 dc17 pm17 an17 cd17 ct17 sl17)
  (c17:Cd K cd17 "tick_behind")
  (k17:Kp K f17)
  (a18:Na K "came_in" f18)
  (l18:Lk K f18 "came_in" "came_in" (bM 4) oc18 od18 kV18 dc18 pm18 an18 cd18 ct18 sl18)
  (c18:Cd K cd18 "came_in")
  (k18:Kp K f18)
  (a19:Na K "pouring" f19)
  (l19:Lk K f19 "pouring" "pouring" (bM 2) oc19 od19 kV19 dc19 pm19 an19 cd19 ct19 sl19)
  (c19:Cd K cd19 "pouring")
  (k19:Kp K f19)
  (a20:Na K "moment_behind" f20)
  (l20:Lk K f20 "moment_behind" "moment_behind" (bM 13) oc20 od20 kV20 dc20 pm20 an20 cd20 ct20 sl20)
  (c20:Cd K cd20 "moment_behind")
  (k20:Kp K f20)
  (a21:Na K "moment_gone" f21)
  (l21:Lk K f21 "moment_gone" "moment_gone" (bM 12) oc21 od21 kV21 dc21 pm21 an21 cd21 ct21 sl21)
  (c21:Cd K cd21 "moment_gone")
  (k21:Kp K f21)
  (a22:Na K "first_state" f22)
  (l22:Lk K f22 "first_state" "first_state" (bM 1) oc22 od22 kV22 dc22 pm22 an22 cd22 ct22 sl22)
  (c22:Cd K cd22 "first_state")
  (k22:Kp K f22)
  (a23:Na K "first_moment" f23)
  (l23:Lk K f23 "first_moment" "first_moment" (bM 11) oc23 od23 kV23 dc23 pm23 an23 cd23 ct23 sl23)
  (c23:Cd K cd23 "first_moment")
  (k23:Kp K f23)
  (a24:Na K "tipped_in_case" f24)
  (l24:Lk K f24 "tipped_in_case" "tipped_in_case" (bM 26) oc24 od24 kV24 dc24 pm24 an24 cd24 ct24 sl24)
  (c24:Cd K cd24 "tipped_in_case")
  (k24:Kp K f24)
  (a25:Na K "best_watch" f25)
  (l25:Lk K f25 "best_watch" "best_watch" (bM 25) oc25 od25 kV25 dc25 pm25 an25 cd25 ct25 sl25)
  (c25:Cd K cd25 "best_watch")
  (k25:Kp K f25)
  (a26:Na K "is_whole" f26)
  (l26:Lk K f26 "is_whole" "is_whole" (bM 20) oc26 od26 kV26 dc26 pm26 an26 cd26 ct26 sl26)
  (c26:Cd K cd26 "is_whole")
  (k26:Kp K f26)
  (a27:Na K "need_vessel" f27)
  (l27:Lk K f27 "need_vessel" "need_vessel" (bM 18) oc27 od27 kV27 dc27 pm27 an27 cd27 ct27 sl27)
  (c27:Cd K cd27 "need_vessel")
  (k27:Kp K f27)
  (a28:Na K "cases" f28)
  (l28:Lk K f28 "cases" "cases" (bM 24) oc28 od28 kV28 dc28 pm28 an28 cd28 ct28 sl28)
  (c28:Cd K cd28 "cases")
  (k28:Kp K f28)
  (a29:Na K "law" f29)
  (l29:Lk K f29 "law" "law" (bM 38) oc29 od29 kV29 dc29 pm29 an29 cd29 ct29 sl29)
  (c29:Cd K cd29 "law")
  (k29:Kp K f29)
  (xcTipError:Na K "TipError" c_TipError)
  (xcNoVessel:Na K "NoVessel" c_NoVessel)
  (z0:Nn K "len")
  (z1:Nn K "sum")
  (z2:Nn K "all")
  (z3:Nn K "max")
  (z4:Nn K "min")
  (z5:Nn K "int")
  (z6:Nn K "tuple")
  (z7:Nn K "list")
  (z8:Nn K "bool")
  (z9:Nn K "range")
  (z10:Nn K "zip")
  (z11:Nn K "enumerate")
  (z12:Nn K "isinstance")
  (z13:Nn K "divmod")
  (z14:Nn K "set")
  (z15:Nn K "sorted")
  (exV:PySem.W.excIn K c_NoVessel [.type "ValueError",.type "Exception",.type "BaseException",.type "object"] "ValueError.__new__" = true) :
  ∃ fd:FuncData,(∀ (s:Shared) (v:Value),BindsTo s fd ⟨[v],[]⟩ [("script",v)])/\∀ base:Heap,K.In base->base.Ns mainGlobals mg->FnOk l.prog w K mg base gX 10 fa fd ["script"] (uL K):=by
 have e:=hfa.symm.trans (aaz X G a29);cases e;have T:Txt mg:=⟨abf X G z0,abf X G z1,abf X G z2,abf X G z3,abf X G z4,abf X G z5,abf X G z6,abf X G z7,abf X G z8,abf X G z9,abf X G z10,abf X G z11,abf X G z12,abf X G z13,abf X G z14,abf X G z15⟩;have XC_NoVessel:ExC K "NoVessel" c_NoVessel:=⟨xcNoVessel,exV⟩;have F0:=bN (st:=(bM 29)) l0 c0 k0;have F1:=bN (st:=(bM 30)) l1 c1 k1;have F2:=bN (st:=(bM 31)) l2 c2 k2;have F3:=bN (st:=(bM 32)) l3 c3 k3;have F4:=bN (st:=(bM 33)) l4 c4 k4;have F5:=bN (st:=(bM 34)) l5 c5 k5;have F6:=bN (st:=(bM 35)) l6 c6 k6;have F7:=bN (st:=(bM 36)) l7 c7 k7;have F8:=bN (st:=(bM 37)) l8 c8 k8;have F9:=bN (st:=(bM 27)) l9 c9 k9;have F10:=bN (st:=(bM 19)) l10 c10 k10;have F11:=bN (st:=(bM 22)) l11 c11 k11;have F12:=bN (st:=(bM 5)) l12 c12 k12;have F13:=bN (st:=(bM 8)) l13 c13 k13;have F14:=bN (st:=(bM 7)) l14 c14 k14;have F15:=bN (st:=(bM 6)) l15 c15 k15;have F16:=bN (st:=(bM 9)) l16 c16 k16;have F17:=bN (st:=(bM 3)) l17 c17 k17;have F18:=bN (st:=(bM 4)) l18 c18 k18;have F19:=bN (st:=(bM 2)) l19 c19 k19;have F20:=bN (st:=(bM 13)) l20 c20 k20;have F21:=bN (st:=(bM 12)) l21 c21 k21;have F22:=bN (st:=(bM 1)) l22 c22 k22;have F23:=bN (st:=(bM 11)) l23 c23 k23;have F24:=bN (st:=(bM 26)) l24 c24 k24;have F25:=bN (st:=(bM 25)) l25 c25 k25;have F26:=bN (st:=(bM 20)) l26 c26 k26;have F27:=bN (st:=(bM 18)) l27 c27 k27;have F28:=bN (st:=(bM 24)) l28 c28 k28;have F29:=bN (st:=(bM 38)) l29 c29 k29;refine⟨PySem.W.fnOf "law" "law" (iS (bM 38)) (fJ (bM 38)) (aP (bM 38)) .none kV29 dc29 pm29 an29 cd29 ct29,λ s v=>.of_eq rfl,λ base _ _=>?_⟩;have CB0:Callee l.prog w K mg base "_law_draw" ["tape","many"] 1 pM f0 _:=⟨jA F0 T,aaz X G a0,k0,F0.binds λ _ _ _ _ _ _=>fK λ _ _=>rfl⟩;have C0:Callee l.prog w K mg base "_law_draw" ["tape","many"] 1 fL f0 _:=⟨qC F0 T,aaz X G a0,k0,F0.binds λ _ _ _ _ _ _=>fK λ _ _=>rfl⟩;have C1:Callee l.prog w K mg base "_law_outs" ["tape","many","small"] 2 (tD K) f1 _:=⟨qA F1 T C0,aaz X G a1,k1,F1.binds λ _ _ _ _ _ _=>cS λ _ _ _=>rfl⟩;have C2:Callee l.prog w K mg base "_law_vessel" ["tape","number","many","spouts","small"] 3 (mU K) f2 _:=⟨nH F2 T C0 C1,aaz X G a2,k2,F2.binds λ _ _ _ _ _ _=>CF λ _ _ _ _ _=>rfl⟩;have C3:Callee l.prog w K mg base "_law_net" ["tape","most","small"] 4 (tE K) f3 _:=⟨qB F3 T C0 C2,aaz X G a3,k3,F3.binds λ _ _ _ _ _ _=>cS λ _ _ _=>rfl⟩;have C4:Callee l.prog w K mg base "_law_first" ["net"] 1 (iK K) f4 _:=⟨oG F4 T,aaz X G a4,k4,F4.binds λ _ _ _ _ _ _=>qS λ _=>rfl⟩;have C5:Callee l.prog w K mg base "_law_filled" ["net","state","poured"] 1 (kU K) f5 _:=⟨nI F5 T,aaz X G a5,k5,F5.binds λ _ _ _ _ _ _=>cS λ _ _ _=>rfl⟩;have C6:Callee l.prog w K mg base "_law_tick" ["net","state","poured","fast"] 2 (pH K) f6 _:=⟨oF F6 T C5,aaz X G a6,k6,F6.binds λ _ _ _ _ _ _=>vP λ _ _ _ _=>rfl⟩;have C7:Callee l.prog w K mg base "_law_walk" ["net","ticks","fast"] 3 (t8 K) f7 _:=⟨pZ F7 T C4 C6,aaz X G a7,k7,F7.binds λ _ _ _ _ _ _=>cS λ _ _ _=>rfl⟩;have C8:Callee l.prog w K mg base "_law_tips" ["net","ticks","fast"] 4 (pG K) f8 _:=⟨q0 F8 T C7,aaz X G a8,k8,F8.binds λ _ _ _ _ _ _=>cS λ _ _ _=>rfl⟩;have C9:Callee l.prog w K mg base "tips_of" ["vessel","tipped"] 1 (jT K) f9 _:=⟨tM F9 T,aaz X G a9,k9,F9.binds λ _ _ _ _ _ _=>fK λ _ _=>rfl⟩;have C10:Callee l.prog w K mg base "with_vessel" ["net","number","vessel"] 1 (t7 K) f10 _:=⟨nC F10 T,aaz X G a10,k10,F10.binds λ _ _ _ _ _ _=>cS λ _ _ _=>rfl⟩;have C11:Callee l.prog w K mg base "stuck_net" ["net","vessel"] 2 (jD K) f11 _:=⟨pW F11 T C10,aaz X G a11,k11,F11.binds λ _ _ _ _ _ _=>fK λ _ _=>rfl⟩;have C12:Callee l.prog w K mg base "filled" ["spouts","state","poured"] 1 (mX K) f12 _:=⟨wM F12 T,aaz X G a12,k12,F12.binds λ _ _ _ _ _ _=>cS λ _ _ _=>rfl⟩;have C13:Callee l.prog w K mg base "send" ["sent","target","amount"] 1 pJ f13 _:=⟨BO F13 T,aaz X G a13,k13,F13.binds λ _ _ _ _ _ _=>cS λ _ _ _=>rfl⟩;have C14:Callee l.prog w K mg base "share_out" ["outs","has","sent"] 2 (pI K) f14 _:=⟨pX F14 T C13,aaz X G a14,k14,F14.binds λ _ _ _ _ _ _=>cS λ _ _ _=>rfl⟩;have C15:Callee l.prog w K mg base "settle" ["vessel","has","sent"] 3 (mV K) f15 _:=⟨wL F15 T C13 C14,aaz X G a15,k15,F15.binds λ _ _ _ _ _ _=>cS λ _ _ _=>rfl⟩;have C16:Callee l.prog w K mg base "doors_behind" ["vessels","doors","tipped"] 1 (pN K) f16 _:=⟨lV F16 T,aaz X G a16,k16,F16.binds λ _ _ _ _ _ _=>cS λ _ _ _=>rfl⟩;have C17:Callee l.prog w K mg base "tick_behind" ["net","state","poured"] 4 (t9 K) f17 _:=⟨nE F17 T C12 C15 C16,aaz X G a17,k17,F17.binds λ _ _ _ _ _ _=>cS λ _ _ _=>rfl⟩;have C18:Callee l.prog w K mg base "came_in" ["net","state","poured"] 1 (mZ K) f18 _:=⟨tO F18 T,aaz X G a18,k18,F18.binds λ _ _ _ _ _ _=>cS λ _ _ _=>rfl⟩;have C19:Callee l.prog w K mg base "pouring" ["net","amount"] 1 (iJ K) f19 _:=⟨tN F19 T,aaz X G a19,k19,F19.binds λ _ _ _ _ _ _=>fK λ _ _=>rfl⟩;have C20:Callee l.prog w K mg base "moment_behind" ["net","moment"] 5 (mW K) f20 _:=⟨lA F20 T C17 C18 C19,aaz X G a20,k20,F20.binds λ _ _ _ _ _ _=>fK λ _ _=>rfl⟩;have C21:Callee l.prog w K mg base "moment_gone" ["net","moment","many"] 6 (lY K) f21 _:=⟨nF F21 T C20,aaz X G a21,k21,F21.binds λ _ _ _ _ _ _=>cS λ _ _ _=>rfl⟩;have C22:Callee l.prog w K mg base "first_state" ["net"] 1 (iK K) f22 _:=⟨nG F22 T,aaz X G a22,k22,F22.binds λ _ _ _ _ _ _=>qS λ _=>rfl⟩;have C23:Callee l.prog w K mg base "first_moment" ["net"] 2 (gB K) f23 _:=⟨lU F23 T C22 C19,aaz X G a23,k23,F23.binds λ _ _ _ _ _ _=>qS λ _=>rfl⟩;have C24:Callee l.prog w K mg base "tipped_in_case" ["net","case","ticks"] 7 (iI K) f24 _:=⟨kE F24 T C11 C21 C23,aaz X G a24,k24,F24.binds λ _ _ _ _ _ _=>cS λ _ _ _=>rfl⟩;have C25:Callee l.prog w K mg base "best_watch" ["net","ticks"] 8 (tF K) f25 _:=⟨oE F25 T C9 C24,aaz X G a25,k25,F25.binds λ _ _ _ _ _ _=>fK λ _ _=>rfl⟩;have C26:Callee l.prog w K mg base "is_whole" ["thing","least","most"] 1 mS f26 _:=⟨pY F26 T,aaz X G a26,k26,F26.binds λ _ _ _ _ _ _=>cS λ _ _ _=>rfl⟩;have C27:CalleeR l.prog w K mg base "need_vessel" ["net","number"] 2 (pK K c_NoVessel) f27 _:=⟨lT F27 T XC_NoVessel C26,aaz X G a27,k27,F27.binds λ _ _ _ _ _ _=>fK λ _ _=>rfl⟩;have C28:CalleeR l.prog w K mg base "cases" ["net","watched","ticks","seen"] 8 (mY K c_NoVessel) f28 _:=⟨wN F28 T C27 C9 C24,aaz X G a28,k28,F28.binds λ _ _ _ _ _ _=>vP λ _ _ _ _=>rfl⟩;exact EB F29 T C0 CB0 C3 C8 C25 C28
theorem walk {l:PySem.W.OpenLaw}{q:Program}{loose:List Str}{XP:(Str->Option Value)->Heap->Prop}{YP:World->Heap->Prop}{d:DefRec}{K:Params->aab} (hn:l.most=some 63) (hdf:d.params.defaults=[])
  (hY:∀ (w:World) (h:Heap),YP w h->(K w.params).In h)
  (F:∀ (w:World) (mg:Str->Option Value) (fa:Addr) (h:Heap),(K w.params).In h->h.Ns mainGlobals mg->mg d.name=some (.ref fa)->
   ∃ fd:FuncData,(∀ (s:Shared) (u:Value),BindsTo s fd ⟨[u],[]⟩ [("script",u)])/\∀ base:Heap,(K w.params).In base->base.Ns mainGlobals mg->FnOk l.prog w (K w.params) mg base gX 10 fa fd ["script"] (uL (K w.params))) :
  PySem.W.WalkO q loose XP YP l.row.toRowW d [] (λ f vs=>PySem.call f vs):=
 L2.walk_of (n:=63) (k:=10) (x := "script") (CX:=λ _=>gX) (sp:=λ w=>uL (K w.params)) hn (by decide) hdf ⟨rfl,by decide,by decide⟩ hY F (λ _ _ a ns hl _ hS=>⟨a,ns,rfl,hS,hl,λ _=>rfl⟩) λ _ _ _ _ _ z=>z
end Tw
def PySem.W.Fast.tw2896383022194716670:Nat:=0
theorem PySem.W.Fast.te2896383022194716670:PySem.W.Fast.tw2896383022194716670=PySem.W.Fast.tw2896383022194716670:=rfl
def PySem.W.Fast.tw9121826355512922466:PySem.Program:=PySem.Challenge.pw_tipwell_k27_whole_best_watch
theorem PySem.W.Fast.te9121826355512922466:PySem.Challenge.pw_tipwell_k27_whole_best_watch=PySem.W.Fast.tw9121826355512922466:=rfl
namespace PySem.W.Fast
def tw16605044137025555099:=0
def tw757830671345808260:=0
def tw15610236624831843391:=0
def tw13383774961189664560:=0
def tw10709315486181019557:=0
def tw1241548963408953960:=0
def tw5139480334992912029:=0
def tw8386652936923347381:=0
def tw2028223535315852341:=0
def tw12036615172535413194:=0
def tw11194694460775832098:=0
def tw1809087449402505130:=0
def tw15386577177861657249:=0
def tw8575554460831151616:=0
def tw8805697486769557685:=0
def tw14510329898657582924:=0
def tw9563918390848833914:=0
def tw703977527068834227:=0
def tw15287513812554921862:=0
def tw5120830146287575417:=0
def tw4410903784682333704:=0
def tw9242478332316023818:=0
def tw7811522405085491285:=0
def tw11608161449000153743:=0
def tw1311642664413512784:=0
def tw6244184576942502019:=0
def tw1656245403015540454:=0
def tw12617033632434256936:=0
def tw13128469991984740766:=0
def tw11157112956451205787:=0
def tw13631917814629748447:=0
def tw6676734855510306437:=0
def tw1300150516775906037:=0
def tw18140198146494926714:=0
def tw2885347771902552055:=0
def tw16488492940625558894:=0
def tw8192807140110960604:=0
def tw4759152030257790094:=0
def tw14784265239298763307:=0
def tw15879001298075744541:=0
def tw17980203230491276171:=0
def tw8663035527599978673:=0
def tw12501258963707321023:=0
def tw483167234728615595:=0
def tw4251880404411559470:=0
def tw766865351565236083:=0
def tw9527442212169807045:=0
def tw10662280805063919217:=0
def tw10366852490471758183:=0
def tw9421834396524295659:=0
def tw12340018787371676526:=0
def tw1312203102045979024:=0
def tw13748116892683526945:=0
def tw3235919568329644403:=0
def tw14772353714135982093:=0
def tw16307169819242774876:=0
def tw11621160597163372415:=0
def tw9230553910221673002:=0
def tw10156357505372605378:=0
def tw68577615655946746:=0
def tw6893410807055408164:=0
def tw7274648481031373150:=0
def tw2096997155127944294:=0
def tw8865790658822864396:=0
def tw15548863975335588129:=0
def tw8857094059478877892:=0
def tw17299383271117285702:=0
def tw5997069483885038309:=0
def tw14007058388147611880:=0
def tw14773511564089703698:=0
def tw4534409150293525356:=0
end PySem.W.Fast
open PySem PySem.W PyProof.Rows
set_option maxRecDepth 100000 in
set_option maxHeartbeats 0 in
theorem PySem.Challenge.cw_tipwell_k27_whole_best_watch_holds : PySem.Challenge.rw_tipwell_k27_whole_best_watch.Holds := by
 w_on;o_law;k_head;(case hw=>w_witness2)
 k_fill
 refine Tw.walk (l:=PySem.Challenge.rw_tipwell_k27_whole_best_watch) rfl rfl (λ w h Y=>by first | exact PySem.W.kIn_of Y | exact PySem.W.km_in_of Y) ?F
 case F=>
  intro w mg fa h KX G hmg;refine' Tw.all_mk KX G hmg ?_ ?_ ?_ ?_ ?_ ?_ ?_ ?_ ?_ ?_ ?_ ?_ ?_ ?_ ?_ ?_ ?_ ?_ ?_ ?_ ?_ ?_ ?_ ?_ ?_ ?_ ?_ ?_ ?_ ?_ ?_ ?_ ?_ ?_ ?_ ?_ ?_ ?_ ?_ ?_ ?_ ?_ ?_ ?_ ?_ ?_ ?_ ?_ ?_ ?_ ?_ ?_ ?_ ?_ ?_ ?_ ?_ ?_ ?_ ?_ ?_ ?_ ?_ ?_ ?_ ?_ ?_ ?_ ?_ ?_ ?_ ?_ ?_ ?_ ?_ ?_ ?_ ?_ ?_ ?_ ?_ ?_ ?_ ?_ ?_ ?_ ?_ ?_ ?_ ?_ ?_ ?_ ?_ ?_ ?_ ?_ ?_ ?_ ?_ ?_ ?_ ?_ ?_ ?_ ?_ ?_ ?_ ?_ ?_ ?_ ?_ ?_ ?_ ?_ ?_ ?_ ?_ ?_ ?_ ?_ ?_ ?_ ?_ ?_ ?_ ?_ ?_ ?_ ?_ ?_ ?_ ?_ ?_ ?_ ?_ ?_ ?_ ?_ ?exV
  all_goals (try delta Tw.Na)
  all_goals (try delta Tw.Nn)
  all_goals (try delta Tw.Kp)
  all_goals (try delta Tw.Cd)
  all_goals (try delta Tw.Lk)
  all_goals try k_is
  (case exV=>k_exc)
#print axioms PySem.Challenge.cw_tipwell_k27_whole_best_watch_holds